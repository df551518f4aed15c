import Derived.Test.YtbfgkhgmnfghgaaGreatM35
import Derived.Deep.MidRow
set_option maxHeartbeats 4000000
namespace Go.Proofs.YtbfgkhgmnfghgaaGreat
open Go.RowKit
def qE (kd fld:BA)(row:List BA)(m:Mnd):Bool:=!(decide (m.kd=kd)&&decide (m.fd=fld))||((!isSet m.wh||has row m.wh)&&(!isSet m.fr||has row m.fr))
def zcx (ms:List Mnd)(kd fld:BA)(row:List BA):Bool:=ms.all (qE kd fld row)
set_option maxRecDepth 20000 in
theorem zm1 (a ra:OA)(cap rcap:Nat)(ms:List Mnd)(kd fld:BA)(row:List BA)(w:World)(hm:qN w a ms)(hr:zG w ra row)(hml:ms.length<=12) :
 Calls Tryz.prog 192 #[.l a ms.length cap,.s kd,.s fld,.l ra row.length rcap] w fun e w'=>e=.returned (.bool (zcx ms kd fld row))/\Bw w w':=by
 have HM:=yU hm hr;clear hm hr;go_enter Tryz.func192,Tryz.ntmps192;go_wp2_with fail
 go_loopw [9] (fun iv wr=>∃k:Nat,k<=ms.length/\iv=.i k/\(ms.take k).all (qE kd fld row)=true/\Bw w wr) (fun iv _=>ms.length-(intOf iv).toNat)
 case atStart=>exact⟨0,Nat.zero_le _,rfl,rfl,bRf _ _⟩
 case round=>
  obtain⟨k,hk,rfl,hall,hB⟩:=hrel;have HB:=hid hB;have HA:Hid ((ms.take k).all (qE kd fld row)=true):=hall
  by_cases hlt:k<ms.length
  ·obtain⟨b,off,rfl,hb,c0,c1,c2,c3,c4,c5⟩:=HM.o.1.load hB k hlt
   have hltI:(k:Int)<(ms.length:Int):=by omega
   have HTK:Hid ((ms.take (k+1)).all (qE kd fld row)=qE kd fld row ms[k]):=by
    unfold Hid;rw[tSe hlt,List.all_append,HA.o];simp
   have HNO:Hid (qE kd fld row ms[k]=false->zcx ms kd fld row=false):=by
    intro h;unfold zcx;rw[List.all_eq_false];exact⟨_,List.getElem_mem hlt,by rw[h];simp⟩
   have HBA:Hid (Bw w (wr.alloc (.cells #[.s ms[k].kd,.s ms[k].fd,.s ms[k].wh,.s ms[k].wi,.s ms[k].pt,.s ms[k].fr] 135))):=hB.alloc hB.size _;clear hall hB HA
   by_cases e1:ms[k].kd=kd
   rotate_left
   ·have he1:(ms[k].kd.toList == kd.toList)=false:=by rw[beq_toList];simpa using e1
    have HY:Hid (qE kd fld row ms[k]=true):=by unfold Hid qE;simp[e1]
    clear e1;go_wp2_with fail
    exact⟨⟨k+1,by omega,by go_num,by rw[HTK.o];exact HY.o,HBA.o⟩,zn hlt⟩
   have he1:(ms[k].kd.toList == kd.toList)=true:=by rw[beq_toList];simpa using e1
   by_cases e2:ms[k].fd=fld
   rotate_left
   ·have he2:(ms[k].fd.toList == fld.toList)=false:=by rw[beq_toList];simpa using e2
    have HY:Hid (qE kd fld row ms[k]=true):=by unfold Hid qE;simp[e2]
    clear e1 e2;go_wp2_with fail
    exact⟨⟨k+1,by omega,by go_num,by rw[HTK.o];exact HY.o,HBA.o⟩,zn hlt⟩
   have he2:(ms[k].fd.toList == fld.toList)=true:=by rw[beq_toList];simpa using e2
   have HRD:Hid (qE kd fld row ms[k]=((!isSet ms[k].wh||has row ms[k].wh)&&(!isSet ms[k].fr||has row ms[k].fr))):=by unfold Hid qE;simp[e1,e2]
   clear e1 e2
   rcases hwh:ms[k].wh.toList.isEmpty with _|_ <;> rcases hfr:ms[k].fr.toList.isEmpty with _|_
   all_goals go_wp2_with fail
   ·skip
    have h:=zcP ra rcap row ms[k].wh _ (HM.o.2.mono HBA.o)
    rcases hh1:has row ms[k].wh with _|_
    ·rw[hh1]at h
     refine h.mono ?_;rintro e w3⟨rfl,rfl⟩;have HF:Hid (zcx ms kd fld row=false):=HNO.o (by rw[HRD.o];unfold isSet;simp[*]);clear h;go_wp2_with fail
     go_ret;exact⟨by rw[HF.o];rfl,HBA.o⟩
    ·rw[hh1]at h
     refine h.mono ?_;rintro e w3⟨rfl,rfl⟩;clear h;go_wp2_with fail
     have h:=zcP ra rcap row ms[k].fr _ (HM.o.2.mono HBA.o)
     rcases hh2:has row ms[k].fr with _|_
     ·rw[hh2]at h
      refine h.mono ?_;rintro e w3⟨rfl,rfl⟩;have HF:Hid (zcx ms kd fld row=false):=HNO.o (by rw[HRD.o];unfold isSet;simp[*]);clear h;go_wp2_with fail
      go_ret;exact⟨by rw[HF.o];rfl,HBA.o⟩
     ·rw[hh2]at h
      refine h.mono ?_;rintro e w3⟨rfl,rfl⟩;clear h;go_wp2_with fail
      have HY:Hid (qE kd fld row ms[k]=true):=by unfold Hid;rw[HRD.o];unfold isSet;simp[*]
      exact⟨⟨k+1,by omega,by go_num,by rw[HTK.o];exact HY.o,HBA.o⟩,zn hlt⟩
   ·skip
    have h:=zcP ra rcap row ms[k].wh _ (HM.o.2.mono HBA.o)
    rcases hh1:has row ms[k].wh with _|_
    ·rw[hh1]at h
     refine h.mono ?_;rintro e w3⟨rfl,rfl⟩;have HF:Hid (zcx ms kd fld row=false):=HNO.o (by rw[HRD.o];unfold isSet;simp[*]);clear h;go_wp2_with fail
     go_ret;exact⟨by rw[HF.o];rfl,HBA.o⟩
    ·rw[hh1]at h
     refine h.mono ?_;rintro e w3⟨rfl,rfl⟩;clear h;go_wp2_with fail
     have HY:Hid (qE kd fld row ms[k]=true):=by unfold Hid;rw[HRD.o];unfold isSet;simp[*]
     exact⟨⟨k+1,by omega,by go_num,by rw[HTK.o];exact HY.o,HBA.o⟩,zn hlt⟩
   ·skip
    have h:=zcP ra rcap row ms[k].fr _ (HM.o.2.mono HBA.o)
    rcases hh2:has row ms[k].fr with _|_
    ·rw[hh2]at h
     refine h.mono ?_;rintro e w3⟨rfl,rfl⟩;have HF:Hid (zcx ms kd fld row=false):=HNO.o (by rw[HRD.o];unfold isSet;simp[*]);clear h;go_wp2_with fail
     go_ret;exact⟨by rw[HF.o];rfl,HBA.o⟩
    ·rw[hh2]at h
     refine h.mono ?_;rintro e w3⟨rfl,rfl⟩;clear h;go_wp2_with fail
     have HY:Hid (qE kd fld row ms[k]=true):=by unfold Hid;rw[HRD.o];unfold isSet;simp[*]
     exact⟨⟨k+1,by omega,by go_num,by rw[HTK.o];exact HY.o,HBA.o⟩,zn hlt⟩
   ·skip
    have HY:Hid (qE kd fld row ms[k]=true):=by unfold Hid;rw[HRD.o];unfold isSet;simp[*]
    exact⟨⟨k+1,by omega,by go_num,by rw[HTK.o];exact HY.o,HBA.o⟩,zn hlt⟩
  ·have e:k=ms.length:=by omega
   rw[e,tOl (Nat.le_refl _)]at hall;have HF:Hid (zcx ms kd fld row=true):=hall;subst e;clear hall HA hB;go_wp2_with fail
   go_ret;exact⟨by rw[HF.o];rfl,HB.o⟩
def yx (ls:List Lg)(tick:Int)(p:Pu):Bool:=yN ls p.tm p.rs&&(zx p.dr&&(within p.am 1 1000000&&within p.un tick (tick+10)))
noncomputable def yY (b:Bk):Bool:=decide (b.ps.length<=24)&&(zbU yg b.ps&&b.ps.all (yx b.ls b.tick))
theorem zd2 (p:Pu)(w:World):Calls Tryz.prog 177 #[.agg p.cells] w fun e w'=>e=.returned (qC p.tm p.rs)/\Bw w w':=by
 unfold Pu.cells qC;go_enter Tryz.func177,Tryz.ntmps177;go_wp2_with fail
 refine bodyPost_ret (v:=.agg #[.s p.tm,.s p.rs]) (by simp[results,Tryz.results177,go_sem]) rfl ⟨rfl,?_⟩
 first|exact zw _ _ _|exact((zw _ _ _).setCell (by simp) _).setCell (by simp) _|exact((zw _ _ _).setCell (by show _<=_+1;omega) _).setCell (by show _<=_+1;omega) _
theorem zbD (p:Lg)(w:World):Calls Tryz.prog 179 #[.agg p.cells] w fun e w'=>e=.returned (qC p.tm p.rs)/\Bw w w':=by
 unfold Lg.cells qC;go_enter Tryz.func179,Tryz.ntmps179;go_wp2_with fail
 refine bodyPost_ret (v:=.agg #[.s p.tm,.s p.rs]) (by simp[results,Tryz.results179,go_sem]) rfl ⟨rfl,?_⟩
 first|exact zw _ _ _|exact((zw _ _ _).setCell (by simp) _).setCell (by simp) _|exact((zw _ _ _).setCell (by show _<=_+1;omega) _).setCell (by show _<=_+1;omega) _
theorem zeO (a:OA)(cap:Nat)(ms:List Lg)(tm rs:BA)(w:World)(hw:zbu w a ms)(hl:ms.length<=1000)(hr:rising qG ms) :
 Calls Tryz.prog 85 #[.l a ms.length cap,qC tm rs] w fun e w'=>(∃p:Nat,e=.returned (.tuple #[.i p,.bool (yN ms tm rs)])/\zc8 ms tm rs p)/\Bw w w':=by
 unfold qC;go_enter Tryz.func85,Tryz.ntmps85;go_wp2_with fail
 refine(zh0 _ _ ms ⟨tm,rs,0,0⟩ _ (hw.mono (bAl _ _)) hl hr).mono ?_;rintro e w1⟨⟨p,rfl,hp⟩,hb⟩;have hB1:Bw w w1:=(bAl _ _).trans (hb.mono (by simp));clear hb;go_wp2_with fail
 go_ret2
 exact⟨⟨p,rfl,hp⟩,hB1⟩
theorem zlv (b:Bk)(a0 a1 a2 a3:OA)(c0 c1 c2 c3:Nat)(w:World)(hb:jk w b a0 a1 a2 a3)(hrl:rising qG b.ls)(hll:b.ls.length<=10)(htk:0<=b.tick/\b.tick<=1000000) :
 Calls Tryz.prog 128 #[.agg (b.cells a0 a1 a2 a3 c0 c1 c2 c3)] w fun e w'=>e=.returned (.bool (yY b))/\Bw w w':=by
 have HK:=hid hb;have HRL:=yU hrl hll;clear hb hrl hll;unfold Bk.cells
 by_cases hln:b.ps.length<=24
 rotate_left
 ·have HF:Hid (yY b=false):=by unfold Hid yY;rw[decide_eq_false hln];rfl
  have hg:(24:Int)<(b.ps.length:Int):=by omega
  go_enter Tryz.func128,Tryz.ntmps128;go_wp2_with fail
  go_ret;exact⟨ze HF.o.symm,bAl _ _⟩
 have hg:decide ((24:Int)<(b.ps.length:Int))=false:=by simp;omega
 have HLN:Hid (b.ps.length<=24):=hln;clear hln;go_enter Tryz.func128,Tryz.ntmps128;go_wp2_with fail
 have hX0:=zl w (bC b a0 a1 a2 a3 c0 c1 c2 c3) 40;have HB0:Hid (Bw w (w.alloc (.cells (bC b a0 a1 a2 a3 c0 c1 c2 c3) 40))):=bAl _ _;obtain⟨W0,hW0⟩:=nm (w.alloc (.cells (bC b a0 a1 a2 a3 c0 c1 c2 c3) 40));have hz0:w.heap.size<W0.heap.size:=by rw[hW0];simp
 rw[<- hW0]at HB0 hX0 ⊢;clear hW0;refine(ziY _ _ b.ps _ (HK.o.ps.mono HB0.o)).mono ?_;rintro e w1⟨rfl,hb1⟩;have HB1:=hid (HB0.o.trans (hb1.mono HB0.o.size));have hX1:=za hX0 hz0 hb1;have hz1:=nLt hz0 hb1.size;clear hb1 hX0 hz0 HB0
 by_cases has:zbU yg b.ps=true
 rotate_left
 ·have has':zbU yg b.ps=false:=by simpa using has
  have HF:Hid (yY b=false):=by unfold Hid yY;rw[has'];simp
  rw[has'];clear has has';go_wp2_with fail
  go_ret;exact⟨ze HF.o.symm,HB1.o⟩
 have HG:Hid (yY b=b.ps.all (yx b.ls b.tick)):=by unfold Hid yY;rw[has,decide_eq_true HLN.o];rfl
 rw[has];clear has;go_wp2_with fail
 go_loopw [20] (fun iv wr=>∃k:Nat,k<=b.ps.length/\iv=.i k/\Hid ((b.ps.take k).all (yx b.ls b.tick)=true/\Bw w1 wr)) (fun iv _=>b.ps.length-(intOf iv).toNat)
 case atStart=>exact⟨0,Nat.zero_le _,rfl,by simp,bRf _ _⟩
 case round=>
  obtain⟨k,hk,rfl,HQ⟩:=hrel;have hkn:k<=24:=by have:=HLN.o;omega
  by_cases hlt:k<b.ps.length
  ·obtain⟨ob,off,rfl,hob,d0,d1,d2,d3,d4⟩:=HK.o.ps.load (HB1.o.trans (HQ.o.2.mono HB1.o.size)) k hlt
   have hob':=nLt hob (HB1.o.trans (HQ.o.2.mono HB1.o.size)).size;have hltI:(k:Int)<(b.ps.length:Int):=by omega
   have hX:=za hX1 hz1 HQ.o.2;have hz:w.heap.size<wr.heap.size:=nLt hz1 HQ.o.2.size;have HSn:Hid ((b.ps.take (k+1)).all (yx b.ls b.tick)=((b.ps.take k).all (yx b.ls b.tick)&&(yx b.ls b.tick) b.ps[k])):=qR _ _ _ hlt;have HBo:Hid (∀ob,Bw w1 (wr.alloc ob)):=fun ob=>HQ.o.2.alloc HQ.o.2.size _
   have HBw:Hid (∀W,Bw w1 W->Bw w W):=fun W hW=>HB1.o.trans (hW.mono HB1.o.size)
   have HNo:Hid ((yx b.ls b.tick) b.ps[k]=false->yY b=false):=fun h=>by rw[HG.o];exact zax _ _ _ hlt h
   have HYes:Hid ((yx b.ls b.tick) b.ps[k]=true->(b.ps.take (k+1)).all (yx b.ls b.tick)=true):=fun h=>by rw[HSn.o,HQ.o.1,h];rfl
   have HSm:Hid b.ps[k].Small:=HK.o.ps.small k hlt;go_wp2_with fail
   have hbN:Bw wr (wr.alloc (.cells #[.s b.ps[k].dr,.s b.ps[k].tm,.s b.ps[k].rs,.i b.ps[k].am,.i b.ps[k].un] 70)):=bAl _ _;have hN:=zl wr #[.s b.ps[k].dr,.s b.ps[k].tm,.s b.ps[k].rs,.i b.ps[k].am,.i b.ps[k].un] 70;obtain⟨w2,hw2⟩:=nm (wr.alloc (.cells #[.s b.ps[k].dr,.s b.ps[k].tm,.s b.ps[k].rs,.i b.ps[k].am,.i b.ps[k].un] 70));have hn2:wr.heap.size<w2.heap.size:=by rw[hw2];simp
   rw[<- hw2]at hbN hN ⊢;have HB2:Hid (Bw w1 w2):=by unfold Hid;rw[hw2];exact HBo.o _
   have hX2:=za hX hz hbN;have hzX2:=Nat.lt_trans hz hn2;clear hw2 d0 d1 d2 d3 d4 hX hbN;have hS:(∀j,w2.drew.cell? (aD w.heap.size j)=((bC b a0 a1 a2 (some (aD ob off)) c0 c1 c2 c3):AV)[j]?)/\(∀j,w2.drew.cell? (aD wr.heap.size j)=(#[.s b.ps[k].dr,.s b.ps[k].tm,.s b.ps[k].rs,.i b.ps[k].am,.i b.ps[k].un]:AV)[j]?):=⟨hX2,hN⟩
   have hB:=HB2.o.drew;have hzx:=hzX2;have hzn:=hn2;clear hX2 hN
   go_region_held3 (fun w'=>(∀j,w'.cell? (aD w.heap.size j)=(#[.i b.now,.i b.tick,.i b.given,.l a0 b.os.length c0,.l a1 b.gs.length c1,.l a2 b.ls.length c2,.l (some (aD ob off)) b.ps.length c3]:AV)[j]?)/\(∀j,w'.cell? (aD wr.heap.size j)=(#[.s b.ps[k].dr,.s b.ps[k].tm,.s b.ps[k].rs,.i b.ps[k].am,.i b.ps[k].un]:AV)[j]?)) (exact hS) (first
    | (go_at_call 177;refine(zd2 b.ps[k] _).mono ?_;rintro e w3⟨rfl,hb3⟩;have hS:=(⟨za hS.1 hzx hb3,za hS.2 hzn hb3⟩:_/\_);have hB:=hB.trans (hb3.mono hB.size);have hzx:=nLt hzx hb3.size;have hzn:=nLt hzn hb3.size;clear hb3)
    | (go_at_call 85;refine(zeO _ _ b.ls b.ps[k].tm b.ps[k].rs _ (by exact HK.o.ls.mono (HBw.o _ hB)) (by have:=HRL.o.2;omega) HRL.o.1).mono ?_;rintro e w3⟨⟨pl,rfl,_⟩,hb3⟩;have hS:=(⟨za hS.1 hzx hb3,za hS.2 hzn hb3⟩:_/\_);have hB:=hB.trans (hb3.mono hB.size);have hzx:=nLt hzx hb3.size;have hzn:=nLt hzn hb3.size;clear hb3))
   have HB3:=hid hB;have hX3:=hS.1;have hN3:=hS.2;clear hS hB;have htk1:=htk;have HN1:∀v,zx b.ps[k].dr=v->Hid (∀W,Calls Tryz.prog 86 #[.s b.ps[k].dr] W fun e w'=>e=.returned (.bool v)/\w'=W):=fun v h W=>zh h (zH _ W HSm.o.dr)
   have HW1:∀v,within b.ps[k].am 1 1000000=v->Hid (∀W,Calls Tryz.prog 87 #[.i b.ps[k].am,.i 1,.i 1000000] W fun e w'=>e=.returned (.bool v)/\w'=W):=fun v h W=>zh h (qV _ _ _ W)
   have HW2:∀v,within b.ps[k].un b.tick (b.tick+10)=v->Hid (∀W,Calls Tryz.prog 87 #[.i b.ps[k].un,.i b.tick,.i (b.tick+10)] W fun e w'=>e=.returned (.bool v)/\w'=W):=fun v h W=>zh h (qV _ _ _ W)
   by_cases t1:yN b.ls b.ps[k].tm b.ps[k].rs=true
   rotate_left
   ·have HF:Hid (yY b=false):=HNo.o (by unfold yx;rw[bFi t1];rfl)
    rw[bFi t1];clear HN1 HW1 HW2 t1;go_wp2_with fail
    go_ret;exact⟨ze HF.o.symm,HBw.o _ HB3.o⟩
   rw[t1]
   by_cases t2:zx b.ps[k].dr=true
   rotate_left
   ·have HF:Hid (yY b=false):=HNo.o (by unfold yx;rw[t1,bFi t2];rfl)
    have Ht2:=HN1 false (bFi t2);clear HN1 HW1 HW2 t1 t2;go_wp2_with fail
    refine(Ht2.o _).mono ?_;rintro e w4⟨rfl,rfl⟩;go_wp2_with fail
    go_ret;exact⟨ze HF.o.symm,HBw.o _ HB3.o⟩
   have Ht2:=HN1 true t2
   by_cases t3:within b.ps[k].am 1 1000000=true
   rotate_left
   ·have HF:Hid (yY b=false):=HNo.o (by unfold yx;rw[t1,t2,bFi t3];rfl)
    have Ht3:=HW1 false (bFi t3);clear HN1 HW1 HW2 t1 t2 t3;go_wp2_with fail
    refine(Ht2.o _).mono ?_;rintro e w4⟨rfl,rfl⟩;go_wp2_with fail
    refine(Ht3.o _).mono ?_;rintro e w4⟨rfl,rfl⟩;go_wp2_with fail
    go_ret;exact⟨ze HF.o.symm,HBw.o _ HB3.o⟩
   have Ht3:=HW1 true t3
   by_cases t4:within b.ps[k].un b.tick (b.tick+10)=true
   rotate_left
   ·have HF:Hid (yY b=false):=HNo.o (by unfold yx;rw[t1,t2,t3,bFi t4];rfl)
    have Ht4:=HW2 false (bFi t4);clear HN1 HW1 HW2 t1 t2 t3 t4;go_wp2_with fail
    refine(Ht2.o _).mono ?_;rintro e w4⟨rfl,rfl⟩;go_wp2_with fail
    refine(Ht3.o _).mono ?_;rintro e w4⟨rfl,rfl⟩;go_wp2_with fail
    refine(Ht4.o _).mono ?_;rintro e w4⟨rfl,rfl⟩;go_wp2_with fail
    go_ret;exact⟨ze HF.o.symm,HBw.o _ HB3.o⟩
   have Ht4:=HW2 true t4;have HY:Hid ((b.ps.take (k+1)).all (yx b.ls b.tick)=true):=HYes.o (by unfold yx;rw[t1,t2,t3,t4];rfl);clear HN1 HW1 HW2 t1 t2 t3 t4;go_wp2_with fail
   refine(Ht2.o _).mono ?_;rintro e w4⟨rfl,rfl⟩;go_wp2_with fail
   refine(Ht3.o _).mono ?_;rintro e w4⟨rfl,rfl⟩;go_wp2_with fail
   refine(Ht4.o _).mono ?_;rintro e w4⟨rfl,rfl⟩;go_wp2_with fail
   exact⟨⟨k+1,by omega,by go_num,HY.o,HB3.o⟩,zn hlt⟩
  ·have e:k=b.ps.length:=by omega
   subst e
   have HE:Hid (yY b=true):=by
    unfold Hid;rw[HG.o];have h:=HQ.o.1;rw[tOl (Nat.le_refl _)]at h;exact h
   have HBe:=hid (HB1.o.trans (HQ.o.2.mono HB1.o.size));clear hlt hk HQ;go_wp2_with fail
   go_ret;exact⟨ze HE.o.symm,HBe.o⟩
theorem zbN {α:Type}(row:α->List Value)(n:Nat)(hn:∀p,(row p).length=n):∀ps:List α,(ps.flatMap row).length=ps.length*n
 | []=>by simp
 | p :: ps=>by rw[List.flatMap_cons,List.length_append,hn,zbN row n hn ps,List.length_cons,Nat.succ_mul];omega
theorem zaZ {α:Type}(row:α->List Value)(n:Nat)(hn:∀p,(row p).length=n):∀(ps:List α) (i:Nat) (h:i<ps.length) (j:Nat),j<n->(ps.flatMap row)[i*n+j]?=(row ps[i])[j]?
 | [],i,h,_,_=>by simp at h
 | p :: ps,0,_,j,hj=>by
  rw[List.flatMap_cons,List.getElem?_append_left (by rw[hn];omega),Nat.zero_mul,Nat.zero_add];rfl
 | p :: ps,i+1,h,j,hj=>by
  rw[List.flatMap_cons,List.getElem?_append_right (by rw[hn,Nat.succ_mul];omega),hn,show(i+1)*n+j-n=i*n+j by rw[Nat.succ_mul];omega,zaZ row n hn ps i (by simpa using h) j hj];rfl
theorem Left.grown {S:Nat->Prop}{w w1 w2:World}{row:Option Nat}(h:Left S w w1)(hg:w1.grownBy w2 row)(hS:∀k,row=some k->S k):Left S w w2:=
 ⟨hg.os.trans h.os,hg.tape.trans h.tape,hg.output.trans h.output,Nat.le_trans h.size hg.size,fun k hk hn=>(hg.block k (nLt hk h.size) (fun e=>hn (hS k e.symm))).trans (h.out k hk hn)⟩
theorem zfh (w:World)(xs:List Value)(t:TypeId):∀j u,xs[j]?=some u->(w.alloc (.cells xs.toArray t)).cell? (((aD w.heap.size 0):Addr).add j)=some u:=by
 intro j u hj;rw[Addr.add_mid,Nat.zero_add,World.cell?_alloc_at (hn:=rfl)]
 simpa using hj
theorem jc {w:World}{lo sz:Nat}{e:TypeId}{v:Value}{n:Nat}{xs:List Value}(h:w.ownsRow lo e sz v n xs):∃a cap,v=.l a n cap:=by
 obtain⟨_,⟨rfl,h0⟩|⟨b,cap,cur,rfl,_⟩⟩:=h
 ·exact⟨none,0,by rw[h0]⟩
 ·exact⟨_,cap,rfl⟩
theorem zb9 {w:World}{lo lo' sz:Nat}{e:TypeId}{v:Value}{n:Nat}{xs:List Value}(h:w.ownsRow lo e sz v n xs)(hl:lo'<=lo):w.ownsRow lo' e sz v n xs:=by
 obtain⟨h0,h1|⟨g,cap,cur,h2,h3,h4⟩⟩:=h
 ·exact⟨h0,Or.inl h1⟩
 ·exact⟨h0,Or.inr ⟨g,cap,cur,h2,Nat.le_trans hl h3,h4⟩⟩
theorem zds {w:World}{lo sz:Nat}{e:TypeId}{a:OA}{cap n:Nat}{xs:List Value}(h:w.ownsRow lo e sz (.l a n cap) n xs)(hn:0<n):∃b C,a=some (aD b 0)/\lo<=b/\w.heap[b]?=some (.cells C e)/\n*sz<=C.size/\∀j,j<n*sz->C[j]?=xs[j]?:=by
 obtain⟨hl,⟨h0,hz⟩|⟨b,cp,cur,h0,hlo,hh,hnc,hm,hs,ht⟩⟩:=h
 ·omega
 ·cases h0
  have hle:n*sz<=cur.size:=by rw[hs];exact Nat.mul_le_mul_right _ hnc
  exact⟨b,cur,rfl,hlo,hh,hle,fun j hj=>by rw[<- ht,List.getElem?_take_of_lt hj,Array.getElem?_toList]⟩
theorem zqm {w:World}{lo sz:Nat}{e:TypeId}{g n cap:Nat}{xs:List Value}(h:w.ownsRow lo e sz (.l (some (aD g 0)) n cap) n xs):∀j u,xs[j]?=some u->w.cell? (aD g j)=some u:=by
 intro j u hj;have hlt:=(List.getElem?_eq_some_iff.1 hj).1;obtain⟨hl,⟨h0,hz⟩|⟨b,cp,cur,h0,hlo,hh,hnc,hm,hs,ht⟩⟩:=h
 ·cases h0
 ·cases h0
  rw[cell_of_block hh,<- hj,<- ht,List.getElem?_take_of_lt (by omega),Array.getElem?_toList]
theorem Tryz.zrB:(Tryz.prog.info? 123).map (fun i=>(i.zero,i.size,i.bytes))=some (some (.agg #[.s ByteArray.empty,.s ByteArray.empty,.s ByteArray.empty,.l none 0 0,.bool false,.l none 0 0,.i 0]),7,112):=by kernel_rfl
structure ObP where
 x:Ob
 a0:OA
 c0:Nat
 a1:OA
 c1:Nat
def ObP.row (p:ObP):List Value:=[.s p.x.kd,.s p.x.nm,.s p.x.tm,.l p.a0 p.x.vs.length p.c0,.bool p.x.en,.l p.a1 p.x.hs.length p.c1,.i p.x.vr]
def zhl (lo:Nat)(w:World)(own:Nat->Lb)(v:Value)(xs:List Ob):Prop:=
 ∃ps:List ObP,ps.map ObP.x=xs/\w.ownsRow lo 123 7 v ps.length (ps.flatMap ObP.row)/\(∀k,v.ownBlock=some k->own k=(0,0,0))/\∀i (h:i<ps.length),zo lo w ps[i].a0 ps[i].x.vs/\(∀g,ps[i].a0=some g->own g.block=(0,i,1))/\zo lo w ps[i].a1 ps[i].x.hs/\(∀g,ps[i].a1=some g->own g.block=(0,i,2))
theorem zhl.lie {lo:Nat}{w:World}{own:Nat->Lb}{v:Value}{xs:List Ob}(h:zhl lo w own v xs):∃a cap,v=.l a xs.length cap/\zby lo w own a xs.length (zaW xs):=by
 obtain⟨ps,h1,h2,h3,h4⟩:=h;have hn:ps.length=xs.length:=by rw[<- h1,List.length_map]
 obtain⟨a,cap,rfl⟩:=jc h2;refine⟨a,cap,by rw[hn],⟨fun hp=>?_⟩⟩;obtain⟨b,C,rfl,hlo,hC,hs,hc⟩:=zds h2 (by omega);refine⟨b,C,rfl,hlo,h3 b rfl,hC,by rw[<- hn];exact hs,fun i hi=>?_⟩;have hi':i<ps.length:=by omega
 have he:zaW xs i=ps[i].x:=by rw[zl6 hi];simp[<- h1]
 obtain⟨l0,o0,l1,o1⟩:=h4 i hi';rw[he];refine⟨ps[i].a0,ps[i].a1,ps[i].c0,ps[i].c1,fun j hj=>?_,l0,o0,l1,o1⟩
 show C[i*7+j]?=_
 have hlt:i*7+j<ps.length*7:=by omega
 rw[hc _ hlt,zaZ _ 7 (fun _=>rfl) ps i hi' j hj];unfold ObP.row
 simp
theorem zhl.left {S:Nat->Prop}{lo:Nat}{w w':World}{own:Nat->Lb}{v:Value}{xs:List Ob}(h:zhl lo w own v xs)(hl:Left S w w')(hS:∀k,(own k).1=0->¬S k):zhl lo w' own v xs:=by
 obtain⟨ps,h1,h2,h3,h4⟩:=h;refine⟨ps,h1,qx h2 (fun g hg=>hl.out g (h2.lt g hg).2 (hS g (by rw[h3 g hg]))),h3,fun i hi=>?_⟩;obtain⟨l0,o0,l1,o1⟩:=h4 i hi;exact⟨l0.left hl (fun g hg=>hS _ (by rw[o0 g hg])),o0,l1.left hl (fun g hg=>hS _ (by rw[o1 g hg])),o1⟩
theorem zhl.snoc {lo m:Nat}{wr w1 w4:World}{own:Nat->Lb}{v v':Value}{xs:List Ob}{ps:List ObP}{x:Ob}{a0:OA}{c0:Nat}{a1:OA}{c1:Nat}{o:Obj}(h1:ps.map ObP.x=xs)(h2:wr.ownsRow lo 123 7 v ps.length (ps.flatMap ObP.row))(h3:∀k,v.ownBlock=some k->own k=(0,0,0))(h4:∀i (h:i<ps.length),zo lo wr ps[i].a0 ps[i].x.vs/\(∀g,ps[i].a0=some g->own g.block=(0,i,1))/\zo lo wr ps[i].a1 ps[i].x.hs/\(∀g,ps[i].a1=some g->own g.block=(0,i,2)))
 (hlo:lo<=wr.heap.size) (hB:Bw wr w1) (hl0:zo wr.heap.size w1 a0 x.vs) (hm:∀g,a0=some g->g.block<m) (hwm:wr.heap.size<=m) (hl1:zo m w1 a1 x.hs) (hg:(w1.alloc o).grownBy w4 v.ownBlock) (ho:w4.ownsRow lo 123 7 v' (ps.length+1) (ps.flatMap ObP.row++[.s x.kd,.s x.nm,.s x.tm,.l a0 x.vs.length c0,.bool x.en,.l a1 x.hs.length c1,.i x.vr])) (hat:v'.ownBlock=v.ownBlock \/ v'.ownBlock=some (w1.alloc o).heap.size) :
 ∃own',(∀k,k<wr.heap.size->own' k=own k)/\zhl lo w4 own' v' (xs++[x]):=by
 have hn:ps.length=xs.length:=by rw[<- h1,List.length_map]
 have hz1:=hB.size;have hv:∀k,v.ownBlock=some k->k<wr.heap.size:=fun k hk=>(h2.lt k hk).2
 have hL1:Left (fun k=>v.ownBlock=some k) w1 w4:=(Left.of_below _ ((bRf _ _).alloc (Nat.le_refl _) o)).grown hg (fun _ h=>h);have hL:Left (fun k=>v.ownBlock=some k) wr w4:=(Left.of_below _ hB).trans hL1;obtain⟨own',he'⟩:∃own':Nat->Lb,own'=fun k=>if k<wr.heap.size then own k else if a0=some (aD k 0) then (0,xs.length,1) else if a1=some (aD k 0) then (0,xs.length,2) else (0,0,0):=⟨_,rfl⟩
 have hold:∀k,k<wr.heap.size->own' k=own k:=fun k hk=>by rw[he'];exact if_pos hk
 refine⟨own',hold,ps++[⟨x,a0,c0,a1,c1⟩],by rw[List.map_append,h1];rfl,?_,fun k hk=>?_,fun i hi=>?_⟩
 ·rw[List.flatMap_append,List.length_append];exact ho
 ·rcases hat with e|e
  ·rw[hold k (hv k (e ▸ hk))];exact h3 k (e ▸ hk)
  ·rw[hk]at e
   obtain rfl:k=w1.heap.size+1:=by simpa using e
   rw[he']
   show(if _ then _ else _)=_
   rw[if_neg (by omega)];rw[if_neg (by intro e2;have:=hl0.lt _ e2;simp at this;omega)];rw[if_neg (by intro e2;have:=hl1.lt _ e2;simp at this;omega)]
 ·by_cases hi':i<ps.length
  ·have e1:(ps++[⟨x,a0,c0,a1,c1⟩])[i]=ps[i]:=List.getElem_append_left hi'
   rw[e1];obtain⟨l0,o0,l1,o1⟩:=h4 i hi';exact⟨l0.left hL (fun g hg hh=>by have e3:=o0 g hg;rw[h3 _ hh]at e3;simp at e3),fun g hg=>by rw[hold _ (l0.lt g hg)];exact o0 g hg,l1.left hL (fun g hg hh=>by have e3:=o1 g hg;rw[h3 _ hh]at e3;simp at e3),fun g hg=>by rw[hold _ (l1.lt g hg)];exact o1 g hg⟩
  ·have ei:i=ps.length:=by rw[List.length_append]at hi;simp at hi;omega
   subst ei;have e1:(ps++[⟨x,a0,c0,a1,c1⟩])[ps.length]=⟨x,a0,c0,a1,c1⟩:=by simp
   rw[e1]
   have g0:∀g,a0=some g->wr.heap.size<=g.block/\g=(aD g.block 0):=by
    rintro g rfl
    rcases hl0 with⟨h9,_⟩|⟨g',C,h9,h8,_⟩
    ·cases h9
    ·cases h9;exact⟨h8,rfl⟩
   have g1:∀g,a1=some g->m<=g.block/\g=(aD g.block 0):=by
    rintro g rfl
    rcases hl1 with⟨h9,_⟩|⟨g',C,h9,h8,_⟩
    ·cases h9
    ·cases h9;exact⟨h8,rfl⟩
   refine⟨(hl0.low hlo).left hL1 (fun g hg hh=>by have:=(g0 g hg).1;have:=hv _ hh;omega),fun g hg=>?_,(hl1.low (by omega)).left hL1 (fun g hg hh=>by have:=(g1 g hg).1;have:=hv _ hh;omega),fun g hg=>?_⟩
   ·have h9:=g0 g hg
    rw[he']
    show(if _ then _ else _)=_
    rw[if_neg (by omega),if_pos (hg.trans (congrArg some h9.2)),hn]
   ·have h9:=g1 g hg
    rw[he']
    show(if _ then _ else _)=_
    rw[if_neg (by omega),if_neg (by intro e2;have:=hm _ e2;simp at this;omega),if_pos (hg.trans (congrArg some h9.2)),hn]
theorem Tryz.zrh:(Tryz.prog.info? 127).map (fun i=>(i.zero,i.size,i.bytes))=some (some (.agg #[.i 0,.s ByteArray.empty,.s ByteArray.empty,.l none 0 0,.s ByteArray.empty,.s ByteArray.empty,.s ByteArray.empty]),7,112):=by kernel_rfl
structure GrP where
 x:Gr
 a0:OA
 c0:Nat
def GrP.row (p:GrP):List Value:=[.i p.x.no,.s p.x.to,.s p.x.gb,.l p.a0 p.x.r.vs.length p.c0,.s p.x.r.kd,.s p.x.r.tm,.s p.x.r.px]
def zhm (lo:Nat)(w:World)(own:Nat->Lb)(v:Value)(xs:List Gr):Prop:=
 ∃ps:List GrP,ps.map GrP.x=xs/\w.ownsRow lo 127 7 v ps.length (ps.flatMap GrP.row)/\(∀k,v.ownBlock=some k->own k=(1,0,0))/\∀i (h:i<ps.length),yu lo w ps[i].a0 ps[i].x.r.vs/\(∀g,ps[i].a0=some g->own g.block=(1,i,3))
theorem zhm.lie {lo:Nat}{w:World}{own:Nat->Lb}{v:Value}{xs:List Gr}(h:zhm lo w own v xs):∃a cap,v=.l a xs.length cap/\zcs lo w own a xs.length (zcl xs):=by
 obtain⟨ps,h1,h2,h3,h4⟩:=h;have hn:ps.length=xs.length:=by rw[<- h1,List.length_map]
 obtain⟨a,cap,rfl⟩:=jc h2;refine⟨a,cap,by rw[hn],⟨fun hp=>?_⟩⟩;obtain⟨b,C,rfl,hlo,hC,hs,hc⟩:=zds h2 (by omega);refine⟨b,C,rfl,hlo,h3 b rfl,hC,by rw[<- hn];exact hs,fun i hi=>?_⟩;have hi':i<ps.length:=by omega
 have he:zcl xs i=ps[i].x:=by rw[zml hi];simp[<- h1]
 obtain⟨l0,o0⟩:=h4 i hi';rw[he];refine⟨ps[i].a0,ps[i].c0,fun j hj=>?_,l0,o0⟩
 show C[i*7+j]?=_
 have hlt:i*7+j<ps.length*7:=by omega
 rw[hc _ hlt,zaZ _ 7 (fun _=>rfl) ps i hi' j hj];unfold GrP.row
 simp
theorem zhm.left {S:Nat->Prop}{lo:Nat}{w w':World}{own:Nat->Lb}{v:Value}{xs:List Gr}(h:zhm lo w own v xs)(hl:Left S w w')(hS:∀k,(own k).1=1->¬S k):zhm lo w' own v xs:=by
 obtain⟨ps,h1,h2,h3,h4⟩:=h;refine⟨ps,h1,qx h2 (fun g hg=>hl.out g (h2.lt g hg).2 (hS g (by rw[h3 g hg]))),h3,fun i hi=>?_⟩;obtain⟨l0,o0⟩:=h4 i hi;exact⟨l0.left hl (fun g hg=>hS _ (by rw[o0 g hg])),o0⟩
theorem zhm.snoc {lo:Nat}{wr w1 w4:World}{own:Nat->Lb}{v v':Value}{xs:List Gr}{ps:List GrP}{x:Gr}{a0:OA}{c0:Nat}{o:Obj}(h1:ps.map GrP.x=xs)(h2:wr.ownsRow lo 127 7 v ps.length (ps.flatMap GrP.row))(h3:∀k,v.ownBlock=some k->own k=(1,0,0))(h4:∀i (h:i<ps.length),yu lo wr ps[i].a0 ps[i].x.r.vs/\(∀g,ps[i].a0=some g->own g.block=(1,i,3)))
 (hlo:lo<=wr.heap.size) (hB:Bw wr w1) (hl0:yu wr.heap.size w1 a0 x.r.vs) (hg:(w1.alloc o).grownBy w4 v.ownBlock) (ho:w4.ownsRow lo 127 7 v' (ps.length+1) (ps.flatMap GrP.row++[.i x.no,.s x.to,.s x.gb,.l a0 x.r.vs.length c0,.s x.r.kd,.s x.r.tm,.s x.r.px])) (hat:v'.ownBlock=v.ownBlock \/ v'.ownBlock=some (w1.alloc o).heap.size) :
 ∃own',(∀k,k<wr.heap.size->own' k=own k)/\zhm lo w4 own' v' (xs++[x]):=by
 have hn:ps.length=xs.length:=by rw[<- h1,List.length_map]
 have hz1:=hB.size;have hv:∀k,v.ownBlock=some k->k<wr.heap.size:=fun k hk=>(h2.lt k hk).2
 have hL1:Left (fun k=>v.ownBlock=some k) w1 w4:=(Left.of_below _ ((bRf _ _).alloc (Nat.le_refl _) o)).grown hg (fun _ h=>h);have hL:Left (fun k=>v.ownBlock=some k) wr w4:=(Left.of_below _ hB).trans hL1;obtain⟨own',he'⟩:∃own':Nat->Lb,own'=fun k=>if k<wr.heap.size then own k else if a0=some (aD k 0) then (1,xs.length,3) else (1,0,0):=⟨_,rfl⟩
 have hold:∀k,k<wr.heap.size->own' k=own k:=fun k hk=>by rw[he'];exact if_pos hk
 refine⟨own',hold,ps++[⟨x,a0,c0⟩],by rw[List.map_append,h1];rfl,?_,fun k hk=>?_,fun i hi=>?_⟩
 ·rw[List.flatMap_append,List.length_append];exact ho
 ·rcases hat with e|e
  ·rw[hold k (hv k (e ▸ hk))];exact h3 k (e ▸ hk)
  ·rw[hk]at e
   obtain rfl:k=w1.heap.size+1:=by simpa using e
   rw[he']
   show(if _ then _ else _)=_
   rw[if_neg (by omega)];rw[if_neg (by intro e2;have:=hl0.lt _ e2;simp at this;omega)]
 ·by_cases hi':i<ps.length
  ·have e1:(ps++[⟨x,a0,c0⟩])[i]=ps[i]:=List.getElem_append_left hi'
   rw[e1];obtain⟨l0,o0⟩:=h4 i hi';exact⟨l0.left hL (fun g hg hh=>by have e3:=o0 g hg;rw[h3 _ hh]at e3;simp at e3),fun g hg=>by rw[hold _ (l0.lt g hg)];exact o0 g hg⟩
  ·have ei:i=ps.length:=by rw[List.length_append]at hi;simp at hi;omega
   subst ei;have e1:(ps++[⟨x,a0,c0⟩])[ps.length]=⟨x,a0,c0⟩:=by simp
   rw[e1]
   have g0:∀g,a0=some g->wr.heap.size<=g.block/\g=(aD g.block 0):=by
    rintro g rfl
    rcases hl0 with⟨h9,_⟩|⟨g',C,h9,h8,_⟩
    ·cases h9
    ·cases h9;exact⟨h8,rfl⟩
   refine⟨(hl0.low hlo).left hL1 (fun g hg hh=>by have:=(g0 g hg).1;have:=hv _ hh;omega),fun g hg=>?_⟩;have h9:=g0 g hg;rw[he']
   show(if _ then _ else _)=_
   rw[if_neg (by omega),if_pos (hg.trans (congrArg some h9.2)),hn]
theorem Tryz.zry:(Tryz.prog.info? 68).map (fun i=>(i.zero,i.size,i.bytes))=some (some (.agg #[.s ByteArray.empty,.s ByteArray.empty,.i 0,.i 0]),4,48):=by kernel_rfl
def Lg.row (p:Lg):List Value:=[.s p.tm,.s p.rs,.i p.mo,.i p.fr]
def zdl (lo:Nat)(w:World)(own:Nat->Lb)(v:Value)(xs:List Lg):Prop:=
 w.ownsRow lo 68 4 v xs.length (xs.flatMap Lg.row)/\∀k,v.ownBlock=some k->own k=(2,0,0)
theorem zdl.lie {lo:Nat}{w:World}{own:Nat->Lb}{v:Value}{xs:List Lg}(h:zdl lo w own v xs):∃a cap,v=.l a xs.length cap/\zcA lo w own a xs.length (zep xs):=by
 obtain⟨h2,h3⟩:=h;obtain⟨a,cap,rfl⟩:=jc h2;refine⟨a,cap,rfl,⟨fun hp=>?_⟩⟩;obtain⟨b,C,rfl,hlo,hC,hs,hc⟩:=zds h2 hp;refine⟨b,C,rfl,hlo,h3 b rfl,hC,hs,fun i hi=>?_⟩;rw[zpw hi];refine⟨fun j hj=>?_⟩
 show C[i*4+j]?=_
 have hlt:i*4+j<xs.length*4:=by omega
 rw[hc _ hlt,zaZ _ 4 (fun _=>rfl) xs i hi j hj];unfold Lg.row
 simp
theorem zdl.left {S:Nat->Prop}{lo:Nat}{w w':World}{own:Nat->Lb}{v:Value}{xs:List Lg}(h:zdl lo w own v xs)(hl:Left S w w')(hS:∀k,(own k).1=2->¬S k):zdl lo w' own v xs:=
 ⟨qx h.1 (fun g hg=>hl.out g (h.1.lt g hg).2 (hS g (by rw[h.2 g hg]))),h.2⟩
theorem zdl.own {lo:Nat}{w:World}{own own':Nat->Lb}{v:Value}{xs:List Lg}(h:zdl lo w own v xs)(he:∀k,k<w.heap.size->(own k).1=2->own' k=own k):zdl lo w own' v xs:=⟨h.1,fun k hk=>by rw[he k (h.1.lt k hk).2 (by rw[h.2 k hk])];exact h.2 k hk⟩
theorem zdl.low {lo lo':Nat}{w:World}{own:Nat->Lb}{v:Value}{xs:List Lg}(h:zdl lo w own v xs)(hl:lo'<=lo):zdl lo' w own v xs:=⟨zb9 h.1 hl,h.2⟩
theorem zq8 {w:World}{b off:Nat}{xs:List Lg}(h:zbu w (some (aD b off)) xs):∀j u,(xs.flatMap Lg.row)[j]?=some u->w.cell? (((aD b off):Addr).add j)=some u:=by
 intro j u hj;have hlt:=(List.getElem?_eq_some_iff.1 hj).1;rw[zbN _ 4 (fun _=>rfl)]at hlt;obtain⟨b',off',e,_,hc⟩:=h.rows (by rintro rfl;simp at hlt)
 cases e
 have hi:j / 4<xs.length:=by omega
 have e1:j=j / 4*4+j % 4:=by omega
 rw[Addr.add_mid,show off+j=off+j / 4*4+j % 4 by omega,hc (j / 4) hi (j % 4) (by omega),<- hj]
 conv=>rhs;rw[e1]
 rw[zaZ _ 4 (fun _=>rfl) xs (j / 4) hi (j % 4) (by omega)];unfold Lg.row Lg.cells
 simp
theorem zpE {xs:List Lg}:∀u∈xs.flatMap Lg.row,u.oneCell'=true:=by
 intro u hu;obtain⟨p,_,hp⟩:=List.mem_flatMap.1 hu;unfold Lg.row at hp
 simp at hp
 rcases hp with rfl|rfl|rfl|rfl <;> rfl
theorem Tryz.zgb:(Tryz.prog.info? 70).map (fun i=>(i.zero,i.size,i.bytes))=some (some (.agg #[.s ByteArray.empty,.s ByteArray.empty,.s ByteArray.empty,.i 0,.i 0]),5,64):=by kernel_rfl
def Pu.row (p:Pu):List Value:=[.s p.dr,.s p.tm,.s p.rs,.i p.am,.i p.un]
def zcq (lo:Nat)(w:World)(own:Nat->Lb)(v:Value)(xs:List Pu):Prop:=
 w.ownsRow lo 70 5 v xs.length (xs.flatMap Pu.row)/\∀k,v.ownBlock=some k->own k=(3,0,0)
theorem zcq.lie {lo:Nat}{w:World}{own:Nat->Lb}{v:Value}{xs:List Pu}(h:zcq lo w own v xs):∃a cap,v=.l a xs.length cap/\zcZ lo w own a xs.length (zfd xs):=by
 obtain⟨h2,h3⟩:=h;obtain⟨a,cap,rfl⟩:=jc h2;refine⟨a,cap,rfl,⟨fun hp=>?_⟩⟩;obtain⟨b,C,rfl,hlo,hC,hs,hc⟩:=zds h2 hp;refine⟨b,C,rfl,hlo,h3 b rfl,hC,hs,fun i hi=>?_⟩;rw[zpG hi];refine⟨fun j hj=>?_⟩
 show C[i*5+j]?=_
 have hlt:i*5+j<xs.length*5:=by omega
 rw[hc _ hlt,zaZ _ 5 (fun _=>rfl) xs i hi j hj];unfold Pu.row
 simp
theorem zcq.left {S:Nat->Prop}{lo:Nat}{w w':World}{own:Nat->Lb}{v:Value}{xs:List Pu}(h:zcq lo w own v xs)(hl:Left S w w')(hS:∀k,(own k).1=3->¬S k):zcq lo w' own v xs:=
 ⟨qx h.1 (fun g hg=>hl.out g (h.1.lt g hg).2 (hS g (by rw[h.2 g hg]))),h.2⟩
theorem zcq.own {lo:Nat}{w:World}{own own':Nat->Lb}{v:Value}{xs:List Pu}(h:zcq lo w own v xs)(he:∀k,k<w.heap.size->(own k).1=3->own' k=own k):zcq lo w own' v xs:=⟨h.1,fun k hk=>by rw[he k (h.1.lt k hk).2 (by rw[h.2 k hk])];exact h.2 k hk⟩
theorem zcq.low {lo lo':Nat}{w:World}{own:Nat->Lb}{v:Value}{xs:List Pu}(h:zcq lo w own v xs)(hl:lo'<=lo):zcq lo' w own v xs:=⟨zb9 h.1 hl,h.2⟩
theorem zqT {w:World}{b off:Nat}{xs:List Pu}(h:zaP w (some (aD b off)) xs):∀j u,(xs.flatMap Pu.row)[j]?=some u->w.cell? (((aD b off):Addr).add j)=some u:=by
 intro j u hj;have hlt:=(List.getElem?_eq_some_iff.1 hj).1;rw[zbN _ 5 (fun _=>rfl)]at hlt;obtain⟨b',off',e,_,hc⟩:=h.rows (by rintro rfl;simp at hlt)
 cases e
 have hi:j / 5<xs.length:=by omega
 have e1:j=j / 5*5+j % 5:=by omega
 rw[Addr.add_mid,show off+j=off+j / 5*5+j % 5 by omega,hc (j / 5) hi (j % 5) (by omega),<- hj]
 conv=>rhs;rw[e1]
 rw[zaZ _ 5 (fun _=>rfl) xs (j / 5) hi (j % 5) (by omega)];unfold Pu.row Pu.cells
 simp
theorem zbF {xs:List Pu}:∀u∈xs.flatMap Pu.row,u.oneCell'=true:=by
 intro u hu;obtain⟨p,_,hp⟩:=List.mem_flatMap.1 hu;unfold Pu.row at hp
 simp at hp
 rcases hp with rfl|rfl|rfl|rfl|rfl <;> rfl
def zba (s:Shp)(i:Nat):BA:=(s.fs.getD i zbR).nm
def jF (s:Shp)(ms:List Mnd)(row:List BA)(i:Nat):Bool:=!has row (zba s i)&&zcx ms s.kd (zba s i) row
def zfs (s:Shp)(ms:List Mnd)(row:List BA):List BA:=match (List.range s.fs.length).find? (jF s ms row) with|none=>row|some i=>row++[zba s i]
def yj (s:Shp)(ms:List Mnd):Nat->List BA
 | 0=>[]
 | k+1=>zfs s ms (yj s ms k)
theorem zl9 (s:Shp)(ms:List Mnd)(row:List BA):(zfs s ms row).length<=row.length+1:=by
 unfold zfs;split
 ·omega
 ·simp
theorem ze6 (s:Shp)(ms:List Mnd):∀k,(yj s ms k).length<=k
 | 0=>Nat.le_refl _
 | k+1=>Nat.le_trans (zl9 s ms _) (by have:=ze6 s ms k;omega)
theorem zfk (s:Shp)(ms:List Mnd):∀k,∀x∈yj s ms k,∃i,i<s.fs.length/\x=zba s i
 | 0,x,h=>by cases h
 | k+1,x,h=>by
  have h':x∈zfs s ms (yj s ms k):=h;unfold zfs at h'
  split at h'
  ·exact zfk s ms k x h'
  ·rename_i i hi
   rw[List.mem_append,List.mem_singleton]at h'
   rcases h' with h'|h'
   ·exact zfk s ms k x h'
   ·exact⟨i,List.mem_range.1 (List.mem_of_find?_eq_some hi),h'⟩
set_option maxRecDepth 20000 in
theorem zlD (fa ma:OA)(fcap mcap:Nat)(s:Shp)(ms:List Mnd)(w:World)(hf:yc w fa s.fs)(hm:qN w ma ms)(hml:ms.length<=12)(hn:s.fs.length<=6) :
 Calls Tryz.prog 145 #[.agg #[.s s.kd,.l fa s.fs.length fcap],.l ma ms.length mcap] w fun e w'=>∃v,e=.returned v/\w'.ownsRow w.heap.size 9 1 v (yj s ms s.fs.length).length ((yj s ms s.fs.length).map Value.string)/\Bw w w':=by
 have HM:=yU hf hm
 have HSM:Hid (∀k,∀x∈yj s ms k,x.size<=maxLen):=by
  intro k x hx;obtain⟨i,hi,rfl⟩:=zfk s ms k x hx;unfold zba;rw[getD_at _ _ _ hi];exact(hf.smalls.small i hi).1.nm
 obtain⟨i0,hi0,hz0,hz1',hz2⟩:=info_parts Tryz.zdi;clear hf hm;go_enter Tryz.func145,Tryz.ntmps145;go_wp2_with fail
 have hnI:(s.fs.length:Int)<=6:=by omega
 go_loopw [5,6] (fun v0 iv wr=>∃(k:Nat) (v:Value),v=v0/\k<=s.fs.length/\iv=.i k/\wr.ownsRow (w.heap.size+1) 9 1 v (yj s ms k).length ((yj s ms k).map Value.string)/\wr.heap[w.heap.size]?=some (.cells #[.s s.kd,.l fa s.fs.length fcap] 133)/\Bw w wr) (fun _ iv _=>s.fs.length-(intOf iv).toNat)
 case atStart=>exact⟨0,_,rfl,Nat.zero_le _,rfl,⟨rfl,.inr ⟨w.heap.size+1,0,#[],rfl,Nat.le_refl _,(zS _ _ _).2,Nat.le_refl _,by simp[maxLen],rfl,rfl⟩⟩,(zS _ _ _).1,zw _ _ _⟩
 case round=>
  obtain⟨k,v,hv,hk,rfl,hown,hbox,hB⟩:=hrel;subst hv;obtain⟨va,vcap,rfl⟩:=qF hown;have HW:=za6 hown hbox hB;have hXr:∀j,wr.cell? (aD w.heap.size j)=(#[.s s.kd,.l fa s.fs.length fcap]:AV)[j]?:=fun j=>cell_of_block hbox
  have hzr:=(gES hbox).1;have HGL:Hid ((yj s ms k).length<=6):=by have:=ze6 s ms k;show _<=_;omega
  clear hown hbox hB
  by_cases hlt:k<s.fs.length
  ·have hltI:(k:Int)<(s.fs.length:Int):=by omega
   go_wp2_with fail
   clear hXr;obtain⟨wo,hwo⟩:=nm (wr);have HWO:Hid (wo.ownsRow (w.heap.size+1) 9 1 (.l va (yj s ms k).length vcap) (yj s ms k).length ((yj s ms k).map Value.string)/\wo.heap[w.heap.size]?=some (.cells #[.s s.kd,.l fa s.fs.length fcap] 133)/\Bw w wo/\w.heap.size<wo.heap.size):=by rw[hwo];exact⟨HW.o.1,HW.o.2.1,HW.o.2.2,hzr⟩
   have HWE:=hid hwo;clear hwo HW hzr
   go_loopw [5,7] (fun v1 iv wq=>∃i:Nat,i<=s.fs.length/\iv=.i i/\v1=.l va (yj s ms k).length vcap/\(∀q,q<i->jF s ms (yj s ms k) q=false)/\Bw wo wq) (fun _ iv _=>s.fs.length-(intOf iv).toNat)
   case atStart=>exact⟨0,Nat.zero_le _,rfl,rfl,fun q h=>absurd h (by omega),by rw[HWE.o];exact bRf _ _⟩
   case round=>
    obtain⟨i,hi,rfl,rfl,hno,hBq⟩:=hrel;have HQ:=zrY hno hBq (yE HWO.o.1 hBq) ((hBq.block _ HWO.o.2.2.2).trans HWO.o.2.1) (HWO.o.2.2.1.trans (hBq.mono HWO.o.2.2.1.size));have hXq:=zbx HQ.o.2.2.2.1;have hzq:=(gES HQ.o.2.2.2.1).1;clear hno hBq
    by_cases hil:i<s.fs.length
    ·have hilI:(i:Int)<(s.fs.length:Int):=by omega
     obtain⟨fb,foff,rfl,hfb,hr⟩:=HM.o.1.rows (by intro e;rw[e]at hil;simp at hil);obtain⟨wa,wcap,hf0⟩:=hr i hil;obtain⟨c0,c1,c2,c3,c4,c5,c6,c7,c8,c9,c10⟩:=(hf0.mono hfb HQ.o.2.2.2.2).load;have HNM:Hid (zba s i=s.fs[i].nm):=by unfold Hid zba;rw[getD_at _ _ _ hil]
     have HST:=hid (zmy HQ.o.2.2.1 (by have:=HGL.o;unfold maxLen;omega) (HSM.o k))
     have HFIND:Hid (jF s ms (yj s ms k) i=true->yj s ms (k+1)=yj s ms k++[s.fs[i].nm]):=by
      intro h
      show zfs s ms (yj s ms k)=_
      unfold zfs
      have:(List.range s.fs.length).find? (jF s ms (yj s ms k))=some i:=by
       rw[List.find?_range_eq_some];exact⟨h,List.mem_range.2 hil,fun j hj=>by rw[HQ.o.1 j hj];rfl⟩
      rw[this]
      show yj s ms k++[zba s i]=_
      rw[HNM.o]
     clear hr hf0 c1 c2 c3 c4 c5 c6 c7 c8 c9 c10;go_wp2_with fail
     have h:=zcP va vcap (yj s ms k) s.fs[i].nm wr HST.o
     rcases hh:has (yj s ms k) s.fs[i].nm with _|_
     rotate_left
     ·rw[hh]at h
      refine h.mono ?_;rintro e w3⟨rfl,rfl⟩
      have HNR:Hid (∀q,q<i+1->jF s ms (yj s ms k) q=false):=by
       intro q hq
       rcases Nat.lt_or_ge q i with h1|h1
       ·exact HQ.o.1 q h1
       ·have e:q=i:=by omega
        subst e;unfold jF;rw[HNM.o,hh];rfl
      clear h hh;go_wp2_with fail
      exact⟨⟨i+1,by omega,by go_num,rfl,HNR.o,HQ.o.2.1⟩,zn hil⟩
     rw[hh]at h;refine h.mono ?_;rintro e w3'⟨rfl,hw3⟩;rw[hw3];clear hw3 w3';have HRN:Hid (jF s ms (yj s ms k) i=zcx ms s.kd s.fs[i].nm (yj s ms k)):=by unfold Hid jF;rw[HNM.o,hh];rfl
     clear h hh;go_wp2_with fail
     have h:=zm1 ma va mcap vcap ms s.kd s.fs[i].nm (yj s ms k) wr (HM.o.2.mono HQ.o.2.2.2.2) HST.o hml
     rcases hh:zcx ms s.kd s.fs[i].nm (yj s ms k) with _|_
     ·rw[hh]at h
      refine h.mono ?_;rintro e w3⟨rfl,hb3⟩
      have HNR:Hid ((∀q,q<i+1->jF s ms (yj s ms k) q=false)/\Bw wo w3):=by
       refine⟨fun q hq=>?_,HQ.o.2.1.trans (hb3.mono HQ.o.2.1.size)⟩
       rcases Nat.lt_or_ge q i with h1|h1
       ·exact HQ.o.1 q h1
       ·have e:q=i:=by omega
        subst e;rw[HRN.o,hh]
      clear h hh hb3;go_wp2_with fail
      exact⟨⟨i+1,by omega,by go_num,rfl,HNR.o.1,HNR.o.2⟩,zn hil⟩
     rw[hh]at h;refine h.mono ?_;rintro e w3⟨rfl,hb3⟩;have HG1:=hid (HFIND.o (by rw[HRN.o,hh]));have H3:=zbT (yE HQ.o.2.2.1 hb3) ((hb3.block _ hzq).trans HQ.o.2.2.2.1) (HQ.o.2.2.2.2.trans (hb3.mono HQ.o.2.2.2.2.size)) (nLt hzq hb3.size);clear h hh hb3 hXq c0
     go_wp2_with (at_builtin;refine zh4 ?_)
     show wpList _ _ _ _ _ _
     refine wpList_append_own _ rfl (.tmp 42) (.tmp 44) 108 rfl (w.heap.size+1) 9 i0 (.s ByteArray.empty) 1 16 Tryz.underlying108 hi0 hz0 hz1' hz2 rfl (by decide) (.l va (yj s ms k).length vcap) _ _ rfl (H3.o.1.alloc _) (aD w3.heap.size 0) 1 1 [.s s.fs[i].nm] rfl rfl (zfr _ _ _) (by intro u hu;simp at hu;subst hu;rfl) (by have:=HGL.o;unfold maxLen;omega) (by have:=HGL.o;omega) (by have:=H3.o.2.2.2;simp;omega) ?_;intro v' w4 hown' hgr _;obtain⟨va',vcap',rfl⟩:=qF hown';have hgb:∀g,(Value.slice va (yj s ms k).length vcap).ownBlock=some g->w.heap.size+1<=g:=fun g hg=>(H3.o.1.lt g hg).1
     have HY:Hid (w4.ownsRow (w.heap.size+1) 9 1 (.l va' ((yj s ms k).length+1) vcap') (yj s ms (k+1)).length ((yj s ms (k+1)).map Value.string)/\w4.heap[w.heap.size]?=some (.cells #[.s s.kd,.l (some (aD fb foff)) s.fs.length fcap] 133)/\Bw w w4):=by
      refine⟨by rw[HG1.o,List.length_append,List.map_append];exact hown',?_,zdA H3.o.2.2.1 H3.o.2.2.1.size hgr (fun g hg=>by have:=hgb g hg;omega)⟩;exact(zaQ hgr (by have:=H3.o.2.2.2;simp;omega) (fun g hg=>by have:=hgb g hg;omega)).trans ((Below.heap_alloc _ _ _ H3.o.2.2.2).trans H3.o.2.1)
     clear hown' hgr hgb;go_wp2_with fail
     exact⟨⟨k+1,_,rfl,by omega,by go_num,HY.o.1,HY.o.2.1,HY.o.2.2⟩,zn hlt⟩
    ·have e:i=s.fs.length:=by omega
     have HN:Hid (yj s ms (k+1)=yj s ms k):=by
      show zfs s ms (yj s ms k)=_
      unfold zfs
      have:(List.range s.fs.length).find? (jF s ms (yj s ms k))=none:=by
       rw[List.find?_eq_none];intro q hq;rw[HQ.o.1 q (by rw[e];exact List.mem_range.1 hq)]
       simp
      rw[this]
     subst e;go_wp2_with fail
     exact⟨⟨k+1,_,rfl,by omega,by go_num,by rw[HN.o];exact HQ.o.2.2.1,HQ.o.2.2.2.1,HQ.o.2.2.2.2⟩,zn hlt⟩
  ·have e:k=s.fs.length:=by omega
   subst e;go_wp2_with fail
   go_ret;exact⟨_,rfl,zdr HW.o.1 (by omega),HW.o.2.2⟩
def zbZ {α:Type}(p:α->Bool)(l:List α):Int:=if l.any p=true then (l.findIdx p:Int) else -1
theorem zl4 {α:Type}{p:α->Bool}{l:List α}{k:Nat}(hk:k<l.length)(h:∀i (hi:i<l.length),i<k->p l[i]=false)(hp:p l[k]=true):zbZ p l=k:=by
 unfold zbZ;rw[if_pos (List.any_eq_true.2 ⟨l[k],List.getElem_mem _,hp⟩)];have e:l.findIdx p=k:=(List.findIdx_eq hk).2 ⟨hp,fun j hj=>h j (by omega) hj⟩;rw[e]
theorem zh3 {α:Type}{p:α->Bool}{l:List α}(h:∀i (hi:i<l.length),p l[i]=false):zbZ p l=-1:=by
 unfold zbZ;rw[if_neg];intro hc;obtain⟨x,hx,hp⟩:=List.any_eq_true.1 hc;obtain⟨i,hi,rfl⟩:=List.mem_iff_getElem.1 hx;rw[h i hi]at hp
 cases hp
theorem zci {α:Type}(p:α->Bool)(l:List α):zbZ p l<0↔l.any p=false:=by
 unfold zbZ
 split
 ·rename_i h;rw[h];constructor
  ·intro h';omega
  ·intro h';cases h'
 ·rename_i h
  exact⟨fun _=>by simpa using h,fun _=>by omega⟩
def zb7 (kd nm:BA)(o:Ob):Bool:=decide (o.kd=kd)&&decide (o.nm=nm)
def zam (tm rs:BA)(g:Lg):Bool:=decide (g.tm=tm)&&decide (g.rs=rs)
def zoL (tm rs:BA)(p:Pu):Bool:=decide (p.tm=tm)&&decide (p.rs=rs)
def zbp (ps:List Pu)(tm rs:BA):Nat->Int
 | 0=>0
 | k+1=>zbp ps tm rs k+(match ps[k]? with|some p=>if zoL tm rs p=true then p.am else 0|none=>0)
def out (ps:List Pu)(tm rs:BA):Int:=zbp ps tm rs ps.length
theorem zfB (ps:List Pu)(tm rs:BA)(k:Nat)(h:k<ps.length):zbp ps tm rs (k+1)=zbp ps tm rs k+(if zoL tm rs ps[k]=true then ps[k].am else 0):=by
 simp only[zbp,List.getElem?_eq_getElem h]
theorem zbK (ps:List Pu)(tm rs:BA)(ha:∀i (h:i<ps.length),0<=ps[i].am/\ps[i].am<=1000000):∀k,k<=ps.length->0<=zbp ps tm rs k/\zbp ps tm rs k<=k*1000000
 | 0,_=>by simp[zbp]
 | k+1,h=>by
  have h1:=zbK ps tm rs ha k (by omega);have h2:=ha k h;rw[zfB ps tm rs k h]
  split <;> omega
theorem zhV (x y:BA)(w:World):Calls Tryz.prog 118 #[.s x,.s y] w fun e w'=>e=.returned (.i (key x y))/\w'=w:=by
 have k1:=zjV x y;have k2:=zjV y x;have k3:=zrv x y;have k4:=zni x y;unfold less at k1 k2
 by_cases h1:key x y=-1
 ·have HF:=zjG h1
  have e1:Op.bytesLess x.toList y.toList=true:=by rw[k1];simpa using h1
  clear k1 k2 k3 k4 h1;go_enter Tryz.func118,Tryz.ntmps118;go_wp2_with fail
  go_ret;exact⟨zq HF.o.symm,rfl⟩
 ·have e1:Op.bytesLess x.toList y.toList=false:=by rw[k1];simpa using h1
  by_cases h2:key y x=-1
  ·have HF:Hid (key x y=1):=by unfold Hid;omega
   have e2:Op.bytesLess y.toList x.toList=true:=by rw[k2];simpa using h2
   have e3:(x.toList == y.toList)=false:=by rw[beq_toList,decide_eq_false_iff_not];intro e;have:=(zai x y).2 e;omega
   clear k1 k2 k3 k4 h1 h2;go_enter Tryz.func118,Tryz.ntmps118;go_wp2_with fail
   go_ret;exact⟨zq HF.o.symm,rfl⟩
  ·have HF:Hid (key x y=0):=by unfold Hid;omega
   have e2:Op.bytesLess y.toList x.toList=false:=by rw[k2];simpa using h2
   have e3:(x.toList == y.toList)=true:=by rw[beq_toList,decide_eq_true_eq];exact(zai x y).1 HF.o
   clear k1 k2 k3 k4 h1 h2;go_enter Tryz.func118,Tryz.ntmps118;go_wp2_with fail
   go_ret;exact⟨zq HF.o.symm,rfl⟩
theorem zht (x y z u:BA)(w:World):Calls Tryz.prog 110 #[.s x,.s y,.s z,.s u] w fun e w'=>e=.returned (.i (key2 x y z u))/\w'=w:=by
 by_cases h:key x z=0
 ·have HF:Hid (key2 x y z u=key y u):=by unfold Hid key2;rw[if_pos h]
  have e1:(key x z != 0)=false:=by simpa using h
  clear h;go_enter Tryz.func110,Tryz.ntmps110
  go_wp2_with (go_at_call 118;refine(zhV _ _ _).mono ?_;rintro e w2⟨rfl,rfl⟩)
  go_ret;exact⟨zq HF.o.symm,rfl⟩
 ·have HF:Hid (key2 x y z u=key x z):=by unfold Hid key2;rw[if_neg h]
  have e1:(key x z != 0)=true:=by simpa using h
  clear h;go_enter Tryz.func110,Tryz.ntmps110
  go_wp2_with (go_at_call 118;refine(zhV _ _ _).mono ?_;rintro e w2⟨rfl,rfl⟩)
  go_ret;exact⟨zq HF.o.symm,rfl⟩
theorem zff (p q:Pu)(w:World):Calls Tryz.prog 71 #[.agg p.cells,.agg q.cells] w fun e w'=>e=.returned (.i (yg p q))/\Bw w w':=by
 unfold Pu.cells
 by_cases h:p.dr=q.dr
 ·have HF:Hid (yg p q=key2 p.tm p.rs q.tm q.rs):=by unfold Hid yg;rw[if_pos ((zai _ _).2 h)]
  have e1:(p.dr.toList == q.dr.toList)=true:=by rw[beq_toList];simpa using h
  clear h;go_enter Tryz.func71,Tryz.ntmps71;go_wp2_with fail
  refine(zht _ _ _ _ _).mono ?_;rintro e w2⟨rfl,rfl⟩;go_wp2_with fail
  go_ret;exact⟨zq HF.o.symm,zw _ _ _⟩
 ·have HF:Hid (yg p q=key p.dr q.dr):=by unfold Hid yg;rw[if_neg (fun e=>h ((zai _ _).1 e))]
  have e1:(p.dr.toList == q.dr.toList)=false:=by rw[beq_toList];simpa using h
  clear h;go_enter Tryz.func71,Tryz.ntmps71;go_wp2_with fail
  refine(zhV _ _ _).mono ?_;rintro e w2⟨rfl,rfl⟩;go_wp2_with fail
  go_ret;exact⟨zq HF.o.symm,zw _ _ _⟩
theorem zm5 (b:Bk)(a0 a1 a2 a3:OA)(c0 c1 c2 c3:Nat)(kd nm:BA)(w:World)(hb:jk w b a0 a1 a2 a3)(hl:b.os.length<=1048576) :
 Calls Tryz.prog 114 #[.agg (b.cells a0 a1 a2 a3 c0 c1 c2 c3),.s kd,.s nm] w fun e w'=>e=.returned (.i (zbZ (zb7 kd nm) b.os))/\Bw w w':=by
 have HK:Hid (jk w b a0 a1 a2 a3):=hb;clear hb;unfold Bk.cells;go_enter Tryz.func114,Tryz.ntmps114;go_wp2_with fail
 have hX0:=zl w (bC b a0 a1 a2 a3 c0 c1 c2 c3) 40;have HB0:Hid (Bw w (w.alloc (.cells (bC b a0 a1 a2 a3 c0 c1 c2 c3) 40))):=bAl _ _;obtain⟨W0,hW0⟩:=Go.Proofs.YtbfgkhgmnfghgaaGreat.nm (w.alloc (.cells (bC b a0 a1 a2 a3 c0 c1 c2 c3) 40));have hz0:w.heap.size<W0.heap.size:=by rw[hW0];simp
 rw[<- hW0]at HB0 hX0 ⊢;clear hW0
 go_loopw [7] (fun iv wr=>∃k:Nat,k<=b.os.length/\iv=.i k/\Hid (∀i (hi:i<b.os.length),i<k->zb7 kd nm b.os[i]=false)/\wr=W0) (fun iv _=>b.os.length-(intOf iv).toNat)
 case atStart=>exact⟨0,Nat.zero_le _,rfl,fun i hi h=>by omega,rfl⟩
 case round=>
  obtain⟨k,hk,rfl,HQ,rfl⟩:=hrel;have hkn:k<=1048576:=by omega
  by_cases hlt:k<b.os.length
  ·obtain⟨ob,off,v0,v1,q0,q1,rfl,hob,hsm,hl0,hl1,d0,d1,d2,d3,d4,d5,d6⟩:=HK.o.os.load HB0.o k hlt
   have hltI:(k:Int)<(b.os.length:Int):=by omega
   clear hsm hl0 hl1
   by_cases h1:b.os[k].kd=kd
   ·have e1:(b.os[k].kd.toList == kd.toList)=true:=by rw[beq_toList];simpa using h1
    by_cases h2:b.os[k].nm=nm
    ·have e2:(b.os[k].nm.toList == nm.toList)=true:=by rw[beq_toList];simpa using h2
     have HF:Hid (zbZ (zb7 kd nm) b.os=k):=zl4 hlt HQ.o (by unfold zb7;simp[h1,h2]);clear h1 h2;go_wp2_with fail
     go_ret;exact⟨zq HF.o.symm,HB0.o⟩
    ·have e2:(b.os[k].nm.toList == nm.toList)=false:=by rw[beq_toList];simpa using h2
     have HN:Hid (∀i (hi:i<b.os.length),i<k+1->zb7 kd nm b.os[i]=false):=by
      intro i hi h
      rcases Nat.eq_or_lt_of_le (Nat.le_of_lt_succ h) with e|h'
      ·subst e;unfold zb7;simp[h2]
      ·exact HQ.o i hi h'
     clear h1 h2;go_wp2_with fail
     exact⟨⟨k+1,by omega,by go_num,HN.o,trivial⟩,zn hlt⟩
   ·have e1:(b.os[k].kd.toList == kd.toList)=false:=by rw[beq_toList];simpa using h1
    have HN:Hid (∀i (hi:i<b.os.length),i<k+1->zb7 kd nm b.os[i]=false):=by
     intro i hi h
     rcases Nat.eq_or_lt_of_le (Nat.le_of_lt_succ h) with e|h'
     ·subst e;unfold zb7;simp[h1]
     ·exact HQ.o i hi h'
    clear h1;go_wp2_with fail
    exact⟨⟨k+1,by omega,by go_num,HN.o,trivial⟩,zn hlt⟩
  ·have HF:Hid (zbZ (zb7 kd nm) b.os=-1):=zh3 fun i hi=>HQ.o i hi (by omega)
   clear HQ;go_wp2_with fail
   go_ret;exact⟨zq HF.o.symm,HB0.o⟩
theorem zeh (b:Bk)(a0 a1 a2 a3:OA)(c0 c1 c2 c3:Nat)(tm rs:BA)(w:World)(hb:jk w b a0 a1 a2 a3)(hl:b.ls.length<=1048576) :
 Calls Tryz.prog 24 #[.agg (b.cells a0 a1 a2 a3 c0 c1 c2 c3),.s tm,.s rs] w fun e w'=>e=.returned (.i (zbZ (zam tm rs) b.ls))/\Bw w w':=by
 have HK:Hid (jk w b a0 a1 a2 a3):=hb;clear hb;unfold Bk.cells;go_enter Tryz.func24,Tryz.ntmps24;go_wp2_with fail
 have hX0:=zl w (bC b a0 a1 a2 a3 c0 c1 c2 c3) 40;have HB0:Hid (Bw w (w.alloc (.cells (bC b a0 a1 a2 a3 c0 c1 c2 c3) 40))):=bAl _ _;obtain⟨W0,hW0⟩:=nm (w.alloc (.cells (bC b a0 a1 a2 a3 c0 c1 c2 c3) 40));have hz0:w.heap.size<W0.heap.size:=by rw[hW0];simp
 rw[<- hW0]at HB0 hX0 ⊢;clear hW0
 go_loopw [7] (fun iv wr=>∃k:Nat,k<=b.ls.length/\iv=.i k/\Hid (∀i (hi:i<b.ls.length),i<k->zam tm rs b.ls[i]=false)/\wr=W0) (fun iv _=>b.ls.length-(intOf iv).toNat)
 case atStart=>exact⟨0,Nat.zero_le _,rfl,fun i hi h=>by omega,rfl⟩
 case round=>
  obtain⟨k,hk,rfl,HQ,rfl⟩:=hrel;have hkn:k<=1048576:=by omega
  by_cases hlt:k<b.ls.length
  ·obtain⟨ob,off,rfl,hob,d0,d1,d2,d3⟩:=HK.o.ls.load HB0.o k hlt
   have hltI:(k:Int)<(b.ls.length:Int):=by omega
   clear d2 d3
   by_cases h1:b.ls[k].tm=tm
   ·have e1:(b.ls[k].tm.toList == tm.toList)=true:=by rw[beq_toList];simpa using h1
    by_cases h2:b.ls[k].rs=rs
    ·have e2:(b.ls[k].rs.toList == rs.toList)=true:=by rw[beq_toList];simpa using h2
     have HF:Hid (zbZ (zam tm rs) b.ls=k):=zl4 hlt HQ.o (by unfold zam;simp[h1,h2]);clear h1 h2;go_wp2_with fail
     go_ret;exact⟨zq HF.o.symm,HB0.o⟩
    ·have e2:(b.ls[k].rs.toList == rs.toList)=false:=by rw[beq_toList];simpa using h2
     have HN:Hid (∀i (hi:i<b.ls.length),i<k+1->zam tm rs b.ls[i]=false):=by
      intro i hi h
      rcases Nat.eq_or_lt_of_le (Nat.le_of_lt_succ h) with e|h'
      ·subst e;unfold zam;simp[h2]
      ·exact HQ.o i hi h'
     clear h1 h2;go_wp2_with fail
     exact⟨⟨k+1,by omega,by go_num,HN.o,trivial⟩,zn hlt⟩
   ·have e1:(b.ls[k].tm.toList == tm.toList)=false:=by rw[beq_toList];simpa using h1
    have HN:Hid (∀i (hi:i<b.ls.length),i<k+1->zam tm rs b.ls[i]=false):=by
     intro i hi h
     rcases Nat.eq_or_lt_of_le (Nat.le_of_lt_succ h) with e|h'
     ·subst e;unfold zam;simp[h1]
     ·exact HQ.o i hi h'
    clear h1;go_wp2_with fail
    exact⟨⟨k+1,by omega,by go_num,HN.o,trivial⟩,zn hlt⟩
  ·have HF:Hid (zbZ (zam tm rs) b.ls=-1):=zh3 fun i hi=>HQ.o i hi (by omega)
   clear HQ;go_wp2_with fail
   go_ret;exact⟨zq HF.o.symm,HB0.o⟩
set_option maxRecDepth 20000 in
theorem zn7 (own0:Nat->Lb)(a:OA)(cap:Nat)(xs:List Ob)(w:World)(hw:zbC w a xs)(hl:xs.length<=1048576)(hls:∀i (h:i<xs.length),xs[i].vs.length<=1048576/\xs[i].hs.length<=1048576) :
 Calls Tryz.prog 81 #[.l a xs.length cap,.func (.func 82) #[] #[]] w fun e w'=>∃v own,e=.returned v/\(∀k,k<w.heap.size->own k=own0 k)/\zhl w.heap.size w' own v xs/\Bw w w':=by
 obtain⟨i0,hi,hzi,hz1',hz2'⟩:=info_parts Tryz.zrB;have HI:Hid (Tryz.prog.info? 123=some i0/\i0.zero=some (.agg oZ)/\i0.size=7/\i0.bytes=112):=⟨hi,hzi,hz1',hz2'⟩
 have HK:=hid hw;have HL:=yU hl hls;clear hw hi hzi hz1' hz2' hls;go_enter Tryz.func81,Tryz.ntmps81;go_wp2_with fail
 go_loopw [5,10] (fun v0 iv wr=>∃(k:Nat) (v:Value) (own:Nat->Lb),v=v0/\k<=xs.length/\iv=.i k/\Hid (zhl w.heap.size wr own v (xs.take k)/\(∀q,q<w.heap.size->own q=own0 q)/\Bw w wr)) (fun _ iv _=>xs.length-(intOf iv).toNat)
 case atStart=>exact⟨0,_,own0,rfl,Nat.zero_le _,rfl,⟨[],by simp,World.ownsRow_nil _ _ _ _,fun k hk=>by simp[Value.ownBlock]at hk,fun i hi=>absurd hi (by simp)⟩,fun _ _=>rfl,bRf _ _⟩
 case round=>
  obtain⟨k,v,own,hv,hk,rfl,HQ⟩:=hrel;subst hv
  by_cases hlt:k<xs.length
  ·obtain⟨ob,off,va0,va1,vc0,vc1,rfl,hob,hsm,hi0,hi1,d0,d1,d2,d3,d4,d5,d6⟩:=HK.o.load HQ.o.2.2 k hlt
   have hob':=nLt hob HQ.o.2.2.size;have hltI:(k:Int)<(xs.length:Int):=by omega
   have HI0:=hid hi0;have HI1:=hid hi1;have HBa:=hid ((bRf wr.heap.size wr).alloc (Nat.le_refl _) (.cells #[.s xs[k].kd,.s xs[k].nm,.s xs[k].tm,.l va0 xs[k].vs.length vc0,.bool xs[k].en,.l va1 xs[k].hs.length vc1,.i xs[k].vr] 123));clear hi0 hi1;go_wp2_with fail
   clear d0 d1 d2 d3 d4 d5 d6;refine(zfe xs[k] va0 va1 vc0 vc1 _ ⟨hsm,HI0.o.mono HBa.o,HI1.o.mono HBa.o⟩ (HL.o.2 k hlt).1 (HL.o.2 k hlt).2).mono ?_;rintro e w1⟨a0,c0,a1,c1,m,rfl,ht0,hm,hsm1,ht1,hb1⟩;have hzW:wr.heap.size<=(wr.alloc (.cells #[.s xs[k].kd,.s xs[k].nm,.s xs[k].tm,.l va0 xs[k].vs.length vc0,.bool xs[k].en,.l va1 xs[k].hs.length vc1,.i xs[k].vr] 123)).heap.size:=by simp
   have HT:Hid (zo wr.heap.size w1 a0 xs[k].vs/\(∀g,a0=some g->g.block<m)/\wr.heap.size<=m/\zo m w1 a1 xs[k].hs):=⟨ht0.low hzW,hm,Nat.le_trans hzW hsm1,ht1⟩
   clear ht0 hm hsm1 ht1;have HB1:=hid (HBa.o.trans (hb1.mono hzW));clear hb1 HBa HI0 HI1 hsm;obtain⟨ps,hps,hown,hlab,hent⟩:=HQ.o.1;have HPS:=zbT hps hown hlab hent;have hpl:ps.length=(xs.take k).length:=by rw[<- hps,List.length_map]
   rw[List.length_take]at hpl;have HLL:Hid (ps.length<=1048576/\w.heap.size<=wr.heap.size/\wr.heap.size<=w1.heap.size):=⟨by omega,HQ.o.2.2.size,HB1.o.size⟩
   clear hpl;have hown1:w1.ownsRow w.heap.size 123 7 v ps.length (ps.flatMap ObP.row):=yE hown HB1.o;clear hps hown hlab hent
   go_wp2_with (at_builtin;refine wpList_append_own_at _ rfl (.tmp 14) (.tmp 18) 35 rfl w.heap.size 123 i0 (.agg #[.s ByteArray.empty,.s ByteArray.empty,.s ByteArray.empty,.l none 0 0,.bool false,.l none 0 0,.i 0]) 7 112 Tryz.underlying35 HI.o.1 HI.o.2.1 HI.o.2.2.1 HI.o.2.2.2 rfl (by decide) _ _ _ rfl (hown1.alloc _) (aD w1.heap.size 0) 1 1 [.s xs[k].kd,.s xs[k].nm,.s xs[k].tm,.l a0 xs[k].vs.length c0,.bool xs[k].en,.l a1 xs[k].hs.length c1,.i xs[k].vr] rfl rfl (zfh _ _ _) (by intro u hu;simp at hu;rcases hu with rfl|rfl|rfl|rfl|rfl|rfl|rfl <;> rfl) (by have:=HLL.o;unfold maxLen;omega) (by have:=HLL.o;omega) (by have:=HLL.o;simp;omega) ?_;intro v' w4 hown' hgr _ hat)
   obtain⟨own',ho1,ho2⟩:=zhl.snoc HPS.o.1 HPS.o.2.1 HPS.o.2.2.1 HPS.o.2.2.2 HLL.o.2.1 HB1.o HT.o.1 HT.o.2.1 HT.o.2.2.1 HT.o.2.2.2 hgr hown' hat;exact⟨⟨k+1,v',own',rfl,by omega,by go_num,by rw[tSe hlt];exact ho2,fun z hz=>(ho1 z (by have:=HLL.o;omega)).trans (HQ.o.2.1 z hz),((HQ.o.2.2.trans (HB1.o.mono HLL.o.2.1)).alloc (by have:=HLL.o;omega) _).grown hgr (by have:=HLL.o;simp;omega) (fun z hz=>(HPS.o.2.1.lt z hz).1)⟩,zn hlt⟩
  ·have e:k=xs.length:=by omega
   subst e;have HE:=HQ;rw[tOl (Nat.le_refl _)]at HE;clear HQ;go_wp2_with fail
   go_ret;exact⟨v,own,rfl,HE.o.2.1,HE.o.1,HE.o.2.2⟩
set_option maxRecDepth 20000 in
theorem zm2 (own0:Nat->Lb)(a:OA)(cap:Nat)(xs:List Gr)(w:World)(hw:zcj w a xs)(hl:xs.length<=1048576)(hls:∀i (h:i<xs.length),xs[i].r.vs.length<=1048576) :
 Calls Tryz.prog 83 #[.l a xs.length cap,.func (.func 84) #[] #[]] w fun e w'=>∃v own,e=.returned v/\(∀k,k<w.heap.size->own k=own0 k)/\zhm w.heap.size w' own v xs/\Bw w w':=by
 obtain⟨i0,hi,hzi,hz1',hz2'⟩:=info_parts Tryz.zrh;have HI:Hid (Tryz.prog.info? 127=some i0/\i0.zero=some (.agg #[.i 0,.s ByteArray.empty,.s ByteArray.empty,.l none 0 0,.s ByteArray.empty,.s ByteArray.empty,.s ByteArray.empty])/\i0.size=7/\i0.bytes=112):=⟨hi,hzi,hz1',hz2'⟩
 have HK:=hid hw;have HL:=yU hl hls;clear hw hi hzi hz1' hz2' hls;go_enter Tryz.func83,Tryz.ntmps83;go_wp2_with fail
 go_loopw [5,10] (fun v0 iv wr=>∃(k:Nat) (v:Value) (own:Nat->Lb),v=v0/\k<=xs.length/\iv=.i k/\Hid (zhm w.heap.size wr own v (xs.take k)/\(∀q,q<w.heap.size->own q=own0 q)/\Bw w wr)) (fun _ iv _=>xs.length-(intOf iv).toNat)
 case atStart=>exact⟨0,_,own0,rfl,Nat.zero_le _,rfl,⟨[],by simp,World.ownsRow_nil _ _ _ _,fun k hk=>by simp[Value.ownBlock]at hk,fun i hi=>absurd hi (by simp)⟩,fun _ _=>rfl,bRf _ _⟩
 case round=>
  obtain⟨k,v,own,hv,hk,rfl,HQ⟩:=hrel;subst hv
  by_cases hlt:k<xs.length
  ·obtain⟨ob,off,va0,vc0,rfl,hob,hsm,hi0,d0,d1,d2,d3,d4,d5,d6⟩:=HK.o.load HQ.o.2.2 k hlt
   have hob':=nLt hob HQ.o.2.2.size;have hltI:(k:Int)<(xs.length:Int):=by omega
   have HI0:=hid hi0;have HBa:=hid ((bRf wr.heap.size wr).alloc (Nat.le_refl _) (.cells #[.i xs[k].no,.s xs[k].to,.s xs[k].gb,.l va0 xs[k].r.vs.length vc0,.s xs[k].r.kd,.s xs[k].r.tm,.s xs[k].r.px] 127));clear hi0;go_wp2_with fail
   clear d0 d1 d2 d3 d4 d5 d6;refine(zlc xs[k] va0 vc0 _ (HI0.o.mono HBa.o) (HL.o.2 k hlt)).mono ?_;rintro e w1⟨a0,c0,rfl,ht0,hb1⟩;have hzW:wr.heap.size<=(wr.alloc (.cells #[.i xs[k].no,.s xs[k].to,.s xs[k].gb,.l va0 xs[k].r.vs.length vc0,.s xs[k].r.kd,.s xs[k].r.tm,.s xs[k].r.px] 127)).heap.size:=by simp
   have HT:Hid (yu wr.heap.size w1 a0 xs[k].r.vs):=ht0.low hzW;clear ht0;have HB1:=hid (HBa.o.trans (hb1.mono hzW));clear hb1 HBa HI0 hsm;obtain⟨ps,hps,hown,hlab,hent⟩:=HQ.o.1;have HPS:=zbT hps hown hlab hent;have hpl:ps.length=(xs.take k).length:=by rw[<- hps,List.length_map]
   rw[List.length_take]at hpl;have HLL:Hid (ps.length<=1048576/\w.heap.size<=wr.heap.size/\wr.heap.size<=w1.heap.size):=⟨by omega,HQ.o.2.2.size,HB1.o.size⟩
   clear hpl;have hown1:w1.ownsRow w.heap.size 127 7 v ps.length (ps.flatMap GrP.row):=yE hown HB1.o;clear hps hown hlab hent
   go_wp2_with (at_builtin;refine wpList_append_own_at _ rfl (.tmp 14) (.tmp 18) 36 rfl w.heap.size 127 i0 (.agg #[.i 0,.s ByteArray.empty,.s ByteArray.empty,.l none 0 0,.s ByteArray.empty,.s ByteArray.empty,.s ByteArray.empty]) 7 112 Tryz.underlying36 HI.o.1 HI.o.2.1 HI.o.2.2.1 HI.o.2.2.2 rfl (by decide) _ _ _ rfl (hown1.alloc _) (aD w1.heap.size 0) 1 1 [.i xs[k].no,.s xs[k].to,.s xs[k].gb,.l a0 xs[k].r.vs.length c0,.s xs[k].r.kd,.s xs[k].r.tm,.s xs[k].r.px] rfl rfl (zfh _ _ _) (by intro u hu;simp at hu;rcases hu with rfl|rfl|rfl|rfl|rfl|rfl|rfl <;> rfl) (by have:=HLL.o;unfold maxLen;omega) (by have:=HLL.o;omega) (by have:=HLL.o;simp;omega) ?_;intro v' w4 hown' hgr _ hat)
   obtain⟨own',ho1,ho2⟩:=zhm.snoc HPS.o.1 HPS.o.2.1 HPS.o.2.2.1 HPS.o.2.2.2 HLL.o.2.1 HB1.o HT.o hgr hown' hat;exact⟨⟨k+1,v',own',rfl,by omega,by go_num,by rw[tSe hlt];exact ho2,fun z hz=>(ho1 z (by have:=HLL.o;omega)).trans (HQ.o.2.1 z hz),((HQ.o.2.2.trans (HB1.o.mono HLL.o.2.1)).alloc (by have:=HLL.o;omega) _).grown hgr (by have:=HLL.o;simp;omega) (fun z hz=>(HPS.o.2.1.lt z hz).1)⟩,zn hlt⟩
  ·have e:k=xs.length:=by omega
   subst e;have HE:=HQ;rw[tOl (Nat.le_refl _)]at HE;clear HQ;go_wp2_with fail
   go_ret;exact⟨v,own,rfl,HE.o.2.1,HE.o.1,HE.o.2.2⟩
theorem zan {a b c:Pu}(h:yg a b<0)(h':yg b c<0):yg a c<0:=by
 unfold yg at h h' ⊢
 by_cases h1:key a.dr b.dr=0
 ·rw[if_pos h1]at h
  have e1:=(zai _ _).1 h1;rw[e1]
  by_cases h2:key b.dr c.dr=0
  ·rw[if_pos h2]at h' ⊢
   exact zkw h h'
  ·rw[if_neg h2]at h' ⊢
   exact h'
 ·rw[if_neg h1]at h
  by_cases h2:key b.dr c.dr=0
  ·have e1:=(zai _ _).1 h2
   rw[<- e1,if_neg h1];exact h
  ·rw[if_neg h2]at h'
   have h3:=zhJ h h';rw[if_neg (by omega)];exact h3
theorem zbV {a b:Pu}:yg a b=0↔a.dr=b.dr/\a.tm=b.tm/\a.rs=b.rs:=by
 unfold yg
 by_cases h:key a.dr b.dr=0
 ·rw[if_pos h,zd6]
  exact⟨fun e=>⟨(zai _ _).1 h,e⟩,fun e=>e.2⟩
 ·rw[if_neg h]
  exact⟨fun e=>absurd e h,fun e=>absurd ((zai _ _).2 e.1) h⟩
def zcB (dr tm rs:BA)(p:Pu):Bool:=decide (p.dr=dr)&&(decide (p.tm=tm)&&decide (p.rs=rs))
def yP (ps:List Pu)(dr tm rs:BA):Bool:=ps.any (zcB dr tm rs)
structure zbf (ps:List Pu)(dr tm rs:BA)(k:Nat):Prop where
 le:k<=ps.length
 below:∀(u v:Int) i (h:i<ps.length),i<k->yg ps[i] ⟨dr,tm,rs,u,v⟩<0
 above:∀(u v:Int) i (h:i<ps.length),k<=i->0<=yg ps[i] ⟨dr,tm,rs,u,v⟩
theorem zbf.found {ps:List Pu}{dr tm rs:BA}{k:Nat}(h:zbf ps dr tm rs k)(hr:rising yg ps):yP ps dr tm rs=true↔∃hp:k<ps.length,ps[k].dr=dr/\ps[k].tm=tm/\ps[k].rs=rs:=by
 unfold yP;rw[List.any_eq_true]
 constructor
 ·rintro⟨g,hg,he⟩
  obtain⟨i,hi,rfl⟩:=List.mem_iff_getElem.1 hg;unfold zcB at he;simp only[Bool.and_eq_true,decide_eq_true_eq]at he;have hz:yg ps[i] ⟨dr,tm,rs,0,0⟩=0:=zbV.2 he
  have hpi:k<=i:=by
   rcases Nat.lt_or_ge i k with hlt|hge
   ·have:=h.below 0 0 i hi hlt;omega
   ·exact hge
  rcases Nat.eq_or_lt_of_le hpi with e|hlt
  ·subst e;exact⟨hi,he⟩
  ·have h1:=zaz (fun a b c=>zan (a:=a) (b:=b) (c:=c)) hr i hi k hlt
   have h2:=h.above ps[i].am ps[i].un k (by omega) (Nat.le_refl _);have e9:(⟨dr,tm,rs,ps[i].am,ps[i].un⟩:Pu)=ps[i]:=by rw[<- he.1,<- he.2.1,<- he.2.2]
   rw[e9]at h2;omega
 ·rintro⟨hp,he⟩
  exact⟨ps[k],List.getElem_mem _,by unfold zcB;simp[he.1,he.2.1,he.2.2]⟩
theorem zjl (a:OA)(cap:Nat)(ms:List Pu)(t:Pu)(w:World)(hw:zaP w a ms)(hl:ms.length<=1000)(hr:rising yg ms) :
 Calls Tryz.prog 183 #[.l a ms.length cap,.agg t.cells,.func (.func 176) #[] #[]] w fun e w'=>(∃p:Nat,e=.returned (.tuple #[.i p,.bool (yP ms t.dr t.tm t.rs)])/\zbf ms t.dr t.tm t.rs p)/\Bw w w':=by
 have HW:=hid hw;have HR:Hid (rising yg ms):=hr;clear hw hr;unfold Pu.cells;go_enter Tryz.func183,Tryz.ntmps183;go_wp2_with fail
 have hT0:=zl w #[.s t.dr,.s t.tm,.s t.rs,.i t.am,.i t.un] 70;have HB0:Hid (Bw w (w.alloc (.cells #[.s t.dr,.s t.tm,.s t.rs,.i t.am,.i t.un] 70))):=bAl _ _;obtain⟨W0,hW0⟩:=nm (w.alloc (.cells #[.s t.dr,.s t.tm,.s t.rs,.i t.am,.i t.un] 70));have hz0:w.heap.size<W0.heap.size:=by rw[hW0];simp
 rw[<- hW0]at HB0 hT0 ⊢;clear hW0;have hlI:(ms.length:Int)<=1000:=by omega
 go_loopw [9,10] (fun iv jv wr=>∃lo hi:Nat,iv=.i lo/\jv=.i hi/\lo<=hi/\hi<=ms.length/\Hid ((∀i (h:i<ms.length),i<lo->yg ms[i] t<0)/\(∀i (h:i<ms.length),hi<=i->0<=yg ms[i] t)/\Bw W0 wr)) (fun iv jv _=>(intOf jv).toNat-(intOf iv).toNat)
 case atStart=>exact⟨0,ms.length,rfl,rfl,Nat.zero_le _,Nat.le_refl _,fun i h h'=>by omega,fun i h h'=>by omega,bRf _ _⟩
 case round=>
  obtain⟨lo,hi,rfl,rfl,hlh,hhn,HQ⟩:=hrel;have hT:=za hT0 hz0 HQ.o.2.2;have hzT:=nLt hz0 HQ.o.2.2.size;have HBr:=hid (HB0.o.trans (HQ.o.2.2.mono HB0.o.size));have HBW:Hid (∀W,Bw w W->Bw wr W->Bw W0 W):=fun W _ h=>HQ.o.2.2.trans (h.mono HQ.o.2.2.size)
  have hloI:(lo:Int)<=1000:=by omega
  have hhiI:(hi:Int)<=1000:=by omega
  by_cases hlt:lo<hi
  ·obtain⟨m,hm⟩:=nm ((lo+hi) / 2)
   have HM1:Hid (lo<=m/\m<hi):=⟨by omega,by omega⟩
   have hml:m<ms.length:=by omega
   have hmI:((lo:Int)+(hi:Int)) / 2=(m:Int):=by omega
   clear hm;obtain⟨b,off,rfl,hb,d0,d1,d2,d3,d4⟩:=HW.o.load HBr.o m hml;have hb':=nLt hb HBr.o.size;have hmlI:(m:Int)<(ms.length:Int):=by omega
   have hS:(∀j,wr.drew.cell? (aD w.heap.size j)=(#[.s t.dr,.s t.tm,.s t.rs,.i t.am,.i t.un]:AV)[j]?)/\wr.drew.cell? (aD b (off+m*5))=some (.s ms[m].dr)/\wr.drew.cell? (aD b (off+m*5+1))=some (.s ms[m].tm)/\wr.drew.cell? (aD b (off+m*5+2))=some (.s ms[m].rs)/\wr.drew.cell? (aD b (off+m*5+3))=some (.i ms[m].am)/\wr.drew.cell? (aD b (off+m*5+4))=some (.i ms[m].un):=⟨hT,d0,d1,d2,d3,d4⟩
   clear d0 d1 d2 d3 d4 hT;go_wp2_with fail
   go_region_held3 (fun w'=>(∀j,w'.cell? (aD w.heap.size j)=(#[.s t.dr,.s t.tm,.s t.rs,.i t.am,.i t.un]:AV)[j]?)/\w'.cell? (aD b (off+m*5))=some (.s ms[m].dr)/\w'.cell? (aD b (off+m*5+1))=some (.s ms[m].tm)/\w'.cell? (aD b (off+m*5+2))=some (.s ms[m].rs)/\w'.cell? (aD b (off+m*5+3))=some (.i ms[m].am)/\w'.cell? (aD b (off+m*5+4))=some (.i ms[m].un)) (exact hS) (first|(go_at_call 176;refine(zdg ms[m] t _).mono ?_;rintro e w2⟨rfl,hb2⟩;have hS:=(⟨za hS.1 hzT hb2,(hb2.cell (p:=(aD b _)) hb').trans hS.2.1,(hb2.cell (p:=(aD b _)) hb').trans hS.2.2.1,(hb2.cell (p:=(aD b _)) hb').trans hS.2.2.2.1,(hb2.cell (p:=(aD b _)) hb').trans hS.2.2.2.2.1,(hb2.cell (p:=(aD b _)) hb').trans hS.2.2.2.2.2⟩:_/\_/\_/\_/\_/\_);have hB2:=HBr.o.drew.trans (hb2.mono HBr.o.drew.size);have hB2':=(bRf wr.heap.size wr).drew.trans hb2;clear hb2))
   have HB2:=hid (HBW.o w2 hB2 hB2')
   by_cases hk:yg ms[m] t<0
   ·have hd:decide (yg ms[m] t<0)=true:=by simpa using hk
    have HA:Hid (∀i (h:i<ms.length),i<m+1->yg ms[i] t<0):=by
     intro i hi him
     rcases Nat.eq_or_lt_of_le (Nat.le_of_lt_succ him) with e|hlt'
     ·subst e;exact hk
     ·exact zan (zaz (fun a b c=>zan (a:=a) (b:=b) (c:=c)) HR.o m hml i hlt') hk
    rw[hd];clear hd hk hS;go_wp2_with fail
    exact⟨⟨m+1,hi,by go_num,rfl,HM1.o.2,hhn,HA.o,HQ.o.2.1,HB2.o⟩,by have:=HM1.o;show(hi:Int).toNat-((m:Int)+1).toNat<(hi:Int).toNat-(lo:Int).toNat;omega⟩
   ·have hd:decide (yg ms[m] t<0)=false:=by simpa using hk
    have HA:Hid (∀i (h:i<ms.length),m<=i->0<=yg ms[i] t):=by
     intro i hi him
     rcases Nat.eq_or_lt_of_le him with e|hlt'
     ·subst e;omega
     ·rcases Int.lt_or_le (yg ms[i] t) 0 with h1|h1
      ·exact absurd (zan (zaz (fun a b c=>zan (a:=a) (b:=b) (c:=c)) HR.o i hi m hlt') h1) hk
      ·exact h1
    rw[hd];clear hd hk hS;go_wp2_with fail
    exact⟨⟨lo,m,rfl,rfl,HM1.o.1,Nat.le_of_lt hml,HQ.o.1,HA.o,HB2.o⟩,by have:=HM1.o;show(m:Int).toNat-(lo:Int).toNat<(hi:Int).toNat-(lo:Int).toNat;omega⟩
  ·have e:hi=lo:=by omega
   subst e;have HA:Hid (zbf ms t.dr t.tm t.rs hi):=⟨hhn,fun _ _=>HQ.o.1,fun _ _=>HQ.o.2.1⟩
   clear HQ
   by_cases hn:hi<ms.length
   ·obtain⟨b,off,rfl,hb,d0,d1,d2,d3,d4⟩:=HW.o.load HBr.o hi hn
    have hb':b<wr.heap.size:=nLt hb HBr.o.size;have hnI:(hi:Int)<(ms.length:Int):=by omega
    have hS:(∀j,wr.drew.cell? (aD w.heap.size j)=(#[.s t.dr,.s t.tm,.s t.rs,.i t.am,.i t.un]:AV)[j]?)/\wr.drew.cell? (aD b (off+hi*5))=some (.s ms[hi].dr)/\wr.drew.cell? (aD b (off+hi*5+1))=some (.s ms[hi].tm)/\wr.drew.cell? (aD b (off+hi*5+2))=some (.s ms[hi].rs)/\wr.drew.cell? (aD b (off+hi*5+3))=some (.i ms[hi].am)/\wr.drew.cell? (aD b (off+hi*5+4))=some (.i ms[hi].un):=⟨hT,d0,d1,d2,d3,d4⟩
    have HFd:Hid (yP ms t.dr t.tm t.rs=(yg ms[hi] t == 0)):=by
     unfold Hid;rw[Bool.eq_iff_iff,HA.o.found HR.o,beq_iff_eq];rw[zbV];exact⟨fun h=>h.2,fun h=>⟨hn,h⟩⟩
    clear d0 d1 d2 d3 d4 hT hlt;go_wp2_with fail
    go_region_held3 (fun w'=>(∀j,w'.cell? (aD w.heap.size j)=(#[.s t.dr,.s t.tm,.s t.rs,.i t.am,.i t.un]:AV)[j]?)/\w'.cell? (aD b (off+hi*5))=some (.s ms[hi].dr)/\w'.cell? (aD b (off+hi*5+1))=some (.s ms[hi].tm)/\w'.cell? (aD b (off+hi*5+2))=some (.s ms[hi].rs)/\w'.cell? (aD b (off+hi*5+3))=some (.i ms[hi].am)/\w'.cell? (aD b (off+hi*5+4))=some (.i ms[hi].un)) (exact hS) (first|(go_at_call 176;refine(zdg ms[hi] t _).mono ?_;rintro e w2⟨rfl,hb2⟩;have hS:=(⟨za hS.1 hzT hb2,(hb2.cell (p:=(aD b _)) hb').trans hS.2.1,(hb2.cell (p:=(aD b _)) hb').trans hS.2.2.1,(hb2.cell (p:=(aD b _)) hb').trans hS.2.2.2.1,(hb2.cell (p:=(aD b _)) hb').trans hS.2.2.2.2.1,(hb2.cell (p:=(aD b _)) hb').trans hS.2.2.2.2.2⟩:_/\_/\_/\_/\_/\_);have hB2:=HBr.o.drew.trans (hb2.mono HBr.o.drew.size);have hB2':=(bRf wr.heap.size wr).drew.trans hb2;clear hb2))
    go_wp2_with fail
    go_ret2
    exact⟨⟨hi,by rw[HFd.o];rfl,HA.o⟩,hB2⟩
   ·have hnI:¬(hi:Int)<(ms.length:Int):=by omega
    have HFd:Hid (yP ms t.dr t.tm t.rs=false):=by
     unfold Hid;rw[Bool.eq_false_iff];intro h;obtain⟨hp,_⟩:=(HA.o.found HR.o).1 h;exact hn hp
    clear hlt;go_wp2_with fail
    go_quiet (fail)
    go_wp2_with fail
    go_ret2
    exact⟨⟨hi,by rw[HFd.o];rfl,HA.o⟩,below_drewN HBr.o _⟩
theorem zj1 (a:OA)(cap:Nat)(ms:List Pu)(dr tm rs:BA)(w:World)(hw:zaP w a ms)(hl:ms.length<=1000)(hr:rising yg ms) :
 Calls Tryz.prog 136 #[.l a ms.length cap,.s dr,qC tm rs] w fun e w'=>(∃p:Nat,e=.returned (.tuple #[.i p,.bool (yP ms dr tm rs)])/\zbf ms dr tm rs p)/\Bw w w':=by
 unfold qC;go_enter Tryz.func136,Tryz.ntmps136;go_wp2_with fail
 refine(zjl _ _ ms ⟨dr,tm,rs,0,0⟩ _ (hw.mono (bAl _ _)) hl hr).mono ?_;rintro e w1⟨⟨p,rfl,hp⟩,hb⟩;have HB:Hid (Bw w w1):=(bAl _ _).trans (hb.mono (by simp));clear hb;go_wp2_with fail
 go_ret2
 exact⟨⟨p,rfl,hp⟩,HB.o⟩
end Go.Proofs.YtbfgkhgmnfghgaaGreat
