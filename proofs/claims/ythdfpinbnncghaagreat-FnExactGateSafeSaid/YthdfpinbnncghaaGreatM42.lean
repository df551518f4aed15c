import Derived.Test.YthdfpinbnncghaaGreatM40
set_option maxHeartbeats 4000000
namespace Go.Proofs.YthdfpinbnncghaaGreat
open Go.RowKit
def qK (kd fld:BA)(row:List BA)(m:Mnd):Bool:=!(decide (m.kd=kd)&&decide (m.fd=fld))||((!isSet m.wh||has row m.wh)&&(!isSet m.fr||has row m.fr))
def zcD (ms:List Mnd)(kd fld:BA)(row:List BA):Bool:=ms.all (qK kd fld row)
set_option maxRecDepth 20000 in
theorem zoc (a ra:OA)(cap rcap:Nat)(ms:List Mnd)(kd fld:BA)(row:List BA)(w:World)(hm:qZ w a ms)(hr:zJ w ra row)(hml:ms.length<=12) :
 Calls Tryz.prog 192 #[.l a ms.length cap,.s kd,.s fld,.l ra row.length rcap] w fun e w'=>e=.returned (.bool (zcD ms kd fld row))/\Bw w w':=by
 have HM:=ji hm hr;clear hm hr;go_enter Tryz.func192,Tryz.ntmps192;go_wp2_with fail
 go_loopw [9] (fun iv wr=>∃k:Nat,k<=ms.length/\iv=.i k/\(ms.take k).all (qK kd fld row)=true/\Bw w wr) (fun iv _=>ms.length-(intOf iv).toNat)
 case atStart=>exact⟨0,Nat.zero_le _,rfl,rfl,bRf _ _⟩
 case round=>
  obtain⟨k,hk,rfl,hall,hB⟩:=hrel;have HB:=hid hB;have HA:Hid ((ms.take k).all (qK kd fld row)=true):=hall
  by_cases hlt:k<ms.length
  ·obtain⟨b,off,rfl,hb,c0,c1,c2,c3,c4,c5⟩:=HM.o.1.load hB k hlt
   have hltI:(k:Int)<(ms.length:Int):=by omega
   have HTK:Hid ((ms.take (k+1)).all (qK kd fld row)=qK kd fld row ms[k]):=by
    unfold Hid;rw[tSe hlt,List.all_append,HA.o];simp
   have HNO:Hid (qK kd fld row ms[k]=false->zcD ms kd fld row=false):=by
    intro h;unfold zcD;rw[List.all_eq_false];exact⟨_,List.getElem_mem hlt,by rw[h];simp⟩
   have HBA:Hid (Bw w (wr.alloc (.cells #[.s ms[k].kd,.s ms[k].fd,.s ms[k].wh,.s ms[k].wi,.s ms[k].pt,.s ms[k].fr] 141))):=hB.alloc hB.size _;clear hall hB HA
   by_cases e1:ms[k].kd=kd
   rotate_left
   ·have he1:(ms[k].kd.toList == kd.toList)=false:=by rw[beq_toList];simpa using e1
    have HY:Hid (qK kd fld row ms[k]=true):=by unfold Hid qK;simp[e1]
    clear e1;go_wp2_with fail
    exact⟨⟨k+1,by omega,by go_num,by rw[HTK.o];exact HY.o,HBA.o⟩,zw hlt⟩
   have he1:(ms[k].kd.toList == kd.toList)=true:=by rw[beq_toList];simpa using e1
   by_cases e2:ms[k].fd=fld
   rotate_left
   ·have he2:(ms[k].fd.toList == fld.toList)=false:=by rw[beq_toList];simpa using e2
    have HY:Hid (qK kd fld row ms[k]=true):=by unfold Hid qK;simp[e2]
    clear e1 e2;go_wp2_with fail
    exact⟨⟨k+1,by omega,by go_num,by rw[HTK.o];exact HY.o,HBA.o⟩,zw hlt⟩
   have he2:(ms[k].fd.toList == fld.toList)=true:=by rw[beq_toList];simpa using e2
   have HRD:Hid (qK kd fld row ms[k]=((!isSet ms[k].wh||has row ms[k].wh)&&(!isSet ms[k].fr||has row ms[k].fr))):=by unfold Hid qK;simp[e1,e2]
   clear e1 e2
   rcases hwh:ms[k].wh.toList.isEmpty with _|_ <;> rcases hfr:ms[k].fr.toList.isEmpty with _|_
   all_goals go_wp2_with fail
   ·skip
    have h:=zc0 ra rcap row ms[k].wh _ (HM.o.2.mono HBA.o)
    rcases hh1:has row ms[k].wh with _|_
    ·rw[hh1]at h
     refine h.mono ?_;rintro e w3⟨rfl,rfl⟩;have HF:Hid (zcD ms kd fld row=false):=HNO.o (by rw[HRD.o];unfold isSet;simp[*]);clear h;go_wp2_with fail
     go_ret;exact⟨by rw[HF.o];rfl,HBA.o⟩
    ·rw[hh1]at h
     refine h.mono ?_;rintro e w3⟨rfl,rfl⟩;clear h;go_wp2_with fail
     have h:=zc0 ra rcap row ms[k].fr _ (HM.o.2.mono HBA.o)
     rcases hh2:has row ms[k].fr with _|_
     ·rw[hh2]at h
      refine h.mono ?_;rintro e w3⟨rfl,rfl⟩;have HF:Hid (zcD ms kd fld row=false):=HNO.o (by rw[HRD.o];unfold isSet;simp[*]);clear h;go_wp2_with fail
      go_ret;exact⟨by rw[HF.o];rfl,HBA.o⟩
     ·rw[hh2]at h
      refine h.mono ?_;rintro e w3⟨rfl,rfl⟩;clear h;go_wp2_with fail
      have HY:Hid (qK kd fld row ms[k]=true):=by unfold Hid;rw[HRD.o];unfold isSet;simp[*]
      exact⟨⟨k+1,by omega,by go_num,by rw[HTK.o];exact HY.o,HBA.o⟩,zw hlt⟩
   ·skip
    have h:=zc0 ra rcap row ms[k].wh _ (HM.o.2.mono HBA.o)
    rcases hh1:has row ms[k].wh with _|_
    ·rw[hh1]at h
     refine h.mono ?_;rintro e w3⟨rfl,rfl⟩;have HF:Hid (zcD ms kd fld row=false):=HNO.o (by rw[HRD.o];unfold isSet;simp[*]);clear h;go_wp2_with fail
     go_ret;exact⟨by rw[HF.o];rfl,HBA.o⟩
    ·rw[hh1]at h
     refine h.mono ?_;rintro e w3⟨rfl,rfl⟩;clear h;go_wp2_with fail
     have HY:Hid (qK kd fld row ms[k]=true):=by unfold Hid;rw[HRD.o];unfold isSet;simp[*]
     exact⟨⟨k+1,by omega,by go_num,by rw[HTK.o];exact HY.o,HBA.o⟩,zw hlt⟩
   ·skip
    have h:=zc0 ra rcap row ms[k].fr _ (HM.o.2.mono HBA.o)
    rcases hh2:has row ms[k].fr with _|_
    ·rw[hh2]at h
     refine h.mono ?_;rintro e w3⟨rfl,rfl⟩;have HF:Hid (zcD ms kd fld row=false):=HNO.o (by rw[HRD.o];unfold isSet;simp[*]);clear h;go_wp2_with fail
     go_ret;exact⟨by rw[HF.o];rfl,HBA.o⟩
    ·rw[hh2]at h
     refine h.mono ?_;rintro e w3⟨rfl,rfl⟩;clear h;go_wp2_with fail
     have HY:Hid (qK kd fld row ms[k]=true):=by unfold Hid;rw[HRD.o];unfold isSet;simp[*]
     exact⟨⟨k+1,by omega,by go_num,by rw[HTK.o];exact HY.o,HBA.o⟩,zw hlt⟩
   ·skip
    have HY:Hid (qK kd fld row ms[k]=true):=by unfold Hid;rw[HRD.o];unfold isSet;simp[*]
    exact⟨⟨k+1,by omega,by go_num,by rw[HTK.o];exact HY.o,HBA.o⟩,zw hlt⟩
  ·have e:k=ms.length:=by omega
   rw[e,tOl (Nat.le_refl _)]at hall;have HF:Hid (zcD ms kd fld row=true):=hall;subst e;clear hall HA hB;go_wp2_with fail
   go_ret;exact⟨by rw[HF.o];rfl,HB.o⟩
def yF (ls:List Lg)(tick:Int)(p:Pu):Bool:=jJ ls p.tm p.rs&&(zm p.dr&&(within p.am 1 1000000&&within p.un tick (tick+10)))
noncomputable def qx (b:Bk):Bool:=decide (b.ps.length<=24)&&(zaQ zaF b.ps&&b.ps.all (yF b.ls b.tick))
theorem zd4 (p:Pu)(w:World):Calls Tryz.prog 173 #[.agg p.cells] w fun e w'=>e=.returned (jr p.tm p.rs)/\Bw w w':=by
 unfold Pu.cells jr;go_enter Tryz.func173,Tryz.ntmps173;go_wp2_with fail
 refine bodyPost_ret (v:=.agg #[.s p.tm,.s p.rs]) (by simp[results,Tryz.results173,go_sem]) rfl ⟨rfl,?_⟩
 first|exact zx _ _ _|exact((zx _ _ _).setCell (by simp) _).setCell (by simp) _|exact((zx _ _ _).setCell (by show _<=_+1;omega) _).setCell (by show _<=_+1;omega) _
theorem zbM (p:Lg)(w:World):Calls Tryz.prog 175 #[.agg p.cells] w fun e w'=>e=.returned (jr p.tm p.rs)/\Bw w w':=by
 unfold Lg.cells jr;go_enter Tryz.func175,Tryz.ntmps175;go_wp2_with fail
 refine bodyPost_ret (v:=.agg #[.s p.tm,.s p.rs]) (by simp[results,Tryz.results175,go_sem]) rfl ⟨rfl,?_⟩
 first|exact zx _ _ _|exact((zx _ _ _).setCell (by simp) _).setCell (by simp) _|exact((zx _ _ _).setCell (by show _<=_+1;omega) _).setCell (by show _<=_+1;omega) _
theorem zjr (a:OA)(cap:Nat)(ms:List Lg)(tm rs:BA)(w:World)(hw:zc5 w a ms)(hl:ms.length<=1000)(hr:rising q9 ms) :
 Calls Tryz.prog 172 #[.l a ms.length cap,jr tm rs] w fun e w'=>(∃p:Nat,e=.returned (.tuple #[.i p,.bool (jJ ms tm rs)])/\zfj ms tm rs p)/\Bw w w':=by
 unfold jr;go_enter Tryz.func172,Tryz.ntmps172;go_wp2_with fail
 refine(zhG _ _ ms ⟨tm,rs,0,0⟩ _ (hw.mono (bAl _ _)) hl hr).mono ?_;rintro e w1⟨⟨p,rfl,hp⟩,hb⟩;have hB1:Bw w w1:=(bAl _ _).trans (hb.mono (by simp));clear hb;go_wp2_with fail
 go_ret2
 exact⟨⟨p,rfl,hp⟩,hB1⟩
theorem zk7 (b:Bk)(a0 a1 a2 a3:OA)(c0 c1 c2 c3:Nat)(w:World)(hb:jU w b a0 a1 a2 a3)(hrl:rising q9 b.ls)(hll:b.ls.length<=10)(htk:0<=b.tick/\b.tick<=1000000) :
 Calls Tryz.prog 118 #[.agg (b.cells a0 a1 a2 a3 c0 c1 c2 c3)] w fun e w'=>e=.returned (.bool (qx b))/\Bw w w':=by
 have HK:=hid hb;have HRL:=ji hrl hll;clear hb hrl hll;unfold Bk.cells
 by_cases hln:b.ps.length<=24
 rotate_left
 ·have HF:Hid (qx b=false):=by unfold Hid qx;rw[decide_eq_false hln];rfl
  have hg:(24:Int)<(b.ps.length:Int):=by omega
  go_enter Tryz.func118,Tryz.ntmps118;go_wp2_with fail
  go_ret;exact⟨ze HF.o.symm,bAl _ _⟩
 have hg:decide ((24:Int)<(b.ps.length:Int))=false:=by simp;omega
 have HLN:Hid (b.ps.length<=24):=hln;clear hln;go_enter Tryz.func118,Tryz.ntmps118;go_wp2_with fail
 have hX0:=zn w (bC b a0 a1 a2 a3 c0 c1 c2 c3) 51;have HB0:Hid (Bw w (w.alloc (.cells (bC b a0 a1 a2 a3 c0 c1 c2 c3) 51))):=bAl _ _;obtain⟨W0,hW0⟩:=xN (w.alloc (.cells (bC b a0 a1 a2 a3 c0 c1 c2 c3) 51));have hz0:w.heap.size<W0.heap.size:=by rw[hW0];simp
 rw[<- hW0]at HB0 hX0 ⊢;clear hW0;refine(zjq _ _ b.ps _ (HK.o.ps.mono HB0.o)).mono ?_;rintro e w1⟨rfl,hb1⟩;have HB1:=hid (HB0.o.trans (hb1.mono HB0.o.size));have hX1:=za hX0 hz0 hb1;have hz1:=nLt hz0 hb1.size;clear hb1 hX0 hz0 HB0
 by_cases has:zaQ zaF b.ps=true
 rotate_left
 ·have has':zaQ zaF b.ps=false:=by simpa using has
  have HF:Hid (qx b=false):=by unfold Hid qx;rw[has'];simp
  rw[has'];clear has has';go_wp2_with fail
  go_ret;exact⟨ze HF.o.symm,HB1.o⟩
 have HG:Hid (qx b=b.ps.all (yF b.ls b.tick)):=by unfold Hid qx;rw[has,decide_eq_true HLN.o];rfl
 rw[has];clear has;go_wp2_with fail
 go_loopw [20] (fun iv wr=>∃k:Nat,k<=b.ps.length/\iv=.i k/\Hid ((b.ps.take k).all (yF b.ls b.tick)=true/\Bw w1 wr)) (fun iv _=>b.ps.length-(intOf iv).toNat)
 case atStart=>exact⟨0,Nat.zero_le _,rfl,by simp,bRf _ _⟩
 case round=>
  obtain⟨k,hk,rfl,HQ⟩:=hrel;have hkn:k<=24:=by have:=HLN.o;omega
  by_cases hlt:k<b.ps.length
  ·obtain⟨ob,off,rfl,hob,d0,d1,d2,d3,d4⟩:=HK.o.ps.load (HB1.o.trans (HQ.o.2.mono HB1.o.size)) k hlt
   have hob':=nLt hob (HB1.o.trans (HQ.o.2.mono HB1.o.size)).size;have hltI:(k:Int)<(b.ps.length:Int):=by omega
   have hX:=za hX1 hz1 HQ.o.2;have hz:w.heap.size<wr.heap.size:=nLt hz1 HQ.o.2.size;have HSn:Hid ((b.ps.take (k+1)).all (yF b.ls b.tick)=((b.ps.take k).all (yF b.ls b.tick)&&(yF b.ls b.tick) b.ps[k])):=qM _ _ _ hlt;have HBo:Hid (∀ob,Bw w1 (wr.alloc ob)):=fun ob=>HQ.o.2.alloc HQ.o.2.size _
   have HBw:Hid (∀W,Bw w1 W->Bw w W):=fun W hW=>HB1.o.trans (hW.mono HB1.o.size)
   have HNo:Hid ((yF b.ls b.tick) b.ps[k]=false->qx b=false):=fun h=>by rw[HG.o];exact zaH _ _ _ hlt h
   have HYes:Hid ((yF b.ls b.tick) b.ps[k]=true->(b.ps.take (k+1)).all (yF b.ls b.tick)=true):=fun h=>by rw[HSn.o,HQ.o.1,h];rfl
   have HSm:Hid b.ps[k].Small:=HK.o.ps.small k hlt;go_wp2_with fail
   have hbN:Bw wr (wr.alloc (.cells #[.s b.ps[k].dr,.s b.ps[k].tm,.s b.ps[k].rs,.i b.ps[k].am,.i b.ps[k].un] 150)):=bAl _ _;have hN:=zn wr #[.s b.ps[k].dr,.s b.ps[k].tm,.s b.ps[k].rs,.i b.ps[k].am,.i b.ps[k].un] 150;obtain⟨w2,hw2⟩:=xN (wr.alloc (.cells #[.s b.ps[k].dr,.s b.ps[k].tm,.s b.ps[k].rs,.i b.ps[k].am,.i b.ps[k].un] 150));have hn2:wr.heap.size<w2.heap.size:=by rw[hw2];simp
   rw[<- hw2]at hbN hN ⊢;have HB2:Hid (Bw w1 w2):=by unfold Hid;rw[hw2];exact HBo.o _
   have hX2:=za hX hz hbN;have hzX2:=Nat.lt_trans hz hn2;clear hw2 d0 d1 d2 d3 d4 hX hbN;have hS:(∀j,w2.drew.cell? (aD w.heap.size j)=((bC b a0 a1 a2 (some (aD ob off)) c0 c1 c2 c3):AV)[j]?)/\(∀j,w2.drew.cell? (aD wr.heap.size j)=(#[.s b.ps[k].dr,.s b.ps[k].tm,.s b.ps[k].rs,.i b.ps[k].am,.i b.ps[k].un]:AV)[j]?):=⟨hX2,hN⟩
   have hB:=HB2.o.drew;have hzx:=hzX2;have hzn:=hn2;clear hX2 hN
   go_region_held3 (fun w'=>(∀j,w'.cell? (aD w.heap.size j)=(#[.i b.now,.i b.tick,.i b.given,.l a0 b.os.length c0,.l a1 b.gs.length c1,.l a2 b.ls.length c2,.l (some (aD ob off)) b.ps.length c3]:AV)[j]?)/\(∀j,w'.cell? (aD wr.heap.size j)=(#[.s b.ps[k].dr,.s b.ps[k].tm,.s b.ps[k].rs,.i b.ps[k].am,.i b.ps[k].un]:AV)[j]?)) (exact hS) (first
    | (go_at_call 173;refine(zd4 b.ps[k] _).mono ?_;rintro e w3⟨rfl,hb3⟩;have hS:=(⟨za hS.1 hzx hb3,za hS.2 hzn hb3⟩:_/\_);have hB:=hB.trans (hb3.mono hB.size);have hzx:=nLt hzx hb3.size;have hzn:=nLt hzn hb3.size;clear hb3)
    | (go_at_call 172;refine(zjr _ _ b.ls b.ps[k].tm b.ps[k].rs _ (by exact HK.o.ls.mono (HBw.o _ hB)) (by have:=HRL.o.2;omega) HRL.o.1).mono ?_;rintro e w3⟨⟨pl,rfl,_⟩,hb3⟩;have hS:=(⟨za hS.1 hzx hb3,za hS.2 hzn hb3⟩:_/\_);have hB:=hB.trans (hb3.mono hB.size);have hzx:=nLt hzx hb3.size;have hzn:=nLt hzn hb3.size;clear hb3))
   have HB3:=hid hB;have hX3:=hS.1;have hN3:=hS.2;clear hS hB;have htk1:=htk;have HN1:∀v,zm b.ps[k].dr=v->Hid (∀W,Calls Tryz.prog 153 #[.s b.ps[k].dr] W fun e w'=>e=.returned (.bool v)/\w'=W):=fun v h W=>zf h (zB _ W HSm.o.dr)
   have HW1:∀v,within b.ps[k].am 1 1000000=v->Hid (∀W,Calls Tryz.prog 158 #[.i b.ps[k].am,.i 1,.i 1000000] W fun e w'=>e=.returned (.bool v)/\w'=W):=fun v h W=>zf h (yU _ _ _ W)
   have HW2:∀v,within b.ps[k].un b.tick (b.tick+10)=v->Hid (∀W,Calls Tryz.prog 158 #[.i b.ps[k].un,.i b.tick,.i (b.tick+10)] W fun e w'=>e=.returned (.bool v)/\w'=W):=fun v h W=>zf h (yU _ _ _ W)
   by_cases t1:jJ b.ls b.ps[k].tm b.ps[k].rs=true
   rotate_left
   ·have HF:Hid (qx b=false):=HNo.o (by unfold yF;rw[bFi t1];rfl)
    rw[bFi t1];clear HN1 HW1 HW2 t1;go_wp2_with fail
    go_ret;exact⟨ze HF.o.symm,HBw.o _ HB3.o⟩
   rw[t1]
   by_cases t2:zm b.ps[k].dr=true
   rotate_left
   ·have HF:Hid (qx b=false):=HNo.o (by unfold yF;rw[t1,bFi t2];rfl)
    have Ht2:=HN1 false (bFi t2);clear HN1 HW1 HW2 t1 t2;go_wp2_with fail
    refine(Ht2.o _).mono ?_;rintro e w4⟨rfl,rfl⟩;go_wp2_with fail
    go_ret;exact⟨ze HF.o.symm,HBw.o _ HB3.o⟩
   have Ht2:=HN1 true t2
   by_cases t3:within b.ps[k].am 1 1000000=true
   rotate_left
   ·have HF:Hid (qx b=false):=HNo.o (by unfold yF;rw[t1,t2,bFi t3];rfl)
    have Ht3:=HW1 false (bFi t3);clear HN1 HW1 HW2 t1 t2 t3;go_wp2_with fail
    refine(Ht2.o _).mono ?_;rintro e w4⟨rfl,rfl⟩;go_wp2_with fail
    refine(Ht3.o _).mono ?_;rintro e w4⟨rfl,rfl⟩;go_wp2_with fail
    go_ret;exact⟨ze HF.o.symm,HBw.o _ HB3.o⟩
   have Ht3:=HW1 true t3
   by_cases t4:within b.ps[k].un b.tick (b.tick+10)=true
   rotate_left
   ·have HF:Hid (qx b=false):=HNo.o (by unfold yF;rw[t1,t2,t3,bFi t4];rfl)
    have Ht4:=HW2 false (bFi t4);clear HN1 HW1 HW2 t1 t2 t3 t4;go_wp2_with fail
    refine(Ht2.o _).mono ?_;rintro e w4⟨rfl,rfl⟩;go_wp2_with fail
    refine(Ht3.o _).mono ?_;rintro e w4⟨rfl,rfl⟩;go_wp2_with fail
    refine(Ht4.o _).mono ?_;rintro e w4⟨rfl,rfl⟩;go_wp2_with fail
    go_ret;exact⟨ze HF.o.symm,HBw.o _ HB3.o⟩
   have Ht4:=HW2 true t4;have HY:Hid ((b.ps.take (k+1)).all (yF b.ls b.tick)=true):=HYes.o (by unfold yF;rw[t1,t2,t3,t4];rfl);clear HN1 HW1 HW2 t1 t2 t3 t4;go_wp2_with fail
   refine(Ht2.o _).mono ?_;rintro e w4⟨rfl,rfl⟩;go_wp2_with fail
   refine(Ht3.o _).mono ?_;rintro e w4⟨rfl,rfl⟩;go_wp2_with fail
   refine(Ht4.o _).mono ?_;rintro e w4⟨rfl,rfl⟩;go_wp2_with fail
   exact⟨⟨k+1,by omega,by go_num,HY.o,HB3.o⟩,zw hlt⟩
  ·have e:k=b.ps.length:=by omega
   subst e
   have HE:Hid (qx b=true):=by
    unfold Hid;rw[HG.o];have h:=HQ.o.1;rw[tOl (Nat.le_refl _)]at h;exact h
   have HBe:=hid (HB1.o.trans (HQ.o.2.mono HB1.o.size));clear hlt hk HQ;go_wp2_with fail
   go_ret;exact⟨ze HE.o.symm,HBe.o⟩
end Go.Proofs.YthdfpinbnncghaaGreat
