import Derived.Test.YtcgpjfcocmcodaaGreatM35
import Derived.Deep.MidRow
set_option maxHeartbeats 4000000
namespace Go.Proofs.YtcgpjfcocmcodaaGreat
open Go.RowKit
def qB (kd fld:BA)(row:List BA)(m:Mnd):Bool:=!(decide (m.kd=kd)&&decide (m.fd=fld))||((!isSet m.wh||has row m.wh)&&(!isSet m.fr||has row m.fr))
def zcq (ms:List Mnd)(kd fld:BA)(row:List BA):Bool:=ms.all (qB kd fld row)
set_option maxRecDepth 20000 in
theorem zmZ (a ra:OA)(cap rcap:Nat)(ms:List Mnd)(kd fld:BA)(row:List BA)(w:World)(hm:qL w a ms)(hr:zG w ra row)(hml:ms.length<=12) :
 Calls Tryz.prog 194 #[.l a ms.length cap,.s kd,.s fld,.l ra row.length rcap] w fun e w'=>e=.returned (.bool (zcq ms kd fld row))/\Bw w w':=by
 have HM:=ql hm hr;clear hm hr;go_enter Tryz.func194,Tryz.ntmps194;go_wp2_with fail
 go_loopw [9] (fun iv wr=>∃k:Nat,k<=ms.length/\iv=.i k/\(ms.take k).all (qB kd fld row)=true/\Bw w wr) (fun iv _=>ms.length-(intOf iv).toNat)
 case atStart=>exact⟨0,Nat.zero_le _,rfl,rfl,bRf _ _⟩
 case round=>
  obtain⟨k,hk,rfl,hall,hB⟩:=hrel;have HB:=hid hB;have HA:Hid ((ms.take k).all (qB kd fld row)=true):=hall
  by_cases hlt:k<ms.length
  ·obtain⟨b,off,rfl,hb,c0,c1,c2,c3,c4,c5⟩:=HM.o.1.load hB k hlt
   have hltI:(k:Int)<(ms.length:Int):=by omega
   have HTK:Hid ((ms.take (k+1)).all (qB kd fld row)=qB kd fld row ms[k]):=by
    unfold Hid;rw[tSe hlt,List.all_append,HA.o];simp
   have HNO:Hid (qB kd fld row ms[k]=false->zcq ms kd fld row=false):=by
    intro h;unfold zcq;rw[List.all_eq_false];exact⟨_,List.getElem_mem hlt,by rw[h];simp⟩
   have HBA:Hid (Bw w (wr.alloc (.cells #[.s ms[k].kd,.s ms[k].fd,.s ms[k].wh,.s ms[k].wi,.s ms[k].pt,.s ms[k].fr] 136))):=hB.alloc hB.size _;clear hall hB HA
   by_cases e1:ms[k].kd=kd
   rotate_left
   ·have he1:(ms[k].kd.toList == kd.toList)=false:=by rw[beq_toList];simpa using e1
    have HY:Hid (qB kd fld row ms[k]=true):=by unfold Hid qB;simp[e1]
    clear e1;go_wp2_with fail
    exact⟨⟨k+1,by omega,by go_num,by rw[HTK.o];exact HY.o,HBA.o⟩,zq hlt⟩
   have he1:(ms[k].kd.toList == kd.toList)=true:=by rw[beq_toList];simpa using e1
   by_cases e2:ms[k].fd=fld
   rotate_left
   ·have he2:(ms[k].fd.toList == fld.toList)=false:=by rw[beq_toList];simpa using e2
    have HY:Hid (qB kd fld row ms[k]=true):=by unfold Hid qB;simp[e2]
    clear e1 e2;go_wp2_with fail
    exact⟨⟨k+1,by omega,by go_num,by rw[HTK.o];exact HY.o,HBA.o⟩,zq hlt⟩
   have he2:(ms[k].fd.toList == fld.toList)=true:=by rw[beq_toList];simpa using e2
   have HRD:Hid (qB kd fld row ms[k]=((!isSet ms[k].wh||has row ms[k].wh)&&(!isSet ms[k].fr||has row ms[k].fr))):=by unfold Hid qB;simp[e1,e2]
   clear e1 e2
   rcases hwh:ms[k].wh.toList.isEmpty with _|_ <;> rcases hfr:ms[k].fr.toList.isEmpty with _|_
   all_goals go_wp2_with fail
   ·skip
    have h:=zcJ ra rcap row ms[k].wh _ (HM.o.2.mono HBA.o)
    rcases hh1:has row ms[k].wh with _|_
    ·rw[hh1]at h
     refine h.mono ?_;rintro e w3⟨rfl,rfl⟩;have HF:Hid (zcq ms kd fld row=false):=HNO.o (by rw[HRD.o];unfold isSet;simp[*]);clear h;go_wp2_with fail
     go_ret;exact⟨by rw[HF.o];rfl,HBA.o⟩
    ·rw[hh1]at h
     refine h.mono ?_;rintro e w3⟨rfl,rfl⟩;clear h;go_wp2_with fail
     have h:=zcJ ra rcap row ms[k].fr _ (HM.o.2.mono HBA.o)
     rcases hh2:has row ms[k].fr with _|_
     ·rw[hh2]at h
      refine h.mono ?_;rintro e w3⟨rfl,rfl⟩;have HF:Hid (zcq ms kd fld row=false):=HNO.o (by rw[HRD.o];unfold isSet;simp[*]);clear h;go_wp2_with fail
      go_ret;exact⟨by rw[HF.o];rfl,HBA.o⟩
     ·rw[hh2]at h
      refine h.mono ?_;rintro e w3⟨rfl,rfl⟩;clear h;go_wp2_with fail
      have HY:Hid (qB kd fld row ms[k]=true):=by unfold Hid;rw[HRD.o];unfold isSet;simp[*]
      exact⟨⟨k+1,by omega,by go_num,by rw[HTK.o];exact HY.o,HBA.o⟩,zq hlt⟩
   ·skip
    have h:=zcJ ra rcap row ms[k].wh _ (HM.o.2.mono HBA.o)
    rcases hh1:has row ms[k].wh with _|_
    ·rw[hh1]at h
     refine h.mono ?_;rintro e w3⟨rfl,rfl⟩;have HF:Hid (zcq ms kd fld row=false):=HNO.o (by rw[HRD.o];unfold isSet;simp[*]);clear h;go_wp2_with fail
     go_ret;exact⟨by rw[HF.o];rfl,HBA.o⟩
    ·rw[hh1]at h
     refine h.mono ?_;rintro e w3⟨rfl,rfl⟩;clear h;go_wp2_with fail
     have HY:Hid (qB kd fld row ms[k]=true):=by unfold Hid;rw[HRD.o];unfold isSet;simp[*]
     exact⟨⟨k+1,by omega,by go_num,by rw[HTK.o];exact HY.o,HBA.o⟩,zq hlt⟩
   ·skip
    have h:=zcJ ra rcap row ms[k].fr _ (HM.o.2.mono HBA.o)
    rcases hh2:has row ms[k].fr with _|_
    ·rw[hh2]at h
     refine h.mono ?_;rintro e w3⟨rfl,rfl⟩;have HF:Hid (zcq ms kd fld row=false):=HNO.o (by rw[HRD.o];unfold isSet;simp[*]);clear h;go_wp2_with fail
     go_ret;exact⟨by rw[HF.o];rfl,HBA.o⟩
    ·rw[hh2]at h
     refine h.mono ?_;rintro e w3⟨rfl,rfl⟩;clear h;go_wp2_with fail
     have HY:Hid (qB kd fld row ms[k]=true):=by unfold Hid;rw[HRD.o];unfold isSet;simp[*]
     exact⟨⟨k+1,by omega,by go_num,by rw[HTK.o];exact HY.o,HBA.o⟩,zq hlt⟩
   ·skip
    have HY:Hid (qB kd fld row ms[k]=true):=by unfold Hid;rw[HRD.o];unfold isSet;simp[*]
    exact⟨⟨k+1,by omega,by go_num,by rw[HTK.o];exact HY.o,HBA.o⟩,zq hlt⟩
  ·have e:k=ms.length:=by omega
   rw[e,tOl (Nat.le_refl _)]at hall;have HF:Hid (zcq ms kd fld row=true):=hall;subst e;clear hall HA hB;go_wp2_with fail
   go_ret;exact⟨by rw[HF.o];rfl,HB.o⟩
def yw (ls:List Lg)(tick:Int)(p:Pu):Bool:=yJ ls p.tm p.rs&&(zx p.dr&&(within p.am 1 1000000&&within p.un tick (tick+10)))
noncomputable def y8 (b:Bk):Bool:=decide (b.ps.length<=24)&&(zbR zar b.ps&&b.ps.all (yw b.ls b.tick))
theorem zdL (p:Pu)(w:World):Calls Tryz.prog 183 #[.agg p.cells] w fun e w'=>e=.returned (qY p.tm p.rs)/\Bw w w':=by
 unfold Pu.cells qY;go_enter Tryz.func183,Tryz.ntmps183;go_wp2_with fail
 refine bodyPost_ret (v:=.agg #[.s p.tm,.s p.rs]) (by simp[results,Tryz.results183,go_sem]) rfl ⟨rfl,?_⟩
 first|exact zw _ _ _|exact((zw _ _ _).setCell (by simp) _).setCell (by simp) _|exact((zw _ _ _).setCell (by show _<=_+1;omega) _).setCell (by show _<=_+1;omega) _
theorem zaE (p:Lg)(w:World):Calls Tryz.prog 96 #[.agg p.cells] w fun e w'=>e=.returned (qY p.tm p.rs)/\Bw w w':=by
 unfold Lg.cells qY;go_enter Tryz.func96,Tryz.ntmps96;go_wp2_with fail
 refine bodyPost_ret (v:=.agg #[.s p.tm,.s p.rs]) (by simp[results,Tryz.results96,go_sem]) rfl ⟨rfl,?_⟩
 first|exact zw _ _ _|exact((zw _ _ _).setCell (by simp) _).setCell (by simp) _|exact((zw _ _ _).setCell (by show _<=_+1;omega) _).setCell (by show _<=_+1;omega) _
theorem zeM (a:OA)(cap:Nat)(ms:List Lg)(tm rs:BA)(w:World)(hw:zbn w a ms)(hl:ms.length<=1000)(hr:rising y9 ms) :
 Calls Tryz.prog 95 #[.l a ms.length cap,qY tm rs] w fun e w'=>(∃p:Nat,e=.returned (.tuple #[.i p,.bool (yJ ms tm rs)])/\zbK ms tm rs p)/\Bw w w':=by
 unfold qY;go_enter Tryz.func95,Tryz.ntmps95;go_wp2_with fail
 refine(zhN _ _ ms ⟨tm,rs,0,0⟩ _ (hw.mono (bAl _ _)) hl hr).mono ?_;rintro e w1⟨⟨p,rfl,hp⟩,hb⟩;have hB1:Bw w w1:=(bAl _ _).trans (hb.mono (by simp));clear hb;go_wp2_with fail
 go_ret2
 exact⟨⟨p,rfl,hp⟩,hB1⟩
theorem zk0 (b:Bk)(a0 a1 a2 a3:OA)(c0 c1 c2 c3:Nat)(w:World)(hb:ji w b a0 a1 a2 a3)(hrl:rising y9 b.ls)(hll:b.ls.length<=10)(htk:0<=b.tick/\b.tick<=1000000) :
 Calls Tryz.prog 137 #[.agg (b.cells a0 a1 a2 a3 c0 c1 c2 c3)] w fun e w'=>e=.returned (.bool (y8 b))/\Bw w w':=by
 have HK:=hid hb;have HRL:=ql hrl hll;clear hb hrl hll;unfold Bk.cells
 by_cases hln:b.ps.length<=24
 rotate_left
 ·have HF:Hid (y8 b=false):=by unfold Hid y8;rw[decide_eq_false hln];rfl
  have hg:(24:Int)<(b.ps.length:Int):=by omega
  go_enter Tryz.func137,Tryz.ntmps137;go_wp2_with fail
  go_ret;exact⟨ze HF.o.symm,bAl _ _⟩
 have hg:decide ((24:Int)<(b.ps.length:Int))=false:=by simp;omega
 have HLN:Hid (b.ps.length<=24):=hln;clear hln;go_enter Tryz.func137,Tryz.ntmps137;go_wp2_with fail
 have hX0:=zl w (bC b a0 a1 a2 a3 c0 c1 c2 c3) 40;have HB0:Hid (Bw w (w.alloc (.cells (bC b a0 a1 a2 a3 c0 c1 c2 c3) 40))):=bAl _ _;obtain⟨W0,hW0⟩:=xN (w.alloc (.cells (bC b a0 a1 a2 a3 c0 c1 c2 c3) 40));have hz0:w.heap.size<W0.heap.size:=by rw[hW0];simp
 rw[<- hW0]at HB0 hX0 ⊢;clear hW0;refine(ziD _ _ b.ps _ (HK.o.ps.mono HB0.o)).mono ?_;rintro e w1⟨rfl,hb1⟩;have HB1:=hid (HB0.o.trans (hb1.mono HB0.o.size));have hX1:=za hX0 hz0 hb1;have hz1:=nLt hz0 hb1.size;clear hb1 hX0 hz0 HB0
 by_cases has:zbR zar b.ps=true
 rotate_left
 ·have has':zbR zar b.ps=false:=by simpa using has
  have HF:Hid (y8 b=false):=by unfold Hid y8;rw[has'];simp
  rw[has'];clear has has';go_wp2_with fail
  go_ret;exact⟨ze HF.o.symm,HB1.o⟩
 have HG:Hid (y8 b=b.ps.all (yw b.ls b.tick)):=by unfold Hid y8;rw[has,decide_eq_true HLN.o];rfl
 rw[has];clear has;go_wp2_with fail
 go_loopw [20] (fun iv wr=>∃k:Nat,k<=b.ps.length/\iv=.i k/\Hid ((b.ps.take k).all (yw b.ls b.tick)=true/\Bw w1 wr)) (fun iv _=>b.ps.length-(intOf iv).toNat)
 case atStart=>exact⟨0,Nat.zero_le _,rfl,by simp,bRf _ _⟩
 case round=>
  obtain⟨k,hk,rfl,HQ⟩:=hrel;have hkn:k<=24:=by have:=HLN.o;omega
  by_cases hlt:k<b.ps.length
  ·obtain⟨ob,off,rfl,hob,d0,d1,d2,d3,d4⟩:=HK.o.ps.load (HB1.o.trans (HQ.o.2.mono HB1.o.size)) k hlt
   have hob':=nLt hob (HB1.o.trans (HQ.o.2.mono HB1.o.size)).size;have hltI:(k:Int)<(b.ps.length:Int):=by omega
   have hX:=za hX1 hz1 HQ.o.2;have hz:w.heap.size<wr.heap.size:=nLt hz1 HQ.o.2.size;have HSn:Hid ((b.ps.take (k+1)).all (yw b.ls b.tick)=((b.ps.take k).all (yw b.ls b.tick)&&(yw b.ls b.tick) b.ps[k])):=qN _ _ _ hlt;have HBo:Hid (∀ob,Bw w1 (wr.alloc ob)):=fun ob=>HQ.o.2.alloc HQ.o.2.size _
   have HBw:Hid (∀W,Bw w1 W->Bw w W):=fun W hW=>HB1.o.trans (hW.mono HB1.o.size)
   have HNo:Hid ((yw b.ls b.tick) b.ps[k]=false->y8 b=false):=fun h=>by rw[HG.o];exact zaw _ _ _ hlt h
   have HYes:Hid ((yw b.ls b.tick) b.ps[k]=true->(b.ps.take (k+1)).all (yw b.ls b.tick)=true):=fun h=>by rw[HSn.o,HQ.o.1,h];rfl
   have HSm:Hid b.ps[k].Small:=HK.o.ps.small k hlt;go_wp2_with fail
   have hbN:Bw wr (wr.alloc (.cells #[.s b.ps[k].dr,.s b.ps[k].tm,.s b.ps[k].rs,.i b.ps[k].am,.i b.ps[k].un] 142)):=bAl _ _;have hN:=zl wr #[.s b.ps[k].dr,.s b.ps[k].tm,.s b.ps[k].rs,.i b.ps[k].am,.i b.ps[k].un] 142;obtain⟨w2,hw2⟩:=xN (wr.alloc (.cells #[.s b.ps[k].dr,.s b.ps[k].tm,.s b.ps[k].rs,.i b.ps[k].am,.i b.ps[k].un] 142));have hn2:wr.heap.size<w2.heap.size:=by rw[hw2];simp
   rw[<- hw2]at hbN hN ⊢;have HB2:Hid (Bw w1 w2):=by unfold Hid;rw[hw2];exact HBo.o _
   have hX2:=za hX hz hbN;have hzX2:=Nat.lt_trans hz hn2;clear hw2 d0 d1 d2 d3 d4 hX hbN;have hS:(∀j,w2.drew.cell? (aD w.heap.size j)=((bC b a0 a1 a2 (some (aD ob off)) c0 c1 c2 c3):AV)[j]?)/\(∀j,w2.drew.cell? (aD wr.heap.size j)=(#[.s b.ps[k].dr,.s b.ps[k].tm,.s b.ps[k].rs,.i b.ps[k].am,.i b.ps[k].un]:AV)[j]?):=⟨hX2,hN⟩
   have hB:=HB2.o.drew;have hzx:=hzX2;have hzn:=hn2;clear hX2 hN
   go_region_held3 (fun w'=>(∀j,w'.cell? (aD w.heap.size j)=(#[.i b.now,.i b.tick,.i b.given,.l a0 b.os.length c0,.l a1 b.gs.length c1,.l a2 b.ls.length c2,.l (some (aD ob off)) b.ps.length c3]:AV)[j]?)/\(∀j,w'.cell? (aD wr.heap.size j)=(#[.s b.ps[k].dr,.s b.ps[k].tm,.s b.ps[k].rs,.i b.ps[k].am,.i b.ps[k].un]:AV)[j]?)) (exact hS) (first
    | (go_at_call 183;refine(zdL b.ps[k] _).mono ?_;rintro e w3⟨rfl,hb3⟩;have hS:=(⟨za hS.1 hzx hb3,za hS.2 hzn hb3⟩:_/\_);have hB:=hB.trans (hb3.mono hB.size);have hzx:=nLt hzx hb3.size;have hzn:=nLt hzn hb3.size;clear hb3)
    | (go_at_call 95;refine(zeM _ _ b.ls b.ps[k].tm b.ps[k].rs _ (by exact HK.o.ls.mono (HBw.o _ hB)) (by have:=HRL.o.2;omega) HRL.o.1).mono ?_;rintro e w3⟨⟨pl,rfl,_⟩,hb3⟩;have hS:=(⟨za hS.1 hzx hb3,za hS.2 hzn hb3⟩:_/\_);have hB:=hB.trans (hb3.mono hB.size);have hzx:=nLt hzx hb3.size;have hzn:=nLt hzn hb3.size;clear hb3))
   have HB3:=hid hB;have hX3:=hS.1;have hN3:=hS.2;clear hS hB;have htk1:=htk;have HN1:∀v,zx b.ps[k].dr=v->Hid (∀W,Calls Tryz.prog 40 #[.s b.ps[k].dr] W fun e w'=>e=.returned (.bool v)/\w'=W):=fun v h W=>zf h (zH _ W HSm.o.dr)
   have HW1:∀v,within b.ps[k].am 1 1000000=v->Hid (∀W,Calls Tryz.prog 41 #[.i b.ps[k].am,.i 1,.i 1000000] W fun e w'=>e=.returned (.bool v)/\w'=W):=fun v h W=>zf h (qR _ _ _ W)
   have HW2:∀v,within b.ps[k].un b.tick (b.tick+10)=v->Hid (∀W,Calls Tryz.prog 41 #[.i b.ps[k].un,.i b.tick,.i (b.tick+10)] W fun e w'=>e=.returned (.bool v)/\w'=W):=fun v h W=>zf h (qR _ _ _ W)
   by_cases t1:yJ b.ls b.ps[k].tm b.ps[k].rs=true
   rotate_left
   ·have HF:Hid (y8 b=false):=HNo.o (by unfold yw;rw[bFi t1];rfl)
    rw[bFi t1];clear HN1 HW1 HW2 t1;go_wp2_with fail
    go_ret;exact⟨ze HF.o.symm,HBw.o _ HB3.o⟩
   rw[t1]
   by_cases t2:zx b.ps[k].dr=true
   rotate_left
   ·have HF:Hid (y8 b=false):=HNo.o (by unfold yw;rw[t1,bFi t2];rfl)
    have Ht2:=HN1 false (bFi t2);clear HN1 HW1 HW2 t1 t2;go_wp2_with fail
    refine(Ht2.o _).mono ?_;rintro e w4⟨rfl,rfl⟩;go_wp2_with fail
    go_ret;exact⟨ze HF.o.symm,HBw.o _ HB3.o⟩
   have Ht2:=HN1 true t2
   by_cases t3:within b.ps[k].am 1 1000000=true
   rotate_left
   ·have HF:Hid (y8 b=false):=HNo.o (by unfold yw;rw[t1,t2,bFi t3];rfl)
    have Ht3:=HW1 false (bFi t3);clear HN1 HW1 HW2 t1 t2 t3;go_wp2_with fail
    refine(Ht2.o _).mono ?_;rintro e w4⟨rfl,rfl⟩;go_wp2_with fail
    refine(Ht3.o _).mono ?_;rintro e w4⟨rfl,rfl⟩;go_wp2_with fail
    go_ret;exact⟨ze HF.o.symm,HBw.o _ HB3.o⟩
   have Ht3:=HW1 true t3
   by_cases t4:within b.ps[k].un b.tick (b.tick+10)=true
   rotate_left
   ·have HF:Hid (y8 b=false):=HNo.o (by unfold yw;rw[t1,t2,t3,bFi t4];rfl)
    have Ht4:=HW2 false (bFi t4);clear HN1 HW1 HW2 t1 t2 t3 t4;go_wp2_with fail
    refine(Ht2.o _).mono ?_;rintro e w4⟨rfl,rfl⟩;go_wp2_with fail
    refine(Ht3.o _).mono ?_;rintro e w4⟨rfl,rfl⟩;go_wp2_with fail
    refine(Ht4.o _).mono ?_;rintro e w4⟨rfl,rfl⟩;go_wp2_with fail
    go_ret;exact⟨ze HF.o.symm,HBw.o _ HB3.o⟩
   have Ht4:=HW2 true t4;have HY:Hid ((b.ps.take (k+1)).all (yw b.ls b.tick)=true):=HYes.o (by unfold yw;rw[t1,t2,t3,t4];rfl);clear HN1 HW1 HW2 t1 t2 t3 t4;go_wp2_with fail
   refine(Ht2.o _).mono ?_;rintro e w4⟨rfl,rfl⟩;go_wp2_with fail
   refine(Ht3.o _).mono ?_;rintro e w4⟨rfl,rfl⟩;go_wp2_with fail
   refine(Ht4.o _).mono ?_;rintro e w4⟨rfl,rfl⟩;go_wp2_with fail
   exact⟨⟨k+1,by omega,by go_num,HY.o,HB3.o⟩,zq hlt⟩
  ·have e:k=b.ps.length:=by omega
   subst e
   have HE:Hid (y8 b=true):=by
    unfold Hid;rw[HG.o];have h:=HQ.o.1;rw[tOl (Nat.le_refl _)]at h;exact h
   have HBe:=hid (HB1.o.trans (HQ.o.2.mono HB1.o.size));clear hlt hk HQ;go_wp2_with fail
   go_ret;exact⟨ze HE.o.symm,HBe.o⟩
theorem zcf {α:Type}(row:α->List Value)(n:Nat)(hn:∀p,(row p).length=n):∀ps:List α,(ps.flatMap row).length=ps.length*n
 | []=>by simp
 | p :: ps=>by rw[List.flatMap_cons,List.length_append,hn,zcf row n hn ps,List.length_cons,Nat.succ_mul];omega
theorem zaz {α:Type}(row:α->List Value)(n:Nat)(hn:∀p,(row p).length=n):∀(ps:List α) (i:Nat) (h:i<ps.length) (j:Nat),j<n->(ps.flatMap row)[i*n+j]?=(row ps[i])[j]?
 | [],i,h,_,_=>by simp at h
 | p :: ps,0,_,j,hj=>by
  rw[List.flatMap_cons,List.getElem?_append_left (by rw[hn];omega),Nat.zero_mul,Nat.zero_add];rfl
 | p :: ps,i+1,h,j,hj=>by
  rw[List.flatMap_cons,List.getElem?_append_right (by rw[hn,Nat.succ_mul];omega),hn,show(i+1)*n+j-n=i*n+j by rw[Nat.succ_mul];omega,zaz row n hn ps i (by simpa using h) j hj];rfl
theorem Left.grown {S:Nat->Prop}{w w1 w2:World}{row:Option Nat}(h:Left S w w1)(hg:w1.grownBy w2 row)(hS:∀k,row=some k->S k):Left S w w2:=
 ⟨hg.os.trans h.os,hg.tape.trans h.tape,hg.output.trans h.output,Nat.le_trans h.size hg.size,fun k hk hn=>(hg.block k (nLt hk h.size) (fun e=>hn (hS k e.symm))).trans (h.out k hk hn)⟩
theorem zeV (w:World)(xs:List Value)(t:TypeId):∀j u,xs[j]?=some u->(w.alloc (.cells xs.toArray t)).cell? (((aD w.heap.size 0):Addr).add j)=some u:=by
 intro j u hj;rw[Addr.add_mid,Nat.zero_add,World.cell?_alloc_at (hn:=rfl)]
 simpa using hj
theorem jm {w:World}{lo sz:Nat}{e:TypeId}{v:Value}{n:Nat}{xs:List Value}(h:w.ownsRow lo e sz v n xs):∃a cap,v=.l a n cap:=by
 obtain⟨_,⟨rfl,h0⟩|⟨b,cap,cur,rfl,_⟩⟩:=h
 ·exact⟨none,0,by rw[h0]⟩
 ·exact⟨_,cap,rfl⟩
theorem zji {w:World}{lo lo' sz:Nat}{e:TypeId}{v:Value}{n:Nat}{xs:List Value}(h:w.ownsRow lo e sz v n xs)(hl:lo'<=lo):w.ownsRow lo' e sz v n xs:=by
 obtain⟨h0,h1|⟨g,cap,cur,h2,h3,h4⟩⟩:=h
 ·exact⟨h0,Or.inl h1⟩
 ·exact⟨h0,Or.inr ⟨g,cap,cur,h2,Nat.le_trans hl h3,h4⟩⟩
theorem zee {w:World}{lo sz:Nat}{e:TypeId}{a:OA}{cap n:Nat}{xs:List Value}(h:w.ownsRow lo e sz (.l a n cap) n xs)(hn:0<n):∃b C,a=some (aD b 0)/\lo<=b/\w.heap[b]?=some (.cells C e)/\n*sz<=C.size/\∀j,j<n*sz->C[j]?=xs[j]?:=by
 obtain⟨hl,⟨h0,hz⟩|⟨b,cp,cur,h0,hlo,hh,hnc,hm,hs,ht⟩⟩:=h
 ·omega
 ·cases h0
  have hle:n*sz<=cur.size:=by rw[hs];exact Nat.mul_le_mul_right _ hnc
  exact⟨b,cur,rfl,hlo,hh,hle,fun j hj=>by rw[<- ht,List.getElem?_take_of_lt hj,Array.getElem?_toList]⟩
theorem Tryz.zqK:(Tryz.prog.info? 121).map (fun i=>(i.zero,i.size,i.bytes))=some (some (.agg #[.s ByteArray.empty,.s ByteArray.empty,.s ByteArray.empty,.l none 0 0,.bool false,.l none 0 0,.i 0]),7,112):=by kernel_rfl
structure ObP where
 x:Ob
 a0:OA
 c0:Nat
 a1:OA
 c1:Nat
def ObP.row (p:ObP):List Value:=[.s p.x.kd,.s p.x.nm,.s p.x.tm,.l p.a0 p.x.vs.length p.c0,.bool p.x.en,.l p.a1 p.x.hs.length p.c1,.i p.x.vr]
def zhB (lo:Nat)(w:World)(own:Nat->Lb)(v:Value)(xs:List Ob):Prop:=
 ∃ps:List ObP,ps.map ObP.x=xs/\w.ownsRow lo 121 7 v ps.length (ps.flatMap ObP.row)/\(∀k,v.ownBlock=some k->own k=(0,0,0))/\∀i (h:i<ps.length),zn lo w ps[i].a0 ps[i].x.vs/\(∀g,ps[i].a0=some g->own g.block=(0,i,1))/\zn lo w ps[i].a1 ps[i].x.hs/\(∀g,ps[i].a1=some g->own g.block=(0,i,2))
theorem zhB.lie {lo:Nat}{w:World}{own:Nat->Lb}{v:Value}{xs:List Ob}(h:zhB lo w own v xs):∃a cap,v=.l a xs.length cap/\zbv lo w own a xs.length (zaW xs):=by
 obtain⟨ps,h1,h2,h3,h4⟩:=h;have hn:ps.length=xs.length:=by rw[<- h1,List.length_map]
 obtain⟨a,cap,rfl⟩:=jm h2;refine⟨a,cap,by rw[hn],⟨fun hp=>?_⟩⟩;obtain⟨b,C,rfl,hlo,hC,hs,hc⟩:=zee h2 (by omega);refine⟨b,C,rfl,hlo,h3 b rfl,hC,by rw[<- hn];exact hs,fun i hi=>?_⟩;have hi':i<ps.length:=by omega
 have he:zaW xs i=ps[i].x:=by rw[zmf hi];simp[<- h1]
 obtain⟨l0,o0,l1,o1⟩:=h4 i hi';rw[he];refine⟨ps[i].a0,ps[i].a1,ps[i].c0,ps[i].c1,fun j hj=>?_,l0,o0,l1,o1⟩
 show C[i*7+j]?=_
 have hlt:i*7+j<ps.length*7:=by omega
 rw[hc _ hlt,zaz _ 7 (fun _=>rfl) ps i hi' j hj];unfold ObP.row
 simp
theorem zhB.left {S:Nat->Prop}{lo:Nat}{w w':World}{own:Nat->Lb}{v:Value}{xs:List Ob}(h:zhB lo w own v xs)(hl:Left S w w')(hS:∀k,(own k).1=0->¬S k):zhB lo w' own v xs:=by
 obtain⟨ps,h1,h2,h3,h4⟩:=h;refine⟨ps,h1,qG h2 (fun g hg=>hl.out g (h2.lt g hg).2 (hS g (by rw[h3 g hg]))),h3,fun i hi=>?_⟩;obtain⟨l0,o0,l1,o1⟩:=h4 i hi;exact⟨l0.left hl (fun g hg=>hS _ (by rw[o0 g hg])),o0,l1.left hl (fun g hg=>hS _ (by rw[o1 g hg])),o1⟩
theorem zhB.snoc {lo m:Nat}{wr w1 w4:World}{own:Nat->Lb}{v v':Value}{xs:List Ob}{ps:List ObP}{x:Ob}{a0:OA}{c0:Nat}{a1:OA}{c1:Nat}{o:Obj}(h1:ps.map ObP.x=xs)(h2:wr.ownsRow lo 121 7 v ps.length (ps.flatMap ObP.row))(h3:∀k,v.ownBlock=some k->own k=(0,0,0))(h4:∀i (h:i<ps.length),zn lo wr ps[i].a0 ps[i].x.vs/\(∀g,ps[i].a0=some g->own g.block=(0,i,1))/\zn lo wr ps[i].a1 ps[i].x.hs/\(∀g,ps[i].a1=some g->own g.block=(0,i,2)))
 (hlo:lo<=wr.heap.size) (hB:Bw wr w1) (hl0:zn wr.heap.size w1 a0 x.vs) (hm:∀g,a0=some g->g.block<m) (hwm:wr.heap.size<=m) (hl1:zn m w1 a1 x.hs) (hg:(w1.alloc o).grownBy w4 v.ownBlock) (ho:w4.ownsRow lo 121 7 v' (ps.length+1) (ps.flatMap ObP.row++[.s x.kd,.s x.nm,.s x.tm,.l a0 x.vs.length c0,.bool x.en,.l a1 x.hs.length c1,.i x.vr])) (hat:v'.ownBlock=v.ownBlock \/ v'.ownBlock=some (w1.alloc o).heap.size) :
 ∃own',(∀k,k<wr.heap.size->own' k=own k)/\zhB lo w4 own' v' (xs++[x]):=by
 have hn:ps.length=xs.length:=by rw[<- h1,List.length_map]
 have hz1:=hB.size;have hv:∀k,v.ownBlock=some k->k<wr.heap.size:=fun k hk=>(h2.lt k hk).2
 have hL1:Left (fun k=>v.ownBlock=some k) w1 w4:=(Left.of_below _ ((bRf _ _).alloc (Nat.le_refl _) o)).grown hg (fun _ h=>h);have hL:Left (fun k=>v.ownBlock=some k) wr w4:=(Left.of_below _ hB).trans hL1;obtain⟨own',he'⟩:∃own':Nat->Lb,own'=fun k=>if k<wr.heap.size then own k else if a0=some (aD k 0) then (0,xs.length,1) else if a1=some (aD k 0) then (0,xs.length,2) else (0,0,0):=⟨_,rfl⟩
 have hold:∀k,k<wr.heap.size->own' k=own k:=fun k hk=>by rw[he'];exact if_pos hk
 refine⟨own',hold,ps++[⟨x,a0,c0,a1,c1⟩],by rw[List.map_append,h1];rfl,?_,fun k hk=>?_,fun i hi=>?_⟩
 ·rw[List.flatMap_append,List.length_append];exact ho
 ·rcases hat with e|e
  ·rw[hold k (hv k (e ▸ hk))];exact h3 k (e ▸ hk)
  ·rw[hk]at e
   obtain rfl:k=w1.heap.size+1:=by simpa using e
   rw[he']
   show(if _ then _ else _)=_
   rw[if_neg (by omega)];rw[if_neg (by intro e2;have:=hl0.lt _ e2;simp at this;omega)];rw[if_neg (by intro e2;have:=hl1.lt _ e2;simp at this;omega)]
 ·by_cases hi':i<ps.length
  ·have e1:(ps++[⟨x,a0,c0,a1,c1⟩])[i]=ps[i]:=List.getElem_append_left hi'
   rw[e1];obtain⟨l0,o0,l1,o1⟩:=h4 i hi';exact⟨l0.left hL (fun g hg hh=>by have e3:=o0 g hg;rw[h3 _ hh]at e3;simp at e3),fun g hg=>by rw[hold _ (l0.lt g hg)];exact o0 g hg,l1.left hL (fun g hg hh=>by have e3:=o1 g hg;rw[h3 _ hh]at e3;simp at e3),fun g hg=>by rw[hold _ (l1.lt g hg)];exact o1 g hg⟩
  ·have ei:i=ps.length:=by rw[List.length_append]at hi;simp at hi;omega
   subst ei;have e1:(ps++[⟨x,a0,c0,a1,c1⟩])[ps.length]=⟨x,a0,c0,a1,c1⟩:=by simp
   rw[e1]
   have g0:∀g,a0=some g->wr.heap.size<=g.block/\g=(aD g.block 0):=by
    rintro g rfl
    rcases hl0 with⟨h9,_⟩|⟨g',C,h9,h8,_⟩
    ·cases h9
    ·cases h9;exact⟨h8,rfl⟩
   have g1:∀g,a1=some g->m<=g.block/\g=(aD g.block 0):=by
    rintro g rfl
    rcases hl1 with⟨h9,_⟩|⟨g',C,h9,h8,_⟩
    ·cases h9
    ·cases h9;exact⟨h8,rfl⟩
   refine⟨(hl0.low hlo).left hL1 (fun g hg hh=>by have:=(g0 g hg).1;have:=hv _ hh;omega),fun g hg=>?_,(hl1.low (by omega)).left hL1 (fun g hg hh=>by have:=(g1 g hg).1;have:=hv _ hh;omega),fun g hg=>?_⟩
   ·have h9:=g0 g hg
    rw[he']
    show(if _ then _ else _)=_
    rw[if_neg (by omega),if_pos (hg.trans (congrArg some h9.2)),hn]
   ·have h9:=g1 g hg
    rw[he']
    show(if _ then _ else _)=_
    rw[if_neg (by omega),if_neg (by intro e2;have:=hm _ e2;simp at this;omega),if_pos (hg.trans (congrArg some h9.2)),hn]
theorem Tryz.zq5:(Tryz.prog.info? 125).map (fun i=>(i.zero,i.size,i.bytes))=some (some (.agg #[.i 0,.s ByteArray.empty,.s ByteArray.empty,.l none 0 0,.s ByteArray.empty,.s ByteArray.empty,.s ByteArray.empty]),7,112):=by kernel_rfl
structure GrP where
 x:Gr
 a0:OA
 c0:Nat
def GrP.row (p:GrP):List Value:=[.i p.x.no,.s p.x.to,.s p.x.gb,.l p.a0 p.x.r.vs.length p.c0,.s p.x.r.kd,.s p.x.r.tm,.s p.x.r.px]
def zhx (lo:Nat)(w:World)(own:Nat->Lb)(v:Value)(xs:List Gr):Prop:=
 ∃ps:List GrP,ps.map GrP.x=xs/\w.ownsRow lo 125 7 v ps.length (ps.flatMap GrP.row)/\(∀k,v.ownBlock=some k->own k=(1,0,0))/\∀i (h:i<ps.length),yx lo w ps[i].a0 ps[i].x.r.vs/\(∀g,ps[i].a0=some g->own g.block=(1,i,3))
theorem zhx.lie {lo:Nat}{w:World}{own:Nat->Lb}{v:Value}{xs:List Gr}(h:zhx lo w own v xs):∃a cap,v=.l a xs.length cap/\zck lo w own a xs.length (zcl xs):=by
 obtain⟨ps,h1,h2,h3,h4⟩:=h;have hn:ps.length=xs.length:=by rw[<- h1,List.length_map]
 obtain⟨a,cap,rfl⟩:=jm h2;refine⟨a,cap,by rw[hn],⟨fun hp=>?_⟩⟩;obtain⟨b,C,rfl,hlo,hC,hs,hc⟩:=zee h2 (by omega);refine⟨b,C,rfl,hlo,h3 b rfl,hC,by rw[<- hn];exact hs,fun i hi=>?_⟩;have hi':i<ps.length:=by omega
 have he:zcl xs i=ps[i].x:=by rw[zl3 hi];simp[<- h1]
 obtain⟨l0,o0⟩:=h4 i hi';rw[he];refine⟨ps[i].a0,ps[i].c0,fun j hj=>?_,l0,o0⟩
 show C[i*7+j]?=_
 have hlt:i*7+j<ps.length*7:=by omega
 rw[hc _ hlt,zaz _ 7 (fun _=>rfl) ps i hi' j hj];unfold GrP.row
 simp
theorem zhx.left {S:Nat->Prop}{lo:Nat}{w w':World}{own:Nat->Lb}{v:Value}{xs:List Gr}(h:zhx lo w own v xs)(hl:Left S w w')(hS:∀k,(own k).1=1->¬S k):zhx lo w' own v xs:=by
 obtain⟨ps,h1,h2,h3,h4⟩:=h;refine⟨ps,h1,qG h2 (fun g hg=>hl.out g (h2.lt g hg).2 (hS g (by rw[h3 g hg]))),h3,fun i hi=>?_⟩;obtain⟨l0,o0⟩:=h4 i hi;exact⟨l0.left hl (fun g hg=>hS _ (by rw[o0 g hg])),o0⟩
theorem zhx.snoc {lo:Nat}{wr w1 w4:World}{own:Nat->Lb}{v v':Value}{xs:List Gr}{ps:List GrP}{x:Gr}{a0:OA}{c0:Nat}{o:Obj}(h1:ps.map GrP.x=xs)(h2:wr.ownsRow lo 125 7 v ps.length (ps.flatMap GrP.row))(h3:∀k,v.ownBlock=some k->own k=(1,0,0))(h4:∀i (h:i<ps.length),yx lo wr ps[i].a0 ps[i].x.r.vs/\(∀g,ps[i].a0=some g->own g.block=(1,i,3)))
 (hlo:lo<=wr.heap.size) (hB:Bw wr w1) (hl0:yx wr.heap.size w1 a0 x.r.vs) (hg:(w1.alloc o).grownBy w4 v.ownBlock) (ho:w4.ownsRow lo 125 7 v' (ps.length+1) (ps.flatMap GrP.row++[.i x.no,.s x.to,.s x.gb,.l a0 x.r.vs.length c0,.s x.r.kd,.s x.r.tm,.s x.r.px])) (hat:v'.ownBlock=v.ownBlock \/ v'.ownBlock=some (w1.alloc o).heap.size) :
 ∃own',(∀k,k<wr.heap.size->own' k=own k)/\zhx lo w4 own' v' (xs++[x]):=by
 have hn:ps.length=xs.length:=by rw[<- h1,List.length_map]
 have hz1:=hB.size;have hv:∀k,v.ownBlock=some k->k<wr.heap.size:=fun k hk=>(h2.lt k hk).2
 have hL1:Left (fun k=>v.ownBlock=some k) w1 w4:=(Left.of_below _ ((bRf _ _).alloc (Nat.le_refl _) o)).grown hg (fun _ h=>h);have hL:Left (fun k=>v.ownBlock=some k) wr w4:=(Left.of_below _ hB).trans hL1;obtain⟨own',he'⟩:∃own':Nat->Lb,own'=fun k=>if k<wr.heap.size then own k else if a0=some (aD k 0) then (1,xs.length,3) else (1,0,0):=⟨_,rfl⟩
 have hold:∀k,k<wr.heap.size->own' k=own k:=fun k hk=>by rw[he'];exact if_pos hk
 refine⟨own',hold,ps++[⟨x,a0,c0⟩],by rw[List.map_append,h1];rfl,?_,fun k hk=>?_,fun i hi=>?_⟩
 ·rw[List.flatMap_append,List.length_append];exact ho
 ·rcases hat with e|e
  ·rw[hold k (hv k (e ▸ hk))];exact h3 k (e ▸ hk)
  ·rw[hk]at e
   obtain rfl:k=w1.heap.size+1:=by simpa using e
   rw[he']
   show(if _ then _ else _)=_
   rw[if_neg (by omega)];rw[if_neg (by intro e2;have:=hl0.lt _ e2;simp at this;omega)]
 ·by_cases hi':i<ps.length
  ·have e1:(ps++[⟨x,a0,c0⟩])[i]=ps[i]:=List.getElem_append_left hi'
   rw[e1];obtain⟨l0,o0⟩:=h4 i hi';exact⟨l0.left hL (fun g hg hh=>by have e3:=o0 g hg;rw[h3 _ hh]at e3;simp at e3),fun g hg=>by rw[hold _ (l0.lt g hg)];exact o0 g hg⟩
  ·have ei:i=ps.length:=by rw[List.length_append]at hi;simp at hi;omega
   subst ei;have e1:(ps++[⟨x,a0,c0⟩])[ps.length]=⟨x,a0,c0⟩:=by simp
   rw[e1]
   have g0:∀g,a0=some g->wr.heap.size<=g.block/\g=(aD g.block 0):=by
    rintro g rfl
    rcases hl0 with⟨h9,_⟩|⟨g',C,h9,h8,_⟩
    ·cases h9
    ·cases h9;exact⟨h8,rfl⟩
   refine⟨(hl0.low hlo).left hL1 (fun g hg hh=>by have:=(g0 g hg).1;have:=hv _ hh;omega),fun g hg=>?_⟩;have h9:=g0 g hg;rw[he']
   show(if _ then _ else _)=_
   rw[if_neg (by omega),if_pos (hg.trans (congrArg some h9.2)),hn]
theorem Tryz.zhq:(Tryz.prog.info? 69).map (fun i=>(i.zero,i.size,i.bytes))=some (some (.agg #[.s ByteArray.empty,.s ByteArray.empty,.i 0,.i 0]),4,48):=by kernel_rfl
def Lg.row (p:Lg):List Value:=[.s p.tm,.s p.rs,.i p.mo,.i p.fr]
def zdb (lo:Nat)(w:World)(own:Nat->Lb)(v:Value)(xs:List Lg):Prop:=
 w.ownsRow lo 69 4 v xs.length (xs.flatMap Lg.row)/\∀k,v.ownBlock=some k->own k=(2,0,0)
theorem zdb.lie {lo:Nat}{w:World}{own:Nat->Lb}{v:Value}{xs:List Lg}(h:zdb lo w own v xs):∃a cap,v=.l a xs.length cap/\zco lo w own a xs.length (zet xs):=by
 obtain⟨h2,h3⟩:=h;obtain⟨a,cap,rfl⟩:=jm h2;refine⟨a,cap,rfl,⟨fun hp=>?_⟩⟩;obtain⟨b,C,rfl,hlo,hC,hs,hc⟩:=zee h2 hp;refine⟨b,C,rfl,hlo,h3 b rfl,hC,hs,fun i hi=>?_⟩;rw[zpz hi];refine⟨fun j hj=>?_⟩
 show C[i*4+j]?=_
 have hlt:i*4+j<xs.length*4:=by omega
 rw[hc _ hlt,zaz _ 4 (fun _=>rfl) xs i hi j hj];unfold Lg.row
 simp
theorem zdb.left {S:Nat->Prop}{lo:Nat}{w w':World}{own:Nat->Lb}{v:Value}{xs:List Lg}(h:zdb lo w own v xs)(hl:Left S w w')(hS:∀k,(own k).1=2->¬S k):zdb lo w' own v xs:=
 ⟨qG h.1 (fun g hg=>hl.out g (h.1.lt g hg).2 (hS g (by rw[h.2 g hg]))),h.2⟩
theorem zdb.own {lo:Nat}{w:World}{own own':Nat->Lb}{v:Value}{xs:List Lg}(h:zdb lo w own v xs)(he:∀k,k<w.heap.size->(own k).1=2->own' k=own k):zdb lo w own' v xs:=⟨h.1,fun k hk=>by rw[he k (h.1.lt k hk).2 (by rw[h.2 k hk])];exact h.2 k hk⟩
theorem zdb.low {lo lo':Nat}{w:World}{own:Nat->Lb}{v:Value}{xs:List Lg}(h:zdb lo w own v xs)(hl:lo'<=lo):zdb lo' w own v xs:=⟨zji h.1 hl,h.2⟩
theorem zqC {w:World}{b off:Nat}{xs:List Lg}(h:zbn w (some (aD b off)) xs):∀j u,(xs.flatMap Lg.row)[j]?=some u->w.cell? (((aD b off):Addr).add j)=some u:=by
 intro j u hj;have hlt:=(List.getElem?_eq_some_iff.1 hj).1;rw[zcf _ 4 (fun _=>rfl)]at hlt;obtain⟨b',off',e,_,hc⟩:=h.rows (by rintro rfl;simp at hlt)
 cases e
 have hi:j / 4<xs.length:=by omega
 have e1:j=j / 4*4+j % 4:=by omega
 rw[Addr.add_mid,show off+j=off+j / 4*4+j % 4 by omega,hc (j / 4) hi (j % 4) (by omega),<- hj]
 conv=>rhs;rw[e1]
 rw[zaz _ 4 (fun _=>rfl) xs (j / 4) hi (j % 4) (by omega)];unfold Lg.row Lg.cells
 simp
theorem zcC {xs:List Lg}:∀u∈xs.flatMap Lg.row,u.oneCell'=true:=by
 intro u hu;obtain⟨p,_,hp⟩:=List.mem_flatMap.1 hu;unfold Lg.row at hp
 simp at hp
 rcases hp with rfl|rfl|rfl|rfl <;> rfl
theorem Tryz.zqN:(Tryz.prog.info? 142).map (fun i=>(i.zero,i.size,i.bytes))=some (some (.agg #[.s ByteArray.empty,.s ByteArray.empty,.s ByteArray.empty,.i 0,.i 0]),5,64):=by kernel_rfl
def Pu.row (p:Pu):List Value:=[.s p.dr,.s p.tm,.s p.rs,.i p.am,.i p.un]
def zeW (lo:Nat)(w:World)(own:Nat->Lb)(v:Value)(xs:List Pu):Prop:=
 w.ownsRow lo 142 5 v xs.length (xs.flatMap Pu.row)/\∀k,v.ownBlock=some k->own k=(3,0,0)
theorem zeW.lie {lo:Nat}{w:World}{own:Nat->Lb}{v:Value}{xs:List Pu}(h:zeW lo w own v xs):∃a cap,v=.l a xs.length cap/\zc4 lo w own a xs.length (ze8 xs):=by
 obtain⟨h2,h3⟩:=h;obtain⟨a,cap,rfl⟩:=jm h2;refine⟨a,cap,rfl,⟨fun hp=>?_⟩⟩;obtain⟨b,C,rfl,hlo,hC,hs,hc⟩:=zee h2 hp;refine⟨b,C,rfl,hlo,h3 b rfl,hC,hs,fun i hi=>?_⟩;rw[zpv hi];refine⟨fun j hj=>?_⟩
 show C[i*5+j]?=_
 have hlt:i*5+j<xs.length*5:=by omega
 rw[hc _ hlt,zaz _ 5 (fun _=>rfl) xs i hi j hj];unfold Pu.row
 simp
theorem zeW.left {S:Nat->Prop}{lo:Nat}{w w':World}{own:Nat->Lb}{v:Value}{xs:List Pu}(h:zeW lo w own v xs)(hl:Left S w w')(hS:∀k,(own k).1=3->¬S k):zeW lo w' own v xs:=
 ⟨qG h.1 (fun g hg=>hl.out g (h.1.lt g hg).2 (hS g (by rw[h.2 g hg]))),h.2⟩
theorem zeW.own {lo:Nat}{w:World}{own own':Nat->Lb}{v:Value}{xs:List Pu}(h:zeW lo w own v xs)(he:∀k,k<w.heap.size->(own k).1=3->own' k=own k):zeW lo w own' v xs:=⟨h.1,fun k hk=>by rw[he k (h.1.lt k hk).2 (by rw[h.2 k hk])];exact h.2 k hk⟩
theorem zeW.low {lo lo':Nat}{w:World}{own:Nat->Lb}{v:Value}{xs:List Pu}(h:zeW lo w own v xs)(hl:lo'<=lo):zeW lo' w own v xs:=⟨zji h.1 hl,h.2⟩
theorem zqD {w:World}{b off:Nat}{xs:List Pu}(h:zce w (some (aD b off)) xs):∀j u,(xs.flatMap Pu.row)[j]?=some u->w.cell? (((aD b off):Addr).add j)=some u:=by
 intro j u hj;have hlt:=(List.getElem?_eq_some_iff.1 hj).1;rw[zcf _ 5 (fun _=>rfl)]at hlt;obtain⟨b',off',e,_,hc⟩:=h.rows (by rintro rfl;simp at hlt)
 cases e
 have hi:j / 5<xs.length:=by omega
 have e1:j=j / 5*5+j % 5:=by omega
 rw[Addr.add_mid,show off+j=off+j / 5*5+j % 5 by omega,hc (j / 5) hi (j % 5) (by omega),<- hj]
 conv=>rhs;rw[e1]
 rw[zaz _ 5 (fun _=>rfl) xs (j / 5) hi (j % 5) (by omega)];unfold Pu.row Pu.cells
 simp
theorem zpp {xs:List Pu}:∀u∈xs.flatMap Pu.row,u.oneCell'=true:=by
 intro u hu;obtain⟨p,_,hp⟩:=List.mem_flatMap.1 hu;unfold Pu.row at hp
 simp at hp
 rcases hp with rfl|rfl|rfl|rfl|rfl <;> rfl
end Go.Proofs.YtcgpjfcocmcodaaGreat
