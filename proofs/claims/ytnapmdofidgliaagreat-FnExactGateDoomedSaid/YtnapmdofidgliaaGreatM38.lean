import Derived.Test.YtnapmdofidgliaaGreatM36
set_option maxHeartbeats 4000000
namespace Go.Proofs.YtnapmdofidgliaaGreat
open Go.RowKit
def qC (kd fld:ByteArray)(row:List ByteArray)(m:Mnd):Bool:=!(decide (m.kd=kd)&&decide (m.fd=fld))||((!isSet m.wh||has row m.wh)&&(!isSet m.fr||has row m.fr))
def zcs (ms:List Mnd)(kd fld:ByteArray)(row:List ByteArray):Bool:=ms.all (qC kd fld row)
set_option maxRecDepth 20000 in
theorem znC (a ra:Option Addr)(cap rcap:Nat)(ms:List Mnd)(kd fld:ByteArray)(row:List ByteArray)(w:World)(hm:qN w a ms)(hr:zD w ra row)(hml:ms.length<=12) :
 Calls Tryz.prog 174 #[.slice a ms.length cap,.string kd,.string fld,.slice ra row.length rcap] w fun e w'=>e=.returned (.bool (zcs ms kd fld row))/\Below w.heap.size w w':=by
 have HM:=jC hm hr;clear hm hr;go_enter Tryz.func174,Tryz.ntmps174;go_wp2_with fail
 go_loopw [9] (fun iv wr=>∃k:Nat,k<=ms.length/\iv=.int .i64 k/\(ms.take k).all (qC kd fld row)=true/\Below w.heap.size w wr) (fun iv _=>ms.length-(intOf iv).toNat)
 case atStart=>exact⟨0,Nat.zero_le _,rfl,rfl,bRf _ _⟩
 case round=>
  obtain⟨k,hk,rfl,hall,hB⟩:=hrel;have HB:=hid hB;have HA:Hid ((ms.take k).all (qC kd fld row)=true):=hall
  by_cases hlt:k<ms.length
  ·obtain⟨b,off,rfl,hb,c0,c1,c2,c3,c4,c5⟩:=HM.out.1.load hB k hlt
   have hltI:(k:Int)<(ms.length:Int):=by omega
   have HTK:Hid ((ms.take (k+1)).all (qC kd fld row)=qC kd fld row ms[k]):=by
    unfold Hid;rw[tSe hlt,List.all_append,HA.out];simp
   have HNO:Hid (qC kd fld row ms[k]=false->zcs ms kd fld row=false):=by
    intro h;unfold zcs;rw[List.all_eq_false];exact⟨_,List.getElem_mem hlt,by rw[h];simp⟩
   have HBA:Hid (Below w.heap.size w (wr.alloc (.cells #[.string ms[k].kd,.string ms[k].fd,.string ms[k].wh,.string ms[k].wi,.string ms[k].pt,.string ms[k].fr] 133))):=hB.alloc hB.size _;clear hall hB HA
   by_cases e1:ms[k].kd=kd
   rotate_left
   ·have he1:(ms[k].kd.toList == kd.toList)=false:=by rw[beq_toList];simpa using e1
    have HY:Hid (qC kd fld row ms[k]=true):=by unfold Hid qC;simp[e1]
    clear e1;go_wp2_with fail
    exact⟨⟨k+1,by omega,by go_num,by rw[HTK.out];exact HY.out,HBA.out⟩,zm hlt⟩
   have he1:(ms[k].kd.toList == kd.toList)=true:=by rw[beq_toList];simpa using e1
   by_cases e2:ms[k].fd=fld
   rotate_left
   ·have he2:(ms[k].fd.toList == fld.toList)=false:=by rw[beq_toList];simpa using e2
    have HY:Hid (qC kd fld row ms[k]=true):=by unfold Hid qC;simp[e2]
    clear e1 e2;go_wp2_with fail
    exact⟨⟨k+1,by omega,by go_num,by rw[HTK.out];exact HY.out,HBA.out⟩,zm hlt⟩
   have he2:(ms[k].fd.toList == fld.toList)=true:=by rw[beq_toList];simpa using e2
   have HRD:Hid (qC kd fld row ms[k]=((!isSet ms[k].wh||has row ms[k].wh)&&(!isSet ms[k].fr||has row ms[k].fr))):=by unfold Hid qC;simp[e1,e2]
   clear e1 e2
   rcases hwh:ms[k].wh.toList.isEmpty with _|_ <;> rcases hfr:ms[k].fr.toList.isEmpty with _|_
   all_goals go_wp2_with fail
   ·skip
    have h:=zcI ra rcap row ms[k].wh _ (HM.out.2.mono HBA.out)
    rcases hh1:has row ms[k].wh with _|_
    ·rw[hh1]at h
     refine h.mono ?_;rintro e w3⟨rfl,rfl⟩;have HF:Hid (zcs ms kd fld row=false):=HNO.out (by rw[HRD.out];unfold isSet;simp[*]);clear h;go_wp2_with fail
     go_ret;exact⟨by rw[HF.out];rfl,HBA.out⟩
    ·rw[hh1]at h
     refine h.mono ?_;rintro e w3⟨rfl,rfl⟩;clear h;go_wp2_with fail
     have h:=zcI ra rcap row ms[k].fr _ (HM.out.2.mono HBA.out)
     rcases hh2:has row ms[k].fr with _|_
     ·rw[hh2]at h
      refine h.mono ?_;rintro e w3⟨rfl,rfl⟩;have HF:Hid (zcs ms kd fld row=false):=HNO.out (by rw[HRD.out];unfold isSet;simp[*]);clear h;go_wp2_with fail
      go_ret;exact⟨by rw[HF.out];rfl,HBA.out⟩
     ·rw[hh2]at h
      refine h.mono ?_;rintro e w3⟨rfl,rfl⟩;clear h;go_wp2_with fail
      have HY:Hid (qC kd fld row ms[k]=true):=by unfold Hid;rw[HRD.out];unfold isSet;simp[*]
      exact⟨⟨k+1,by omega,by go_num,by rw[HTK.out];exact HY.out,HBA.out⟩,zm hlt⟩
   ·skip
    have h:=zcI ra rcap row ms[k].wh _ (HM.out.2.mono HBA.out)
    rcases hh1:has row ms[k].wh with _|_
    ·rw[hh1]at h
     refine h.mono ?_;rintro e w3⟨rfl,rfl⟩;have HF:Hid (zcs ms kd fld row=false):=HNO.out (by rw[HRD.out];unfold isSet;simp[*]);clear h;go_wp2_with fail
     go_ret;exact⟨by rw[HF.out];rfl,HBA.out⟩
    ·rw[hh1]at h
     refine h.mono ?_;rintro e w3⟨rfl,rfl⟩;clear h;go_wp2_with fail
     have HY:Hid (qC kd fld row ms[k]=true):=by unfold Hid;rw[HRD.out];unfold isSet;simp[*]
     exact⟨⟨k+1,by omega,by go_num,by rw[HTK.out];exact HY.out,HBA.out⟩,zm hlt⟩
   ·skip
    have h:=zcI ra rcap row ms[k].fr _ (HM.out.2.mono HBA.out)
    rcases hh2:has row ms[k].fr with _|_
    ·rw[hh2]at h
     refine h.mono ?_;rintro e w3⟨rfl,rfl⟩;have HF:Hid (zcs ms kd fld row=false):=HNO.out (by rw[HRD.out];unfold isSet;simp[*]);clear h;go_wp2_with fail
     go_ret;exact⟨by rw[HF.out];rfl,HBA.out⟩
    ·rw[hh2]at h
     refine h.mono ?_;rintro e w3⟨rfl,rfl⟩;clear h;go_wp2_with fail
     have HY:Hid (qC kd fld row ms[k]=true):=by unfold Hid;rw[HRD.out];unfold isSet;simp[*]
     exact⟨⟨k+1,by omega,by go_num,by rw[HTK.out];exact HY.out,HBA.out⟩,zm hlt⟩
   ·skip
    have HY:Hid (qC kd fld row ms[k]=true):=by unfold Hid;rw[HRD.out];unfold isSet;simp[*]
    exact⟨⟨k+1,by omega,by go_num,by rw[HTK.out];exact HY.out,HBA.out⟩,zm hlt⟩
  ·have e:k=ms.length:=by omega
   rw[e,tOl (Nat.le_refl _)]at hall;have HF:Hid (zcs ms kd fld row=true):=hall;subst e;clear hall HA hB;go_wp2_with fail
   go_ret;exact⟨by rw[HF.out];rfl,HB.out⟩
def zdH {α:Type}(p:α->Bool)(l:List α):Int:=if l.any p=true then (l.findIdx p:Int) else -1
theorem zpg {α:Type}{p:α->Bool}{l:List α}{k:Nat}(hk:k<l.length)(h:∀i (hi:i<l.length),i<k->p l[i]=false)(hp:p l[k]=true):zdH p l=k:=by
 unfold zdH;rw[if_pos (List.any_eq_true.2 ⟨l[k],List.getElem_mem _,hp⟩)];have e:l.findIdx p=k:=(List.findIdx_eq hk).2 ⟨hp,fun j hj=>h j (by omega) hj⟩;rw[e]
theorem zlw {α:Type}{p:α->Bool}{l:List α}(h:∀i (hi:i<l.length),p l[i]=false):zdH p l=-1:=by
 unfold zdH;rw[if_neg];intro hc;obtain⟨x,hx,hp⟩:=List.any_eq_true.1 hc;obtain⟨i,hi,rfl⟩:=List.mem_iff_getElem.1 hx;rw[h i hi]at hp
 cases hp
theorem zcj {α:Type}(p:α->Bool)(l:List α):zdH p l<0↔l.any p=false:=by
 unfold zdH
 split
 ·rename_i h;rw[h];constructor
  ·intro h';omega
  ·intro h';cases h'
 ·rename_i h
  exact⟨fun _=>by simpa using h,fun _=>by omega⟩
def zar (kd nm:ByteArray)(o:Ob):Bool:=decide (o.kd=kd)&&decide (o.nm=nm)
def ze8 (tm rs:ByteArray)(g:Lg):Bool:=decide (g.tm=tm)&&decide (g.rs=rs)
def zod (tm rs:ByteArray)(p:Pu):Bool:=decide (p.tm=tm)&&decide (p.rs=rs)
def zbt (ps:List Pu)(tm rs:ByteArray):Nat->Int
 | 0=>0
 | k+1=>zbt ps tm rs k+(match ps[k]? with|some p=>if zod tm rs p=true then p.am else 0|none=>0)
def out (ps:List Pu)(tm rs:ByteArray):Int:=zbt ps tm rs ps.length
theorem zfn (ps:List Pu)(tm rs:ByteArray)(k:Nat)(h:k<ps.length):zbt ps tm rs (k+1)=zbt ps tm rs k+(if zod tm rs ps[k]=true then ps[k].am else 0):=by
 simp only[zbt,List.getElem?_eq_getElem h]
theorem zbN (ps:List Pu)(tm rs:ByteArray)(ha:∀i (h:i<ps.length),0<=ps[i].am/\ps[i].am<=1000000):∀k,k<=ps.length->0<=zbt ps tm rs k/\zbt ps tm rs k<=k*1000000
 | 0,_=>by simp[zbt]
 | k+1,h=>by
  have h1:=zbN ps tm rs ha k (by omega);have h2:=ha k h;rw[zfn ps tm rs k h]
  split <;> omega
theorem zhk (x y:ByteArray)(w:World):Calls Tryz.prog 135 #[.string x,.string y] w fun e w'=>e=.returned (.int .i64 (key x y))/\w'=w:=by
 have k1:=zjk x y;have k2:=zjk y x;have k3:=zqh x y;have k4:=znq x y;unfold less at k1 k2
 by_cases h1:key x y=-1
 ·have HF:=zjC h1
  have e1:Op.bytesLess x.toList y.toList=true:=by rw[k1];simpa using h1
  clear k1 k2 k3 k4 h1;go_enter Tryz.func135,Tryz.ntmps135;go_wp2_with fail
  go_ret;exact⟨zo HF.out.symm,rfl⟩
 ·have e1:Op.bytesLess x.toList y.toList=false:=by rw[k1];simpa using h1
  by_cases h2:key y x=-1
  ·have HF:Hid (key x y=1):=by unfold Hid;omega
   have e2:Op.bytesLess y.toList x.toList=true:=by rw[k2];simpa using h2
   have e3:(x.toList == y.toList)=false:=by rw[beq_toList,decide_eq_false_iff_not];intro e;have:=(zbF x y).2 e;omega
   clear k1 k2 k3 k4 h1 h2;go_enter Tryz.func135,Tryz.ntmps135;go_wp2_with fail
   go_ret;exact⟨zo HF.out.symm,rfl⟩
  ·have HF:Hid (key x y=0):=by unfold Hid;omega
   have e2:Op.bytesLess y.toList x.toList=false:=by rw[k2];simpa using h2
   have e3:(x.toList == y.toList)=true:=by rw[beq_toList,decide_eq_true_eq];exact(zbF x y).1 HF.out
   clear k1 k2 k3 k4 h1 h2;go_enter Tryz.func135,Tryz.ntmps135;go_wp2_with fail
   go_ret;exact⟨zo HF.out.symm,rfl⟩
theorem zhE (x y z u:ByteArray)(w:World):Calls Tryz.prog 100 #[.string x,.string y,.string z,.string u] w fun e w'=>e=.returned (.int .i64 (key2 x y z u))/\w'=w:=by
 by_cases h:key x z=0
 ·have HF:Hid (key2 x y z u=key y u):=by unfold Hid key2;rw[if_pos h]
  have e1:(key x z != 0)=false:=by simpa using h
  clear h;go_enter Tryz.func100,Tryz.ntmps100
  go_wp2_with (go_at_call 135;refine(zhk _ _ _).mono ?_;rintro e w2⟨rfl,rfl⟩)
  go_ret;exact⟨zo HF.out.symm,rfl⟩
 ·have HF:Hid (key2 x y z u=key x z):=by unfold Hid key2;rw[if_neg h]
  have e1:(key x z != 0)=true:=by simpa using h
  clear h;go_enter Tryz.func100,Tryz.ntmps100
  go_wp2_with (go_at_call 135;refine(zhk _ _ _).mono ?_;rintro e w2⟨rfl,rfl⟩)
  go_ret;exact⟨zo HF.out.symm,rfl⟩
theorem zjI (p q:Pu)(w:World):Calls Tryz.prog 107 #[.agg p.cells,.agg q.cells] w fun e w'=>e=.returned (.int .i64 (zaB p q))/\Below w.heap.size w w':=by
 unfold Pu.cells
 by_cases h:p.dr=q.dr
 ·have HF:Hid (zaB p q=key2 p.tm p.rs q.tm q.rs):=by unfold Hid zaB;rw[if_pos ((zbF _ _).2 h)]
  have e1:(p.dr.toList == q.dr.toList)=true:=by rw[beq_toList];simpa using h
  clear h;go_enter Tryz.func107,Tryz.ntmps107;go_wp2_with fail
  refine(zhE _ _ _ _ _).mono ?_;rintro e w2⟨rfl,rfl⟩;go_wp2_with fail
  go_ret;exact⟨zo HF.out.symm,zw _ _ _⟩
 ·have HF:Hid (zaB p q=key p.dr q.dr):=by unfold Hid zaB;rw[if_neg (fun e=>h ((zbF _ _).1 e))]
  have e1:(p.dr.toList == q.dr.toList)=false:=by rw[beq_toList];simpa using h
  clear h;go_enter Tryz.func107,Tryz.ntmps107;go_wp2_with fail
  refine(zhk _ _ _).mono ?_;rintro e w2⟨rfl,rfl⟩;go_wp2_with fail
  go_ret;exact⟨zo HF.out.symm,zw _ _ _⟩
theorem znm (b:Bk)(a0 a1 a2 a3:Option Addr)(c0 c1 c2 c3:Nat)(kd nm:ByteArray)(w:World)(hb:jk w b a0 a1 a2 a3)(hl:b.os.length<=1048576) :
 Calls Tryz.prog 103 #[.agg (b.cells a0 a1 a2 a3 c0 c1 c2 c3),.string kd,.string nm] w fun e w'=>e=.returned (.int .i64 (zdH (zar kd nm) b.os))/\Below w.heap.size w w':=by
 have HK:Hid (jk w b a0 a1 a2 a3):=hb;clear hb;unfold Bk.cells;go_enter Tryz.func103,Tryz.ntmps103;go_wp2_with fail
 have hX0:=zl w #[.int .i64 b.now,.int .i64 b.tick,.int .i64 b.given,.slice a0 b.os.length c0,.slice a1 b.gs.length c1,.slice a2 b.ls.length c2,.slice a3 b.ps.length c3] 48;have HB0:Hid (Below w.heap.size w (w.alloc (.cells #[.int .i64 b.now,.int .i64 b.tick,.int .i64 b.given,.slice a0 b.os.length c0,.slice a1 b.gs.length c1,.slice a2 b.ls.length c2,.slice a3 b.ps.length c3] 48))):=bAl _ _;obtain⟨W0,hW0⟩:∃W0,W0=w.alloc (.cells #[.int .i64 b.now,.int .i64 b.tick,.int .i64 b.given,.slice a0 b.os.length c0,.slice a1 b.gs.length c1,.slice a2 b.ls.length c2,.slice a3 b.ps.length c3] 48):=⟨_,rfl⟩
 have hz0:w.heap.size<W0.heap.size:=by rw[hW0];simp
 rw[<- hW0]at HB0 hX0 ⊢;clear hW0
 go_loopw [7] (fun iv wr=>∃k:Nat,k<=b.os.length/\iv=.int .i64 k/\Hid (∀i (hi:i<b.os.length),i<k->zar kd nm b.os[i]=false)/\wr=W0) (fun iv _=>b.os.length-(intOf iv).toNat)
 case atStart=>exact⟨0,Nat.zero_le _,rfl,fun i hi h=>by omega,rfl⟩
 case round=>
  obtain⟨k,hk,rfl,HQ,rfl⟩:=hrel;have hkn:k<=1048576:=by omega
  by_cases hlt:k<b.os.length
  ·obtain⟨ob,off,v0,v1,q0,q1,rfl,hob,hsm,hl0,hl1,d0,d1,d2,d3,d4,d5,d6⟩:=HK.out.os.load HB0.out k hlt
   have hltI:(k:Int)<(b.os.length:Int):=by omega
   clear hsm hl0 hl1
   by_cases h1:b.os[k].kd=kd
   ·have e1:(b.os[k].kd.toList == kd.toList)=true:=by rw[beq_toList];simpa using h1
    by_cases h2:b.os[k].nm=nm
    ·have e2:(b.os[k].nm.toList == nm.toList)=true:=by rw[beq_toList];simpa using h2
     have HF:Hid (zdH (zar kd nm) b.os=k):=zpg hlt HQ.out (by unfold zar;simp[h1,h2]);clear h1 h2;go_wp2_with fail
     go_ret;exact⟨zo HF.out.symm,HB0.out⟩
    ·have e2:(b.os[k].nm.toList == nm.toList)=false:=by rw[beq_toList];simpa using h2
     have HN:Hid (∀i (hi:i<b.os.length),i<k+1->zar kd nm b.os[i]=false):=by
      intro i hi h
      rcases Nat.eq_or_lt_of_le (Nat.le_of_lt_succ h) with e|h'
      ·subst e;unfold zar;simp[h2]
      ·exact HQ.out i hi h'
     clear h1 h2;go_wp2_with fail
     exact⟨⟨k+1,by omega,by go_num,HN.out,trivial⟩,zm hlt⟩
   ·have e1:(b.os[k].kd.toList == kd.toList)=false:=by rw[beq_toList];simpa using h1
    have HN:Hid (∀i (hi:i<b.os.length),i<k+1->zar kd nm b.os[i]=false):=by
     intro i hi h
     rcases Nat.eq_or_lt_of_le (Nat.le_of_lt_succ h) with e|h'
     ·subst e;unfold zar;simp[h1]
     ·exact HQ.out i hi h'
    clear h1;go_wp2_with fail
    exact⟨⟨k+1,by omega,by go_num,HN.out,trivial⟩,zm hlt⟩
  ·have HF:Hid (zdH (zar kd nm) b.os=-1):=zlw fun i hi=>HQ.out i hi (by omega)
   clear HQ;go_wp2_with fail
   go_ret;exact⟨zo HF.out.symm,HB0.out⟩
theorem zg7 (b:Bk)(a0 a1 a2 a3:Option Addr)(c0 c1 c2 c3:Nat)(tm rs:ByteArray)(w:World)(hb:jk w b a0 a1 a2 a3)(hl:b.ls.length<=1048576) :
 Calls Tryz.prog 106 #[.agg (b.cells a0 a1 a2 a3 c0 c1 c2 c3),.string tm,.string rs] w fun e w'=>e=.returned (.int .i64 (zdH (ze8 tm rs) b.ls))/\Below w.heap.size w w':=by
 have HK:Hid (jk w b a0 a1 a2 a3):=hb;clear hb;unfold Bk.cells;go_enter Tryz.func106,Tryz.ntmps106;go_wp2_with fail
 have hX0:=zl w #[.int .i64 b.now,.int .i64 b.tick,.int .i64 b.given,.slice a0 b.os.length c0,.slice a1 b.gs.length c1,.slice a2 b.ls.length c2,.slice a3 b.ps.length c3] 48;have HB0:Hid (Below w.heap.size w (w.alloc (.cells #[.int .i64 b.now,.int .i64 b.tick,.int .i64 b.given,.slice a0 b.os.length c0,.slice a1 b.gs.length c1,.slice a2 b.ls.length c2,.slice a3 b.ps.length c3] 48))):=bAl _ _;obtain⟨W0,hW0⟩:∃W0,W0=w.alloc (.cells #[.int .i64 b.now,.int .i64 b.tick,.int .i64 b.given,.slice a0 b.os.length c0,.slice a1 b.gs.length c1,.slice a2 b.ls.length c2,.slice a3 b.ps.length c3] 48):=⟨_,rfl⟩
 have hz0:w.heap.size<W0.heap.size:=by rw[hW0];simp
 rw[<- hW0]at HB0 hX0 ⊢;clear hW0
 go_loopw [7] (fun iv wr=>∃k:Nat,k<=b.ls.length/\iv=.int .i64 k/\Hid (∀i (hi:i<b.ls.length),i<k->ze8 tm rs b.ls[i]=false)/\wr=W0) (fun iv _=>b.ls.length-(intOf iv).toNat)
 case atStart=>exact⟨0,Nat.zero_le _,rfl,fun i hi h=>by omega,rfl⟩
 case round=>
  obtain⟨k,hk,rfl,HQ,rfl⟩:=hrel;have hkn:k<=1048576:=by omega
  by_cases hlt:k<b.ls.length
  ·obtain⟨ob,off,rfl,hob,d0,d1,d2,d3⟩:=HK.out.ls.load HB0.out k hlt
   have hltI:(k:Int)<(b.ls.length:Int):=by omega
   clear d2 d3
   by_cases h1:b.ls[k].tm=tm
   ·have e1:(b.ls[k].tm.toList == tm.toList)=true:=by rw[beq_toList];simpa using h1
    by_cases h2:b.ls[k].rs=rs
    ·have e2:(b.ls[k].rs.toList == rs.toList)=true:=by rw[beq_toList];simpa using h2
     have HF:Hid (zdH (ze8 tm rs) b.ls=k):=zpg hlt HQ.out (by unfold ze8;simp[h1,h2]);clear h1 h2;go_wp2_with fail
     go_ret;exact⟨zo HF.out.symm,HB0.out⟩
    ·have e2:(b.ls[k].rs.toList == rs.toList)=false:=by rw[beq_toList];simpa using h2
     have HN:Hid (∀i (hi:i<b.ls.length),i<k+1->ze8 tm rs b.ls[i]=false):=by
      intro i hi h
      rcases Nat.eq_or_lt_of_le (Nat.le_of_lt_succ h) with e|h'
      ·subst e;unfold ze8;simp[h2]
      ·exact HQ.out i hi h'
     clear h1 h2;go_wp2_with fail
     exact⟨⟨k+1,by omega,by go_num,HN.out,trivial⟩,zm hlt⟩
   ·have e1:(b.ls[k].tm.toList == tm.toList)=false:=by rw[beq_toList];simpa using h1
    have HN:Hid (∀i (hi:i<b.ls.length),i<k+1->ze8 tm rs b.ls[i]=false):=by
     intro i hi h
     rcases Nat.eq_or_lt_of_le (Nat.le_of_lt_succ h) with e|h'
     ·subst e;unfold ze8;simp[h1]
     ·exact HQ.out i hi h'
    clear h1;go_wp2_with fail
    exact⟨⟨k+1,by omega,by go_num,HN.out,trivial⟩,zm hlt⟩
  ·have HF:Hid (zdH (ze8 tm rs) b.ls=-1):=zlw fun i hi=>HQ.out i hi (by omega)
   clear HQ;go_wp2_with fail
   go_ret;exact⟨zo HF.out.symm,HB0.out⟩
end Go.Proofs.YtnapmdofidgliaaGreat
