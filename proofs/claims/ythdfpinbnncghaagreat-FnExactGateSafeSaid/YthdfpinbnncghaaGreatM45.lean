import Derived.Test.YthdfpinbnncghaaGreatM44
set_option maxHeartbeats 8000000
namespace Go.Proofs.YthdfpinbnncghaaGreat
open Go.RowKit
theorem zmz (l:Lw)(la lb lc:OA)(lca lcb lcc:Nat)(s:Sl)(a0 a1 a2 a3:OA)(c0 c1 c2 c3:Nat)(w:World)(hl:yH w l la lb lc)(hs:zdo w s a0 a1 a2 a3) :
 Calls Tryz.prog 106 #[.agg (l.cells la lb lc lca lcb lcc),.agg (s.cells a0 a1 a2 a3 c0 c1 c2 c3)] w fun e w'=>e=.returned (.bool (zaK l s))/\Bw w w':=by
 have HL:Hid (yH w l la lb lc):=hl;have HS:Hid (zdo w s a0 a1 a2 a3):=hs;have hln:=hs.ws.len;unfold maxLen at hln;clear hl hs;unfold Sl.cells Lw.cells;go_enter Tryz.func106,Tryz.ntmps106
 go_upto_region 1 with fail
 obtain⟨W0,hW0,hX0,hY0,hz0,hB0⟩:=zR w #[.l la l.ss.length lca,.l lb l.ms.length lcb,.l lc l.ts.length lcc] #[.s s.dr,.s s.x.who,.i s.x.vb,.s s.x.kd,.s s.x.nm,.s s.x.tm,.l a0 s.x.vs.length c0,.l a1 s.x.hs.length c1,.i s.x.sn,.s s.x.hd,.s s.x.to,.l a2 s.x.r.vs.length c2,.s s.x.r.kd,.s s.x.r.tm,.s s.x.r.px,.i s.x.no,.i s.gv,.l a3 s.ws.length c3] 44 192;rw[<- hW0];clear hW0;have hq0:=nSl hz0;go_wp2_with fail
 refine(zi s.dr _ HS.o.dr).mono ?_;rintro e w1⟨rfl,rfl⟩
 cases hn:zm s.dr
 ·have HN:=hid hn
  clear hn;go_wp2_with fail
  go_ret;exact⟨ze (by unfold zaK;rw[HN.o];rfl),hB0⟩
 have HN:=hid hn;clear hn;go_wp2_with fail
 refine(zoa l la lb lc lca lcb lcc s.x a0 a1 a2 c0 c1 c2 _ (HL.o.mono hB0) (HS.o.x.mono hB0)).mono ?_;rintro e w1⟨rfl,hb⟩;have hY1:=za hY0 hz0 hb;have hz1:=nLt hz0 hb.size;have hB1:=hB0.trans (hb.mono hB0.size);clear hb hX0 hY0 hz0 hB0 hq0
 cases ha:zbd l s.x
 ·have HA:=hid ha
  clear ha;go_wp2_with fail
  go_ret;exact⟨ze (by unfold zaK;rw[HN.o,HA.o];rfl),hB1⟩
 have HA:=hid ha;clear ha
 by_cases hg:0<=s.gv
 rotate_left
 ·have hgd:decide (s.gv<0)=true:=by simp;omega
  have HG:Hid (decide (0<=s.gv)=false):=decide_eq_false hg;clear hg;go_wp2_with fail
  go_ret;exact⟨ze (by unfold zaK;rw[HN.o,HA.o,HG.o];rfl),hB1⟩
 have hgd:decide (s.gv<0)=false:=by simp;omega
 have HG:Hid (decide (0<=s.gv)=true):=decide_eq_true hg;clear hg
 by_cases hk:s.ws.length<=8
 rotate_left
 ·have hkd:decide ((8:Int)<(s.ws.length:Int))=true:=by simp;omega
  have HK:Hid (decide (s.ws.length<=8)=false):=decide_eq_false hk;clear hk;go_wp2_with fail
  go_ret;exact⟨ze (by unfold zaK;rw[HN.o,HA.o,HG.o,HK.o];rfl),hB1⟩
 have hkd:decide ((8:Int)<(s.ws.length:Int))=false:=by simp;omega
 have HK:Hid (decide (s.ws.length<=8)=true):=decide_eq_true hk;clear hk;go_wp2_with fail
 have HW:=hid (HS.o.ws.mono hB1)
 go_loopw [5] (fun i wr=>∃k:Nat,k<=s.ws.length/\i=.i k/\Hid ((s.ws.take k).any qP=false)/\Bw w1 wr) (fun i _=>s.ws.length-(intOf i).toNat)
 case atStart=>exact⟨0,Nat.zero_le _,rfl,rfl,bRf _ _⟩
 case round=>
  obtain⟨k,hk,rfl,HNO,hB⟩:=hrel;have hY:=za hY1 hz1 hB;have hzr:w.heap.size+1<wr.heap.size:=nLt hz1 hB.size;clear hY1
  by_cases hlt:k<s.ws.length
  ·obtain⟨b,off,rfl,hb,c0,c1,c2⟩:=HW.o.load hB k hlt
   have hltI:(k:Int)<(s.ws.length:Int):=by omega
   have HSM:=hid (HW.o.small k hlt);go_wp2_with fail
   refine(zi _ _ HSM.o.kd).mono ?_;rintro e w2⟨rfl,rfl⟩
   cases g1:zm s.ws[k].kd
   ·have HE:Hid (s.ws.any qP=true):=zcd _ s.ws k hlt (by unfold qP;rw[g1];rfl)
    clear g1;go_wp2_with fail
    go_ret;exact⟨ze (by unfold zaK;rw[HN.o,HA.o,HG.o,HK.o,HE.o];rfl),hB1.trans (hB.mono hB1.size)⟩
   have G1:=hid g1;clear g1;go_wp2_with fail
   refine(zi _ _ HSM.o.nm).mono ?_;rintro e w2⟨rfl,rfl⟩
   cases g2:zm s.ws[k].nm
   ·have HE:Hid (s.ws.any qP=true):=zcd _ s.ws k hlt (by unfold qP;rw[G1.out,g2];rfl)
    clear g2;go_wp2_with fail
    go_ret;exact⟨ze (by unfold zaK;rw[HN.o,HA.o,HG.o,HK.o,HE.o];rfl),hB1.trans (hB.mono hB1.size)⟩
   have G2:=hid g2;clear g2
   by_cases g3:s.ws[k].vn<0
   ·have hvd:decide (s.ws[k].vn<0)=true:=decide_eq_true g3
    have HE:Hid (s.ws.any qP=true):=zcd _ s.ws k hlt (by unfold qP;rw[G1.out,G2.out,hvd];rfl);clear g3;go_wp2_with fail
    go_ret;exact⟨ze (by unfold zaK;rw[HN.o,HA.o,HG.o,HK.o,HE.o];rfl),hB1.trans (hB.mono hB1.size)⟩
   ·have hvd:decide (s.ws[k].vn<0)=false:=decide_eq_false g3
    have HE:Hid ((s.ws.take (k+1)).any qP=false):=by unfold Hid;rw[qO _ s.ws k hlt,HNO.o];unfold qP;rw[G1.out,G2.out,hvd];rfl
    clear g3;go_wp2_with fail
    exact⟨⟨k+1,by omega,by go_num,HE.o,hB⟩,by simp[intOf];omega⟩
  ·have HE:Hid (s.ws.any qP=false):=by have:=HNO.o;rw[tOl (by omega)]at this;exact this
   go_wp2_with fail
   go_ret;exact⟨ze (by unfold zaK;rw[HN.o,HA.o,HG.o,HK.o,HE.o];rfl),hB1.trans (hB.mono hB1.size)⟩
theorem zdH {P:Program}{f:FuncId}{args:AV}{w:World}{b c:Int}{R:World->Prop}(hb:b=c)(h:Calls P f args w fun e w'=>e=.returned (.i b)/\R w'):Calls P f args w fun e w'=>e=.returned (.i c)/\R w':=by
 subst hb;exact h
theorem zfx {a b:BA}(h:a=b):Ending.returned (.s a)=.returned (.s b):=by rw[h]
theorem zsb {s:Shp}{ms:List Mnd}{p:Nat}(hrd:∀x∈yE s ms p,0<=x/\x<s.fs.length){m:Mnd}(hm:m∈ms)(ht:turns m s p=true){v:BA}(hv:v∈zS m):∃j:Nat,j<s.fs.length/\zY s.fs v=(j:Int):=by
 have h:=hrd (zY s.fs v) (by
  unfold yE;rw[List.mem_flatMap];refine⟨m,hm,?_⟩;rw[if_pos ht];exact List.mem_map.2 ⟨v,hv,rfl⟩)
 exact⟨(zY s.fs v).toNat,by omega,by omega⟩
set_option maxRecDepth 20000 in
theorem zln (s:Shp)(ms:List Mnd)(o:Ob)(vs:List BA)(p:Nat)(fa ma va ha:OA)(fcap mcap vcap hcap:Nat)(w:World)(hf:yj w fa s.fs)(hm:qZ w ma ms)(hv:zJ w va vs)(hc:vs.length=s.fs.length)(hp:p<s.fs.length)(hix:zY s.fs s.fs[p].nm=(p:Int))(hkd:o.kd=s.kd)(hrd:∀x∈yE s ms p,0<=x/\x<s.fs.length) :
 Calls Tryz.prog 195 #[.l fa s.fs.length fcap,.l ma ms.length mcap,.agg #[.s o.kd,.s o.nm,.s o.tm,.l va vs.length vcap,.bool o.en,.l ha o.hs.length hcap,.i o.vr],.s s.fs[p].nm] w fun e w'=>e=.returned (.s (decided s ms p vs))/\Bw w w':=by
 have hpv:p<vs.length:=by omega
 have hl:=hv.len;have hml:=hm.len;unfold maxLen at hl hml;obtain⟨vb,voff,rfl,hvb,hcell⟩:=hv.cells (by rintro rfl;simp at hpv);have HH:Hid (yj w fa s.fs/\qZ w ma ms/\vs.length=s.fs.length/\(∀i (h:i<vs.length),w.cell? (aD vb (voff+i))=some (.s vs[i]))/\zY s.fs s.fs[p].nm=(p:Int)/\o.kd=s.kd/\(∀x∈yE s ms p,0<=x/\x<s.fs.length)):=⟨hf,hm,hc,hcell,hix,hkd,hrd⟩
 clear hf hm hv hc hcell hix hkd hrd;go_enter Tryz.func195,Tryz.ntmps195;go_wp2_with fail
 go_loopw [9] (fun iv wr=>∃k:Nat,k<=ms.length/\iv=.i k/\(ms.take k).findSome? (gives s vs p)=none/\Below (w.heap.size+1) (w.alloc (.cells #[.s o.kd,.s o.nm,.s o.tm,.l (some (aD vb voff)) vs.length vcap,.bool o.en,.l ha o.hs.length hcap,.i o.vr] 145)) wr) (fun iv _=>ms.length-(intOf iv).toNat)
 case atStart=>exact⟨0,Nat.zero_le _,rfl,rfl,bRf _ _⟩
 case round=>
  obtain⟨k,hk,rfl,hnone,hBw⟩:=hrel;have HB:Hid (Bw w wr/\Below (w.heap.size+1) (w.alloc (.cells #[.s o.kd,.s o.nm,.s o.tm,.l (some (aD vb voff)) vs.length vcap,.bool o.en,.l ha o.hs.length hcap,.i o.vr] 145)) wr):=⟨(bAl _ _).trans (hBw.mono (by omega)),hBw⟩
  have hzr:w.heap.size<wr.heap.size:=by have:=hBw.size;simp at this;omega
  have hXr:∀j,wr.cell? (aD w.heap.size j)=(#[.s o.kd,.s o.nm,.s o.tm,.l (some (aD vb voff)) vs.length vcap,.bool o.en,.l ha o.hs.length hcap,.i o.vr]:AV)[j]?:=fun j=>cell_of_block ((hBw.block w.heap.size (by omega)).trans (alloc_at _ _))
  have HV:Hid (∀i (h:i<vs.length),wr.cell? (aD vb (voff+i))=some (.s vs[i])):=fun i h=>(HB.o.1.cell (p:=(aD vb (voff+i))) hvb).trans (HH.o.2.2.2.1 i h)
  have hvz:vb<wr.heap.size:=nLt hvb HB.o.1.size;have HN:Hid ((ms.take k).findSome? (gives s vs p)=none):=hnone;have HFm:Hid (∀ob n,yj ((wr.alloc ob).drewN n) fa s.fs):=fun ob n=>(HH.o.1.mono HB.o.1).mono (below_drewN (bAl _ _) n)
  have HFr:Hid (∀n,yj (wr.drewN n) fa s.fs):=fun n=>(HH.o.1.mono HB.o.1).mono (below_drewN (bRf _ _) n)
  clear hnone hBw
  by_cases hlt:k<ms.length
  ·obtain⟨mb,moff,rfl,hmb,c0,c1,c2,c3,c4,c5⟩:=HH.o.2.1.load HB.o.1 k hlt
   have hltI:(k:Int)<(ms.length:Int):=by omega
   have hmz:mb<wr.heap.size:=nLt hmb HB.o.1.size
   have HNX:Hid (gives s vs p ms[k]=none->(ms.take (k+1)).findSome? (gives s vs p)=none):=by
    intro h;rw[tSe hlt,List.findSome?_append,HN.o]
    simp[h]
   have HSX:Hid (∀x,gives s vs p ms[k]=some x->decided s ms p vs=x):=by
    intro x h;unfold decided
    have e:ms.findSome? (gives s vs p)=some x:=by
     conv=>lhs;rw[<- List.take_append_drop k ms,List.drop_eq_getElem_cons hlt]
     rw[List.findSome?_append,HN.o,List.findSome?_cons,h]
     rfl
    rw[e];rfl
   have HBE:Hid (∀ob n,Below (w.heap.size+1) (w.alloc (.cells #[.s o.kd,.s o.nm,.s o.tm,.l (some (aD vb voff)) vs.length vcap,.bool o.en,.l ha o.hs.length hcap,.i o.vr] 145)) ((wr.alloc ob).drewN n)):=fun ob n=>HB.o.2.trans ((below_drewN (bAl _ _) n).mono (by omega))
   have HBR:Hid (∀ob n,Bw w ((wr.alloc ob).drewN n)):=fun ob n=>HB.o.1.trans ((below_drewN (bAl _ _) n).mono (by omega))
   have HTU:Hid (turns ms[k] s p=((ms[k].kd.toList == o.kd.toList)&&(ms[k].fd.toList == s.fs[p].nm.toList))):=by
    rw[Hid,beq_toList,beq_toList,HH.o.2.2.2.2.2.1];unfold turns;rw[getD_at s.fs p _ hp]
   clear HN
   by_cases hkd:(ms[k].kd.toList == o.kd.toList)=true
   rotate_left
   ·have hkf:(ms[k].kd.toList == o.kd.toList)=false:=by simpa using hkd
    have HG:Hid (gives s vs p ms[k]=none):=by unfold Hid gives;rw[if_neg];rintro⟨h,_⟩;rw[HTU.o,hkf]at h;simp at h
    clear hkd;go_wp2_with fail
    go_quiet (fail)
    go_wp2_with fail
    exact⟨⟨k+1,by omega,by go_num,HNX.o HG.o,HBE.o _ _⟩,by simp[intOf];omega⟩
   by_cases hfd:(ms[k].fd.toList == s.fs[p].nm.toList)=true
   rotate_left
   ·have hff:(ms[k].fd.toList == s.fs[p].nm.toList)=false:=by simpa using hfd
    have HG:Hid (gives s vs p ms[k]=none):=by unfold Hid gives;rw[if_neg];rintro⟨h,_⟩;rw[HTU.o,hff]at h;simp at h
    clear hfd;go_wp2_with fail
    go_quiet (fail)
    go_wp2_with fail
    exact⟨⟨k+1,by omega,by go_num,HNX.o HG.o,HBE.o _ _⟩,by simp[intOf];omega⟩
   have HT:Hid (turns ms[k] s p=true):=by rw[Hid,HTU.o,hkd,hfd];rfl
   have HRD:Hid (∀v∈zS ms[k],∃j:Nat,j<s.fs.length/\zY s.fs v=(j:Int)):=fun v hv=>zsb HH.o.2.2.2.2.2.2 (List.getElem_mem hlt) HT.o hv
   by_cases hwh:ms[k].wh.toList.isEmpty=true
   ·have HW:Hid (¬(isSet ms[k].wh=true/\q8 s.fs vs ms[k].wh≠ms[k].wi)):=by rintro⟨h,_⟩;unfold isSet at h;rw[hwh]at h;cases h
    by_cases hfr:ms[k].fr.toList.isEmpty=true
    ·have HG:Hid (gives s vs p ms[k]=some ms[k].pt):=by
      unfold Hid gives;rw[if_pos ⟨HT.o,HW.o⟩,if_neg (by unfold isSet;rw[hfr];simp)]
     go_wp2_with fail
     go_quiet (fail)
     go_wp2_with fail
     go_ret;exact⟨zfx (HSX.o _ HG.o).symm,HBR.o _ _⟩
    ·have hfs:ms[k].fr.toList.isEmpty=false:=by simpa using hfr
     have his:isSet ms[k].fr=true:=by unfold isSet;rw[hfs];rfl
     obtain⟨jf,hjf,hjx⟩:=HRD.o ms[k].fr (by unfold zS;simp[his]);have HJF:Hid (zY s.fs ms[k].fr=(jf:Int)):=hjx;have hjv:jf<vs.length:=by have:=HH.o.2.2.1;omega
     have HVA:Hid (q8 s.fs vs ms[k].fr=vs[jf]):=by rw[Hid,zdX hjx,getD_at vs jf _ hjv]
     have cf:=HV.o jf hjv;have hjI:(jf:Int)<(vs.length:Int):=by omega
     have hj0:(0:Int)<=(jf:Int):=by omega
     clear hfr hjx
     by_cases hve:vs[jf].toList.isEmpty=true
     ·have HG:Hid (gives s vs p ms[k]=none):=by
       unfold Hid gives;rw[if_pos ⟨HT.o,HW.o⟩,if_pos his,if_neg (by unfold isSet;rw[HVA.o,hve];simp)]
      go_wp2_with fail
      go_quiet (fail)
      go_wp2_with fail
      obtain⟨W5,hW5⟩:=xN ((wr.alloc (.cells #[.s ms[k].kd,.s ms[k].fd,.s ms[k].wh,.s ms[k].wi,.s ms[k].pt,.s ms[k].fr] 141)).drewN nq);have hb5:Bw wr W5:=by rw[hW5];exact below_drewN (bAl _ _) _
      have hM5:∀j,W5.cell? (aD wr.heap.size j)=(#[.s ms[k].kd,.s ms[k].fd,.s ms[k].wh,.s ms[k].wi,.s ms[k].pt,.s ms[k].fr]:AV)[j]?:=by rw[hW5];exact zn wr _ _
      have hm5:wr.heap.size<W5.heap.size:=by rw[hW5];show wr.heap.size<(wr.alloc _).heap.size;simp
      have hX5:=za hXr hzr hb5;have hz5:w.heap.size<W5.heap.size:=by omega
      have cf5:W5.cell? (aD vb (voff+jf))=some (.s vs[jf]):=(hb5.cell (p:=(aD vb (voff+jf))) hvz).trans cf;have hv5:vb<W5.heap.size:=by omega
      have HF5:Hid (∀n,yj (W5.drewN n) fa s.fs):=fun n=>((HH.o.1.mono HB.o.1).mono hb5).mono (below_drewN (bRf _ _) n)
      have HE5:Hid (Below (w.heap.size+1) (w.alloc (.cells #[.s o.kd,.s o.nm,.s o.tm,.l (some (aD vb voff)) vs.length vcap,.bool o.en,.l ha o.hs.length hcap,.i o.vr] 145)) W5):=HB.o.2.trans (hb5.mono (by omega));have HR5:Hid (Bw w W5):=HB.o.1.trans (hb5.mono (by omega));rw[<- hW5];clear hW5
      go_quiet ((go_at_call 190;exact Calls.quiet_of_same (zdH HJF.o (qI _ _ s.fs _ _ (by exact HF5.o _)))))
      go_wp2_with fail
      exact⟨⟨k+1,by omega,by go_num,HNX.o HG.o,below_drewN HE5.o _⟩,by simp[intOf];omega⟩
     ·have hvs:vs[jf].toList.isEmpty=false:=by simpa using hve
      have HG:Hid (gives s vs p ms[k]=some vs[jf]):=by
       unfold Hid gives;rw[if_pos ⟨HT.o,HW.o⟩,if_pos his,if_pos (by unfold isSet;rw[HVA.o,hvs];rfl),HVA.o]
      clear hve;go_wp2_with fail
      go_quiet (fail)
      go_wp2_with fail
      obtain⟨W5,hW5⟩:=xN ((wr.alloc (.cells #[.s ms[k].kd,.s ms[k].fd,.s ms[k].wh,.s ms[k].wi,.s ms[k].pt,.s ms[k].fr] 141)).drewN nq);have hb5:Bw wr W5:=by rw[hW5];exact below_drewN (bAl _ _) _
      have hM5:∀j,W5.cell? (aD wr.heap.size j)=(#[.s ms[k].kd,.s ms[k].fd,.s ms[k].wh,.s ms[k].wi,.s ms[k].pt,.s ms[k].fr]:AV)[j]?:=by rw[hW5];exact zn wr _ _
      have hm5:wr.heap.size<W5.heap.size:=by rw[hW5];show wr.heap.size<(wr.alloc _).heap.size;simp
      have hX5:=za hXr hzr hb5;have hz5:w.heap.size<W5.heap.size:=by omega
      have cf5:W5.cell? (aD vb (voff+jf))=some (.s vs[jf]):=(hb5.cell (p:=(aD vb (voff+jf))) hvz).trans cf;have hv5:vb<W5.heap.size:=by omega
      have HF5:Hid (∀n,yj (W5.drewN n) fa s.fs):=fun n=>((HH.o.1.mono HB.o.1).mono hb5).mono (below_drewN (bRf _ _) n)
      have HE5:Hid (Below (w.heap.size+1) (w.alloc (.cells #[.s o.kd,.s o.nm,.s o.tm,.l (some (aD vb voff)) vs.length vcap,.bool o.en,.l ha o.hs.length hcap,.i o.vr] 145)) W5):=HB.o.2.trans (hb5.mono (by omega));have HR5:Hid (Bw w W5):=HB.o.1.trans (hb5.mono (by omega));rw[<- hW5];clear hW5
      go_quiet ((go_at_call 190;exact Calls.quiet_of_same (zdH HJF.o (qI _ _ s.fs _ _ (by exact HF5.o _)))))
      go_wp2_with fail
      go_ret;exact⟨zfx (HSX.o _ HG.o).symm,below_drewN HR5.o _⟩
   ·have hws:ms[k].wh.toList.isEmpty=false:=by simpa using hwh
    have hisw:isSet ms[k].wh=true:=by unfold isSet;rw[hws];rfl
    obtain⟨jw,hjw,hjx⟩:=HRD.o ms[k].wh (by unfold zS;simp[hisw]);have HJW:Hid (zY s.fs ms[k].wh=(jw:Int)):=hjx;have hjwv:jw<vs.length:=by have:=HH.o.2.2.1;omega
    have HVW:Hid (q8 s.fs vs ms[k].wh=vs[jw]):=by rw[Hid,zdX hjx,getD_at vs jw _ hjwv]
    have cw:=HV.o jw hjwv;have hjwI:(jw:Int)<(vs.length:Int):=by omega
    have hjw0:(0:Int)<=(jw:Int):=by omega
    clear hwh hjx
    by_cases hwe:(vs[jw].toList == ms[k].wi.toList)=true
    ·have HW:Hid (¬(isSet ms[k].wh=true/\q8 s.fs vs ms[k].wh≠ms[k].wi)):=by
      rintro⟨_,h⟩;rw[HVW.o]at h;rw[beq_toList]at hwe;exact h (by simpa using hwe)
     by_cases hfr:ms[k].fr.toList.isEmpty=true
     ·have HG:Hid (gives s vs p ms[k]=some ms[k].pt):=by
       unfold Hid gives;rw[if_pos ⟨HT.o,HW.o⟩,if_neg (by unfold isSet;rw[hfr];simp)]
      go_wp2_with fail
      go_quiet ((go_at_call 190;exact Calls.quiet_of_same (zdH HJW.o (qI _ _ s.fs _ _ (by exact HFm.o _ _)))))
      go_wp2_with fail
      go_ret;exact⟨zfx (HSX.o _ HG.o).symm,HBR.o _ _⟩
     ·have hfs:ms[k].fr.toList.isEmpty=false:=by simpa using hfr
      have his:isSet ms[k].fr=true:=by unfold isSet;rw[hfs];rfl
      obtain⟨jf,hjf,hjx⟩:=HRD.o ms[k].fr (by unfold zS;simp[his]);have HJF:Hid (zY s.fs ms[k].fr=(jf:Int)):=hjx;have hjv:jf<vs.length:=by have:=HH.o.2.2.1;omega
      have HVA:Hid (q8 s.fs vs ms[k].fr=vs[jf]):=by rw[Hid,zdX hjx,getD_at vs jf _ hjv]
      have cf:=HV.o jf hjv;have hjI:(jf:Int)<(vs.length:Int):=by omega
      have hj0:(0:Int)<=(jf:Int):=by omega
      clear hfr hjx
      by_cases hve:vs[jf].toList.isEmpty=true
      ·have HG:Hid (gives s vs p ms[k]=none):=by
        unfold Hid gives;rw[if_pos ⟨HT.o,HW.o⟩,if_pos his,if_neg (by unfold isSet;rw[HVA.o,hve];simp)]
       go_wp2_with fail
       go_quiet ((go_at_call 190;exact Calls.quiet_of_same (zdH HJW.o (qI _ _ s.fs _ _ (by exact HFm.o _ _)))))
       go_wp2_with fail
       obtain⟨W5,hW5⟩:=xN ((wr.alloc (.cells #[.s ms[k].kd,.s ms[k].fd,.s ms[k].wh,.s ms[k].wi,.s ms[k].pt,.s ms[k].fr] 141)).drewN nq);have hb5:Bw wr W5:=by rw[hW5];exact below_drewN (bAl _ _) _
       have hM5:∀j,W5.cell? (aD wr.heap.size j)=(#[.s ms[k].kd,.s ms[k].fd,.s ms[k].wh,.s ms[k].wi,.s ms[k].pt,.s ms[k].fr]:AV)[j]?:=by rw[hW5];exact zn wr _ _
       have hm5:wr.heap.size<W5.heap.size:=by rw[hW5];show wr.heap.size<(wr.alloc _).heap.size;simp
       have hX5:=za hXr hzr hb5;have hz5:w.heap.size<W5.heap.size:=by omega
       have cf5:W5.cell? (aD vb (voff+jf))=some (.s vs[jf]):=(hb5.cell (p:=(aD vb (voff+jf))) hvz).trans cf;have hv5:vb<W5.heap.size:=by omega
       have HF5:Hid (∀n,yj (W5.drewN n) fa s.fs):=fun n=>((HH.o.1.mono HB.o.1).mono hb5).mono (below_drewN (bRf _ _) n)
       have HE5:Hid (Below (w.heap.size+1) (w.alloc (.cells #[.s o.kd,.s o.nm,.s o.tm,.l (some (aD vb voff)) vs.length vcap,.bool o.en,.l ha o.hs.length hcap,.i o.vr] 145)) W5):=HB.o.2.trans (hb5.mono (by omega));have HR5:Hid (Bw w W5):=HB.o.1.trans (hb5.mono (by omega));rw[<- hW5];clear hW5
       go_quiet ((go_at_call 190;exact Calls.quiet_of_same (zdH HJF.o (qI _ _ s.fs _ _ (by exact HF5.o _)))))
       go_wp2_with fail
       exact⟨⟨k+1,by omega,by go_num,HNX.o HG.o,below_drewN HE5.o _⟩,by simp[intOf];omega⟩
      ·have hvs:vs[jf].toList.isEmpty=false:=by simpa using hve
       have HG:Hid (gives s vs p ms[k]=some vs[jf]):=by
        unfold Hid gives;rw[if_pos ⟨HT.o,HW.o⟩,if_pos his,if_pos (by unfold isSet;rw[HVA.o,hvs];rfl),HVA.o]
       clear hve;go_wp2_with fail
       go_quiet ((go_at_call 190;exact Calls.quiet_of_same (zdH HJW.o (qI _ _ s.fs _ _ (by exact HFm.o _ _)))))
       go_wp2_with fail
       obtain⟨W5,hW5⟩:=xN ((wr.alloc (.cells #[.s ms[k].kd,.s ms[k].fd,.s ms[k].wh,.s ms[k].wi,.s ms[k].pt,.s ms[k].fr] 141)).drewN nq);have hb5:Bw wr W5:=by rw[hW5];exact below_drewN (bAl _ _) _
       have hM5:∀j,W5.cell? (aD wr.heap.size j)=(#[.s ms[k].kd,.s ms[k].fd,.s ms[k].wh,.s ms[k].wi,.s ms[k].pt,.s ms[k].fr]:AV)[j]?:=by rw[hW5];exact zn wr _ _
       have hm5:wr.heap.size<W5.heap.size:=by rw[hW5];show wr.heap.size<(wr.alloc _).heap.size;simp
       have hX5:=za hXr hzr hb5;have hz5:w.heap.size<W5.heap.size:=by omega
       have cf5:W5.cell? (aD vb (voff+jf))=some (.s vs[jf]):=(hb5.cell (p:=(aD vb (voff+jf))) hvz).trans cf;have hv5:vb<W5.heap.size:=by omega
       have HF5:Hid (∀n,yj (W5.drewN n) fa s.fs):=fun n=>((HH.o.1.mono HB.o.1).mono hb5).mono (below_drewN (bRf _ _) n)
       have HE5:Hid (Below (w.heap.size+1) (w.alloc (.cells #[.s o.kd,.s o.nm,.s o.tm,.l (some (aD vb voff)) vs.length vcap,.bool o.en,.l ha o.hs.length hcap,.i o.vr] 145)) W5):=HB.o.2.trans (hb5.mono (by omega));have HR5:Hid (Bw w W5):=HB.o.1.trans (hb5.mono (by omega));rw[<- hW5];clear hW5
       go_quiet ((go_at_call 190;exact Calls.quiet_of_same (zdH HJF.o (qI _ _ s.fs _ _ (by exact HF5.o _)))))
       go_wp2_with fail
       go_ret;exact⟨zfx (HSX.o _ HG.o).symm,below_drewN HR5.o _⟩
    ·have hwf:(vs[jw].toList == ms[k].wi.toList)=false:=by simpa using hwe
     have HG:Hid (gives s vs p ms[k]=none):=by
      unfold Hid gives;rw[if_neg];rintro⟨_,h⟩;exact h ⟨hisw,by rw[HVW.o];intro e;rw[beq_toList]at hwf;simp[e]at hwf⟩
     clear hwe;go_wp2_with fail
     go_quiet ((go_at_call 190;exact Calls.quiet_of_same (zdH HJW.o (qI _ _ s.fs _ _ (by exact HFm.o _ _)))))
     go_wp2_with fail
     exact⟨⟨k+1,by omega,by go_num,HNX.o HG.o,HBE.o _ _⟩,by simp[intOf];omega⟩
  ·have hnI:¬(k:Int)<(ms.length:Int):=by omega
   have HD:Hid (decided s ms p vs=vs[p]):=by
    have e:ms.findSome? (gives s vs p)=none:=by have:=HN.o;rwa [tOl (by omega)]at this
    unfold Hid decided;rw[e,getD_at vs p _ hpv];rfl
   have HJP:Hid (zY s.fs s.fs[p].nm=(p:Int)):=HH.o.2.2.2.2.1;have cp:=HV.o p hpv;have hpI:(p:Int)<(vs.length:Int):=by omega
   have hp0:(0:Int)<=(p:Int):=by omega
   go_wp2_with fail
   go_quiet ((go_at_call 190;exact Calls.quiet_of_same (zdH HJP.o (qI _ _ s.fs _ _ (by exact HFr.o _)))))
   go_wp2_with fail
   go_ret;exact⟨zfx HD.o.symm,below_drewN HB.o.1 _⟩
end Go.Proofs.YthdfpinbnncghaaGreat
