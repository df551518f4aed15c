import Derived.Test.YtecncindgjdbiaaGreatM41
set_option maxHeartbeats 8000000
namespace Go.Proofs.YtecncindgjdbiaaGreat
open Go.RowKit
theorem zdm {P:Program}{f:FuncId}{args:AV}{w:World}{b c:Int}{R:World->Prop}(hb:b=c)(h:Calls P f args w fun e w'=>e=.returned (.i b)/\R w'):Calls P f args w fun e w'=>e=.returned (.i c)/\R w':=by
 subst hb;exact h
theorem zeF {a b:BA}(h:a=b):Ending.returned (.s a)=.returned (.s b):=by rw[h]
theorem zqW {s:Shp}{ms:List Mnd}{p:Nat}(hrd:∀x∈yx s ms p,0<=x/\x<s.fs.length){m:Mnd}(hm:m∈ms)(ht:turns m s p=true){v:BA}(hv:v∈zP m):∃j:Nat,j<s.fs.length/\zR s.fs v=(j:Int):=by
 have h:=hrd (zR s.fs v) (by
  unfold yx;rw[List.mem_flatMap];refine⟨m,hm,?_⟩;rw[if_pos ht];exact List.mem_map.2 ⟨v,hv,rfl⟩)
 exact⟨(zR s.fs v).toNat,by omega,by omega⟩
set_option maxRecDepth 20000 in
theorem zkE (s:Shp)(ms:List Mnd)(o:Ob)(vs:List BA)(p:Nat)(fa ma va ha:OA)(fcap mcap vcap hcap:Nat)(w:World)(hf:yc w fa s.fs)(hm:qL w ma ms)(hv:zF w va vs)(hc:vs.length=s.fs.length)(hp:p<s.fs.length)(hix:zR s.fs s.fs[p].nm=(p:Int))(hkd:o.kd=s.kd)(hrd:∀x∈yx s ms p,0<=x/\x<s.fs.length) :
 Calls Tryz.prog 189 #[.l fa s.fs.length fcap,.l ma ms.length mcap,.agg #[.s o.kd,.s o.nm,.s o.tm,.l va vs.length vcap,.bool o.en,.l ha o.hs.length hcap,.i o.vr],.s s.fs[p].nm] w fun e w'=>e=.returned (.s (decided s ms p vs))/\Bw w w':=by
 have hpv:p<vs.length:=by omega
 have hl:=hv.len;have hml:=hm.len;unfold maxLen at hl hml;obtain⟨vb,voff,rfl,hvb,hcell⟩:=hv.cells (by rintro rfl;simp at hpv);have HH:Hid (yc w fa s.fs/\qL w ma ms/\vs.length=s.fs.length/\(∀i (h:i<vs.length),w.cell? (aD vb (voff+i))=some (.s vs[i]))/\zR s.fs s.fs[p].nm=(p:Int)/\o.kd=s.kd/\(∀x∈yx s ms p,0<=x/\x<s.fs.length)):=⟨hf,hm,hc,hcell,hix,hkd,hrd⟩
 clear hf hm hv hc hcell hix hkd hrd;go_enter Tryz.func189,Tryz.ntmps189;go_wp2_with fail
 go_loopw [9] (fun iv wr=>∃k:Nat,k<=ms.length/\iv=.i k/\(ms.take k).findSome? (gives s vs p)=none/\Below (w.heap.size+1) (w.alloc (.cells #[.s o.kd,.s o.nm,.s o.tm,.l (some (aD vb voff)) vs.length vcap,.bool o.en,.l ha o.hs.length hcap,.i o.vr] 123)) wr) (fun iv _=>ms.length-(intOf iv).toNat)
 case atStart=>exact⟨0,Nat.zero_le _,rfl,rfl,bRf _ _⟩
 case round=>
  obtain⟨k,hk,rfl,hnone,hBw⟩:=hrel;have HB:Hid (Bw w wr/\Below (w.heap.size+1) (w.alloc (.cells #[.s o.kd,.s o.nm,.s o.tm,.l (some (aD vb voff)) vs.length vcap,.bool o.en,.l ha o.hs.length hcap,.i o.vr] 123)) wr):=⟨(bAl _ _).trans (hBw.mono (by omega)),hBw⟩
  have hzr:w.heap.size<wr.heap.size:=by have:=hBw.size;simp at this;omega
  have hXr:∀j,wr.cell? (aD w.heap.size j)=(#[.s o.kd,.s o.nm,.s o.tm,.l (some (aD vb voff)) vs.length vcap,.bool o.en,.l ha o.hs.length hcap,.i o.vr]:AV)[j]?:=fun j=>cell_of_block ((hBw.block w.heap.size (by omega)).trans (alloc_at _ _))
  have HV:Hid (∀i (h:i<vs.length),wr.cell? (aD vb (voff+i))=some (.s vs[i])):=fun i h=>(HB.o.1.cell (p:=(aD vb (voff+i))) hvb).trans (HH.o.2.2.2.1 i h)
  have hvz:vb<wr.heap.size:=nLt hvb HB.o.1.size;have HN:Hid ((ms.take k).findSome? (gives s vs p)=none):=hnone;have HFm:Hid (∀ob n,yc ((wr.alloc ob).drewN n) fa s.fs):=fun ob n=>(HH.o.1.mono HB.o.1).mono (below_drewN (bAl _ _) n)
  have HFr:Hid (∀n,yc (wr.drewN n) fa s.fs):=fun n=>(HH.o.1.mono HB.o.1).mono (below_drewN (bRf _ _) n)
  clear hnone hBw
  by_cases hlt:k<ms.length
  ·obtain⟨mb,moff,rfl,hmb,c0,c1,c2,c3,c4,c5⟩:=HH.o.2.1.load HB.o.1 k hlt
   have hltI:(k:Int)<(ms.length:Int):=by omega
   have hmz:mb<wr.heap.size:=nLt hmb HB.o.1.size
   have HNX:Hid (gives s vs p ms[k]=none->(ms.take (k+1)).findSome? (gives s vs p)=none):=by
    intro h;rw[tSe hlt,List.findSome?_append,HN.o]
    simp[h]
   have HSX:Hid (∀x,gives s vs p ms[k]=some x->decided s ms p vs=x):=by
    intro x h;unfold decided
    have e:ms.findSome? (gives s vs p)=some x:=by
     conv=>lhs;rw[<- List.take_append_drop k ms,List.drop_eq_getElem_cons hlt]
     rw[List.findSome?_append,HN.o,List.findSome?_cons,h]
     rfl
    rw[e];rfl
   have HBE:Hid (∀ob n,Below (w.heap.size+1) (w.alloc (.cells #[.s o.kd,.s o.nm,.s o.tm,.l (some (aD vb voff)) vs.length vcap,.bool o.en,.l ha o.hs.length hcap,.i o.vr] 123)) ((wr.alloc ob).drewN n)):=fun ob n=>HB.o.2.trans ((below_drewN (bAl _ _) n).mono (by omega))
   have HBR:Hid (∀ob n,Bw w ((wr.alloc ob).drewN n)):=fun ob n=>HB.o.1.trans ((below_drewN (bAl _ _) n).mono (by omega))
   have HTU:Hid (turns ms[k] s p=((ms[k].kd.toList == o.kd.toList)&&(ms[k].fd.toList == s.fs[p].nm.toList))):=by
    rw[Hid,beq_toList,beq_toList,HH.o.2.2.2.2.2.1];unfold turns;rw[getD_at s.fs p _ hp]
   clear HN
   by_cases hkd:(ms[k].kd.toList == o.kd.toList)=true
   rotate_left
   ·have hkf:(ms[k].kd.toList == o.kd.toList)=false:=by simpa using hkd
    have HG:Hid (gives s vs p ms[k]=none):=by unfold Hid gives;rw[if_neg];rintro⟨h,_⟩;rw[HTU.o,hkf]at h;simp at h
    clear hkd;go_wp2_with fail
    go_quiet (fail)
    go_wp2_with fail
    exact⟨⟨k+1,by omega,by go_num,HNX.o HG.o,HBE.o _ _⟩,by simp[intOf];omega⟩
   by_cases hfd:(ms[k].fd.toList == s.fs[p].nm.toList)=true
   rotate_left
   ·have hff:(ms[k].fd.toList == s.fs[p].nm.toList)=false:=by simpa using hfd
    have HG:Hid (gives s vs p ms[k]=none):=by unfold Hid gives;rw[if_neg];rintro⟨h,_⟩;rw[HTU.o,hff]at h;simp at h
    clear hfd;go_wp2_with fail
    go_quiet (fail)
    go_wp2_with fail
    exact⟨⟨k+1,by omega,by go_num,HNX.o HG.o,HBE.o _ _⟩,by simp[intOf];omega⟩
   have HT:Hid (turns ms[k] s p=true):=by rw[Hid,HTU.o,hkd,hfd];rfl
   have HRD:Hid (∀v∈zP ms[k],∃j:Nat,j<s.fs.length/\zR s.fs v=(j:Int)):=fun v hv=>zqW HH.o.2.2.2.2.2.2 (List.getElem_mem hlt) HT.o hv
   by_cases hwh:ms[k].wh.toList.isEmpty=true
   ·have HW:Hid (¬(isSet ms[k].wh=true/\qN s.fs vs ms[k].wh≠ms[k].wi)):=by rintro⟨h,_⟩;unfold isSet at h;rw[hwh]at h;cases h
    by_cases hfr:ms[k].fr.toList.isEmpty=true
    ·have HG:Hid (gives s vs p ms[k]=some ms[k].pt):=by
      unfold Hid gives;rw[if_pos ⟨HT.o,HW.o⟩,if_neg (by unfold isSet;rw[hfr];simp)]
     go_wp2_with fail
     go_quiet (fail)
     go_wp2_with fail
     go_ret;exact⟨zeF (HSX.o _ HG.o).symm,HBR.o _ _⟩
    ·have hfs:ms[k].fr.toList.isEmpty=false:=by simpa using hfr
     have his:isSet ms[k].fr=true:=by unfold isSet;rw[hfs];rfl
     obtain⟨jf,hjf,hjx⟩:=HRD.o ms[k].fr (by unfold zP;simp[his]);have HJF:Hid (zR s.fs ms[k].fr=(jf:Int)):=hjx;have hjv:jf<vs.length:=by have:=HH.o.2.2.1;omega
     have HVA:Hid (qN s.fs vs ms[k].fr=vs[jf]):=by rw[Hid,zdL hjx,getD_at vs jf _ hjv]
     have cf:=HV.o jf hjv;have hjI:(jf:Int)<(vs.length:Int):=by omega
     have hj0:(0:Int)<=(jf:Int):=by omega
     clear hfr hjx
     by_cases hve:vs[jf].toList.isEmpty=true
     ·have HG:Hid (gives s vs p ms[k]=none):=by
       unfold Hid gives;rw[if_pos ⟨HT.o,HW.o⟩,if_pos his,if_neg (by unfold isSet;rw[HVA.o,hve];simp)]
      go_wp2_with fail
      go_quiet (fail)
      go_wp2_with fail
      obtain⟨W5,hW5⟩:=nm ((wr.alloc (.cells #[.s ms[k].kd,.s ms[k].fd,.s ms[k].wh,.s ms[k].wi,.s ms[k].pt,.s ms[k].fr] 136)).drewN nq);have hb5:Bw wr W5:=by rw[hW5];exact below_drewN (bAl _ _) _
      have hM5:∀j,W5.cell? (aD wr.heap.size j)=(#[.s ms[k].kd,.s ms[k].fd,.s ms[k].wh,.s ms[k].wi,.s ms[k].pt,.s ms[k].fr]:AV)[j]?:=by rw[hW5];exact zl wr _ _
      have hm5:wr.heap.size<W5.heap.size:=by rw[hW5];show wr.heap.size<(wr.alloc _).heap.size;simp
      have hX5:=za hXr hzr hb5;have hz5:w.heap.size<W5.heap.size:=by omega
      have cf5:W5.cell? (aD vb (voff+jf))=some (.s vs[jf]):=(hb5.cell (p:=(aD vb (voff+jf))) hvz).trans cf;have hv5:vb<W5.heap.size:=by omega
      have HF5:Hid (∀n,yc (W5.drewN n) fa s.fs):=fun n=>((HH.o.1.mono HB.o.1).mono hb5).mono (below_drewN (bRf _ _) n)
      have HE5:Hid (Below (w.heap.size+1) (w.alloc (.cells #[.s o.kd,.s o.nm,.s o.tm,.l (some (aD vb voff)) vs.length vcap,.bool o.en,.l ha o.hs.length hcap,.i o.vr] 123)) W5):=HB.o.2.trans (hb5.mono (by omega));have HR5:Hid (Bw w W5):=HB.o.1.trans (hb5.mono (by omega));rw[<- hW5];clear hW5
      go_quiet ((go_at_call 185;exact Calls.quiet_of_same (zdm HJF.o (qA _ _ s.fs _ _ (by exact HF5.o _)))))
      go_wp2_with fail
      exact⟨⟨k+1,by omega,by go_num,HNX.o HG.o,below_drewN HE5.o _⟩,by simp[intOf];omega⟩
     ·have hvs:vs[jf].toList.isEmpty=false:=by simpa using hve
      have HG:Hid (gives s vs p ms[k]=some vs[jf]):=by
       unfold Hid gives;rw[if_pos ⟨HT.o,HW.o⟩,if_pos his,if_pos (by unfold isSet;rw[HVA.o,hvs];rfl),HVA.o]
      clear hve;go_wp2_with fail
      go_quiet (fail)
      go_wp2_with fail
      obtain⟨W5,hW5⟩:=nm ((wr.alloc (.cells #[.s ms[k].kd,.s ms[k].fd,.s ms[k].wh,.s ms[k].wi,.s ms[k].pt,.s ms[k].fr] 136)).drewN nq);have hb5:Bw wr W5:=by rw[hW5];exact below_drewN (bAl _ _) _
      have hM5:∀j,W5.cell? (aD wr.heap.size j)=(#[.s ms[k].kd,.s ms[k].fd,.s ms[k].wh,.s ms[k].wi,.s ms[k].pt,.s ms[k].fr]:AV)[j]?:=by rw[hW5];exact zl wr _ _
      have hm5:wr.heap.size<W5.heap.size:=by rw[hW5];show wr.heap.size<(wr.alloc _).heap.size;simp
      have hX5:=za hXr hzr hb5;have hz5:w.heap.size<W5.heap.size:=by omega
      have cf5:W5.cell? (aD vb (voff+jf))=some (.s vs[jf]):=(hb5.cell (p:=(aD vb (voff+jf))) hvz).trans cf;have hv5:vb<W5.heap.size:=by omega
      have HF5:Hid (∀n,yc (W5.drewN n) fa s.fs):=fun n=>((HH.o.1.mono HB.o.1).mono hb5).mono (below_drewN (bRf _ _) n)
      have HE5:Hid (Below (w.heap.size+1) (w.alloc (.cells #[.s o.kd,.s o.nm,.s o.tm,.l (some (aD vb voff)) vs.length vcap,.bool o.en,.l ha o.hs.length hcap,.i o.vr] 123)) W5):=HB.o.2.trans (hb5.mono (by omega));have HR5:Hid (Bw w W5):=HB.o.1.trans (hb5.mono (by omega));rw[<- hW5];clear hW5
      go_quiet ((go_at_call 185;exact Calls.quiet_of_same (zdm HJF.o (qA _ _ s.fs _ _ (by exact HF5.o _)))))
      go_wp2_with fail
      go_ret;exact⟨zeF (HSX.o _ HG.o).symm,below_drewN HR5.o _⟩
   ·have hws:ms[k].wh.toList.isEmpty=false:=by simpa using hwh
    have hisw:isSet ms[k].wh=true:=by unfold isSet;rw[hws];rfl
    obtain⟨jw,hjw,hjx⟩:=HRD.o ms[k].wh (by unfold zP;simp[hisw]);have HJW:Hid (zR s.fs ms[k].wh=(jw:Int)):=hjx;have hjwv:jw<vs.length:=by have:=HH.o.2.2.1;omega
    have HVW:Hid (qN s.fs vs ms[k].wh=vs[jw]):=by rw[Hid,zdL hjx,getD_at vs jw _ hjwv]
    have cw:=HV.o jw hjwv;have hjwI:(jw:Int)<(vs.length:Int):=by omega
    have hjw0:(0:Int)<=(jw:Int):=by omega
    clear hwh hjx
    by_cases hwe:(vs[jw].toList == ms[k].wi.toList)=true
    ·have HW:Hid (¬(isSet ms[k].wh=true/\qN s.fs vs ms[k].wh≠ms[k].wi)):=by
      rintro⟨_,h⟩;rw[HVW.o]at h;rw[beq_toList]at hwe;exact h (by simpa using hwe)
     by_cases hfr:ms[k].fr.toList.isEmpty=true
     ·have HG:Hid (gives s vs p ms[k]=some ms[k].pt):=by
       unfold Hid gives;rw[if_pos ⟨HT.o,HW.o⟩,if_neg (by unfold isSet;rw[hfr];simp)]
      go_wp2_with fail
      go_quiet ((go_at_call 185;exact Calls.quiet_of_same (zdm HJW.o (qA _ _ s.fs _ _ (by exact HFm.o _ _)))))
      go_wp2_with fail
      go_ret;exact⟨zeF (HSX.o _ HG.o).symm,HBR.o _ _⟩
     ·have hfs:ms[k].fr.toList.isEmpty=false:=by simpa using hfr
      have his:isSet ms[k].fr=true:=by unfold isSet;rw[hfs];rfl
      obtain⟨jf,hjf,hjx⟩:=HRD.o ms[k].fr (by unfold zP;simp[his]);have HJF:Hid (zR s.fs ms[k].fr=(jf:Int)):=hjx;have hjv:jf<vs.length:=by have:=HH.o.2.2.1;omega
      have HVA:Hid (qN s.fs vs ms[k].fr=vs[jf]):=by rw[Hid,zdL hjx,getD_at vs jf _ hjv]
      have cf:=HV.o jf hjv;have hjI:(jf:Int)<(vs.length:Int):=by omega
      have hj0:(0:Int)<=(jf:Int):=by omega
      clear hfr hjx
      by_cases hve:vs[jf].toList.isEmpty=true
      ·have HG:Hid (gives s vs p ms[k]=none):=by
        unfold Hid gives;rw[if_pos ⟨HT.o,HW.o⟩,if_pos his,if_neg (by unfold isSet;rw[HVA.o,hve];simp)]
       go_wp2_with fail
       go_quiet ((go_at_call 185;exact Calls.quiet_of_same (zdm HJW.o (qA _ _ s.fs _ _ (by exact HFm.o _ _)))))
       go_wp2_with fail
       obtain⟨W5,hW5⟩:=nm ((wr.alloc (.cells #[.s ms[k].kd,.s ms[k].fd,.s ms[k].wh,.s ms[k].wi,.s ms[k].pt,.s ms[k].fr] 136)).drewN nq);have hb5:Bw wr W5:=by rw[hW5];exact below_drewN (bAl _ _) _
       have hM5:∀j,W5.cell? (aD wr.heap.size j)=(#[.s ms[k].kd,.s ms[k].fd,.s ms[k].wh,.s ms[k].wi,.s ms[k].pt,.s ms[k].fr]:AV)[j]?:=by rw[hW5];exact zl wr _ _
       have hm5:wr.heap.size<W5.heap.size:=by rw[hW5];show wr.heap.size<(wr.alloc _).heap.size;simp
       have hX5:=za hXr hzr hb5;have hz5:w.heap.size<W5.heap.size:=by omega
       have cf5:W5.cell? (aD vb (voff+jf))=some (.s vs[jf]):=(hb5.cell (p:=(aD vb (voff+jf))) hvz).trans cf;have hv5:vb<W5.heap.size:=by omega
       have HF5:Hid (∀n,yc (W5.drewN n) fa s.fs):=fun n=>((HH.o.1.mono HB.o.1).mono hb5).mono (below_drewN (bRf _ _) n)
       have HE5:Hid (Below (w.heap.size+1) (w.alloc (.cells #[.s o.kd,.s o.nm,.s o.tm,.l (some (aD vb voff)) vs.length vcap,.bool o.en,.l ha o.hs.length hcap,.i o.vr] 123)) W5):=HB.o.2.trans (hb5.mono (by omega));have HR5:Hid (Bw w W5):=HB.o.1.trans (hb5.mono (by omega));rw[<- hW5];clear hW5
       go_quiet ((go_at_call 185;exact Calls.quiet_of_same (zdm HJF.o (qA _ _ s.fs _ _ (by exact HF5.o _)))))
       go_wp2_with fail
       exact⟨⟨k+1,by omega,by go_num,HNX.o HG.o,below_drewN HE5.o _⟩,by simp[intOf];omega⟩
      ·have hvs:vs[jf].toList.isEmpty=false:=by simpa using hve
       have HG:Hid (gives s vs p ms[k]=some vs[jf]):=by
        unfold Hid gives;rw[if_pos ⟨HT.o,HW.o⟩,if_pos his,if_pos (by unfold isSet;rw[HVA.o,hvs];rfl),HVA.o]
       clear hve;go_wp2_with fail
       go_quiet ((go_at_call 185;exact Calls.quiet_of_same (zdm HJW.o (qA _ _ s.fs _ _ (by exact HFm.o _ _)))))
       go_wp2_with fail
       obtain⟨W5,hW5⟩:=nm ((wr.alloc (.cells #[.s ms[k].kd,.s ms[k].fd,.s ms[k].wh,.s ms[k].wi,.s ms[k].pt,.s ms[k].fr] 136)).drewN nq);have hb5:Bw wr W5:=by rw[hW5];exact below_drewN (bAl _ _) _
       have hM5:∀j,W5.cell? (aD wr.heap.size j)=(#[.s ms[k].kd,.s ms[k].fd,.s ms[k].wh,.s ms[k].wi,.s ms[k].pt,.s ms[k].fr]:AV)[j]?:=by rw[hW5];exact zl wr _ _
       have hm5:wr.heap.size<W5.heap.size:=by rw[hW5];show wr.heap.size<(wr.alloc _).heap.size;simp
       have hX5:=za hXr hzr hb5;have hz5:w.heap.size<W5.heap.size:=by omega
       have cf5:W5.cell? (aD vb (voff+jf))=some (.s vs[jf]):=(hb5.cell (p:=(aD vb (voff+jf))) hvz).trans cf;have hv5:vb<W5.heap.size:=by omega
       have HF5:Hid (∀n,yc (W5.drewN n) fa s.fs):=fun n=>((HH.o.1.mono HB.o.1).mono hb5).mono (below_drewN (bRf _ _) n)
       have HE5:Hid (Below (w.heap.size+1) (w.alloc (.cells #[.s o.kd,.s o.nm,.s o.tm,.l (some (aD vb voff)) vs.length vcap,.bool o.en,.l ha o.hs.length hcap,.i o.vr] 123)) W5):=HB.o.2.trans (hb5.mono (by omega));have HR5:Hid (Bw w W5):=HB.o.1.trans (hb5.mono (by omega));rw[<- hW5];clear hW5
       go_quiet ((go_at_call 185;exact Calls.quiet_of_same (zdm HJF.o (qA _ _ s.fs _ _ (by exact HF5.o _)))))
       go_wp2_with fail
       go_ret;exact⟨zeF (HSX.o _ HG.o).symm,below_drewN HR5.o _⟩
    ·have hwf:(vs[jw].toList == ms[k].wi.toList)=false:=by simpa using hwe
     have HG:Hid (gives s vs p ms[k]=none):=by
      unfold Hid gives;rw[if_neg];rintro⟨_,h⟩;exact h ⟨hisw,by rw[HVW.o];intro e;rw[beq_toList]at hwf;simp[e]at hwf⟩
     clear hwe;go_wp2_with fail
     go_quiet ((go_at_call 185;exact Calls.quiet_of_same (zdm HJW.o (qA _ _ s.fs _ _ (by exact HFm.o _ _)))))
     go_wp2_with fail
     exact⟨⟨k+1,by omega,by go_num,HNX.o HG.o,HBE.o _ _⟩,by simp[intOf];omega⟩
  ·have hnI:¬(k:Int)<(ms.length:Int):=by omega
   have HD:Hid (decided s ms p vs=vs[p]):=by
    have e:ms.findSome? (gives s vs p)=none:=by have:=HN.o;rwa [tOl (by omega)]at this
    unfold Hid decided;rw[e,getD_at vs p _ hpv];rfl
   have HJP:Hid (zR s.fs s.fs[p].nm=(p:Int)):=HH.o.2.2.2.2.1;have cp:=HV.o p hpv;have hpI:(p:Int)<(vs.length:Int):=by omega
   have hp0:(0:Int)<=(p:Int):=by omega
   go_wp2_with fail
   go_quiet ((go_at_call 185;exact Calls.quiet_of_same (zdm HJP.o (qA _ _ s.fs _ _ (by exact HFr.o _)))))
   go_wp2_with fail
   go_ret;exact⟨zeF HD.o.symm,below_drewN HB.o.1 _⟩
set_option maxRecDepth 20000 in
theorem zog (o:Ob)(s:Shp)(ms:List Mnd)(fa ma ova oha:OA)(fcap mcap cap cap':Nat)(w:World)(hf:yc w fa s.fs)(hm:qL w ma ms)(ho:jT w o ova oha)(hA:znN ova o.vs)(hA':znN oha o.hs)(hl:o.vs.length<=1048576)(hl':o.hs.length<=1048576)(hc:o.vs.length=s.fs.length)
 (hml:ms.length<=1048576) (hn:s.fs.length<=6) (hrd:∀q,q<s.fs.length->∀x∈yx s ms q,0<=x/\x<s.fs.length) (hwk:(zI (zm s ms) s.fs.length).1=true) :
 Calls Tryz.prog 226 #[.agg #[.s s.kd,.l fa s.fs.length fcap],.l ma ms.length mcap,.agg #[.s o.kd,.s o.nm,.s o.tm,.l ova o.vs.length cap,.bool o.en,.l oha o.hs.length cap',.i o.vr]] w
  fun e w'=>∃a dap a' dap' m,e=.returned (.agg #[.s o.kd,.s o.nm,.s o.tm,.l a o.vs.length dap,.bool o.en,.l a' o.hs.length dap',.i o.vr])/\zn w.heap.size w' a (zY (decided s ms) (zI (zm s ms) s.fs.length).2.row o.vs)/\(∀g,a=some g->g.block<m)/\w.heap.size<=m/\zn m w' a' o.hs/\Bw w w':=by
 have HH:Hid (yc w fa s.fs/\qL w ma ms/\o.vs.length=s.fs.length/\ms.length<=1048576/\s.fs.length<=6/\(∀q,q<s.fs.length->∀x∈yx s ms q,0<=x/\x<s.fs.length)/\(∀x∈o.vs,x.size<=maxLen)):=⟨hf,hm,hc,hml,hn,hrd,ho.vals.small⟩
 have HWK:=hid hwk;clear hf hm hc hml hrd hwk;go_enter Tryz.func226,Tryz.ntmps226;go_wp2_with fail
 refine(zjv o ova oha cap cap' _ (ho.mono (jB _ _ _ _)) hA hA' hl hl').mono ?_;rintro e w1⟨a,dap,a',dap',m,rfl,ht,hmm,hsm,ht',hb1⟩;have hX1:∀j,w1.cell? (aD w.heap.size j)=(#[.s s.kd,.l fa s.fs.length fcap]:AV)[j]?:=fun j=>cell_of_block ((hb1.block w.heap.size (by simp;omega)).trans (zcd _ _ _ _))
 have HS1:Hid (w1.heap[w.heap.size]?=some (.cells #[.s s.kd,.l fa s.fs.length fcap] 134)):=(hb1.block w.heap.size (by simp;omega)).trans (zcd _ _ _ _);have HR1:Hid (w1.heap[w.heap.size+1+1]?=some (.cells oZ 123)):=(hb1.block (w.heap.size+1+1) (by simp)).trans (zck _ _ _ _);have HB1:Hid (Bw w w1):=(jB _ _ _ _).trans (hb1.mono (by simp;omega));have hz1:w.heap.size+1+1<w1.heap.size:=by have:=hb1.size;simp at this;omega
 have HT:Hid (zn (w.heap.size+1+1+1) w1 a o.vs/\(∀g,a=some g->g.block<m)/\w.heap.size+1+1+1<=m/\zn m w1 a' o.hs):=by
  simp only[World.size_alloc]at ht hsm;exact⟨ht,hmm,hsm,ht'⟩
 have hz0:w.heap.size<w1.heap.size:=by omega
 clear ht hmm hsm ht' hb1 ho;have hba:=(bRf w1.heap.size w1).alloc (Nat.le_refl _) (.cells (oC o a a' dap dap') 123);have HBA:=hid (HB1.o.trans (hba.mono HB1.o.size));have HBB:=hid hba;clear hba;go_wp2_with fail
 have h:=zih s ms ma fa mcap fcap _ (HH.o.2.1.mono HBA.o) (HH.o.1.mono HBA.o) HH.o.2.2.2.1 HH.o.2.2.2.2.1 HH.o.2.2.2.2.2.1;rw[HWK.o]at h;refine h.mono ?_;rintro e w2⟨rv,rfl,hb2,hrow⟩;have hrow:=hrow rfl;obtain⟨ra,rcap,rfl⟩:=qD hrow;have HBC:=hid (HBB.o.trans (hb2.mono HBB.o.size))
 have HR2:Hid (w2.ownsRow (w1.heap.size+1) 3 1 (.l ra (zI (zm s ms) s.fs.length).2.row.length rcap) (zI (zm s ms) s.fs.length).2.row.length (zeE (zI (zm s ms) s.fs.length).2.row)):=by
  have:=hrow;rw[World.size_alloc]at this;exact this
 have HU2:Hid (w2.heap[w1.heap.size]?=some (.cells (oC o a a' dap dap') 123)):=(hb2.block _ (by simp)).trans (alloc_at _ _)
 have HTP:Hid (zkO (zm s ms) s.fs.length (zI (zm s ms) s.fs.length).2.row):=zen (fun p hp q hq=>by
  unfold zm at hq;obtain⟨x,hx,rfl⟩:=List.mem_map.1 hq
  have:=HH.o.2.2.2.2.2.1 p hp x hx
  omega) HWK.o
 have hz2:=(gES HU2.o).1
 have HRL:Hid ((zI (zm s ms) s.fs.length).2.row.length<=6):=by
  have h1:=zbw (zI (zm s ms) s.fs.length).2.row (List.range s.fs.length) HTP.o.nodup (fun x hx=>List.mem_range.2 ((HTP.o.mem x).1 hx));have h2:=HH.o.2.2.2.2.1;rw[List.length_range]at h1
  show _<=_;omega
 clear h hrow hb2 hX1;go_wp2_with fail
 go_loopw [22] (fun iv wr=>∃j:Nat,j<=(zI (zm s ms) s.fs.length).2.row.length/\iv=.i j/\zn (w.heap.size+1+1+1) wr a (zY (decided s ms) ((zI (zm s ms) s.fs.length).2.row.take j) o.vs)/\zn m wr a' o.hs/\wr.heap[w.heap.size+1+1]?=some (.cells #[.s ByteArray.empty,.s ByteArray.empty,.s ByteArray.empty,.l none 0 0,.bool false,.l none 0 0,.i 0] 123)/\wr.heap[w1.heap.size]?=some (.cells #[.s o.kd,.s o.nm,.s o.tm,.l a o.vs.length dap,.bool o.en,.l a' o.hs.length dap',.i o.vr] 123)/\wr.heap[w.heap.size]?=some (.cells #[.s s.kd,.l fa s.fs.length fcap] 134)/\wr.ownsRow (w1.heap.size+1) 3 1 (.l ra (zI (zm s ms) s.fs.length).2.row.length rcap) (zI (zm s ms) s.fs.length).2.row.length (zeE (zI (zm s ms) s.fs.length).2.row)/\Bw w wr) (fun iv _=>(zI (zm s ms) s.fs.length).2.row.length-(intOf iv).toNat)
 case atStart=>exact⟨0,Nat.zero_le _,rfl,HT.o.1.mono HBC.o,HT.o.2.2.2.mono HBC.o,(HBC.o.block _ hz1).trans HR1.o,HU2.o,(HBC.o.block _ hz0).trans HS1.o,HR2.o,HB1.o.trans (HBC.o.mono HB1.o.size)⟩
 case round=>
  obtain⟨j,hj,rfl,hinv⟩:=hrel;have HI:Hid (zn (w.heap.size+1+1+1) wr a (zY (decided s ms) ((zI (zm s ms) s.fs.length).2.row.take j) o.vs)/\zn m wr a' o.hs/\wr.heap[w.heap.size+1+1]?=some (.cells oZ 123)/\wr.heap[w1.heap.size]?=some (.cells (oC o a a' dap dap') 123)/\wr.heap[w.heap.size]?=some (.cells #[.s s.kd,.l fa s.fs.length fcap] 134)/\wr.ownsRow (w1.heap.size+1) 3 1 (.l ra (zI (zm s ms) s.fs.length).2.row.length rcap) (zI (zm s ms) s.fs.length).2.row.length (zeE (zI (zm s ms) s.fs.length).2.row)/\Bw w wr):=hinv;clear hinv
  by_cases hlt:j<(zI (zm s ms) s.fs.length).2.row.length
  ·have hltI:(j:Int)<((zI (zm s ms) s.fs.length).2.row.length:Int):=by omega
   have hqn:(zI (zm s ms) s.fs.length).2.row[j]<s.fs.length:=(HTP.o.mem _).1 (List.getElem_mem hlt)
   obtain⟨rg,rfl,hrc⟩:∃rg,ra=some (aD rg 0)/\wr.cell? (aD rg j)=some (.i (((zI (zm s ms) s.fs.length).2.row[j]:Nat):Int)):=by
    have hrow:=HI.o.2.2.2.2.2.1;obtain⟨_,⟨h0,h1⟩|⟨g,cp,cur,h0,h1⟩⟩:=id hrow
    ·rw[h1]at hlt;exact absurd hlt (by omega)
    ·cases h0
     refine⟨g,rfl,?_⟩;rw[hrow.cellAt j (by omega)]
     simp[zeE,hlt]
   have HTS:Hid ((zY (decided s ms) ((zI (zm s ms) s.fs.length).2.row.take (j+1)) o.vs)=(zY (decided s ms) ((zI (zm s ms) s.fs.length).2.row.take j) o.vs).set (zI (zm s ms) s.fs.length).2.row[j] (decided s ms (zI (zm s ms) s.fs.length).2.row[j] (zY (decided s ms) ((zI (zm s ms) s.fs.length).2.row.take j) o.vs))):=by
    unfold Hid;rw[tSe hlt,zcT]
    rfl
   have HTL:Hid ((zY (decided s ms) ((zI (zm s ms) s.fs.length).2.row.take j) o.vs).length=o.vs.length):=jG _ _ _;have HSML:Hid (∀x∈(zY (decided s ms) ((zI (zm s ms) s.fs.length).2.row.take j) o.vs),x.size<=maxLen):=zb4 HH.o.2.1.small _ _ HH.o.2.2.2.2.2.2;have hvl:0<o.vs.length:=by rw[HH.o.2.2.1];omega
   obtain⟨g,C,hga,hgl,hgh,hgc⟩:∃g C,a=some (aD g 0)/\w.heap.size+1+1+1<=g/\wr.heap[g]?=some (.cells C 9)/\∀i (h:i<(zY (decided s ms) ((zI (zm s ms) s.fs.length).2.row.take j) o.vs).length),C[i]?=some (.s (zY (decided s ms) ((zI (zm s ms) s.fs.length).2.row.take j) o.vs)[i]):=by
    rcases HI.o.1 with⟨_,h0⟩|h0
    ·have:=HTL.o;rw[h0]at this;simp at this;omega
    ·exact h0
   have hgm:=HT.o.2.1 _ hga;have hgw1:=HT.o.1.lt _ hga;subst hga
   revert hqn hrc HTS
   generalize (zI (zm s ms) s.fs.length).2.row[j]=q
   intro hqn hrc HTS;have hqv:q<o.vs.length:=by rw[HH.o.2.2.1];exact hqn
   have hqI:(q:Int)<(o.vs.length:Int):=by omega
   have HCS:Hid (C.size=C.size/\q<C.size):=by
    refine⟨rfl,?_⟩
    rcases Nat.lt_or_ge q C.size with h1|h1
    ·exact h1
    ·have h2:=hgc q (by rw[HTL.o];exact hqv)
     rw[Array.getElem?_eq_none h1]at h2;cases h2
   have hOc:=zbq HI.o.2.2.2.1;have hSc:=zbq HI.o.2.2.2.2.1;have hzw:w1.heap.size<wr.heap.size:=(gES HI.o.2.2.2.1).1;have HST:Hid (zF wr (some (aD g 0)) (zY (decided s ms) ((zI (zm s ms) s.fs.length).2.row.take j) o.vs)):=HI.o.1.at (by rw[HTL.o];unfold maxLen;omega) HSML.o;have HBD:Hid (Bw w wr.drew/\Bw wr wr.drew):=⟨HI.o.2.2.2.2.2.2.drew,(bRf _ _).drew⟩
   have HGH:=hid hgh;clear hgh hgc;go_wp2_with fail
   clear hrc;have hbd:=HBD.o.2;have hOd:=za hOc hzw hbd;have hSd:=za hSc (by omega) hbd
   have HDV:Hid (∀W,Bw wr W->Calls Tryz.prog 235 #[.agg #[.s s.kd,.l fa s.fs.length fcap],.l ma ms.length mcap,.l (some (aD g 0)) o.vs.length dap,.i (q:Int)] W fun e w'=>e=.returned (.s (decided s ms q (zY (decided s ms) ((zI (zm s ms) s.fs.length).2.row.take j) o.vs)))/\Bw W w'):=by
    intro W hb;have hbw:=HI.o.2.2.2.2.2.2.trans (hb.mono HI.o.2.2.2.2.2.2.size);have h:=zha s ms (zY (decided s ms) ((zI (zm s ms) s.fs.length).2.row.take j) o.vs) q fa ma (some (aD g 0)) fcap mcap dap W (HH.o.1.mono hbw) (HH.o.2.1.mono hbw) (HST.o.mono hb) (by rw[HTL.o];exact HH.o.2.2.1) hqn;rw[HTL.o]at h;exact h
   go_region_held3 (fun w'=>(∀k,w'.cell? (aD w1.heap.size k)=(#[.s o.kd,.s o.nm,.s o.tm,.l (some (aD g 0)) o.vs.length dap,.bool o.en,.l a' o.hs.length dap',.i o.vr]:AV)[k]?)/\∀k,w'.cell? (aD w.heap.size k)=(#[.s s.kd,.l fa s.fs.length fcap]:AV)[k]?) (first|(refine⟨fun k=>?_,fun k=>?_⟩;rw[hOd];rw[hSd])|(refine⟨fun k=>?_,fun k=>?_⟩;rw[hqo];rw[hqs])) (first
    | (go_at_call 235;refine(HDV.o _ hbd).mono ?_;rintro e w5⟨rfl,hb5⟩;have hbd:=hbd.trans (hb5.mono hbd.size);have hOd:=za hOc hzw hbd;have hSd:=za hSc (by omega) hbd;have hg5:=(hbd.block g (by omega)).trans HGH.o;have hcg:w5.cell? (aD g q)=some (C[q]'HCS.o.2):=(by rw[cell_of_block hg5];exact Array.getElem?_eq_getElem HCS.o.2);have hfg:w5.frozen? (aD g q)=false:=zh hg5;have hqo:∀k,(w5.setCell (aD g q) (.s (decided s ms q (zY (decided s ms) ((zI (zm s ms) s.fs.length).2.row.take j) o.vs)))).cell? (aD w1.heap.size k)=(#[.s o.kd,.s o.nm,.s o.tm,.l (some (aD g 0)) o.vs.length dap,.bool o.en,.l a' o.hs.length dap',.i o.vr]:AV)[k]?:=(fun k=>(yg (by show w1.heap.size≠g;omega)).trans (hOd k));have hqs:∀k,(w5.setCell (aD g q) (.s (decided s ms q (zY (decided s ms) ((zI (zm s ms) s.fs.length).2.row.take j) o.vs)))).cell? (aD w.heap.size k)=(#[.s s.kd,.l fa s.fs.length fcap]:AV)[k]?:=(fun k=>(yg (by show w.heap.size≠g;omega)).trans (hSd k));have HBE:Hid (Bw wr w5):=hbd;clear hb5 hg5))
   go_wp2_with fail
   obtain⟨i1,i2,i3,i4,i5,i6,i7⟩:=HI.o;have hE:=HBE.o;refine⟨⟨j+1,by omega,by rw[wrap_one (by have:=HRL.o;omega)],?_,(i2.mono hE).setCell _ hgm _,(Below.heap_setCell _ _ _ _ (by show w.heap.size+1+1≠g;omega)).trans ((hE.block _ (by omega)).trans i3),(Below.heap_setCell _ _ _ _ (by show w1.heap.size≠g;omega)).trans ((hE.block _ hzw).trans i4),(Below.heap_setCell _ _ _ _ (by show w.heap.size≠g;omega)).trans ((hE.block _ (by omega)).trans i5),?_,(i7.trans (hE.mono i7.size)).setCell (p:=(aD g q)) (by show w.heap.size<=g;omega) _⟩,yO hlt (by have:=HRL.o;omega)⟩
   ·rw[HTS.o];exact(i1.mono hE).set q _
   ·refine qY (yZ i6 hE) (fun g' hg'=>Below.heap_setCell _ _ _ _ ?_)
    have:=(i6.lt g' hg').1
    show g'≠g
    omega
  ·have e:j=(zI (zm s ms) s.fs.length).2.row.length:=by omega
   obtain⟨i1,i2,i3,i4,i5,i6,i7⟩:=HI.o;rw[e,tOl (Nat.le_refl _)]at i1;have hRc:∀k,wr.cell? (aD (w.heap.size+1+1) k)=(oZ:AV)[k]?:=fun k=>cell_of_block i3
   have hRf:∀k,wr.frozen? (aD (w.heap.size+1+1) k)=false:=fun k=>zh i3
   have hOc:=zbq i4;have HX:=zcR i1 i2 i7;clear i1 i2 i3 i4 i5 i6 i7 HI;subst e;go_wp2_with fail
   refine bodyPost_ret (v:=(.agg #[.s o.kd,.s o.nm,.s o.tm,.l a o.vs.length dap,.bool o.en,.l a' o.hs.length dap',.i o.vr])) (by simp[results,Tryz.results226,go_sem,hRc]) rfl ?_;obtain⟨ht,ht',hB⟩:=HX.o;exact⟨a,dap,a',dap',m,rfl,(jF ht _ (by omega) _ _ _ _ _ _ _).low (by omega),HT.o.2.1,by have:=HT.o.2.2.1;omega,jF ht' _ (by have:=HT.o.2.2.1;omega) _ _ _ _ _ _ _,j3 hB _ (by omega) _ _ _ _ _ _ _⟩
def qV (ss:List Shp)(ms:List Mnd)(o:Ob):Bool:=zJ ss o.kd&&(decide (o.vs.length=(shapeOf ss o.kd).fs.length)&&yA ss ms)
theorem ze3 {ss:List Shp}{v:BA}(h:zJ ss v=true):∃i,∃hi:i<ss.length,shapeOf ss v=ss[i]:=by
 unfold zJ at h;rw[List.any_eq_true]at h;obtain⟨x,hx,he⟩:=h;unfold shapeOf
 cases hf:ss.find? (fun s=>decide (s.kd=v)) with
 | none=>rw[List.find?_eq_none]at hf;exact absurd he (hf x hx)
 | some y=>
  obtain⟨i,hi,rfl⟩:=List.mem_iff_getElem.1 (List.mem_of_find?_eq_some hf);exact⟨i,hi,rfl⟩
theorem zc1 {ss:List Shp}{ms:List Mnd}{o:Ob}(h:qV ss ms o=true):o.vs.length=(shapeOf ss o.kd).fs.length/\(shapeOf ss o.kd).fs.length<=6/\(∀q,q<(shapeOf ss o.kd).fs.length->∀x∈yx (shapeOf ss o.kd) ms q,0<=x/\x<(shapeOf ss o.kd).fs.length)/\(zI (zm (shapeOf ss o.kd) ms) (shapeOf ss o.kd).fs.length).1=true:=by
 unfold qV at h;simp only[Bool.and_eq_true,decide_eq_true_eq]at h;obtain⟨hk,hl,hm⟩:=h;obtain⟨i,hi,e⟩:=ze3 hk;unfold yA at hm;simp only[Bool.and_eq_true,decide_eq_true_eq]at hm;obtain⟨⟨⟨h12,hs⟩,ha⟩,hr⟩:=hm;rw[e]at hl ⊢;refine⟨hl,zfS hs i hi,zj1 hs ha i hi,?_⟩
 have:=List.all_eq_true.1 hr ss[i] (List.getElem_mem hi)
 exact this
def zhO (ss:List Shp)(ms:List Mnd)(o:Ob):List BA:=zY (decided (shapeOf ss o.kd) ms) (zI (zm (shapeOf ss o.kd) ms) (shapeOf ss o.kd).fs.length).2.row o.vs
def zcD (ss:List Shp)(ms:List Mnd)(o:Ob):List BA:=if qV ss ms o=true then zhO ss ms o else o.vs
def zgg (ss:List Shp)(o:Ob):Ob:=⟨o.kd,o.nm,o.tm,zah (shapeOf ss o.kd).fs o.vs,o.en,o.hs,o.vr⟩
def zbT (ss:List Shp)(ms:List Mnd)(o:Ob):List BA:=if qV ss ms o=true then zhO ss ms (zgg ss o) else o.vs
theorem zos {ss:List Shp}{ms:List Mnd}{o:Ob}(h:qV ss ms o=true):(zgg ss o).vs.length=o.vs.length:=qP (zc1 h).1
theorem zge {fs:List Fld}{vs:List BA}(hf:zbN fs)(hv:∀s∈vs,s.size<=maxLen)(hl:vs.length=fs.length):∀s∈zah fs vs,s.size<=maxLen:=by
 intro s hm;obtain⟨i,hi,rfl⟩:=List.mem_iff_getElem.1 hm;have h2:=qP hl;have e:(zah fs vs)[i]=zam (fs[i]'(by omega)) (vs[i]'(by omega)):=by simp[zah]
 rw[e];unfold zam
 split
 ·exact(hf.small i (by omega)).1.df
 ·exact hv _ (List.getElem_mem _)
theorem zp0 (o:Ob)(us:List BA)(hnn:us.length=o.vs.length)(s:Shp)(ms:List Mnd)(fa ma ova oha:OA)(fcap mcap cap cap':Nat)(w:World)(hf:yc w fa s.fs)(hm:qL w ma ms)(hsm:o.Small)(ho:zF w ova us)(ho':zF w oha o.hs)(hA:znN ova us)(hA':znN oha o.hs)(hl:o.vs.length<=1048576)(hl':o.hs.length<=1048576)(hc:o.vs.length=s.fs.length)
 (hml:ms.length<=1048576) (hn:s.fs.length<=6) (hrd:∀q,q<s.fs.length->∀x∈yx s ms q,0<=x/\x<s.fs.length) (hwk:(zI (zm s ms) s.fs.length).1=true) :
 Calls Tryz.prog 226 #[.agg #[.s s.kd,.l fa s.fs.length fcap],.l ma ms.length mcap,.agg #[.s o.kd,.s o.nm,.s o.tm,.l ova o.vs.length cap,.bool o.en,.l oha o.hs.length cap',.i o.vr]] w
  fun e w'=>∃a dap a' dap' m,e=.returned (.agg #[.s o.kd,.s o.nm,.s o.tm,.l a o.vs.length dap,.bool o.en,.l a' o.hs.length dap',.i o.vr])/\zn w.heap.size w' a (zY (decided s ms) (zI (zm s ms) s.fs.length).2.row us)/\(∀g,a=some g->g.block<m)/\w.heap.size<=m/\zn m w' a' o.hs/\Bw w w':=by
 have h:=zog ⟨o.kd,o.nm,o.tm,us,o.en,o.hs,o.vr⟩ s ms fa ma ova oha fcap mcap cap cap' w hf hm ⟨⟨hsm.kd,hsm.nm,hsm.tm⟩,ho,ho'⟩ hA hA' (by show us.length<=_;omega) hl' (by show us.length=_;omega) hml hn hrd hwk;simp only[hnn]at h;exact h
end Go.Proofs.YtecncindgjdbiaaGreat
