import Derived.Test.YtnapmdofidgliaaGreatM40
set_option maxHeartbeats 8000000
namespace Go.Proofs.YtnapmdofidgliaaGreat
open Go.RowKit
theorem zdw {P:Program}{f:FuncId}{args:Array Value}{w:World}{b c:Int}{R:World->Prop}(hb:b=c)(h:Calls P f args w fun e w'=>e=.returned (.int .i64 b)/\R w'):Calls P f args w fun e w'=>e=.returned (.int .i64 c)/\R w':=by
 subst hb;exact h
theorem zeL {a b:ByteArray}(h:a=b):Ending.returned (.string a)=.returned (.string b):=by rw[h]
theorem zqL {s:Shp}{ms:List Mnd}{p:Nat}(hrd:∀x∈yC s ms p,0<=x/\x<s.fs.length){m:Mnd}(hm:m∈ms)(ht:turns m s p=true){v:ByteArray}(hv:v∈zQ m):∃j:Nat,j<s.fs.length/\zR s.fs v=(j:Int):=by
 have h:=hrd (zR s.fs v) (by
  unfold yC;rw[List.mem_flatMap];refine⟨m,hm,?_⟩;rw[if_pos ht];exact List.mem_map.2 ⟨v,hv,rfl⟩)
 exact⟨(zR s.fs v).toNat,by omega,by omega⟩
set_option maxRecDepth 20000 in
theorem zk2 (s:Shp)(ms:List Mnd)(o:Ob)(vs:List ByteArray)(p:Nat)(fa ma va ha:Option Addr)(fcap mcap vcap hcap:Nat)(w:World)(hf:zY w fa s.fs)(hm:qN w ma ms)(hv:zD w va vs)(hc:vs.length=s.fs.length)(hp:p<s.fs.length)(hix:zR s.fs s.fs[p].nm=(p:Int))(hkd:o.kd=s.kd)(hrd:∀x∈yC s ms p,0<=x/\x<s.fs.length) :
 Calls Tryz.prog 177 #[.slice fa s.fs.length fcap,.slice ma ms.length mcap,.agg #[.string o.kd,.string o.nm,.string o.tm,.slice va vs.length vcap,.bool o.en,.slice ha o.hs.length hcap,.int .i64 o.vr],.string s.fs[p].nm] w fun e w'=>e=.returned (.string (decided s ms p vs))/\Below w.heap.size w w':=by
 have hpv:p<vs.length:=by omega
 have hl:=hv.len;have hml:=hm.len;unfold maxLen at hl hml;obtain⟨vb,voff,rfl,hvb,hcell⟩:=hv.cells (by rintro rfl;simp at hpv);have HH:Hid (zY w fa s.fs/\qN w ma ms/\vs.length=s.fs.length/\(∀i (h:i<vs.length),w.cell? ⟨vb,voff+i,none⟩=some (.string vs[i]))/\zR s.fs s.fs[p].nm=(p:Int)/\o.kd=s.kd/\(∀x∈yC s ms p,0<=x/\x<s.fs.length)):=⟨hf,hm,hc,hcell,hix,hkd,hrd⟩
 clear hf hm hv hc hcell hix hkd hrd;go_enter Tryz.func177,Tryz.ntmps177;go_wp2_with fail
 go_loopw [9] (fun iv wr=>∃k:Nat,k<=ms.length/\iv=.int .i64 k/\(ms.take k).findSome? (gives s vs p)=none/\Below (w.heap.size+1) (w.alloc (.cells #[.string o.kd,.string o.nm,.string o.tm,.slice (some ⟨vb,voff,none⟩) vs.length vcap,.bool o.en,.slice ha o.hs.length hcap,.int .i64 o.vr] 123)) wr) (fun iv _=>ms.length-(intOf iv).toNat)
 case atStart=>exact⟨0,Nat.zero_le _,rfl,rfl,bRf _ _⟩
 case round=>
  obtain⟨k,hk,rfl,hnone,hBw⟩:=hrel;have HB:Hid (Below w.heap.size w wr/\Below (w.heap.size+1) (w.alloc (.cells #[.string o.kd,.string o.nm,.string o.tm,.slice (some ⟨vb,voff,none⟩) vs.length vcap,.bool o.en,.slice ha o.hs.length hcap,.int .i64 o.vr] 123)) wr):=⟨(bAl _ _).trans (hBw.mono (by omega)),hBw⟩
  have hzr:w.heap.size<wr.heap.size:=by have:=hBw.size;simp at this;omega
  have hXr:∀j,wr.cell? ⟨w.heap.size,j,none⟩=(#[.string o.kd,.string o.nm,.string o.tm,.slice (some ⟨vb,voff,none⟩) vs.length vcap,.bool o.en,.slice ha o.hs.length hcap,.int .i64 o.vr]:Array Value)[j]?:=fun j=>cell_of_block ((hBw.block w.heap.size (by omega)).trans (alloc_at _ _))
  have HV:Hid (∀i (h:i<vs.length),wr.cell? ⟨vb,voff+i,none⟩=some (.string vs[i])):=fun i h=>(HB.out.1.cell (p:=⟨vb,voff+i,none⟩) hvb).trans (HH.out.2.2.2.1 i h)
  have hvz:vb<wr.heap.size:=nLt hvb HB.out.1.size;have HN:Hid ((ms.take k).findSome? (gives s vs p)=none):=hnone;have HFm:Hid (∀ob n,zY ((wr.alloc ob).drewN n) fa s.fs):=fun ob n=>(HH.out.1.mono HB.out.1).mono (below_drewN (bAl _ _) n)
  have HFr:Hid (∀n,zY (wr.drewN n) fa s.fs):=fun n=>(HH.out.1.mono HB.out.1).mono (below_drewN (bRf _ _) n)
  clear hnone hBw
  by_cases hlt:k<ms.length
  ·obtain⟨mb,moff,rfl,hmb,c0,c1,c2,c3,c4,c5⟩:=HH.out.2.1.load HB.out.1 k hlt
   have hltI:(k:Int)<(ms.length:Int):=by omega
   have hmz:mb<wr.heap.size:=nLt hmb HB.out.1.size
   have HNX:Hid (gives s vs p ms[k]=none->(ms.take (k+1)).findSome? (gives s vs p)=none):=by
    intro h;rw[tSe hlt,List.findSome?_append,HN.out]
    simp[h]
   have HSX:Hid (∀x,gives s vs p ms[k]=some x->decided s ms p vs=x):=by
    intro x h;unfold decided
    have e:ms.findSome? (gives s vs p)=some x:=by
     conv=>lhs;rw[<- List.take_append_drop k ms,List.drop_eq_getElem_cons hlt]
     rw[List.findSome?_append,HN.out,List.findSome?_cons,h]
     rfl
    rw[e];rfl
   have HBE:Hid (∀ob n,Below (w.heap.size+1) (w.alloc (.cells #[.string o.kd,.string o.nm,.string o.tm,.slice (some ⟨vb,voff,none⟩) vs.length vcap,.bool o.en,.slice ha o.hs.length hcap,.int .i64 o.vr] 123)) ((wr.alloc ob).drewN n)):=fun ob n=>HB.out.2.trans ((below_drewN (bAl _ _) n).mono (by omega))
   have HBR:Hid (∀ob n,Below w.heap.size w ((wr.alloc ob).drewN n)):=fun ob n=>HB.out.1.trans ((below_drewN (bAl _ _) n).mono (by omega))
   have HTU:Hid (turns ms[k] s p=((ms[k].kd.toList == o.kd.toList)&&(ms[k].fd.toList == s.fs[p].nm.toList))):=by
    rw[Hid,beq_toList,beq_toList,HH.out.2.2.2.2.2.1];unfold turns;rw[getD_at s.fs p _ hp]
   clear HN
   by_cases hkd:(ms[k].kd.toList == o.kd.toList)=true
   rotate_left
   ·have hkf:(ms[k].kd.toList == o.kd.toList)=false:=by simpa using hkd
    have HG:Hid (gives s vs p ms[k]=none):=by unfold Hid gives;rw[if_neg];rintro⟨h,_⟩;rw[HTU.out,hkf]at h;simp at h
    clear hkd;go_wp2_with fail
    go_quiet (fail)
    go_wp2_with fail
    exact⟨⟨k+1,by omega,by go_num,HNX.out HG.out,HBE.out _ _⟩,by simp[intOf];omega⟩
   by_cases hfd:(ms[k].fd.toList == s.fs[p].nm.toList)=true
   rotate_left
   ·have hff:(ms[k].fd.toList == s.fs[p].nm.toList)=false:=by simpa using hfd
    have HG:Hid (gives s vs p ms[k]=none):=by unfold Hid gives;rw[if_neg];rintro⟨h,_⟩;rw[HTU.out,hff]at h;simp at h
    clear hfd;go_wp2_with fail
    go_quiet (fail)
    go_wp2_with fail
    exact⟨⟨k+1,by omega,by go_num,HNX.out HG.out,HBE.out _ _⟩,by simp[intOf];omega⟩
   have HT:Hid (turns ms[k] s p=true):=by rw[Hid,HTU.out,hkd,hfd];rfl
   have HRD:Hid (∀v∈zQ ms[k],∃j:Nat,j<s.fs.length/\zR s.fs v=(j:Int)):=fun v hv=>zqL HH.out.2.2.2.2.2.2 (List.getElem_mem hlt) HT.out hv
   by_cases hwh:ms[k].wh.toList.isEmpty=true
   ·have HW:Hid (¬(isSet ms[k].wh=true/\qO s.fs vs ms[k].wh≠ms[k].wi)):=by rintro⟨h,_⟩;unfold isSet at h;rw[hwh]at h;cases h
    by_cases hfr:ms[k].fr.toList.isEmpty=true
    ·have HG:Hid (gives s vs p ms[k]=some ms[k].pt):=by
      unfold Hid gives;rw[if_pos ⟨HT.out,HW.out⟩,if_neg (by unfold isSet;rw[hfr];simp)]
     go_wp2_with fail
     go_quiet (fail)
     go_wp2_with fail
     go_ret;exact⟨zeL (HSX.out _ HG.out).symm,HBR.out _ _⟩
    ·have hfs:ms[k].fr.toList.isEmpty=false:=by simpa using hfr
     have his:isSet ms[k].fr=true:=by unfold isSet;rw[hfs];rfl
     obtain⟨jf,hjf,hjx⟩:=HRD.out ms[k].fr (by unfold zQ;simp[his]);have HJF:Hid (zR s.fs ms[k].fr=(jf:Int)):=hjx;have hjv:jf<vs.length:=by have:=HH.out.2.2.1;omega
     have HVA:Hid (qO s.fs vs ms[k].fr=vs[jf]):=by rw[Hid,zdA hjx,getD_at vs jf _ hjv]
     have cf:=HV.out jf hjv;have hjI:(jf:Int)<(vs.length:Int):=by omega
     have hj0:(0:Int)<=(jf:Int):=by omega
     clear hfr hjx
     by_cases hve:vs[jf].toList.isEmpty=true
     ·have HG:Hid (gives s vs p ms[k]=none):=by
       unfold Hid gives;rw[if_pos ⟨HT.out,HW.out⟩,if_pos his,if_neg (by unfold isSet;rw[HVA.out,hve];simp)]
      go_wp2_with fail
      go_quiet (fail)
      go_wp2_with fail
      obtain⟨W5,hW5⟩:∃W5,W5=(wr.alloc (.cells #[.string ms[k].kd,.string ms[k].fd,.string ms[k].wh,.string ms[k].wi,.string ms[k].pt,.string ms[k].fr] 133)).drewN nq:=⟨_,rfl⟩
      have hb5:Below wr.heap.size wr W5:=by rw[hW5];exact below_drewN (bAl _ _) _
      have hM5:∀j,W5.cell? ⟨wr.heap.size,j,none⟩=(#[.string ms[k].kd,.string ms[k].fd,.string ms[k].wh,.string ms[k].wi,.string ms[k].pt,.string ms[k].fr]:Array Value)[j]?:=by rw[hW5];exact zl wr _ _
      have hm5:wr.heap.size<W5.heap.size:=by rw[hW5];show wr.heap.size<(wr.alloc _).heap.size;simp
      have hX5:=za hXr hzr hb5;have hz5:w.heap.size<W5.heap.size:=by omega
      have cf5:W5.cell? ⟨vb,voff+jf,none⟩=some (.string vs[jf]):=(hb5.cell (p:=⟨vb,voff+jf,none⟩) hvz).trans cf;have hv5:vb<W5.heap.size:=by omega
      have HF5:Hid (∀n,zY (W5.drewN n) fa s.fs):=fun n=>((HH.out.1.mono HB.out.1).mono hb5).mono (below_drewN (bRf _ _) n)
      have HE5:Hid (Below (w.heap.size+1) (w.alloc (.cells #[.string o.kd,.string o.nm,.string o.tm,.slice (some ⟨vb,voff,none⟩) vs.length vcap,.bool o.en,.slice ha o.hs.length hcap,.int .i64 o.vr] 123)) W5):=HB.out.2.trans (hb5.mono (by omega));have HR5:Hid (Below w.heap.size w W5):=HB.out.1.trans (hb5.mono (by omega));rw[<- hW5];clear hW5
      go_quiet ((go_at_call 172;exact Calls.quiet_of_same (zdw HJF.out (qp _ _ s.fs _ _ (by exact HF5.out _)))))
      go_wp2_with fail
      exact⟨⟨k+1,by omega,by go_num,HNX.out HG.out,below_drewN HE5.out _⟩,by simp[intOf];omega⟩
     ·have hvs:vs[jf].toList.isEmpty=false:=by simpa using hve
      have HG:Hid (gives s vs p ms[k]=some vs[jf]):=by
       unfold Hid gives;rw[if_pos ⟨HT.out,HW.out⟩,if_pos his,if_pos (by unfold isSet;rw[HVA.out,hvs];rfl),HVA.out]
      clear hve;go_wp2_with fail
      go_quiet (fail)
      go_wp2_with fail
      obtain⟨W5,hW5⟩:∃W5,W5=(wr.alloc (.cells #[.string ms[k].kd,.string ms[k].fd,.string ms[k].wh,.string ms[k].wi,.string ms[k].pt,.string ms[k].fr] 133)).drewN nq:=⟨_,rfl⟩
      have hb5:Below wr.heap.size wr W5:=by rw[hW5];exact below_drewN (bAl _ _) _
      have hM5:∀j,W5.cell? ⟨wr.heap.size,j,none⟩=(#[.string ms[k].kd,.string ms[k].fd,.string ms[k].wh,.string ms[k].wi,.string ms[k].pt,.string ms[k].fr]:Array Value)[j]?:=by rw[hW5];exact zl wr _ _
      have hm5:wr.heap.size<W5.heap.size:=by rw[hW5];show wr.heap.size<(wr.alloc _).heap.size;simp
      have hX5:=za hXr hzr hb5;have hz5:w.heap.size<W5.heap.size:=by omega
      have cf5:W5.cell? ⟨vb,voff+jf,none⟩=some (.string vs[jf]):=(hb5.cell (p:=⟨vb,voff+jf,none⟩) hvz).trans cf;have hv5:vb<W5.heap.size:=by omega
      have HF5:Hid (∀n,zY (W5.drewN n) fa s.fs):=fun n=>((HH.out.1.mono HB.out.1).mono hb5).mono (below_drewN (bRf _ _) n)
      have HE5:Hid (Below (w.heap.size+1) (w.alloc (.cells #[.string o.kd,.string o.nm,.string o.tm,.slice (some ⟨vb,voff,none⟩) vs.length vcap,.bool o.en,.slice ha o.hs.length hcap,.int .i64 o.vr] 123)) W5):=HB.out.2.trans (hb5.mono (by omega));have HR5:Hid (Below w.heap.size w W5):=HB.out.1.trans (hb5.mono (by omega));rw[<- hW5];clear hW5
      go_quiet ((go_at_call 172;exact Calls.quiet_of_same (zdw HJF.out (qp _ _ s.fs _ _ (by exact HF5.out _)))))
      go_wp2_with fail
      go_ret;exact⟨zeL (HSX.out _ HG.out).symm,below_drewN HR5.out _⟩
   ·have hws:ms[k].wh.toList.isEmpty=false:=by simpa using hwh
    have hisw:isSet ms[k].wh=true:=by unfold isSet;rw[hws];rfl
    obtain⟨jw,hjw,hjx⟩:=HRD.out ms[k].wh (by unfold zQ;simp[hisw]);have HJW:Hid (zR s.fs ms[k].wh=(jw:Int)):=hjx;have hjwv:jw<vs.length:=by have:=HH.out.2.2.1;omega
    have HVW:Hid (qO s.fs vs ms[k].wh=vs[jw]):=by rw[Hid,zdA hjx,getD_at vs jw _ hjwv]
    have cw:=HV.out jw hjwv;have hjwI:(jw:Int)<(vs.length:Int):=by omega
    have hjw0:(0:Int)<=(jw:Int):=by omega
    clear hwh hjx
    by_cases hwe:(vs[jw].toList == ms[k].wi.toList)=true
    ·have HW:Hid (¬(isSet ms[k].wh=true/\qO s.fs vs ms[k].wh≠ms[k].wi)):=by
      rintro⟨_,h⟩;rw[HVW.out]at h;rw[beq_toList]at hwe;exact h (by simpa using hwe)
     by_cases hfr:ms[k].fr.toList.isEmpty=true
     ·have HG:Hid (gives s vs p ms[k]=some ms[k].pt):=by
       unfold Hid gives;rw[if_pos ⟨HT.out,HW.out⟩,if_neg (by unfold isSet;rw[hfr];simp)]
      go_wp2_with fail
      go_quiet ((go_at_call 172;exact Calls.quiet_of_same (zdw HJW.out (qp _ _ s.fs _ _ (by exact HFm.out _ _)))))
      go_wp2_with fail
      go_ret;exact⟨zeL (HSX.out _ HG.out).symm,HBR.out _ _⟩
     ·have hfs:ms[k].fr.toList.isEmpty=false:=by simpa using hfr
      have his:isSet ms[k].fr=true:=by unfold isSet;rw[hfs];rfl
      obtain⟨jf,hjf,hjx⟩:=HRD.out ms[k].fr (by unfold zQ;simp[his]);have HJF:Hid (zR s.fs ms[k].fr=(jf:Int)):=hjx;have hjv:jf<vs.length:=by have:=HH.out.2.2.1;omega
      have HVA:Hid (qO s.fs vs ms[k].fr=vs[jf]):=by rw[Hid,zdA hjx,getD_at vs jf _ hjv]
      have cf:=HV.out jf hjv;have hjI:(jf:Int)<(vs.length:Int):=by omega
      have hj0:(0:Int)<=(jf:Int):=by omega
      clear hfr hjx
      by_cases hve:vs[jf].toList.isEmpty=true
      ·have HG:Hid (gives s vs p ms[k]=none):=by
        unfold Hid gives;rw[if_pos ⟨HT.out,HW.out⟩,if_pos his,if_neg (by unfold isSet;rw[HVA.out,hve];simp)]
       go_wp2_with fail
       go_quiet ((go_at_call 172;exact Calls.quiet_of_same (zdw HJW.out (qp _ _ s.fs _ _ (by exact HFm.out _ _)))))
       go_wp2_with fail
       obtain⟨W5,hW5⟩:∃W5,W5=(wr.alloc (.cells #[.string ms[k].kd,.string ms[k].fd,.string ms[k].wh,.string ms[k].wi,.string ms[k].pt,.string ms[k].fr] 133)).drewN nq:=⟨_,rfl⟩
       have hb5:Below wr.heap.size wr W5:=by rw[hW5];exact below_drewN (bAl _ _) _
       have hM5:∀j,W5.cell? ⟨wr.heap.size,j,none⟩=(#[.string ms[k].kd,.string ms[k].fd,.string ms[k].wh,.string ms[k].wi,.string ms[k].pt,.string ms[k].fr]:Array Value)[j]?:=by rw[hW5];exact zl wr _ _
       have hm5:wr.heap.size<W5.heap.size:=by rw[hW5];show wr.heap.size<(wr.alloc _).heap.size;simp
       have hX5:=za hXr hzr hb5;have hz5:w.heap.size<W5.heap.size:=by omega
       have cf5:W5.cell? ⟨vb,voff+jf,none⟩=some (.string vs[jf]):=(hb5.cell (p:=⟨vb,voff+jf,none⟩) hvz).trans cf;have hv5:vb<W5.heap.size:=by omega
       have HF5:Hid (∀n,zY (W5.drewN n) fa s.fs):=fun n=>((HH.out.1.mono HB.out.1).mono hb5).mono (below_drewN (bRf _ _) n)
       have HE5:Hid (Below (w.heap.size+1) (w.alloc (.cells #[.string o.kd,.string o.nm,.string o.tm,.slice (some ⟨vb,voff,none⟩) vs.length vcap,.bool o.en,.slice ha o.hs.length hcap,.int .i64 o.vr] 123)) W5):=HB.out.2.trans (hb5.mono (by omega));have HR5:Hid (Below w.heap.size w W5):=HB.out.1.trans (hb5.mono (by omega));rw[<- hW5];clear hW5
       go_quiet ((go_at_call 172;exact Calls.quiet_of_same (zdw HJF.out (qp _ _ s.fs _ _ (by exact HF5.out _)))))
       go_wp2_with fail
       exact⟨⟨k+1,by omega,by go_num,HNX.out HG.out,below_drewN HE5.out _⟩,by simp[intOf];omega⟩
      ·have hvs:vs[jf].toList.isEmpty=false:=by simpa using hve
       have HG:Hid (gives s vs p ms[k]=some vs[jf]):=by
        unfold Hid gives;rw[if_pos ⟨HT.out,HW.out⟩,if_pos his,if_pos (by unfold isSet;rw[HVA.out,hvs];rfl),HVA.out]
       clear hve;go_wp2_with fail
       go_quiet ((go_at_call 172;exact Calls.quiet_of_same (zdw HJW.out (qp _ _ s.fs _ _ (by exact HFm.out _ _)))))
       go_wp2_with fail
       obtain⟨W5,hW5⟩:∃W5,W5=(wr.alloc (.cells #[.string ms[k].kd,.string ms[k].fd,.string ms[k].wh,.string ms[k].wi,.string ms[k].pt,.string ms[k].fr] 133)).drewN nq:=⟨_,rfl⟩
       have hb5:Below wr.heap.size wr W5:=by rw[hW5];exact below_drewN (bAl _ _) _
       have hM5:∀j,W5.cell? ⟨wr.heap.size,j,none⟩=(#[.string ms[k].kd,.string ms[k].fd,.string ms[k].wh,.string ms[k].wi,.string ms[k].pt,.string ms[k].fr]:Array Value)[j]?:=by rw[hW5];exact zl wr _ _
       have hm5:wr.heap.size<W5.heap.size:=by rw[hW5];show wr.heap.size<(wr.alloc _).heap.size;simp
       have hX5:=za hXr hzr hb5;have hz5:w.heap.size<W5.heap.size:=by omega
       have cf5:W5.cell? ⟨vb,voff+jf,none⟩=some (.string vs[jf]):=(hb5.cell (p:=⟨vb,voff+jf,none⟩) hvz).trans cf;have hv5:vb<W5.heap.size:=by omega
       have HF5:Hid (∀n,zY (W5.drewN n) fa s.fs):=fun n=>((HH.out.1.mono HB.out.1).mono hb5).mono (below_drewN (bRf _ _) n)
       have HE5:Hid (Below (w.heap.size+1) (w.alloc (.cells #[.string o.kd,.string o.nm,.string o.tm,.slice (some ⟨vb,voff,none⟩) vs.length vcap,.bool o.en,.slice ha o.hs.length hcap,.int .i64 o.vr] 123)) W5):=HB.out.2.trans (hb5.mono (by omega));have HR5:Hid (Below w.heap.size w W5):=HB.out.1.trans (hb5.mono (by omega));rw[<- hW5];clear hW5
       go_quiet ((go_at_call 172;exact Calls.quiet_of_same (zdw HJF.out (qp _ _ s.fs _ _ (by exact HF5.out _)))))
       go_wp2_with fail
       go_ret;exact⟨zeL (HSX.out _ HG.out).symm,below_drewN HR5.out _⟩
    ·have hwf:(vs[jw].toList == ms[k].wi.toList)=false:=by simpa using hwe
     have HG:Hid (gives s vs p ms[k]=none):=by
      unfold Hid gives;rw[if_neg];rintro⟨_,h⟩;exact h ⟨hisw,by rw[HVW.out];intro e;rw[beq_toList]at hwf;simp[e]at hwf⟩
     clear hwe;go_wp2_with fail
     go_quiet ((go_at_call 172;exact Calls.quiet_of_same (zdw HJW.out (qp _ _ s.fs _ _ (by exact HFm.out _ _)))))
     go_wp2_with fail
     exact⟨⟨k+1,by omega,by go_num,HNX.out HG.out,HBE.out _ _⟩,by simp[intOf];omega⟩
  ·have hnI:¬(k:Int)<(ms.length:Int):=by omega
   have HD:Hid (decided s ms p vs=vs[p]):=by
    have e:ms.findSome? (gives s vs p)=none:=by have:=HN.out;rwa [tOl (by omega)]at this
    unfold Hid decided;rw[e,getD_at vs p _ hpv];rfl
   have HJP:Hid (zR s.fs s.fs[p].nm=(p:Int)):=HH.out.2.2.2.2.1;have cp:=HV.out p hpv;have hpI:(p:Int)<(vs.length:Int):=by omega
   have hp0:(0:Int)<=(p:Int):=by omega
   go_wp2_with fail
   go_quiet ((go_at_call 172;exact Calls.quiet_of_same (zdw HJP.out (qp _ _ s.fs _ _ (by exact HFr.out _)))))
   go_wp2_with fail
   go_ret;exact⟨zeL HD.out.symm,below_drewN HB.out.1 _⟩
end Go.Proofs.YtnapmdofidgliaaGreat
