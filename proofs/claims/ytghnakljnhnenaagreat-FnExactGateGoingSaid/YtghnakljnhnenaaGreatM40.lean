import Derived.Test.YtghnakljnhnenaaGreatM24
set_option maxHeartbeats 8000000
namespace Go.Proofs.YtghnakljnhnenaaGreat
open Go.RowKit
theorem zdb {P:Program} {f:FuncId} {args:Array Value} {w:World} {b c:Int} {R:World->Prop} (hb:b=c) (h:Calls P f args w fun e w'=>e = .returned (.int .i64 b)/\R w'):Calls P f args w fun e w'=>e = .returned (.int .i64 c)/\R w':=by
 subst hb;exact h
theorem zeR {a b:ByteArray} (h:a=b):Ending.returned (.string a) = .returned (.string b):=by rw [h]
theorem Gate.zpW {s:Shp} {ms:List Mnd} {p:Nat} (hrd:∀ x ∈ Gate.zY s ms p,0<=x/\x < s.fs.length) {m:Mnd} (hm:m ∈ ms) (ht:Gate.turns m s p=true) {v:ByteArray} (hv:v ∈ Gate.zK m):∃ j:Nat,j < s.fs.length/\Gate.zR s.fs v=(j:Int):=by
 have h:=hrd (Gate.zR s.fs v) (by
  unfold Gate.zY;rw [List.mem_flatMap];refine ⟨m,hm,?_⟩;rw [if_pos ht];exact List.mem_map.2 ⟨v,hv,rfl⟩)
 exact ⟨(Gate.zR s.fs v).toNat,by omega,by omega⟩
set_option maxRecDepth 20000 in
theorem zj5 (s:Shp) (ms:List Mnd) (o:Ob) (vs:List ByteArray) (p:Nat) (fa ma va ha:Option Addr) (fcap mcap vcap hcap:Nat) (w:World) (hf:zP w fa s.fs) (hm:yY w ma ms) (hv:zD w va vs) (hc:vs.length=s.fs.length) (hp:p < s.fs.length) (hix:Gate.zR s.fs s.fs[p].nm=(p:Int)) (hkd:o.kd=s.kd) (hrd:∀ x ∈ Gate.zY s ms p,0<=x/\x < s.fs.length) :
 Calls Tryz.prog 176 #[.slice fa s.fs.length fcap,.slice ma ms.length mcap,.agg #[.string o.kd,.string o.nm,.string o.tm,.slice va vs.length vcap,.bool o.en,.slice ha o.hs.length hcap,.int .i64 o.vr],.string s.fs[p].nm] w fun e w'=>e = .returned (.string (Gate.decided s ms p vs))/\Below w.heap.size w w':=by
 have hpv:p < vs.length:=by omega
 have hl:=hv.len;have hml:=hm.len;unfold maxLen at hl hml;obtain ⟨vb,voff,rfl,hvb,hcell⟩:=hv.cells (by rintro rfl;simp at hpv);have HH:Hid (zP w fa s.fs/\yY w ma ms/\vs.length=s.fs.length/\(∀ i (h:i < vs.length),w.cell? ⟨vb,voff+i,none⟩=some (.string vs[i]))/\Gate.zR s.fs s.fs[p].nm=(p:Int)/\o.kd=s.kd/\(∀ x ∈ Gate.zY s ms p,0<=x/\x < s.fs.length)):=⟨hf,hm,hc,hcell,hix,hkd,hrd⟩
 clear hf hm hv hc hcell hix hkd hrd;go_enter Tryz.func176,Tryz.ntmps176;go_wp2_with fail
 go_loopw [9] (fun iv wr=>∃ k:Nat,k<=ms.length/\iv = .int .i64 k/\(ms.take k).findSome? (Gate.gives s vs p)=none/\Below (w.heap.size+1) (w.alloc (.cells #[.string o.kd,.string o.nm,.string o.tm,.slice (some ⟨vb,voff,none⟩) vs.length vcap,.bool o.en,.slice ha o.hs.length hcap,.int .i64 o.vr] 119)) wr) (fun iv _=>ms.length - (intOf iv).toNat)
 case atStart=>exact ⟨0,Nat.zero_le _,rfl,rfl,bRf _ _⟩
 case round =>
  obtain ⟨k,hk,rfl,hnone,hBw⟩:=hrel;have HB:Hid (Below w.heap.size w wr/\Below (w.heap.size+1) (w.alloc (.cells #[.string o.kd,.string o.nm,.string o.tm,.slice (some ⟨vb,voff,none⟩) vs.length vcap,.bool o.en,.slice ha o.hs.length hcap,.int .i64 o.vr] 119)) wr):=⟨(bAl _ _).trans (hBw.mono (by omega)),hBw⟩
  have hzr:w.heap.size < wr.heap.size:=by have:=hBw.size;simp at this;omega
  have hXr:∀ j,wr.cell? ⟨w.heap.size,j,none⟩=(#[.string o.kd,.string o.nm,.string o.tm,.slice (some ⟨vb,voff,none⟩) vs.length vcap,.bool o.en,.slice ha o.hs.length hcap,.int .i64 o.vr]:Array Value)[j]?:=fun j=>cell_of_block ((hBw.block w.heap.size (by omega)).trans (alloc_at _ _))
  have HV:Hid (∀ i (h:i < vs.length),wr.cell? ⟨vb,voff+i,none⟩=some (.string vs[i])):=fun i h=>(HB.out.1.cell (p:=⟨vb,voff+i,none⟩) hvb).trans (HH.out.2.2.2.1 i h)
  have hvz:vb < wr.heap.size:=nLt hvb HB.out.1.size;have HN:Hid ((ms.take k).findSome? (Gate.gives s vs p)=none):=hnone;have HFm:Hid (∀ ob n,zP ((wr.alloc ob).drewN n) fa s.fs):=fun ob n=>(HH.out.1.mono HB.out.1).mono (below_drewN (bAl _ _) n)
  have HFr:Hid (∀ n,zP (wr.drewN n) fa s.fs):=fun n=>(HH.out.1.mono HB.out.1).mono (below_drewN (bRf _ _) n)
  clear hnone hBw
  by_cases hlt:k < ms.length
  ·obtain ⟨mb,moff,rfl,hmb,c0,c1,c2,c3,c4,c5⟩:=HH.out.2.1.load HB.out.1 k hlt
   have hltI:(k:Int) < (ms.length:Int):=by omega
   have hmz:mb < wr.heap.size:=nLt hmb HB.out.1.size
   have HNX:Hid (Gate.gives s vs p ms[k]=none->(ms.take (k+1)).findSome? (Gate.gives s vs p)=none):=by
    intro h;rw [tSe hlt,List.findSome?_append,HN.out]
    simp [h]
   have HSX:Hid (∀ x,Gate.gives s vs p ms[k]=some x->Gate.decided s ms p vs=x):=by
    intro x h;unfold Gate.decided
    have e:ms.findSome? (Gate.gives s vs p)=some x:=by
     conv=>lhs;rw [<- List.take_append_drop k ms,List.drop_eq_getElem_cons hlt]
     rw [List.findSome?_append,HN.out,List.findSome?_cons,h]
     rfl
    rw [e];rfl
   have HBE:Hid (∀ ob n,Below (w.heap.size+1) (w.alloc (.cells #[.string o.kd,.string o.nm,.string o.tm,.slice (some ⟨vb,voff,none⟩) vs.length vcap,.bool o.en,.slice ha o.hs.length hcap,.int .i64 o.vr] 119)) ((wr.alloc ob).drewN n)):=fun ob n=>HB.out.2.trans ((below_drewN (bAl _ _) n).mono (by omega))
   have HBR:Hid (∀ ob n,Below w.heap.size w ((wr.alloc ob).drewN n)):=fun ob n=>HB.out.1.trans ((below_drewN (bAl _ _) n).mono (by omega))
   have HTU:Hid (Gate.turns ms[k] s p=((ms[k].kd.toList == o.kd.toList) && (ms[k].fd.toList == s.fs[p].nm.toList))):=by
    rw [Hid,Gate.beq_toList,Gate.beq_toList,HH.out.2.2.2.2.2.1];unfold Gate.turns;rw [Gate.getD_at s.fs p _ hp]
   clear HN
   by_cases hkd:(ms[k].kd.toList == o.kd.toList)=true
   rotate_left
   ·have hkf:(ms[k].kd.toList == o.kd.toList)=false:=by simpa using hkd
    have HG:Hid (Gate.gives s vs p ms[k]=none):=by unfold Hid Gate.gives;rw [if_neg];rintro ⟨h,_⟩;rw [HTU.out,hkf] at h;simp at h
    clear hkd;go_wp2_with fail
    go_quiet (fail)
    go_wp2_with fail
    exact ⟨⟨k+1,by omega,by go_num,HNX.out HG.out,HBE.out _ _⟩,by simp [intOf];omega⟩
   by_cases hfd:(ms[k].fd.toList == s.fs[p].nm.toList)=true
   rotate_left
   ·have hff:(ms[k].fd.toList == s.fs[p].nm.toList)=false:=by simpa using hfd
    have HG:Hid (Gate.gives s vs p ms[k]=none):=by unfold Hid Gate.gives;rw [if_neg];rintro ⟨h,_⟩;rw [HTU.out,hff] at h;simp at h
    clear hfd;go_wp2_with fail
    go_quiet (fail)
    go_wp2_with fail
    exact ⟨⟨k+1,by omega,by go_num,HNX.out HG.out,HBE.out _ _⟩,by simp [intOf];omega⟩
   have HT:Hid (Gate.turns ms[k] s p=true):=by rw [Hid,HTU.out,hkd,hfd];rfl
   have HRD:Hid (∀ v ∈ Gate.zK ms[k],∃ j:Nat,j < s.fs.length/\Gate.zR s.fs v=(j:Int)):=fun v hv=>Gate.zpW HH.out.2.2.2.2.2.2 (List.getElem_mem hlt) HT.out hv
   by_cases hwh:ms[k].wh.toList.isEmpty=true
   ·have HW:Hid (¬ (Gate.isSet ms[k].wh=true/\Gate.qQ s.fs vs ms[k].wh ≠ ms[k].wi)):=by rintro ⟨h,_⟩;unfold Gate.isSet at h;rw [hwh] at h;cases h
    by_cases hfr:ms[k].fr.toList.isEmpty=true
    ·have HG:Hid (Gate.gives s vs p ms[k]=some ms[k].pt):=by
      unfold Hid Gate.gives;rw [if_pos ⟨HT.out,HW.out⟩,if_neg (by unfold Gate.isSet;rw [hfr];simp)]
     go_wp2_with fail
     go_quiet (fail)
     go_wp2_with fail
     go_ret;exact ⟨zeR (HSX.out _ HG.out).symm,HBR.out _ _⟩
    ·have hfs:ms[k].fr.toList.isEmpty=false:=by simpa using hfr
     have his:Gate.isSet ms[k].fr=true:=by unfold Gate.isSet;rw [hfs];rfl
     obtain ⟨jf,hjf,hjx⟩:=HRD.out ms[k].fr (by unfold Gate.zK;simp [his]);have HJF:Hid (Gate.zR s.fs ms[k].fr=(jf:Int)):=hjx;have hjv:jf < vs.length:=by have:=HH.out.2.2.1;omega
     have HVA:Hid (Gate.qQ s.fs vs ms[k].fr=vs[jf]):=by rw [Hid,Gate.zdz hjx,Gate.getD_at vs jf _ hjv]
     have cf:=HV.out jf hjv;have hjI:(jf:Int) < (vs.length:Int):=by omega
     have hj0:(0:Int)<=(jf:Int):=by omega
     clear hfr hjx
     by_cases hve:vs[jf].toList.isEmpty=true
     ·have HG:Hid (Gate.gives s vs p ms[k]=none):=by
       unfold Hid Gate.gives;rw [if_pos ⟨HT.out,HW.out⟩,if_pos his,if_neg (by unfold Gate.isSet;rw [HVA.out,hve];simp)]
      go_wp2_with fail
      go_quiet (fail)
      go_wp2_with fail
      obtain ⟨W5,hW5⟩:∃ W5,W5=(wr.alloc (.cells #[.string ms[k].kd,.string ms[k].fd,.string ms[k].wh,.string ms[k].wi,.string ms[k].pt,.string ms[k].fr] 125)).drewN nq:=⟨_,rfl⟩
      have hb5:Below wr.heap.size wr W5:=by rw [hW5];exact below_drewN (bAl _ _) _
      have hM5:∀ j,W5.cell? ⟨wr.heap.size,j,none⟩=(#[.string ms[k].kd,.string ms[k].fd,.string ms[k].wh,.string ms[k].wi,.string ms[k].pt,.string ms[k].fr]:Array Value)[j]?:=by rw [hW5];exact zm wr _ _
      have hm5:wr.heap.size < W5.heap.size:=by rw [hW5];show wr.heap.size < (wr.alloc _).heap.size;simp
      have hX5:=za hXr hzr hb5;have hz5:w.heap.size < W5.heap.size:=by omega
      have cf5:W5.cell? ⟨vb,voff+jf,none⟩=some (.string vs[jf]):=(hb5.cell (p:=⟨vb,voff+jf,none⟩) hvz).trans cf;have hv5:vb < W5.heap.size:=by omega
      have HF5:Hid (∀ n,zP (W5.drewN n) fa s.fs):=fun n=>((HH.out.1.mono HB.out.1).mono hb5).mono (below_drewN (bRf _ _) n)
      have HE5:Hid (Below (w.heap.size+1) (w.alloc (.cells #[.string o.kd,.string o.nm,.string o.tm,.slice (some ⟨vb,voff,none⟩) vs.length vcap,.bool o.en,.slice ha o.hs.length hcap,.int .i64 o.vr] 119)) W5):=HB.out.2.trans (hb5.mono (by omega));have HR5:Hid (Below w.heap.size w W5):=HB.out.1.trans (hb5.mono (by omega));rw [<- hW5];clear hW5
      go_quiet ((go_at_call 171;exact Calls.quiet_of_same (zdb HJF.out (qx _ _ s.fs _ _ (by exact HF5.out _)))))
      go_wp2_with fail
      exact ⟨⟨k+1,by omega,by go_num,HNX.out HG.out,below_drewN HE5.out _⟩,by simp [intOf];omega⟩
     ·have hvs:vs[jf].toList.isEmpty=false:=by simpa using hve
      have HG:Hid (Gate.gives s vs p ms[k]=some vs[jf]):=by
       unfold Hid Gate.gives;rw [if_pos ⟨HT.out,HW.out⟩,if_pos his,if_pos (by unfold Gate.isSet;rw [HVA.out,hvs];rfl),HVA.out]
      clear hve;go_wp2_with fail
      go_quiet (fail)
      go_wp2_with fail
      obtain ⟨W5,hW5⟩:∃ W5,W5=(wr.alloc (.cells #[.string ms[k].kd,.string ms[k].fd,.string ms[k].wh,.string ms[k].wi,.string ms[k].pt,.string ms[k].fr] 125)).drewN nq:=⟨_,rfl⟩
      have hb5:Below wr.heap.size wr W5:=by rw [hW5];exact below_drewN (bAl _ _) _
      have hM5:∀ j,W5.cell? ⟨wr.heap.size,j,none⟩=(#[.string ms[k].kd,.string ms[k].fd,.string ms[k].wh,.string ms[k].wi,.string ms[k].pt,.string ms[k].fr]:Array Value)[j]?:=by rw [hW5];exact zm wr _ _
      have hm5:wr.heap.size < W5.heap.size:=by rw [hW5];show wr.heap.size < (wr.alloc _).heap.size;simp
      have hX5:=za hXr hzr hb5;have hz5:w.heap.size < W5.heap.size:=by omega
      have cf5:W5.cell? ⟨vb,voff+jf,none⟩=some (.string vs[jf]):=(hb5.cell (p:=⟨vb,voff+jf,none⟩) hvz).trans cf;have hv5:vb < W5.heap.size:=by omega
      have HF5:Hid (∀ n,zP (W5.drewN n) fa s.fs):=fun n=>((HH.out.1.mono HB.out.1).mono hb5).mono (below_drewN (bRf _ _) n)
      have HE5:Hid (Below (w.heap.size+1) (w.alloc (.cells #[.string o.kd,.string o.nm,.string o.tm,.slice (some ⟨vb,voff,none⟩) vs.length vcap,.bool o.en,.slice ha o.hs.length hcap,.int .i64 o.vr] 119)) W5):=HB.out.2.trans (hb5.mono (by omega));have HR5:Hid (Below w.heap.size w W5):=HB.out.1.trans (hb5.mono (by omega));rw [<- hW5];clear hW5
      go_quiet ((go_at_call 171;exact Calls.quiet_of_same (zdb HJF.out (qx _ _ s.fs _ _ (by exact HF5.out _)))))
      go_wp2_with fail
      go_ret;exact ⟨zeR (HSX.out _ HG.out).symm,below_drewN HR5.out _⟩
   ·have hws:ms[k].wh.toList.isEmpty=false:=by simpa using hwh
    have hisw:Gate.isSet ms[k].wh=true:=by unfold Gate.isSet;rw [hws];rfl
    obtain ⟨jw,hjw,hjx⟩:=HRD.out ms[k].wh (by unfold Gate.zK;simp [hisw]);have HJW:Hid (Gate.zR s.fs ms[k].wh=(jw:Int)):=hjx;have hjwv:jw < vs.length:=by have:=HH.out.2.2.1;omega
    have HVW:Hid (Gate.qQ s.fs vs ms[k].wh=vs[jw]):=by rw [Hid,Gate.zdz hjx,Gate.getD_at vs jw _ hjwv]
    have cw:=HV.out jw hjwv;have hjwI:(jw:Int) < (vs.length:Int):=by omega
    have hjw0:(0:Int)<=(jw:Int):=by omega
    clear hwh hjx
    by_cases hwe:(vs[jw].toList == ms[k].wi.toList)=true
    ·have HW:Hid (¬ (Gate.isSet ms[k].wh=true/\Gate.qQ s.fs vs ms[k].wh ≠ ms[k].wi)):=by
      rintro ⟨_,h⟩;rw [HVW.out] at h;rw [Gate.beq_toList] at hwe;exact h (by simpa using hwe)
     by_cases hfr:ms[k].fr.toList.isEmpty=true
     ·have HG:Hid (Gate.gives s vs p ms[k]=some ms[k].pt):=by
       unfold Hid Gate.gives;rw [if_pos ⟨HT.out,HW.out⟩,if_neg (by unfold Gate.isSet;rw [hfr];simp)]
      go_wp2_with fail
      go_quiet ((go_at_call 171;exact Calls.quiet_of_same (zdb HJW.out (qx _ _ s.fs _ _ (by exact HFm.out _ _)))))
      go_wp2_with fail
      go_ret;exact ⟨zeR (HSX.out _ HG.out).symm,HBR.out _ _⟩
     ·have hfs:ms[k].fr.toList.isEmpty=false:=by simpa using hfr
      have his:Gate.isSet ms[k].fr=true:=by unfold Gate.isSet;rw [hfs];rfl
      obtain ⟨jf,hjf,hjx⟩:=HRD.out ms[k].fr (by unfold Gate.zK;simp [his]);have HJF:Hid (Gate.zR s.fs ms[k].fr=(jf:Int)):=hjx;have hjv:jf < vs.length:=by have:=HH.out.2.2.1;omega
      have HVA:Hid (Gate.qQ s.fs vs ms[k].fr=vs[jf]):=by rw [Hid,Gate.zdz hjx,Gate.getD_at vs jf _ hjv]
      have cf:=HV.out jf hjv;have hjI:(jf:Int) < (vs.length:Int):=by omega
      have hj0:(0:Int)<=(jf:Int):=by omega
      clear hfr hjx
      by_cases hve:vs[jf].toList.isEmpty=true
      ·have HG:Hid (Gate.gives s vs p ms[k]=none):=by
        unfold Hid Gate.gives;rw [if_pos ⟨HT.out,HW.out⟩,if_pos his,if_neg (by unfold Gate.isSet;rw [HVA.out,hve];simp)]
       go_wp2_with fail
       go_quiet ((go_at_call 171;exact Calls.quiet_of_same (zdb HJW.out (qx _ _ s.fs _ _ (by exact HFm.out _ _)))))
       go_wp2_with fail
       obtain ⟨W5,hW5⟩:∃ W5,W5=(wr.alloc (.cells #[.string ms[k].kd,.string ms[k].fd,.string ms[k].wh,.string ms[k].wi,.string ms[k].pt,.string ms[k].fr] 125)).drewN nq:=⟨_,rfl⟩
       have hb5:Below wr.heap.size wr W5:=by rw [hW5];exact below_drewN (bAl _ _) _
       have hM5:∀ j,W5.cell? ⟨wr.heap.size,j,none⟩=(#[.string ms[k].kd,.string ms[k].fd,.string ms[k].wh,.string ms[k].wi,.string ms[k].pt,.string ms[k].fr]:Array Value)[j]?:=by rw [hW5];exact zm wr _ _
       have hm5:wr.heap.size < W5.heap.size:=by rw [hW5];show wr.heap.size < (wr.alloc _).heap.size;simp
       have hX5:=za hXr hzr hb5;have hz5:w.heap.size < W5.heap.size:=by omega
       have cf5:W5.cell? ⟨vb,voff+jf,none⟩=some (.string vs[jf]):=(hb5.cell (p:=⟨vb,voff+jf,none⟩) hvz).trans cf;have hv5:vb < W5.heap.size:=by omega
       have HF5:Hid (∀ n,zP (W5.drewN n) fa s.fs):=fun n=>((HH.out.1.mono HB.out.1).mono hb5).mono (below_drewN (bRf _ _) n)
       have HE5:Hid (Below (w.heap.size+1) (w.alloc (.cells #[.string o.kd,.string o.nm,.string o.tm,.slice (some ⟨vb,voff,none⟩) vs.length vcap,.bool o.en,.slice ha o.hs.length hcap,.int .i64 o.vr] 119)) W5):=HB.out.2.trans (hb5.mono (by omega));have HR5:Hid (Below w.heap.size w W5):=HB.out.1.trans (hb5.mono (by omega));rw [<- hW5];clear hW5
       go_quiet ((go_at_call 171;exact Calls.quiet_of_same (zdb HJF.out (qx _ _ s.fs _ _ (by exact HF5.out _)))))
       go_wp2_with fail
       exact ⟨⟨k+1,by omega,by go_num,HNX.out HG.out,below_drewN HE5.out _⟩,by simp [intOf];omega⟩
      ·have hvs:vs[jf].toList.isEmpty=false:=by simpa using hve
       have HG:Hid (Gate.gives s vs p ms[k]=some vs[jf]):=by
        unfold Hid Gate.gives;rw [if_pos ⟨HT.out,HW.out⟩,if_pos his,if_pos (by unfold Gate.isSet;rw [HVA.out,hvs];rfl),HVA.out]
       clear hve;go_wp2_with fail
       go_quiet ((go_at_call 171;exact Calls.quiet_of_same (zdb HJW.out (qx _ _ s.fs _ _ (by exact HFm.out _ _)))))
       go_wp2_with fail
       obtain ⟨W5,hW5⟩:∃ W5,W5=(wr.alloc (.cells #[.string ms[k].kd,.string ms[k].fd,.string ms[k].wh,.string ms[k].wi,.string ms[k].pt,.string ms[k].fr] 125)).drewN nq:=⟨_,rfl⟩
       have hb5:Below wr.heap.size wr W5:=by rw [hW5];exact below_drewN (bAl _ _) _
       have hM5:∀ j,W5.cell? ⟨wr.heap.size,j,none⟩=(#[.string ms[k].kd,.string ms[k].fd,.string ms[k].wh,.string ms[k].wi,.string ms[k].pt,.string ms[k].fr]:Array Value)[j]?:=by rw [hW5];exact zm wr _ _
       have hm5:wr.heap.size < W5.heap.size:=by rw [hW5];show wr.heap.size < (wr.alloc _).heap.size;simp
       have hX5:=za hXr hzr hb5;have hz5:w.heap.size < W5.heap.size:=by omega
       have cf5:W5.cell? ⟨vb,voff+jf,none⟩=some (.string vs[jf]):=(hb5.cell (p:=⟨vb,voff+jf,none⟩) hvz).trans cf;have hv5:vb < W5.heap.size:=by omega
       have HF5:Hid (∀ n,zP (W5.drewN n) fa s.fs):=fun n=>((HH.out.1.mono HB.out.1).mono hb5).mono (below_drewN (bRf _ _) n)
       have HE5:Hid (Below (w.heap.size+1) (w.alloc (.cells #[.string o.kd,.string o.nm,.string o.tm,.slice (some ⟨vb,voff,none⟩) vs.length vcap,.bool o.en,.slice ha o.hs.length hcap,.int .i64 o.vr] 119)) W5):=HB.out.2.trans (hb5.mono (by omega));have HR5:Hid (Below w.heap.size w W5):=HB.out.1.trans (hb5.mono (by omega));rw [<- hW5];clear hW5
       go_quiet ((go_at_call 171;exact Calls.quiet_of_same (zdb HJF.out (qx _ _ s.fs _ _ (by exact HF5.out _)))))
       go_wp2_with fail
       go_ret;exact ⟨zeR (HSX.out _ HG.out).symm,below_drewN HR5.out _⟩
    ·have hwf:(vs[jw].toList == ms[k].wi.toList)=false:=by simpa using hwe
     have HG:Hid (Gate.gives s vs p ms[k]=none):=by
      unfold Hid Gate.gives;rw [if_neg];rintro ⟨_,h⟩;exact h ⟨hisw,by rw [HVW.out];intro e;rw [Gate.beq_toList] at hwf;simp [e] at hwf⟩
     clear hwe;go_wp2_with fail
     go_quiet ((go_at_call 171;exact Calls.quiet_of_same (zdb HJW.out (qx _ _ s.fs _ _ (by exact HFm.out _ _)))))
     go_wp2_with fail
     exact ⟨⟨k+1,by omega,by go_num,HNX.out HG.out,HBE.out _ _⟩,by simp [intOf];omega⟩
  ·have hnI:¬ (k:Int) < (ms.length:Int):=by omega
   have HD:Hid (Gate.decided s ms p vs=vs[p]):=by
    have e:ms.findSome? (Gate.gives s vs p)=none:=by have:=HN.out;rwa [tOl (by omega)] at this
    unfold Hid Gate.decided;rw [e,Gate.getD_at vs p _ hpv];rfl
   have HJP:Hid (Gate.zR s.fs s.fs[p].nm=(p:Int)):=HH.out.2.2.2.2.1;have cp:=HV.out p hpv;have hpI:(p:Int) < (vs.length:Int):=by omega
   have hp0:(0:Int)<=(p:Int):=by omega
   go_wp2_with fail
   go_quiet ((go_at_call 171;exact Calls.quiet_of_same (zdb HJP.out (qx _ _ s.fs _ _ (by exact HFr.out _)))))
   go_wp2_with fail
   go_ret;exact ⟨zeR HD.out.symm,below_drewN HB.out.1 _⟩
namespace Gate
def zix (ss:List Shp) (o:Ob):List ByteArray:=if zF ss o.kd=true/\zQ ss=true/\o.vs.length=(shapeOf ss o.kd).fs.length then zac (shapeOf ss o.kd).fs o.vs else o.vs
end Gate
def zfW (o:Ob) (vs:List ByteArray) (w:World) (e:Ending) (w':World):Prop :=
 ∃ a dap a' dap' m,e = .returned (.agg #[.string o.kd,.string o.nm,.string o.tm,.slice a o.vs.length dap,.bool o.en,.slice a' o.hs.length dap',.int .i64 o.vr])/\zw w.heap.size w' a vs/\(∀ g,a=some g->g.block < m)/\w.heap.size<=m/\zw m w' a' o.hs/\Below w.heap.size w w'
namespace Gate
def qD (ss:List Shp) (o:Ob):List ByteArray:=if zx ss o=true then zac (shapeOf ss o.kd).fs o.vs else o.vs
theorem zny {ss:List Shp} {o:Ob} (h:zQ ss=true):zix ss o=qD ss o:=by
 unfold zix qD zx
 by_cases h1:zF ss o.kd=true
 ·by_cases h2:o.vs.length=(shapeOf ss o.kd).fs.length
  ·rw [if_pos ⟨h1,h,h2⟩,if_pos (by rw [h1];simp [h2])]
  ·rw [if_neg (fun hh=>h2 hh.2.2),if_neg (by rw [h1];simp [h2])]
 ·rw [if_neg (fun hh=>h1 hh.1),if_neg (by simp [h1])]
end Gate
theorem ze9 (a0:Option Addr) (cap0:Nat) (ss:List Shp) (o:Ob) (a a':Option Addr) (cap cap':Nat) (w0 w:World) (hw0:yI w0 a0 ss) (hbb:Below w0.heap.size w0 w) (hc:Gate.zx ss o=true) :
 Calls Tryz.prog 95 #[.slice a0 ss.length cap0,.agg #[.string o.kd,.string o.nm,.string o.tm,.slice a o.vs.length cap,.bool o.en,.slice a' o.hs.length cap',.int .i64 o.vr]] w fun e w'=>∃ fa fcap,e = .returned (.tuple #[.slice fa (Gate.shapeOf ss o.kd).fs.length fcap,.bool true])/\zP w0 fa (Gate.shapeOf ss o.kd).fs/\Below w.heap.size w w':=by
 unfold Gate.zx at hc;simp only [Bool.and_eq_true,decide_eq_true_eq] at hc;have HK:Hid (Gate.zF ss o.kd=true):=hc.1;have HL:Hid (o.vs.length=(Gate.shapeOf ss o.kd).fs.length):=hc.2;clear hc;have hw:=hw0.mono hbb;have hl:=hw.len;unfold maxLen at hl;go_enter Tryz.func95,Tryz.ntmps95;go_wp2_with fail
 refine (jJ _ _ _ _ _ (hw.mono (bAl _ _)) HK.out).mono ?_;rintro e w1 ⟨ix,hix,rfl,hsh,rfl⟩;have HSh:Hid (Gate.shapeOf ss o.kd=ss[ix]):=hsh;clear hsh;obtain ⟨b,off,rfl,hb0,hr⟩:=hw0.rows (by rintro rfl;simp at hix);obtain ⟨fa,fcap,hs0⟩:=hr ix hix;have hs:=hs0.mono hb0 hbb;have hcl:=hs.list;have hfl:=hs0.zdk;have hixI:(ix:Int) < (ss.length:Int):=by omega
 have hix0:decide ((ix:Int) < 0)=false:=by simp
 have hneq:((ss[ix].fs.length:Int) != (o.vs.length:Int))=false:=by have h1:=HL.out;have h2:=HSh.out;rw [h2] at h1;simp [h1]
 have hbw:b < w.heap.size:=nLt hb0 hbb.size;clear hr hs;go_wp2_with fail
 go_quiet (fail)
 go_wp2_with fail
 go_ret2
 rw [HSh.out];exact ⟨fa,fcap,rfl,hfl,below_drewN (bAl _ _) _⟩
namespace Gate
theorem znz {ss:List Shp} {v:ByteArray} (h:zF ss v=true):(shapeOf ss v).kd=v:=by
 unfold zF at h;rw [List.any_eq_true] at h;obtain ⟨x,hx,he⟩:=h;unfold shapeOf
 cases hf:ss.find? (fun s=>decide (s.kd=v)) with
 | none=>rw [List.find?_eq_none] at hf;exact absurd he (hf x hx)
 | some y=>simpa using List.find?_some hf
theorem zaV {ss:List Shp} {ms:List Mnd} {o:Ob} (hm:yt ss ms=true):qG ss ms o=zx ss o:=by
 unfold qG zx;rw [hm,Bool.and_true]
structure zpv (ss:List Shp) (ms:List Mnd) (o:Ob) (pl:List Nat):Prop where
 names:zT (shapeOf ss o.kd) ms (shapeOf ss o.kd).fs.length=pl.map (zbc (shapeOf ss o.kd))
 zo7:zjU (zl (shapeOf ss o.kd) ms) (shapeOf ss o.kd).fs.length pl
 place:∀ q (h:q < (shapeOf ss o.kd).fs.length),zR (shapeOf ss o.kd).fs (shapeOf ss o.kd).fs[q].nm=(q:Int)
 kd:(shapeOf ss o.kd).kd=o.kd
 few:(shapeOf ss o.kd).fs.length<=6
 reads:∀ q,q < (shapeOf ss o.kd).fs.length->∀ x ∈ zY (shapeOf ss o.kd) ms q,0<=x/\x < (shapeOf ss o.kd).fs.length
 len:o.vs.length=(shapeOf ss o.kd).fs.length
 mends:ms.length<=12
 res:zfr ss ms o=yg (decided (shapeOf ss o.kd) ms) pl o.vs
theorem rowOf {ss:List Shp} {ms:List Mnd} {o:Ob} (hm:yt ss ms=true) (hc:zx ss o=true):zpv ss ms o (greedy (zl (shapeOf ss o.kd) ms) (shapeOf ss o.kd).fs.length (shapeOf ss o.kd).fs.length):=by
 have hmd:qG ss ms o=true:=by rw [zaV hm];exact hc
 obtain ⟨hl,h6,hr,hw⟩:=zb0 hmd;unfold zx at hc;simp only [Bool.and_eq_true] at hc;obtain ⟨i,hi,e⟩:=zc4 hc.1;have hkd:=znz hc.1;unfold yt at hm;simp only [Bool.and_eq_true,decide_eq_true_eq] at hm;obtain ⟨⟨⟨h12,hs⟩,ha⟩,_⟩:=hm
 have hrd:∀ p,p < (shapeOf ss o.kd).fs.length->∀ q ∈ zl (shapeOf ss o.kd) ms p,q < (shapeOf ss o.kd).fs.length:=by
  intro p hp q hq;unfold zl at hq;obtain ⟨x,hx,rfl⟩:=List.mem_map.1 hq
  have:=hr p hp x hx
  omega
 have htw:=zdO hrd hw
 have htg:zjU (zl (shapeOf ss o.kd) ms) (shapeOf ss o.kd).fs.length (greedy (zl (shapeOf ss o.kd) ms) (shapeOf ss o.kd).fs.length (shapeOf ss o.kd).fs.length) :=
  (zce _ _ _).zo7 (zhB htw.zk0 _ (Nat.le_refl _))
 refine ⟨?_,htg,?_,hkd,h6,hr,hl,h12,?_⟩
 ·rw [e];exact zdP hs ha i hi _
 ·rw [e]
  intro q hq;refine zeb ss[i].fs _ q hq ?_ rfl;unfold hasName;rw [List.any_eq_false];intro x hx;obtain ⟨j,hj,rfl⟩:=List.mem_iff_getElem.1 hx;have hjq:j < q:=by simp at hj;omega
  simp only [List.getElem_take,decide_eq_true_eq];exact zeu hs i hi j q hjq hq
 ·exact zmS htw htg (zka _ _) o.vs hl
theorem zlo {α:Type} (D:Nat->List α->α) (pl:List Nat) (vs:List α) (k:Nat) (h:k < pl.length):yg D (pl.take (k+1)) vs=(yg D (pl.take k) vs).set pl[k] (D pl[k] (yg D (pl.take k) vs)):=by
 unfold yg;rw [tSe h,List.foldl_append];rfl
end Gate
theorem zpl {lo:Nat} {w:World} {g:Nat} {us:List ByteArray} (h:zw lo w (some ⟨g,0,none⟩) us) (p:Nat) (hp:p < us.length):w.cell? ⟨g,p,none⟩=some (.string us[p]):=by
 rcases h with ⟨h0,_⟩ | ⟨g',C,hg,_,hh,hc⟩
 ·cases h0
 ·cases hg;rw [cell_of_block hh,hc p hp]
theorem zpI {lo:Nat} {w:World} {g p:Nat} {us:List ByteArray} (h:zw lo w (some ⟨g,0,none⟩) us) (_hp:p < us.length):w.frozen? ⟨g,p,none⟩=false:=by
 rcases h with ⟨h0,_⟩ | ⟨g',C,hg,_,hh,hc⟩
 ·cases h0
 ·cases hg;exact zi hh
theorem zps {w:World} {lo:Nat} {v:Value} {row:List ByteArray} (h:w.ownsRow lo 9 1 v row.length (row.map Value.string)):∃ ra rcap,v = .slice ra row.length rcap/\(row ≠ []->∃ rb,ra=some ⟨rb,0,none⟩/\lo<=rb/\rb < w.heap.size/\∀ i (h:i < row.length),w.cell? ⟨rb,i,none⟩=some (.string row[i])):=by
 obtain ⟨_,⟨h0,h1⟩ | ⟨g,cp,cur,h0,h1⟩⟩:=id h
 ·have e:=List.length_eq_zero_iff.1 h1
  subst e;exact ⟨none,0,by rw [h0];rfl,fun hn=>absurd rfl hn⟩
 ·subst h0
  refine ⟨some ⟨g,0,none⟩,cp,rfl,fun _=>⟨g,rfl,(h.lt g rfl).1,(h.lt g rfl).2,fun i hi=>?_⟩⟩;rw [h.cellAt i (by omega)]
  simp [hi]
theorem ziW (s:Shp) (ms:List Mnd) (o:Ob) (vs:List ByteArray) (n:Nat) (hn:vs.length=n) (p:Nat) (fa ma va ha:Option Addr) (fcap mcap vcap hcap:Nat) (w:World) (hf:zP w fa s.fs) (hm:yY w ma ms) (hv:zD w va vs) (hc:vs.length=s.fs.length) (hp:p < s.fs.length) (hix:Gate.zR s.fs s.fs[p].nm=(p:Int)) (hkd:o.kd=s.kd) (hrd:∀ x ∈ Gate.zY s ms p,0<=x/\x < s.fs.length) :
 Calls Tryz.prog 176 #[.slice fa s.fs.length fcap,.slice ma ms.length mcap,.agg #[.string o.kd,.string o.nm,.string o.tm,.slice va n vcap,.bool o.en,.slice ha o.hs.length hcap,.int .i64 o.vr],.string s.fs[p].nm] w fun e w'=>e = .returned (.string (Gate.decided s ms p vs))/\Below w.heap.size w w':=by
 subst hn;exact zj5 s ms o vs p fa ma va ha fcap mcap vcap hcap w hf hm hv hc hp hix hkd hrd
set_option maxRecDepth 20000 in
theorem zkY (a0 ma:Option Addr) (cap0 mcap:Nat) (ss:List Shp) (ms:List Mnd) (o:Ob) (b off b' off' cap cap':Nat) (w:World) (hw:yI w a0 ss) (hm:yY w ma ms) (ho:qB w o (some ⟨b,off,none⟩) (some ⟨b',off',none⟩)) (hl:o.vs.length<=1048576) (hl':o.hs.length<=1048576) (hok:Gate.yt ss ms=true) :
 Calls Tryz.prog 132 #[.slice a0 ss.length cap0,.slice ma ms.length mcap,.agg #[.string o.kd,.string o.nm,.string o.tm,.slice (some ⟨b,off,none⟩) o.vs.length cap,.bool o.en,.slice (some ⟨b',off',none⟩) o.hs.length cap',.int .i64 o.vr]] w (zfW o (Gate.zcm ss ms o) w):=by
 have hsl:=hw.len;unfold maxLen at hsl;have HW:Hid (yI w a0 ss/\yY w ma ms):=⟨hw,hm⟩
 clear hw hm
 by_cases hc:Gate.zx ss o=true
 rotate_left
 ·have HC:Hid (Gate.zx ss o=false):=by simpa [Hid] using hc
  have HRES:Hid (Gate.zcm ss ms o=o.vs):=by unfold Hid Gate.zcm;rw [if_neg (by rw [Gate.zaV hok];exact hc)]
  have HH:Hid (qB w o (some ⟨b,off,none⟩) (some ⟨b',off',none⟩)):=ho;clear hc ho;go_enter Tryz.func132,Tryz.ntmps132;go_wp2_with fail
  refine (zjE o b off b' off' cap cap' _ (HH.out.mono (zA w (.cells #[.string o.kd,.string o.nm,.string o.tm,.slice (some ⟨b,off,none⟩) o.vs.length cap,.bool o.en,.slice (some ⟨b',off',none⟩) o.hs.length cap',.int .i64 o.vr] 119) (.cells #[.string ByteArray.empty,.string ByteArray.empty,.string ByteArray.empty,.slice none 0 0,.bool false,.slice none 0 0,.int .i64 0] 119))) hl hl').mono ?_;rintro e w1 ⟨a,dap,a',dap',m,rfl,ht,hm,hsm,ht',hb1⟩;have HO1:Hid (w1.heap[w.heap.size]?=some (.cells #[.string o.kd,.string o.nm,.string o.tm,.slice (some ⟨b,off,none⟩) o.vs.length cap,.bool o.en,.slice (some ⟨b',off',none⟩) o.hs.length cap',.int .i64 o.vr] 119)):=(hb1.block w.heap.size (by simp;omega)).trans (yh _ _ _).1;have HR1:Hid (w1.heap[w.heap.size+1]?=some (.cells #[.string ByteArray.empty,.string ByteArray.empty,.string ByteArray.empty,.slice none 0 0,.bool false,.slice none 0 0,.int .i64 0] 119)):=(hb1.block (w.heap.size+1) (by simp)).trans (yh _ _ _).2;have hX1:∀ j,w1.cell? ⟨w.heap.size,j,none⟩=(#[.string o.kd,.string o.nm,.string o.tm,.slice (some ⟨b,off,none⟩) o.vs.length cap,.bool o.en,.slice (some ⟨b',off',none⟩) o.hs.length cap',.int .i64 o.vr]:Array Value)[j]?:=fun j=>cell_of_block HO1.out
  have hz1:w.heap.size+1 < w1.heap.size:=by have:=hb1.size;simp at this;omega
  have hz0:w.heap.size < w1.heap.size:=by omega
  have hB1:Below w.heap.size w w1:=(zA _ _ _).trans (hb1.mono (by simp;omega))
  have HT:Hid (zw (w.heap.size+1+1) w1 a o.vs/\(∀ g,a=some g->g.block < m)/\w.heap.size+1+1<=m/\zw m w1 a' o.hs):=by
   simp only [World.size_alloc] at ht hsm;exact ⟨ht,hm,hsm,ht'⟩
  clear ht hm hsm ht' hb1;go_wp2_with fail
  have hbs:=(bRf w1.heap.size w1).alloc (Nat.le_refl _) (.cells #[.string o.kd,.string o.nm,.string o.tm,.slice a o.vs.length dap,.bool o.en,.slice a' o.hs.length dap',.int .i64 o.vr] 119);have hBs:=hB1.trans (hbs.mono hB1.size);refine (zcZ a0 cap0 ss o _ _ cap cap' _ (HW.out.1.mono hBs) (HH.out.mono hBs) HC.out).mono ?_;rintro e w2 ⟨v,rfl,hb2⟩;have hba:=hbs.trans (hb2.mono hbs.size);have hR2:=(hba.block _ hz1).trans HR1.out;have hU2:∀ j,w2.cell? ⟨w1.heap.size,j,none⟩=(#[.string o.kd,.string o.nm,.string o.tm,.slice a o.vs.length dap,.bool o.en,.slice a' o.hs.length dap',.int .i64 o.vr]:Array Value)[j]?:=za (zm w1 _ _) (by simp) hb2;have hRc:∀ j,w2.cell? ⟨w.heap.size+1,j,none⟩=(#[.string ByteArray.empty,.string ByteArray.empty,.string ByteArray.empty,.slice none 0 0,.bool false,.slice none 0 0,.int .i64 0]:Array Value)[j]?:=fun j=>cell_of_block hR2
  have hRf:∀ j,w2.frozen? ⟨w.heap.size+1,j,none⟩=false:=fun j=>zi hR2
  have HX:Hid (zw (w.heap.size+1+1) w2 a o.vs/\zw m w2 a' o.hs/\Below w.heap.size w w2):=⟨HT.out.1.mono hba,HT.out.2.2.2.mono hba,hB1.trans (hba.mono hB1.size)⟩
  clear hbs hBs hb2 hba hR2 hX1;go_wp2_with fail
  refine bodyPost_ret (v:=(.agg #[.string o.kd,.string o.nm,.string o.tm,.slice a o.vs.length dap,.bool o.en,.slice a' o.hs.length dap',.int .i64 o.vr])) (by simp [results,Tryz.results132,go_sem,hRc]) rfl ?_;obtain ⟨ht,ht',hB⟩:=HX.out;rw [HRES.out];exact ⟨a,dap,a',dap',m,rfl,(jO ht _ (by omega) _ _ _ _ _ _ _).low (by omega),HT.out.2.1,by have:=HT.out.2.2.1;omega,jO ht' _ (by have:=HT.out.2.2.1;omega) _ _ _ _ _ _ _,zaM hB _ (by omega) _ _ _ _ _ _ _⟩
 have HC:Hid (Gate.zx ss o=true):=hc;have HRO:Hid (Gate.zpv ss ms o (Gate.greedy (Gate.zl (Gate.shapeOf ss o.kd) ms) (Gate.shapeOf ss o.kd).fs.length (Gate.shapeOf ss o.kd).fs.length)):=Gate.rowOf hok hc;have HRES:Hid (Gate.zcm ss ms o=Gate.zfr ss ms o):=by unfold Hid Gate.zcm;rw [if_pos (by rw [Gate.zaV hok];exact hc)]
 have HK:Hid (Gate.zF ss o.kd=true):=by unfold Gate.zx at hc;simp only [Bool.and_eq_true] at hc;exact hc.1
 have HH:Hid (qB w o (some ⟨b,off,none⟩) (some ⟨b',off',none⟩)):=ho;clear hc ho;go_enter Tryz.func132,Tryz.ntmps132;go_wp2_with fail
 refine (zjE o b off b' off' cap cap' _ (HH.out.mono (zA w (.cells #[.string o.kd,.string o.nm,.string o.tm,.slice (some ⟨b,off,none⟩) o.vs.length cap,.bool o.en,.slice (some ⟨b',off',none⟩) o.hs.length cap',.int .i64 o.vr] 119) (.cells #[.string ByteArray.empty,.string ByteArray.empty,.string ByteArray.empty,.slice none 0 0,.bool false,.slice none 0 0,.int .i64 0] 119))) hl hl').mono ?_;rintro e w1 ⟨a,dap,a',dap',m,rfl,ht,hm,hsm,ht',hb1⟩;have HO1:Hid (w1.heap[w.heap.size]?=some (.cells #[.string o.kd,.string o.nm,.string o.tm,.slice (some ⟨b,off,none⟩) o.vs.length cap,.bool o.en,.slice (some ⟨b',off',none⟩) o.hs.length cap',.int .i64 o.vr] 119)):=(hb1.block w.heap.size (by simp;omega)).trans (yh _ _ _).1;have HR1:Hid (w1.heap[w.heap.size+1]?=some (.cells #[.string ByteArray.empty,.string ByteArray.empty,.string ByteArray.empty,.slice none 0 0,.bool false,.slice none 0 0,.int .i64 0] 119)):=(hb1.block (w.heap.size+1) (by simp)).trans (yh _ _ _).2;have hX1:∀ j,w1.cell? ⟨w.heap.size,j,none⟩=(#[.string o.kd,.string o.nm,.string o.tm,.slice (some ⟨b,off,none⟩) o.vs.length cap,.bool o.en,.slice (some ⟨b',off',none⟩) o.hs.length cap',.int .i64 o.vr]:Array Value)[j]?:=fun j=>cell_of_block HO1.out
 have hz1:w.heap.size+1 < w1.heap.size:=by have:=hb1.size;simp at this;omega
 have hz0:w.heap.size < w1.heap.size:=by omega
 have hB1:Below w.heap.size w w1:=(zA _ _ _).trans (hb1.mono (by simp;omega))
 have HT:Hid (zw (w.heap.size+1+1) w1 a o.vs/\(∀ g,a=some g->g.block < m)/\w.heap.size+1+1<=m/\zw m w1 a' o.hs):=by
  simp only [World.size_alloc] at ht hsm;exact ⟨ht,hm,hsm,ht'⟩
 clear ht hm hsm ht' hb1;go_wp2_with fail
 have hbs:=(bRf w1.heap.size w1).alloc (Nat.le_refl _) (.cells #[.string o.kd,.string o.nm,.string o.tm,.slice a o.vs.length dap,.bool o.en,.slice a' o.hs.length dap',.int .i64 o.vr] 119);have hBs:=hB1.trans (hbs.mono hB1.size);refine (ze9 a0 cap0 ss o _ _ cap cap' w _ HW.out.1 hBs HC.out).mono ?_;rintro e w2 ⟨fa,fcap,rfl,hf,hb2⟩;have HFA:Hid (zP w fa (Gate.shapeOf ss o.kd).fs):=hf;have hba:=hbs.trans (hb2.mono hbs.size);have HR2:Hid (w2.heap[w.heap.size+1]?=some (.cells #[.string ByteArray.empty,.string ByteArray.empty,.string ByteArray.empty,.slice none 0 0,.bool false,.slice none 0 0,.int .i64 0] 119)):=(hba.block _ hz1).trans HR1.out;have HO2:Hid (w2.heap[w.heap.size]?=some (.cells #[.string o.kd,.string o.nm,.string o.tm,.slice (some ⟨b,off,none⟩) o.vs.length cap,.bool o.en,.slice (some ⟨b',off',none⟩) o.hs.length cap',.int .i64 o.vr] 119)):=(hba.block _ hz0).trans HO1.out;have HU2:Hid (w2.heap[w1.heap.size]?=some (.cells #[.string o.kd,.string o.nm,.string o.tm,.slice a o.vs.length dap,.bool o.en,.slice a' o.hs.length dap',.int .i64 o.vr] 119)):=(hb2.block _ (by simp)).trans (alloc_at _ _);have HX2:Hid (zw (w.heap.size+1+1) w2 a o.vs/\zw m w2 a' o.hs/\Below w.heap.size w w2):=⟨HT.out.1.mono hba,HT.out.2.2.2.mono hba,hB1.trans (hba.mono hB1.size)⟩
 have hz2:w1.heap.size < w2.heap.size:=(gES HU2.out).1;have hX2:∀ j,w2.cell? ⟨w.heap.size,j,none⟩=(#[.string o.kd,.string o.nm,.string o.tm,.slice (some ⟨b,off,none⟩) o.vs.length cap,.bool o.en,.slice (some ⟨b',off',none⟩) o.hs.length cap',.int .i64 o.vr]:Array Value)[j]?:=fun j=>cell_of_block HO2.out
 have hzo2:w.heap.size < w2.heap.size:=by omega
 clear hbs hBs hb2 hba hX1 hf;go_wp2_with fail
 refine (jJ _ _ _ _ _ (HW.out.1.mono HX2.out.2.2) HK.out).mono ?_;rintro e w3 ⟨ix,hix,rfl,hsh,rfl⟩;have HSh:Hid (Gate.shapeOf ss o.kd=ss[ix]):=hsh;clear hsh;obtain ⟨sb,soff,rfl,hsb0,hsr⟩:=HW.out.1.rows (by rintro rfl;simp at hix);obtain ⟨fa2,fcap2,hs0⟩:=hsr ix hix;have hs:=hs0.mono hsb0 HX2.out.2.2;have hck:=hs.kind;have hcl:=hs.list;have HF2:Hid (zP w fa2 ss[ix].fs):=hs0.zdk;have hixI:(ix:Int) < (ss.length:Int):=by omega
 have hsbw:sb < w3.heap.size:=nLt hsb0 HX2.out.2.2.size;clear hsr hs hs0;go_wp2_with fail
 refine (zkH fa2 ma fcap2 mcap ss[ix] ms _ (HF2.out.mono HX2.out.2.2) (HW.out.2.mono HX2.out.2.2) HRO.out.mends (by have:=HRO.out.few;rw [HSh.out] at this;exact this)).mono ?_;rintro e w4 ⟨v,rfl,hrow,hb4⟩;rw [<- HSh.out,HRO.out.names] at hrow;obtain ⟨ra,rcap,rfl,hrw⟩:=zps (by rw [List.length_map];rw [List.length_map] at hrow;exact hrow);rw [List.length_map];have HRO2:=HRO.out;have HX4:Hid (zw (w.heap.size+1+1) w4 a o.vs/\zw m w4 a' o.hs/\Below w.heap.size w w4):=⟨HX2.out.1.mono hb4,HX2.out.2.1.mono hb4,HX2.out.2.2.trans (hb4.mono HX2.out.2.2.size)⟩
 have HR4:Hid (w4.heap[w.heap.size+1]?=some (.cells #[.string ByteArray.empty,.string ByteArray.empty,.string ByteArray.empty,.slice none 0 0,.bool false,.slice none 0 0,.int .i64 0] 119)):=(hb4.block _ (by omega)).trans HR2.out;have HU4:Hid (w4.heap[w1.heap.size]?=some (.cells #[.string o.kd,.string o.nm,.string o.tm,.slice a o.vs.length dap,.bool o.en,.slice a' o.hs.length dap',.int .i64 o.vr] 119)):=(hb4.block _ hz2).trans HU2.out;have HZ4:Hid (w3.heap.size<=w4.heap.size):=hb4.size;clear hb4 hX2 hck hcl HSh HF2 HRO hixI hrow
 revert HRO2 HFA hrw
 generalize Gate.greedy (Gate.zl (Gate.shapeOf ss o.kd) ms) (Gate.shapeOf ss o.kd).fs.length (Gate.shapeOf ss o.kd).fs.length=pl
 intro HFA hrw hro;have HRW:Hid (Gate.zpv ss ms o pl):=hro;have HVS:Hid (Gate.zfr ss ms o=Gate.yg (Gate.decided (Gate.shapeOf ss o.kd) ms) pl o.vs):=hro.res
 have hpl6:pl.length<=6:=by
  have h1:=Gate.zbA pl (List.range (Gate.shapeOf ss o.kd).fs.length) hro.zo7.nodup (fun x hx=>List.mem_range.2 ((hro.zo7.mem x).1 hx));rw [List.length_range] at h1
  have:=hro.few
  omega
 clear hro;go_wp2_with fail
 go_loopw [11] (fun i wr=>∃ k:Nat,k<=pl.length/\i = .int .i64 k/\zw (w.heap.size+1+1) wr a (Gate.yg (Gate.decided (Gate.shapeOf ss o.kd) ms) (pl.take k) o.vs)/\zw m wr a' o.hs/\wr.heap[w.heap.size+1]?=some (.cells #[.string ByteArray.empty,.string ByteArray.empty,.string ByteArray.empty,.slice none 0 0,.bool false,.slice none 0 0,.int .i64 0] 119)/\wr.heap[w1.heap.size]?=some (.cells #[.string o.kd,.string o.nm,.string o.tm,.slice a o.vs.length dap,.bool o.en,.slice a' o.hs.length dap',.int .i64 o.vr] 119)/\Below w.heap.size w wr/\w3.heap.size<=wr.heap.size/\(pl.map (Gate.zbc (Gate.shapeOf ss o.kd)) ≠ []->∃ rb,ra=some ⟨rb,0,none⟩/\w3.heap.size<=rb/\rb < wr.heap.size/\∀ i (h:i < (pl.map (Gate.zbc (Gate.shapeOf ss o.kd))).length),wr.cell? ⟨rb,i,none⟩=some (.string (pl.map (Gate.zbc (Gate.shapeOf ss o.kd)))[i]))) (fun i _=>pl.length - (intOf i).toNat)
 case atStart=>exact ⟨0,Nat.zero_le _,rfl,HX4.out.1,HX4.out.2.1,HR4.out,HU4.out,HX4.out.2.2,HZ4.out,hrw⟩
 case round =>
  obtain ⟨k,hk,rfl,ht,ht',hR,hO,hB,hz3,hrr⟩:=hrel
  by_cases hlt:k < pl.length
  ·obtain ⟨rb,rfl,hrb0,hrbz,hrc⟩:=hrr (by intro h;have:=congrArg List.length h;simp at this;rw [this] at hlt;simp at hlt)
   have hpn:pl[k] < (Gate.shapeOf ss o.kd).fs.length:=(HRW.out.zo7.mem _).1 (List.getElem_mem hlt);have hck:=hrc k (by rw [List.length_map];exact hlt);rw [List.getElem_map] at hck;have hnm:Gate.zbc (Gate.shapeOf ss o.kd) pl[k]=(Gate.shapeOf ss o.kd).fs[pl[k]].nm:=by unfold Gate.zbc;rw [Gate.getD_at _ _ _ hpn]
   rw [hnm] at hck;have HTS:Hid (Gate.yg (Gate.decided (Gate.shapeOf ss o.kd) ms) (pl.take (k+1)) o.vs=(Gate.yg (Gate.decided (Gate.shapeOf ss o.kd) ms) (pl.take k) o.vs).set pl[k] (Gate.decided (Gate.shapeOf ss o.kd) ms pl[k] (Gate.yg (Gate.decided (Gate.shapeOf ss o.kd) ms) (pl.take k) o.vs))):=Gate.zlo _ pl o.vs k hlt;have HUS:Hid (∀ x ∈ Gate.yg (Gate.decided (Gate.shapeOf ss o.kd) ms) (pl.take k) o.vs,x.size<=maxLen):=Gate.zb1 HW.out.2.small _ _ HH.out.vals.small;have HLV:Hid ((Gate.yg (Gate.decided (Gate.shapeOf ss o.kd) ms) (pl.take k) o.vs).length=o.vs.length):=Gate.jQ _ _ _;have HRR:Hid (∀ i (h:i < (pl.map (Gate.zbc (Gate.shapeOf ss o.kd))).length),wr.cell? ⟨rb,i,none⟩=some (.string (pl.map (Gate.zbc (Gate.shapeOf ss o.kd)))[i])):=hrc;clear hrr hrc hnm
   revert hck HTS hpn
   generalize pl[k]=p
   intro hpn hck HTS
   revert HTS HLV HUS ht
   generalize Gate.yg (Gate.decided (Gate.shapeOf ss o.kd) ms) (pl.take k) o.vs=us
   intro ht HUS HLV HTS;have hltI:(k:Int) < (pl.length:Int):=by omega
   have hpv:p < us.length:=by rw [HLV.out,HRW.out.len];exact hpn
   have hpI:(p:Int) < (o.vs.length:Int):=by have:=HRW.out.len;omega
   obtain ⟨g,C,hga,hgl,hgh,hgc⟩:∃ g C,a=some ⟨g,0,none⟩/\w.heap.size+1+1<=g/\wr.heap[g]?=some (.cells C 9)/\∀ i (h:i < us.length),C[i]?=some (.string us[i]):=by
    rcases ht with ⟨_,h0⟩ | h0
    ·rw [h0] at hpv;simp at hpv
    ·exact h0
   have hgm:g < m:=HT.out.2.1 _ hga;have hgw1:g < w1.heap.size:=HT.out.1.lt _ hga;have hgw:g < wr.heap.size:=by omega
   subst hga;have hUS:zD wr (some ⟨g,0,none⟩) us:=ht.at (by rw [HLV.out];exact HH.out.vals.len) HUS.out;have HJP:Hid (Gate.zR (Gate.shapeOf ss o.kd).fs (Gate.shapeOf ss o.kd).fs[p].nm=(p:Int)):=HRW.out.place p hpn;have hOc:∀ j,wr.cell? ⟨w1.heap.size,j,none⟩=(#[.string o.kd,.string o.nm,.string o.tm,.slice (some ⟨g,0,none⟩) o.vs.length dap,.bool o.en,.slice a' o.hs.length dap',.int .i64 o.vr]:Array Value)[j]?:=fun j=>cell_of_block hO
   have hOz:w1.heap.size < wr.heap.size:=(gES hO).1;have hRk:(k:Int) < ((pl.map (Gate.zbc (Gate.shapeOf ss o.kd))).length:Int):=by rw [List.length_map];exact hltI
   have hkr:wr.cell? ⟨rb,0+k,none⟩=some (.string (Gate.shapeOf ss o.kd).fs[p].nm):=by rw [Nat.zero_add];exact hck
   have HX:Hid (zw (w.heap.size+1+1) wr (some ⟨g,0,none⟩) us/\zw m wr a' o.hs/\wr.heap[w.heap.size+1]?=some (.cells #[.string ByteArray.empty,.string ByteArray.empty,.string ByteArray.empty,.slice none 0 0,.bool false,.slice none 0 0,.int .i64 0] 119)/\wr.heap[w1.heap.size]?=some (.cells #[.string o.kd,.string o.nm,.string o.tm,.slice (some ⟨g,0,none⟩) o.vs.length dap,.bool o.en,.slice a' o.hs.length dap',.int .i64 o.vr] 119)/\Below w.heap.size w wr/\w3.heap.size<=wr.heap.size):=⟨ht,ht',hR,hO,hB,hz3⟩
   clear ht ht' hR hO hB hz3 hgh hgc;go_wp2_with fail
   have hb:=(bRf wr.heap.size wr).drew;have hS1:∀ j,wr.drew.cell? ⟨w1.heap.size,j,none⟩=(#[.string o.kd,.string o.nm,.string o.tm,.slice (some ⟨g,0,none⟩) o.vs.length dap,.bool o.en,.slice a' o.hs.length dap',.int .i64 o.vr]:Array Value)[j]?:=hOc;have hS2:wr.drew.cell? ⟨rb,k,none⟩=some (.string (Gate.shapeOf ss o.kd).fs[p].nm):=hck;have hrg:rb ≠ g:=by omega
   have how:w1.heap.size ≠ g:=by omega
   clear hOc hck hkr
   go_region_held3 (fun w'=>(∀ j,w'.cell? ⟨w1.heap.size,j,none⟩=(#[.string o.kd,.string o.nm,.string o.tm,.slice (some ⟨g,0,none⟩) o.vs.length dap,.bool o.en,.slice a' o.hs.length dap',.int .i64 o.vr]:Array Value)[j]?)/\w'.cell? ⟨rb,k,none⟩=some (.string (Gate.shapeOf ss o.kd).fs[p].nm)) (first | exact ⟨hS1,hS2⟩ | exact ⟨hS3,hS4⟩) (first
    | (go_at_call 171;refine (zdb HJP.out (qx _ _ (Gate.shapeOf ss o.kd).fs _ _ (by exact HFA.out.mono (HX.out.2.2.2.2.1.trans (hb.mono HX.out.2.2.2.2.1.size))))).mono ?_;rintro e w5 ⟨rfl,rfl⟩)
    | (go_at_call 176;refine (ziW (Gate.shapeOf ss o.kd) ms o us _ HLV.out p _ _ _ _ _ _ _ _ _ (by exact HFA.out.mono (HX.out.2.2.2.2.1.trans (hb.mono HX.out.2.2.2.2.1.size))) (by exact HW.out.2.mono (HX.out.2.2.2.2.1.trans (hb.mono HX.out.2.2.2.2.1.size))) (by exact hUS.mono hb) (by rw [HLV.out];exact HRW.out.len) hpn HJP.out HRW.out.kd.symm (HRW.out.reads p hpn)).mono ?_;rintro e w6 ⟨rfl,hb6⟩;have hb:=hb.trans (hb6.mono hb.size);have hS1:=za hS1 hOz hb6;have hS2:=(hb6.cell (p:=⟨rb,k,none⟩) hrbz).trans hS2;have hU6:=hUS.mono hb;have hG:=HX.out.1.mono hb;clear hb6;have hS3:∀ j,(w6.setCell ⟨g,p,none⟩ (.string (Gate.decided (Gate.shapeOf ss o.kd) ms p us))).cell? ⟨w1.heap.size,j,none⟩=(#[.string o.kd,.string o.nm,.string o.tm,.slice (some ⟨g,0,none⟩) o.vs.length dap,.bool o.en,.slice a' o.hs.length dap',.int .i64 o.vr]:Array Value)[j]?:=fun j=>(yu how).trans (hS1 j);have hS4:(w6.setCell ⟨g,p,none⟩ (.string (Gate.decided (Gate.shapeOf ss o.kd) ms p us))).cell? ⟨rb,k,none⟩=some (.string (Gate.shapeOf ss o.kd).fs[p].nm):=(yu hrg).trans hS2;have hgc6:w6.cell? ⟨g,p,none⟩=some (.string us[p]):=zpl hG p hpv;have hgf6:w6.frozen? ⟨g,p,none⟩=false:=zpI hG hpv))
   go_wp2_with fail
   obtain ⟨ht,ht',hR,hO,hB,hz3⟩:=HX.out;exact ⟨⟨k+1,by omega,by go_num,by rw [HTS.out];exact (ht.mono hb).set p _,(ht'.mono hb).setCell _ hgm _,(Below.heap_setCell _ _ _ _ (by show w.heap.size+1 ≠ g;omega)).trans ((hb.block _ (by omega)).trans hR),(Below.heap_setCell _ _ _ _ (by show w1.heap.size ≠ g;omega)).trans ((hb.block _ hOz).trans hO),(hB.trans (hb.mono hB.size)).setCell (p:=⟨g,p,none⟩) (by show w.heap.size<=g;omega) _,by rw [World.size_setCell];exact Nat.le_trans hz3 hb.size,fun _=>⟨rb,rfl,hrb0,by rw [World.size_setCell];exact nLt hrbz hb.size,fun i hi=>(yu hrg).trans ((hb.cell (p:=⟨rb,i,none⟩) hrbz).trans (HRR.out i hi))⟩⟩,zn hlt⟩
  ·have e:k=pl.length:=by omega
   subst e;rw [tOl (Nat.le_refl _),<- HVS.out] at ht;have hRc:∀ j,wr.cell? ⟨w.heap.size+1,j,none⟩=(#[.string ByteArray.empty,.string ByteArray.empty,.string ByteArray.empty,.slice none 0 0,.bool false,.slice none 0 0,.int .i64 0]:Array Value)[j]?:=fun j=>cell_of_block hR
   have hRf:∀ j,wr.frozen? ⟨w.heap.size+1,j,none⟩=false:=fun j=>zi hR
   have hOc:∀ j,wr.cell? ⟨w1.heap.size,j,none⟩=(#[.string o.kd,.string o.nm,.string o.tm,.slice a o.vs.length dap,.bool o.en,.slice a' o.hs.length dap',.int .i64 o.vr]:Array Value)[j]?:=fun j=>cell_of_block hO
   have hOz:w1.heap.size < wr.heap.size:=(gES hO).1;have HX:Hid (zw (w.heap.size+1+1) wr a (Gate.zfr ss ms o)/\zw m wr a' o.hs/\Below w.heap.size w wr):=⟨ht,ht',hB⟩
   clear ht ht' hB hR hO hrr;go_wp2_with fail
   refine bodyPost_ret (v:=(.agg #[.string o.kd,.string o.nm,.string o.tm,.slice a o.vs.length dap,.bool o.en,.slice a' o.hs.length dap',.int .i64 o.vr])) (by simp [results,Tryz.results132,go_sem,hRc]) rfl ?_;obtain ⟨ht,ht',hB⟩:=HX.out;rw [HRES.out];exact ⟨a,dap,a',dap',m,rfl,(jO ht _ (by omega) _ _ _ _ _ _ _).low (by omega),HT.out.2.1,by have:=HT.out.2.2.1;omega,jO ht' _ (by have:=HT.out.2.2.1;omega) _ _ _ _ _ _ _,zaM hB _ (by omega) _ _ _ _ _ _ _⟩
end Go.Proofs.YtghnakljnhnenaaGreat
