import Derived.Test.YtedangodjiolaaaGreatM41
import Derived.WalkMore
set_option maxHeartbeats 4000000
namespace Go.Proofs.YtedangodjiolaaaGreat
open Go.RowKit
set_option maxRecDepth 20000 in
theorem zhg (s:Shp)(ms:List Mnd)(vs:List BA)(p:Nat)(fa ma va:OA)(fcap mcap vcap:Nat)(w:World)(hf:yh w fa s.fs)(hm:qM w ma ms)(hv:zK w va vs)(hc:vs.length=s.fs.length)(hp:p<s.fs.length) :
 Calls Tryz.prog 246 #[.agg #[.s s.kd,.l fa s.fs.length fcap],.l ma ms.length mcap,.l va vs.length vcap,.i p] w fun e w'=>e=.returned (.s (decided s ms p vs))/\Bw w w':=by
 have hpv:p<vs.length:=by omega
 have hl:=hv.len;have hml:=hm.len;unfold maxLen at hl hml;have HH:=zor hf hm hv hc;obtain⟨b,off,rfl,hb,hcell⟩:=hv.cells (by rintro rfl;simp at hpv);have hcp:=hcell p hpv;have hpI:(p:Int)<(vs.length:Int):=by omega
 clear hf hm hv hcell hc;go_enter Tryz.func246,Tryz.ntmps246;go_wp2_with fail
 go_step3
 go_wp2_with fail
 go_step3
 go_wp2_with fail
 go_loopw [9,19] (fun v0 iv wr=>∃k:Nat,v0=.s vs[p]/\k<=ms.length/\iv=.i k/\(ms.take k).findSome? (gives s vs p)=none/\Below (w.heap.size+1) (w.alloc (.cells #[.s s.kd,.l fa s.fs.length fcap] 113)) wr) (fun _ iv _=>ms.length-(intOf iv).toNat)
 case atStart=>exact⟨0,rfl,Nat.zero_le _,rfl,rfl,bRf _ _⟩
 case round=>
  obtain⟨k,rfl,hk,rfl,hnone,hBw⟩:=hrel;have HB:Hid (Bw w wr/\Below (w.heap.size+1) (w.alloc (.cells #[.s s.kd,.l fa s.fs.length fcap] 113)) wr):=⟨(bAl _ _).trans (hBw.mono (by omega)),hBw⟩
  have hzr:w.heap.size<wr.heap.size:=by have:=hBw.size;simp at this;omega
  have hXr:∀j,wr.cell? (aD w.heap.size j)=(#[.s s.kd,.l fa s.fs.length fcap]:AV)[j]?:=fun j=>cell_of_block ((hBw.block w.heap.size (by omega)).trans (alloc_at _ _))
  have HN:=hid hnone;clear hnone hBw
  by_cases hlt:k<ms.length
  ·obtain⟨mb,moff,rfl,hmb,c0,c1,c2,c3,c4,c5⟩:=HH.o.2.1.load HB.o.1 k hlt
   have hltI:(k:Int)<(ms.length:Int):=by omega
   have hba:=(bRf wr.heap.size wr).alloc (Nat.le_refl _) (.cells #[.s ms[k].kd,.s ms[k].fd,.s ms[k].wh,.s ms[k].wi,.s ms[k].pt,.s ms[k].fr] 115);have HBA:=hid (HB.o.1.trans (hba.mono HB.o.1.size));go_wp2_with fail
   have HNX:Hid (gives s vs p ms[k]=none->(ms.take (k+1)).findSome? (gives s vs p)=none):=by
    intro h;rw[tSe hlt,List.findSome?_append,HN.o]
    simp[h]
   have HSX:Hid (∀x,gives s vs p ms[k]=some x->decided s ms p vs=x):=by
    intro x h;unfold decided
    have e:ms.findSome? (gives s vs p)=some x:=by
     conv=>lhs;rw[<- List.take_append_drop k ms,List.drop_eq_getElem_cons hlt]
     rw[List.findSome?_append,HN.o,List.findSome?_cons,h]
     rfl
    rw[e];rfl
   refine(zcR s vs ms[k].fr fa _ fcap vcap _ (HH.o.1.mono HBA.o) (HH.o.2.2.1.mono HBA.o) HH.o.2.2.2).mono ?_;rintro e w3⟨rfl,hb3⟩;have HB3:=hid (hba.trans (hb3.mono hba.size));have hXm:=za (zn wr _ _) (by simp) hb3;have hzm:wr.heap.size<w3.heap.size:=by have:=hb3.size;simp at this;omega
   have hXs:=za hXr hzr HB3.o;have HBW3:=hid (HB.o.1.trans (HB3.o.mono HB.o.1.size));clear hba hb3 hXr c0 c1 c2 c3 c4 c5;go_wp2_with fail
   have h:=zlf ms[k] s fa fcap p w3 (HH.o.1.mono HBW3.o) hp
   rcases htt:turns ms[k] s p with _|_
   ·have HG:Hid (gives s vs p ms[k]=none):=by unfold Hid gives;simp[htt]
    rw[htt]at h;refine h.mono ?_;rintro e w4⟨rfl,hb4⟩;have HBX:=hid (HB.o.2.trans ((HB3.o.trans (hb4.mono HB3.o.size)).mono hzr));clear h hb4;clear htt hXm hXs;go_wp2_with fail
    exact⟨⟨k+1,rfl,by omega,by go_num,HNX.o HG.o,HBX.o⟩,zy hlt⟩
   rw[htt]at h;refine h.mono ?_;rintro e w4⟨rfl,hb4⟩;have HB4:=hid (HB3.o.trans (hb4.mono HB3.o.size));have hXm4:=za hXm hzm hb4;have hzm4:=nLt hzm hb4.size;have hXs4:=za hXs (Nat.lt_trans hzr hzm) hb4;have HBW4:=hid (HB.o.1.trans (HB4.o.mono HB.o.1.size));clear h hb4 hXm hXs
   rcases hwh:ms[k].wh.toList.isEmpty with _|_
   ·by_cases ev:qN s.fs vs ms[k].wh=ms[k].wi
    ·have hev:((qN s.fs vs ms[k].wh).toList == ms[k].wi.toList)=true:=by rw[beq_toList];simpa using ev
     have HEV:Hid (qN s.fs vs ms[k].wh=ms[k].wi):=ev;clear ev;go_wp2_with fail
     have hbd:Bw w4 w4.drew:=(bRf _ _).drew;have hXm5:=za hXm4 hzm4 hbd;have hXs5:=za hXs4 (Nat.lt_trans hzr hzm4) hbd;have hbc:=HBW4.o.drew
     go_region_held3 (fun w'=>(∀j,w'.cell? (aD wr.heap.size j)=(#[.s ms[k].kd,.s ms[k].fd,.s ms[k].wh,.s ms[k].wi,.s ms[k].pt,.s ms[k].fr]:AV)[j]?)/\∀j,w'.cell? (aD w.heap.size j)=(#[.s s.kd,.l fa s.fs.length fcap]:AV)[j]?) (exact⟨hXm5,hXs5⟩) (first
      | (go_at_call 249;refine(zcR s vs ms[k].wh fa _ fcap vcap _ (by exact HH.o.1.mono hbc) (by exact HH.o.2.2.1.mono hbc) HH.o.2.2.2).mono ?_;rintro e w5⟨rfl,hb5⟩;have hbd:=hbd.trans (hb5.mono hbd.size);have hbc:=hbc.trans (hb5.mono hbc.size);have hXm5:=za hXm4 hzm4 hbd;have hXs5:=za hXs4 (Nat.lt_trans hzr hzm4) hbd;clear hb5))
     have HBX:=hid (HB.o.2.trans ((HB4.o.trans (hbd.mono HB4.o.size)).mono hzr));have HBY:Hid (Bw w w5):=hbc;clear hbd hbc hXm4 hXs4
     rcases hfr:ms[k].fr.toList.isEmpty with _|_
     ·rcases hF:(qN s.fs vs ms[k].fr).toList.isEmpty with _|_
      ·have HG:Hid (gives s vs p ms[k]=some (qN s.fs vs ms[k].fr)):=by unfold Hid gives isSet;simp[HEV.o, *]
       clear htt;go_wp2_with fail
       rw[Exit.noGoto_ret];go_ret;exact⟨by rw[HSX.o _ HG.o];rfl,HBY.o⟩
      ·have HG:Hid (gives s vs p ms[k]=none):=by unfold Hid gives isSet;simp[HEV.o, *]
       clear htt;go_wp2_with fail
       exact⟨⟨k+1,rfl,by omega,by go_num,HNX.o HG.o,HBX.o⟩,zy hlt⟩
     ·have HG:Hid (gives s vs p ms[k]=some ms[k].pt):=by unfold Hid gives isSet;simp[HEV.o, *]
      clear htt;go_wp2_with fail
      rw[Exit.noGoto_ret];go_ret;exact⟨by rw[HSX.o _ HG.o];rfl,HBY.o⟩
    ·have hev:((qN s.fs vs ms[k].wh).toList == ms[k].wi.toList)=false:=by rw[beq_toList];simpa using ev
     have HG:Hid (gives s vs p ms[k]=none):=by unfold Hid gives isSet;simp[*]
     clear ev;go_wp2_with fail
     have hbd:Bw w4 w4.drew:=(bRf _ _).drew;have hXm5:=za hXm4 hzm4 hbd;have hXs5:=za hXs4 (Nat.lt_trans hzr hzm4) hbd;have hbc:=HBW4.o.drew
     go_region_held3 (fun w'=>(∀j,w'.cell? (aD wr.heap.size j)=(#[.s ms[k].kd,.s ms[k].fd,.s ms[k].wh,.s ms[k].wi,.s ms[k].pt,.s ms[k].fr]:AV)[j]?)/\∀j,w'.cell? (aD w.heap.size j)=(#[.s s.kd,.l fa s.fs.length fcap]:AV)[j]?) (exact⟨hXm5,hXs5⟩) (first
      | (go_at_call 249;refine(zcR s vs ms[k].wh fa _ fcap vcap _ (by exact HH.o.1.mono hbc) (by exact HH.o.2.2.1.mono hbc) HH.o.2.2.2).mono ?_;rintro e w5⟨rfl,hb5⟩;have hbd:=hbd.trans (hb5.mono hbd.size);have hbc:=hbc.trans (hb5.mono hbc.size);have hXm5:=za hXm4 hzm4 hbd;have hXs5:=za hXs4 (Nat.lt_trans hzr hzm4) hbd;clear hb5))
     have HBX:=hid (HB.o.2.trans ((HB4.o.trans (hbd.mono HB4.o.size)).mono hzr));have HBY:=hid hbc;clear hbd hbc hXm4 hXs4;clear htt;go_wp2_with fail
     exact⟨⟨k+1,rfl,by omega,by go_num,HNX.o HG.o,HBX.o⟩,zy hlt⟩
   ·have HBX:=hid (HB.o.2.trans (HB4.o.mono hzr))
    have HBY:=hid HBW4.o
    rcases hfr:ms[k].fr.toList.isEmpty with _|_
    ·rcases hF:(qN s.fs vs ms[k].fr).toList.isEmpty with _|_
     ·have HG:Hid (gives s vs p ms[k]=some (qN s.fs vs ms[k].fr)):=by unfold Hid gives isSet;simp[*]
      clear htt;go_wp2_with fail
      go_quiet (fail)
      go_wp2_with fail
      rw[Exit.noGoto_ret];go_ret;exact⟨by rw[HSX.o _ HG.o];rfl,below_drewN HBY.o _⟩
     ·have HG:Hid (gives s vs p ms[k]=none):=by unfold Hid gives isSet;simp[*]
      clear htt;go_wp2_with fail
      go_quiet (fail)
      go_wp2_with fail
      exact⟨⟨k+1,rfl,by omega,by go_num,HNX.o HG.o,below_drewN HBX.o _⟩,zy hlt⟩
    ·have HG:Hid (gives s vs p ms[k]=some ms[k].pt):=by unfold Hid gives isSet;simp[*]
     clear htt;go_wp2_with fail
     go_quiet (fail)
     go_wp2_with fail
     rw[Exit.noGoto_ret];go_ret;exact⟨by rw[HSX.o _ HG.o];rfl,below_drewN HBY.o _⟩
  ·have e:k=ms.length:=by omega
   have hn:=HN.o;rw[e,tOl (Nat.le_refl _)]at hn;have HD:Hid (decided s ms p vs=vs[p]):=by unfold Hid decided;rw[hn,getD_at _ _ _ hpv];rfl
   subst e;clear hn HN;go_wp2_with fail
   rw[Exit.noGoto_ret];go_ret;exact⟨by rw[HD.o];rfl,HB.o.1⟩
end Go.Proofs.YtedangodjiolaaaGreat
