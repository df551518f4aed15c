import Derived.Test.YtnapmdofidgliaaGreatM39
import Derived.WalkMore
set_option maxHeartbeats 4000000
namespace Go.Proofs.YtnapmdofidgliaaGreat
open Go.RowKit
set_option maxRecDepth 20000 in
theorem zhq (s:Shp)(ms:List Mnd)(vs:List ByteArray)(p:Nat)(fa ma va:Option Addr)(fcap mcap vcap:Nat)(w:World)(hf:zY w fa s.fs)(hm:qN w ma ms)(hv:zD w va vs)(hc:vs.length=s.fs.length)(hp:p<s.fs.length) :
 Calls Tryz.prog 225 #[.agg #[.string s.kd,.slice fa s.fs.length fcap],.slice ma ms.length mcap,.slice va vs.length vcap,.int .i64 p] w fun e w'=>e=.returned (.string (decided s ms p vs))/\Below w.heap.size w w':=by
 have hpv:p<vs.length:=by omega
 have hl:=hv.len;have hml:=hm.len;unfold maxLen at hl hml;have HH:=zkC hf hm hv hc;obtain⟨b,off,rfl,hb,hcell⟩:=hv.cells (by rintro rfl;simp at hpv);have hcp:=hcell p hpv;have hpI:(p:Int)<(vs.length:Int):=by omega
 clear hf hm hv hcell hc;go_enter Tryz.func225,Tryz.ntmps225;go_wp2_with fail
 go_step3
 go_wp2_with fail
 go_step3
 go_wp2_with fail
 go_loopw [9,19] (fun v0 iv wr=>∃k:Nat,v0=.string vs[p]/\k<=ms.length/\iv=.int .i64 k/\(ms.take k).findSome? (gives s vs p)=none/\Below (w.heap.size+1) (w.alloc (.cells #[.string s.kd,.slice fa s.fs.length fcap] 131)) wr) (fun _ iv _=>ms.length-(intOf iv).toNat)
 case atStart=>exact⟨0,rfl,Nat.zero_le _,rfl,rfl,bRf _ _⟩
 case round=>
  obtain⟨k,rfl,hk,rfl,hnone,hBw⟩:=hrel;have HB:Hid (Below w.heap.size w wr/\Below (w.heap.size+1) (w.alloc (.cells #[.string s.kd,.slice fa s.fs.length fcap] 131)) wr):=⟨(bAl _ _).trans (hBw.mono (by omega)),hBw⟩
  have hzr:w.heap.size<wr.heap.size:=by have:=hBw.size;simp at this;omega
  have hXr:∀j,wr.cell? ⟨w.heap.size,j,none⟩=(#[.string s.kd,.slice fa s.fs.length fcap]:Array Value)[j]?:=fun j=>cell_of_block ((hBw.block w.heap.size (by omega)).trans (alloc_at _ _))
  have HN:=hid hnone;clear hnone hBw
  by_cases hlt:k<ms.length
  ·obtain⟨mb,moff,rfl,hmb,c0,c1,c2,c3,c4,c5⟩:=HH.out.2.1.load HB.out.1 k hlt
   have hltI:(k:Int)<(ms.length:Int):=by omega
   have hba:=(bRf wr.heap.size wr).alloc (Nat.le_refl _) (.cells #[.string ms[k].kd,.string ms[k].fd,.string ms[k].wh,.string ms[k].wi,.string ms[k].pt,.string ms[k].fr] 133);have HBA:=hid (HB.out.1.trans (hba.mono HB.out.1.size));go_wp2_with fail
   have HNX:Hid (gives s vs p ms[k]=none->(ms.take (k+1)).findSome? (gives s vs p)=none):=by
    intro h;rw[tSe hlt,List.findSome?_append,HN.out]
    simp[h]
   have HSX:Hid (∀x,gives s vs p ms[k]=some x->decided s ms p vs=x):=by
    intro x h;unfold decided
    have e:ms.findSome? (gives s vs p)=some x:=by
     conv=>lhs;rw[<- List.take_append_drop k ms,List.drop_eq_getElem_cons hlt]
     rw[List.findSome?_append,HN.out,List.findSome?_cons,h]
     rfl
    rw[e];rfl
   refine(zcR s vs ms[k].fr fa _ fcap vcap _ (HH.out.1.mono HBA.out) (HH.out.2.2.1.mono HBA.out) HH.out.2.2.2).mono ?_;rintro e w3⟨rfl,hb3⟩;have HB3:=hid (hba.trans (hb3.mono hba.size));have hXm:=za (zl wr _ _) (by simp) hb3;have hzm:wr.heap.size<w3.heap.size:=by have:=hb3.size;simp at this;omega
   have hXs:=za hXr hzr HB3.out;have HBW3:=hid (HB.out.1.trans (HB3.out.mono HB.out.1.size));clear hba hb3 hXr c0 c1 c2 c3 c4 c5;go_wp2_with fail
   have h:=zli ms[k] s fa fcap p w3 (HH.out.1.mono HBW3.out) hp
   rcases htt:turns ms[k] s p with _|_
   ·have HG:Hid (gives s vs p ms[k]=none):=by unfold Hid gives;simp[htt]
    rw[htt]at h;refine h.mono ?_;rintro e w4⟨rfl,hb4⟩;have HBX:=hid (HB.out.2.trans ((HB3.out.trans (hb4.mono HB3.out.size)).mono hzr));clear h hb4;clear htt hXm hXs;go_wp2_with fail
    exact⟨⟨k+1,rfl,by omega,by go_num,HNX.out HG.out,HBX.out⟩,zm hlt⟩
   rw[htt]at h;refine h.mono ?_;rintro e w4⟨rfl,hb4⟩;have HB4:=hid (HB3.out.trans (hb4.mono HB3.out.size));have hXm4:=za hXm hzm hb4;have hzm4:=nLt hzm hb4.size;have hXs4:=za hXs (Nat.lt_trans hzr hzm) hb4;have HBW4:=hid (HB.out.1.trans (HB4.out.mono HB.out.1.size));clear h hb4 hXm hXs
   rcases hwh:ms[k].wh.toList.isEmpty with _|_
   ·by_cases ev:qO s.fs vs ms[k].wh=ms[k].wi
    ·have hev:((qO s.fs vs ms[k].wh).toList == ms[k].wi.toList)=true:=by rw[beq_toList];simpa using ev
     have HEV:Hid (qO s.fs vs ms[k].wh=ms[k].wi):=ev;clear ev;go_wp2_with fail
     have hbd:Below w4.heap.size w4 w4.drew:=(bRf _ _).drew;have hXm5:=za hXm4 hzm4 hbd;have hXs5:=za hXs4 (Nat.lt_trans hzr hzm4) hbd;have hbc:=HBW4.out.drew
     go_region_held3 (fun w'=>(∀j,w'.cell? ⟨wr.heap.size,j,none⟩=(#[.string ms[k].kd,.string ms[k].fd,.string ms[k].wh,.string ms[k].wi,.string ms[k].pt,.string ms[k].fr]:Array Value)[j]?)/\∀j,w'.cell? ⟨w.heap.size,j,none⟩=(#[.string s.kd,.slice fa s.fs.length fcap]:Array Value)[j]?) (exact⟨hXm5,hXs5⟩) (first
      | (go_at_call 228;refine(zcR s vs ms[k].wh fa _ fcap vcap _ (by exact HH.out.1.mono hbc) (by exact HH.out.2.2.1.mono hbc) HH.out.2.2.2).mono ?_;rintro e w5⟨rfl,hb5⟩;have hbd:=hbd.trans (hb5.mono hbd.size);have hbc:=hbc.trans (hb5.mono hbc.size);have hXm5:=za hXm4 hzm4 hbd;have hXs5:=za hXs4 (Nat.lt_trans hzr hzm4) hbd;clear hb5))
     have HBX:=hid (HB.out.2.trans ((HB4.out.trans (hbd.mono HB4.out.size)).mono hzr));have HBY:Hid (Below w.heap.size w w5):=hbc;clear hbd hbc hXm4 hXs4
     rcases hfr:ms[k].fr.toList.isEmpty with _|_
     ·rcases hF:(qO s.fs vs ms[k].fr).toList.isEmpty with _|_
      ·have HG:Hid (gives s vs p ms[k]=some (qO s.fs vs ms[k].fr)):=by unfold Hid gives isSet;simp[HEV.out, *]
       clear htt;go_wp2_with fail
       rw[Exit.noGoto_ret];go_ret;exact⟨by rw[HSX.out _ HG.out];rfl,HBY.out⟩
      ·have HG:Hid (gives s vs p ms[k]=none):=by unfold Hid gives isSet;simp[HEV.out, *]
       clear htt;go_wp2_with fail
       exact⟨⟨k+1,rfl,by omega,by go_num,HNX.out HG.out,HBX.out⟩,zm hlt⟩
     ·have HG:Hid (gives s vs p ms[k]=some ms[k].pt):=by unfold Hid gives isSet;simp[HEV.out, *]
      clear htt;go_wp2_with fail
      rw[Exit.noGoto_ret];go_ret;exact⟨by rw[HSX.out _ HG.out];rfl,HBY.out⟩
    ·have hev:((qO s.fs vs ms[k].wh).toList == ms[k].wi.toList)=false:=by rw[beq_toList];simpa using ev
     have HG:Hid (gives s vs p ms[k]=none):=by unfold Hid gives isSet;simp[*]
     clear ev;go_wp2_with fail
     have hbd:Below w4.heap.size w4 w4.drew:=(bRf _ _).drew;have hXm5:=za hXm4 hzm4 hbd;have hXs5:=za hXs4 (Nat.lt_trans hzr hzm4) hbd;have hbc:=HBW4.out.drew
     go_region_held3 (fun w'=>(∀j,w'.cell? ⟨wr.heap.size,j,none⟩=(#[.string ms[k].kd,.string ms[k].fd,.string ms[k].wh,.string ms[k].wi,.string ms[k].pt,.string ms[k].fr]:Array Value)[j]?)/\∀j,w'.cell? ⟨w.heap.size,j,none⟩=(#[.string s.kd,.slice fa s.fs.length fcap]:Array Value)[j]?) (exact⟨hXm5,hXs5⟩) (first
      | (go_at_call 228;refine(zcR s vs ms[k].wh fa _ fcap vcap _ (by exact HH.out.1.mono hbc) (by exact HH.out.2.2.1.mono hbc) HH.out.2.2.2).mono ?_;rintro e w5⟨rfl,hb5⟩;have hbd:=hbd.trans (hb5.mono hbd.size);have hbc:=hbc.trans (hb5.mono hbc.size);have hXm5:=za hXm4 hzm4 hbd;have hXs5:=za hXs4 (Nat.lt_trans hzr hzm4) hbd;clear hb5))
     have HBX:=hid (HB.out.2.trans ((HB4.out.trans (hbd.mono HB4.out.size)).mono hzr));have HBY:=hid hbc;clear hbd hbc hXm4 hXs4;clear htt;go_wp2_with fail
     exact⟨⟨k+1,rfl,by omega,by go_num,HNX.out HG.out,HBX.out⟩,zm hlt⟩
   ·have HBX:=hid (HB.out.2.trans (HB4.out.mono hzr))
    have HBY:=hid HBW4.out
    rcases hfr:ms[k].fr.toList.isEmpty with _|_
    ·rcases hF:(qO s.fs vs ms[k].fr).toList.isEmpty with _|_
     ·have HG:Hid (gives s vs p ms[k]=some (qO s.fs vs ms[k].fr)):=by unfold Hid gives isSet;simp[*]
      clear htt;go_wp2_with fail
      go_quiet (fail)
      go_wp2_with fail
      rw[Exit.noGoto_ret];go_ret;exact⟨by rw[HSX.out _ HG.out];rfl,below_drewN HBY.out _⟩
     ·have HG:Hid (gives s vs p ms[k]=none):=by unfold Hid gives isSet;simp[*]
      clear htt;go_wp2_with fail
      go_quiet (fail)
      go_wp2_with fail
      exact⟨⟨k+1,rfl,by omega,by go_num,HNX.out HG.out,below_drewN HBX.out _⟩,zm hlt⟩
    ·have HG:Hid (gives s vs p ms[k]=some ms[k].pt):=by unfold Hid gives isSet;simp[*]
     clear htt;go_wp2_with fail
     go_quiet (fail)
     go_wp2_with fail
     rw[Exit.noGoto_ret];go_ret;exact⟨by rw[HSX.out _ HG.out];rfl,below_drewN HBY.out _⟩
  ·have e:k=ms.length:=by omega
   have hn:=HN.out;rw[e,tOl (Nat.le_refl _)]at hn;have HD:Hid (decided s ms p vs=vs[p]):=by unfold Hid decided;rw[hn,getD_at _ _ _ hpv];rfl
   subst e;clear hn HN;go_wp2_with fail
   rw[Exit.noGoto_ret];go_ret;exact⟨by rw[HD.out];rfl,HB.out.1⟩
end Go.Proofs.YtnapmdofidgliaaGreat
