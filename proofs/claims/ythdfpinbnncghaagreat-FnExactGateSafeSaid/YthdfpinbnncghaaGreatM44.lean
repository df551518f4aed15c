import Derived.Test.YthdfpinbnncghaaGreatM43
import Derived.WalkMore
set_option maxHeartbeats 4000000
namespace Go.Proofs.YthdfpinbnncghaaGreat
open Go.RowKit
def qP (m:Wt):Bool:=!zm m.kd||(!zm m.nm||decide (m.vn<0))
def zaK (l:Lw)(s:Sl):Bool:=zm s.dr&&(zbd l s.x&&(decide (0<=s.gv)&&(decide (s.ws.length<=8)&&!s.ws.any qP)))
theorem zmE (m:Wt)(w:World)(hm:m.Small) :
 Calls Tryz.prog 230 #[.agg m.cells] w fun e w'=>e=.returned (.bool (qP m))/\Bw w w':=by
 have HM:Hid m.Small:=hm;clear hm;unfold Wt.cells;have hB:∀ob,Bw w (w.alloc ob):=fun ob=>bAl _ _
 go_enter Tryz.func230,Tryz.ntmps230;go_wp2_with fail
 refine(zB m.kd _ HM.o.kd).mono ?_;rintro e w1⟨rfl,rfl⟩
 cases h1:zm m.kd
 ·have H1:=hid h1
  clear h1;go_wp2_with fail
  go_ret;exact⟨ze (by unfold qP;rw[H1.o];rfl),hB _⟩
 have H1:=hid h1;clear h1;go_wp2_with fail
 refine(zB m.nm _ HM.o.nm).mono ?_;rintro e w1⟨rfl,rfl⟩
 cases h2:zm m.nm
 ·have H2:=hid h2
  clear h2;go_wp2_with fail
  go_ret;exact⟨ze (by unfold qP;rw[H1.o,H2.o];rfl),hB _⟩
 have H2:=hid h2;clear h2;go_wp2_with fail
 go_ret;exact⟨ze (by unfold qP;rw[H1.o,H2.o];rfl),hB _⟩
theorem zkJ (a:OA)(cap:Nat)(ms:List Wt)(w:World)(hw:zc8 w a ms) :
 Calls Tryz.prog 256 #[.l a ms.length cap,.func (.func 230) #[] #[]] w fun e w'=>∃r:Int,e=.returned (.i r)/\decide (0<=r)=ms.any qP/\Bw w w':=by
 have hl:=hw.len;unfold maxLen at hl;go_enter Tryz.func256,Tryz.ntmps256;go_wp2_with fail
 go_loopw [8] (fun i wr=>∃k:Nat,k<=ms.length/\i=.i k/\(ms.take k).any qP=false/\Bw w wr) (fun i _=>ms.length-(intOf i).toNat)
 case atStart=>exact⟨0,Nat.zero_le _,rfl,rfl,bRf _ _⟩
 case round=>
  obtain⟨k,hk,rfl,hno,hB⟩:=hrel
  by_cases hlt:k<ms.length
  ·obtain⟨b,off,rfl,hb,c0,c1,c2⟩:=hw.load hB k hlt
   have hltI:(k:Int)<(ms.length:Int):=by omega
   have hc:=zmE ms[k] wr (hw.small k hlt);clear hw
   by_cases he:qP ms[k]=true
   ·have HA:Hid (ms.any qP=true):=zcd _ ms k hlt he
    have HE:Hid (qP ms[k]=true):=he;clear he hno;go_wp2_with fail
    refine(zf HE.o hc).mono ?_;rintro e w2⟨rfl,hb2⟩;go_wp2_with fail
    go_ret;exact⟨_,rfl,by rw[HA.o];simp,hB.trans (hb2.mono hB.size)⟩
   ·have he':qP ms[k]=false:=by simpa using he
    have HS:Hid ((ms.take (k+1)).any qP=false):=by unfold Hid;rw[qO _ ms k hlt,hno,he'];rfl
    have HE:Hid (qP ms[k]=false):=he';clear he he' hno;go_wp2_with fail
    refine(zf HE.o hc).mono ?_;rintro e w2⟨rfl,hb2⟩;go_wp2_with fail
    exact⟨⟨k+1,by omega,by go_num,HS.o,hB.trans (hb2.mono hB.size)⟩,by simp[intOf];omega⟩
  ·have HA:Hid (ms.any qP=false):=by unfold Hid;rw[<- hno,tOl (by omega)]
   clear hno hw;go_wp2_with fail
   go_ret;exact⟨_,rfl,by rw[HA.o];rfl,hB⟩
theorem zgM (a:OA)(cap:Nat)(ms:List Wt)(w:World)(hw:zc8 w a ms) :
 Calls Tryz.prog 229 #[.l a ms.length cap,.func (.func 230) #[] #[]] w fun e w'=>e=.returned (.bool (ms.any qP))/\Bw w w':=by
 go_enter Tryz.func229,Tryz.ntmps229;go_wp2_with fail
 refine(zkJ _ _ _ _ hw).mono ?_;rintro e w2⟨r,rfl,hr,hb2⟩;go_wp2_with fail
 go_ret;exact⟨rfl,hb2⟩
theorem zoB (l:Lw)(la lb lc:OA)(lca lcb lcc:Nat)(s:Sl)(a0 a1 a2 a3:OA)(c0 c1 c2 c3:Nat)(w:World)(hl:yH w l la lb lc)(hs:zdo w s a0 a1 a2 a3) :
 Calls Tryz.prog 180 #[.agg (l.cells la lb lc lca lcb lcc),.agg (s.cells a0 a1 a2 a3 c0 c1 c2 c3)] w fun e w'=>e=.returned (.bool (zaK l s))/\Bw w w':=by
 have HL:Hid (yH w l la lb lc):=hl;have HS:Hid (zdo w s a0 a1 a2 a3):=hs;have hln:=hs.ws.len;unfold maxLen at hln;clear hl hs;unfold Sl.cells Lw.cells;go_enter Tryz.func180,Tryz.ntmps180
 go_upto_region 1 with fail
 obtain⟨W0,hW0,hX0,hY0,hz0,hB0⟩:=zR w #[.l la l.ss.length lca,.l lb l.ms.length lcb,.l lc l.ts.length lcc] #[.s s.dr,.s s.x.who,.i s.x.vb,.s s.x.kd,.s s.x.nm,.s s.x.tm,.l a0 s.x.vs.length c0,.l a1 s.x.hs.length c1,.i s.x.sn,.s s.x.hd,.s s.x.to,.l a2 s.x.r.vs.length c2,.s s.x.r.kd,.s s.x.r.tm,.s s.x.r.px,.i s.x.no,.i s.gv,.l a3 s.ws.length c3] 44 192;rw[<- hW0];clear hW0;have hq0:=nSl hz0;go_wp2_with fail
 refine(zB s.dr _ HS.o.dr).mono ?_;rintro e w1⟨rfl,rfl⟩
 cases hn:zm s.dr
 ·have HN:=hid hn
  clear hn;go_wp2_with fail
  go_ret;exact⟨ze (by unfold zaK;rw[HN.o];rfl),hB0⟩
 have HN:=hid hn;clear hn;go_wp2_with fail
 refine(zqp l la lb lc lca lcb lcc s.x a0 a1 a2 c0 c1 c2 _ (HL.o.mono hB0) (HS.o.x.mono hB0)).mono ?_;rintro e w1⟨rfl,hb⟩;have hY1:=za hY0 hz0 hb;have hz1:=nLt hz0 hb.size;have hB1:=hB0.trans (hb.mono hB0.size);clear hb hX0 hY0 hz0 hB0 hq0
 cases ha:zbd l s.x
 ·have HA:=hid ha
  clear ha;go_wp2_with fail
  go_ret;exact⟨ze (by unfold zaK;rw[HN.o,HA.o];rfl),hB1⟩
 have HA:=hid ha;clear ha
 by_cases hg:0<=s.gv
 rotate_left
 ·have hgd:decide (s.gv<0)=true:=by simp;omega
  have HG:Hid (decide (0<=s.gv)=false):=decide_eq_false hg;clear hg;go_wp2_with fail
  go_ret;exact⟨ze (by unfold zaK;rw[HN.o,HA.o,HG.o];rfl),hB1⟩
 have hgd:decide (s.gv<0)=false:=by simp;omega
 have HG:Hid (decide (0<=s.gv)=true):=decide_eq_true hg;clear hg
 by_cases hk:s.ws.length<=8
 rotate_left
 ·have hkd:decide ((8:Int)<(s.ws.length:Int))=true:=by simp;omega
  have HK:Hid (decide (s.ws.length<=8)=false):=decide_eq_false hk;clear hk;go_wp2_with fail
  go_ret;exact⟨ze (by unfold zaK;rw[HN.o,HA.o,HG.o,HK.o];rfl),hB1⟩
 have hkd:decide ((8:Int)<(s.ws.length:Int))=false:=by simp;omega
 have HK:Hid (decide (s.ws.length<=8)=true):=decide_eq_true hk;clear hk;go_wp2_with fail
 refine(zgM _ _ s.ws _ (HS.o.ws.mono hB1)).mono ?_;rintro e w2⟨rfl,hb⟩;have hB2:=hB1.trans (hb.mono hB1.size);clear hb;go_wp2_with fail
 go_ret;exact⟨ze (by unfold zaK;rw[HN.o,HA.o,HG.o,HK.o];simp),hB2⟩
set_option maxRecDepth 20000 in
theorem zh5 (s:Shp)(ms:List Mnd)(vs:List BA)(p:Nat)(fa ma va:OA)(fcap mcap vcap:Nat)(w:World)(hf:yj w fa s.fs)(hm:qZ w ma ms)(hv:zJ w va vs)(hc:vs.length=s.fs.length)(hp:p<s.fs.length) :
 Calls Tryz.prog 261 #[.agg #[.s s.kd,.l fa s.fs.length fcap],.l ma ms.length mcap,.l va vs.length vcap,.i p] w fun e w'=>e=.returned (.s (decided s ms p vs))/\Bw w w':=by
 have hpv:p<vs.length:=by omega
 have hl:=hv.len;have hml:=hm.len;unfold maxLen at hl hml;have HH:=zk2 hf hm hv hc;obtain⟨b,off,rfl,hb,hcell⟩:=hv.cells (by rintro rfl;simp at hpv);have hcp:=hcell p hpv;have hpI:(p:Int)<(vs.length:Int):=by omega
 clear hf hm hv hcell hc;go_enter Tryz.func261,Tryz.ntmps261;go_wp2_with fail
 go_step3
 go_wp2_with fail
 go_step3
 go_wp2_with fail
 go_loopw [9,19] (fun v0 iv wr=>∃k:Nat,v0=.s vs[p]/\k<=ms.length/\iv=.i k/\(ms.take k).findSome? (gives s vs p)=none/\Below (w.heap.size+1) (w.alloc (.cells #[.s s.kd,.l fa s.fs.length fcap] 139)) wr) (fun _ iv _=>ms.length-(intOf iv).toNat)
 case atStart=>exact⟨0,rfl,Nat.zero_le _,rfl,rfl,bRf _ _⟩
 case round=>
  obtain⟨k,rfl,hk,rfl,hnone,hBw⟩:=hrel;have HB:Hid (Bw w wr/\Below (w.heap.size+1) (w.alloc (.cells #[.s s.kd,.l fa s.fs.length fcap] 139)) wr):=⟨(bAl _ _).trans (hBw.mono (by omega)),hBw⟩
  have hzr:w.heap.size<wr.heap.size:=by have:=hBw.size;simp at this;omega
  have hXr:∀j,wr.cell? (aD w.heap.size j)=(#[.s s.kd,.l fa s.fs.length fcap]:AV)[j]?:=fun j=>cell_of_block ((hBw.block w.heap.size (by omega)).trans (alloc_at _ _))
  have HN:=hid hnone;clear hnone hBw
  by_cases hlt:k<ms.length
  ·obtain⟨mb,moff,rfl,hmb,c0,c1,c2,c3,c4,c5⟩:=HH.o.2.1.load HB.o.1 k hlt
   have hltI:(k:Int)<(ms.length:Int):=by omega
   have hba:=(bRf wr.heap.size wr).alloc (Nat.le_refl _) (.cells #[.s ms[k].kd,.s ms[k].fd,.s ms[k].wh,.s ms[k].wi,.s ms[k].pt,.s ms[k].fr] 141);have HBA:=hid (HB.o.1.trans (hba.mono HB.o.1.size));go_wp2_with fail
   have HNX:Hid (gives s vs p ms[k]=none->(ms.take (k+1)).findSome? (gives s vs p)=none):=by
    intro h;rw[tSe hlt,List.findSome?_append,HN.o]
    simp[h]
   have HSX:Hid (∀x,gives s vs p ms[k]=some x->decided s ms p vs=x):=by
    intro x h;unfold decided
    have e:ms.findSome? (gives s vs p)=some x:=by
     conv=>lhs;rw[<- List.take_append_drop k ms,List.drop_eq_getElem_cons hlt]
     rw[List.findSome?_append,HN.o,List.findSome?_cons,h]
     rfl
    rw[e];rfl
   refine(zc7 s vs ms[k].fr fa _ fcap vcap _ (HH.o.1.mono HBA.o) (HH.o.2.2.1.mono HBA.o) HH.o.2.2.2).mono ?_;rintro e w3⟨rfl,hb3⟩;have HB3:=hid (hba.trans (hb3.mono hba.size));have hXm:=za (zn wr _ _) (by simp) hb3;have hzm:wr.heap.size<w3.heap.size:=by have:=hb3.size;simp at this;omega
   have hXs:=za hXr hzr HB3.o;have HBW3:=hid (HB.o.1.trans (HB3.o.mono HB.o.1.size));clear hba hb3 hXr c0 c1 c2 c3 c4 c5;go_wp2_with fail
   have h:=zlY ms[k] s fa fcap p w3 (HH.o.1.mono HBW3.o) hp
   rcases htt:turns ms[k] s p with _|_
   ·have HG:Hid (gives s vs p ms[k]=none):=by unfold Hid gives;simp[htt]
    rw[htt]at h;refine h.mono ?_;rintro e w4⟨rfl,hb4⟩;have HBX:=hid (HB.o.2.trans ((HB3.o.trans (hb4.mono HB3.o.size)).mono hzr));clear h hb4;clear htt hXm hXs;go_wp2_with fail
    exact⟨⟨k+1,rfl,by omega,by go_num,HNX.o HG.o,HBX.o⟩,zw hlt⟩
   rw[htt]at h;refine h.mono ?_;rintro e w4⟨rfl,hb4⟩;have HB4:=hid (HB3.o.trans (hb4.mono HB3.o.size));have hXm4:=za hXm hzm hb4;have hzm4:=nLt hzm hb4.size;have hXs4:=za hXs (Nat.lt_trans hzr hzm) hb4;have HBW4:=hid (HB.o.1.trans (HB4.o.mono HB.o.1.size));clear h hb4 hXm hXs
   rcases hwh:ms[k].wh.toList.isEmpty with _|_
   ·by_cases ev:q8 s.fs vs ms[k].wh=ms[k].wi
    ·have hev:((q8 s.fs vs ms[k].wh).toList == ms[k].wi.toList)=true:=by rw[beq_toList];simpa using ev
     have HEV:Hid (q8 s.fs vs ms[k].wh=ms[k].wi):=ev;clear ev;go_wp2_with fail
     have hbd:Bw w4 w4.drew:=(bRf _ _).drew;have hXm5:=za hXm4 hzm4 hbd;have hXs5:=za hXs4 (Nat.lt_trans hzr hzm4) hbd;have hbc:=HBW4.o.drew
     go_region_held3 (fun w'=>(∀j,w'.cell? (aD wr.heap.size j)=(#[.s ms[k].kd,.s ms[k].fd,.s ms[k].wh,.s ms[k].wi,.s ms[k].pt,.s ms[k].fr]:AV)[j]?)/\∀j,w'.cell? (aD w.heap.size j)=(#[.s s.kd,.l fa s.fs.length fcap]:AV)[j]?) (exact⟨hXm5,hXs5⟩) (first
      | (go_at_call 264;refine(zc7 s vs ms[k].wh fa _ fcap vcap _ (by exact HH.o.1.mono hbc) (by exact HH.o.2.2.1.mono hbc) HH.o.2.2.2).mono ?_;rintro e w5⟨rfl,hb5⟩;have hbd:=hbd.trans (hb5.mono hbd.size);have hbc:=hbc.trans (hb5.mono hbc.size);have hXm5:=za hXm4 hzm4 hbd;have hXs5:=za hXs4 (Nat.lt_trans hzr hzm4) hbd;clear hb5))
     have HBX:=hid (HB.o.2.trans ((HB4.o.trans (hbd.mono HB4.o.size)).mono hzr));have HBY:Hid (Bw w w5):=hbc;clear hbd hbc hXm4 hXs4
     rcases hfr:ms[k].fr.toList.isEmpty with _|_
     ·rcases hF:(q8 s.fs vs ms[k].fr).toList.isEmpty with _|_
      ·have HG:Hid (gives s vs p ms[k]=some (q8 s.fs vs ms[k].fr)):=by unfold Hid gives isSet;simp[HEV.o, *]
       clear htt;go_wp2_with fail
       rw[Exit.noGoto_ret];go_ret;exact⟨by rw[HSX.o _ HG.o];rfl,HBY.o⟩
      ·have HG:Hid (gives s vs p ms[k]=none):=by unfold Hid gives isSet;simp[HEV.o, *]
       clear htt;go_wp2_with fail
       exact⟨⟨k+1,rfl,by omega,by go_num,HNX.o HG.o,HBX.o⟩,zw hlt⟩
     ·have HG:Hid (gives s vs p ms[k]=some ms[k].pt):=by unfold Hid gives isSet;simp[HEV.o, *]
      clear htt;go_wp2_with fail
      rw[Exit.noGoto_ret];go_ret;exact⟨by rw[HSX.o _ HG.o];rfl,HBY.o⟩
    ·have hev:((q8 s.fs vs ms[k].wh).toList == ms[k].wi.toList)=false:=by rw[beq_toList];simpa using ev
     have HG:Hid (gives s vs p ms[k]=none):=by unfold Hid gives isSet;simp[*]
     clear ev;go_wp2_with fail
     have hbd:Bw w4 w4.drew:=(bRf _ _).drew;have hXm5:=za hXm4 hzm4 hbd;have hXs5:=za hXs4 (Nat.lt_trans hzr hzm4) hbd;have hbc:=HBW4.o.drew
     go_region_held3 (fun w'=>(∀j,w'.cell? (aD wr.heap.size j)=(#[.s ms[k].kd,.s ms[k].fd,.s ms[k].wh,.s ms[k].wi,.s ms[k].pt,.s ms[k].fr]:AV)[j]?)/\∀j,w'.cell? (aD w.heap.size j)=(#[.s s.kd,.l fa s.fs.length fcap]:AV)[j]?) (exact⟨hXm5,hXs5⟩) (first
      | (go_at_call 264;refine(zc7 s vs ms[k].wh fa _ fcap vcap _ (by exact HH.o.1.mono hbc) (by exact HH.o.2.2.1.mono hbc) HH.o.2.2.2).mono ?_;rintro e w5⟨rfl,hb5⟩;have hbd:=hbd.trans (hb5.mono hbd.size);have hbc:=hbc.trans (hb5.mono hbc.size);have hXm5:=za hXm4 hzm4 hbd;have hXs5:=za hXs4 (Nat.lt_trans hzr hzm4) hbd;clear hb5))
     have HBX:=hid (HB.o.2.trans ((HB4.o.trans (hbd.mono HB4.o.size)).mono hzr));have HBY:=hid hbc;clear hbd hbc hXm4 hXs4;clear htt;go_wp2_with fail
     exact⟨⟨k+1,rfl,by omega,by go_num,HNX.o HG.o,HBX.o⟩,zw hlt⟩
   ·have HBX:=hid (HB.o.2.trans (HB4.o.mono hzr))
    have HBY:=hid HBW4.o
    rcases hfr:ms[k].fr.toList.isEmpty with _|_
    ·rcases hF:(q8 s.fs vs ms[k].fr).toList.isEmpty with _|_
     ·have HG:Hid (gives s vs p ms[k]=some (q8 s.fs vs ms[k].fr)):=by unfold Hid gives isSet;simp[*]
      clear htt;go_wp2_with fail
      go_quiet (fail)
      go_wp2_with fail
      rw[Exit.noGoto_ret];go_ret;exact⟨by rw[HSX.o _ HG.o];rfl,below_drewN HBY.o _⟩
     ·have HG:Hid (gives s vs p ms[k]=none):=by unfold Hid gives isSet;simp[*]
      clear htt;go_wp2_with fail
      go_quiet (fail)
      go_wp2_with fail
      exact⟨⟨k+1,rfl,by omega,by go_num,HNX.o HG.o,below_drewN HBX.o _⟩,zw hlt⟩
    ·have HG:Hid (gives s vs p ms[k]=some ms[k].pt):=by unfold Hid gives isSet;simp[*]
     clear htt;go_wp2_with fail
     go_quiet (fail)
     go_wp2_with fail
     rw[Exit.noGoto_ret];go_ret;exact⟨by rw[HSX.o _ HG.o];rfl,below_drewN HBY.o _⟩
  ·have e:k=ms.length:=by omega
   have hn:=HN.o;rw[e,tOl (Nat.le_refl _)]at hn;have HD:Hid (decided s ms p vs=vs[p]):=by unfold Hid decided;rw[hn,getD_at _ _ _ hpv];rfl
   subst e;clear hn HN;go_wp2_with fail
   rw[Exit.noGoto_ret];go_ret;exact⟨by rw[HD.o];rfl,HB.o.1⟩
end Go.Proofs.YthdfpinbnncghaaGreat
