import Derived.Test.YtkficnallnpjnaaGreatM17
set_option maxHeartbeats 4000000
namespace Go.Proofs.YtkficnallnpjnaaGreat
open Go.RowKit
theorem zmI (a0:Option Addr)(cap0:Nat)(ss:List Shp)(o:Ob)(a a':Option Addr)(cap cap':Nat)(w:World)(hw:yT w a0 ss)(ho:jP w o a a') :
 Calls Tryz.prog 102 #[.slice a0 ss.length cap0,.agg #[.string o.kd,.string o.nm,.string o.tm,.slice a o.vs.length cap,.bool o.en,.slice a' o.hs.length cap',.int .i64 o.vr]] w fun e w'=>e=.returned (.tuple #[.int .i64 (yC ss o).1,.int .i64 (yC ss o).2])/\Below w.heap.size w w':=by
 have hlh:=ho.holds.len;unfold maxLen at hlh
 by_cases hc:zB ss o=true
 rotate_left
 ·have HCt:Hid (zB ss o=false):=by simpa[Hid] using hc
  have HR:Hid (yC ss o=(1,0)):=by unfold Hid yC;rw[if_neg];unfold whole;rw[HCt.out];simp
  clear hc;go_enter Tryz.func102,Tryz.ntmps102;go_wp2_with fail
  refine(zc2 _ _ _ _ _ _ _ _ _ (hw.mono (bAl _ _)) (ho.mono (bAl _ _)) HCt.out).mono ?_;rintro e w1⟨v,rfl,hb1⟩;have hB1:Below w.heap.size w w1:=(bAl _ _).trans (hb1.mono (by simp));clear hb1;go_wp2_with fail
  go_ret2
  exact⟨by rw[HR.out];rfl,hB1⟩
 have HCt:=hid hc
 by_cases hn:zA o.nm=true
 rotate_left
 ·have hn':zA o.nm=false:=by simpa using hn
  have HNm:=hid hn';clear hn hc
  have HR:Hid (yC ss o=(1,0)):=by
   unfold Hid yC;rw[if_neg];unfold whole qH;simp[hn']
  go_enter Tryz.func102,Tryz.ntmps102;go_wp2_with fail
  refine(jc _ _ _ _ _ _ _ _ _ (hw.mono (bAl _ _)) (ho.mono (bAl _ _)) HCt.out).mono ?_;rintro e w1⟨fa,fcap,rfl,hfl0,hb1⟩;have hX1:=za (zl w _ _) (by simp) hb1;have hz1:w.heap.size<w1.heap.size:=by have:=hb1.size;simp at this;omega
  have hB1:Below w.heap.size w w1:=(bAl _ _).trans (hb1.mono (by simp));have hfl1:=hfl0.mono hb1;clear hb1 hfl0;go_wp2_with fail
  refine(zf HNm.out (zk _ _ ho.small.nm)).mono ?_;rintro e w2⟨rfl,rfl⟩;go_wp2_with fail
  go_ret2
  exact⟨by rw[HR.out];rfl,hB1⟩
 have HNm:=hid hn
 by_cases ht:zA o.tm=true
 rotate_left
 ·have ht':zA o.tm=false:=by simpa using ht
  have HTm:=hid ht';clear ht hc hn
  have HR:Hid (yC ss o=(1,0)):=by
   unfold Hid yC;rw[if_neg];unfold whole qH;simp[ht']
  go_enter Tryz.func102,Tryz.ntmps102;go_wp2_with fail
  refine(jc _ _ _ _ _ _ _ _ _ (hw.mono (bAl _ _)) (ho.mono (bAl _ _)) HCt.out).mono ?_;rintro e w1⟨fa,fcap,rfl,hfl0,hb1⟩;have hX1:=za (zl w _ _) (by simp) hb1;have hz1:w.heap.size<w1.heap.size:=by have:=hb1.size;simp at this;omega
  have hB1:Below w.heap.size w w1:=(bAl _ _).trans (hb1.mono (by simp));have hfl1:=hfl0.mono hb1;clear hb1 hfl0;go_wp2_with fail
  refine(zf HNm.out (zk _ _ ho.small.nm)).mono ?_;rintro e w2⟨rfl,rfl⟩;go_wp2_with fail
  refine(zf HTm.out (zk _ _ ho.small.tm)).mono ?_;rintro e w3⟨rfl,rfl⟩;go_wp2_with fail
  go_ret2
  exact⟨by rw[HR.out];rfl,hB1⟩
 have HTm:=hid ht
 by_cases h3:o.hs.length<=3
 rotate_left
 ·have h3I:(3:Int)<(o.hs.length:Int):=by omega
  clear ht hc hn
  have HR:Hid (yC ss o=(1,0)):=by
   unfold Hid yC;rw[if_neg];unfold whole qW;simp[show ¬o.hs.length<=3 by omega]
  go_enter Tryz.func102,Tryz.ntmps102;go_wp2_with fail
  refine(jc _ _ _ _ _ _ _ _ _ (hw.mono (bAl _ _)) (ho.mono (bAl _ _)) HCt.out).mono ?_;rintro e w1⟨fa,fcap,rfl,hfl0,hb1⟩;have hX1:=za (zl w _ _) (by simp) hb1;have hz1:w.heap.size<w1.heap.size:=by have:=hb1.size;simp at this;omega
  have hB1:Below w.heap.size w w1:=(bAl _ _).trans (hb1.mono (by simp));have hfl1:=hfl0.mono hb1;clear hb1 hfl0;go_wp2_with fail
  refine(zf HNm.out (zk _ _ ho.small.nm)).mono ?_;rintro e w2⟨rfl,rfl⟩;go_wp2_with fail
  refine(zf HTm.out (zk _ _ ho.small.tm)).mono ?_;rintro e w3⟨rfl,rfl⟩;go_wp2_with fail
  go_ret2
  exact⟨by rw[HR.out];rfl,hB1⟩
 have h3I:(o.hs.length:Int)<=3:=by omega
 by_cases ha:asc o.hs=true
 rotate_left
 ·have ha':asc o.hs=false:=by simpa using ha
  have HAsc:=hid ha';clear ht hc hn ha
  have HR:Hid (yC ss o=(1,0)):=by
   unfold Hid yC;rw[if_neg];unfold whole qW;simp[ha']
  go_enter Tryz.func102,Tryz.ntmps102;go_wp2_with fail
  refine(jc _ _ _ _ _ _ _ _ _ (hw.mono (bAl _ _)) (ho.mono (bAl _ _)) HCt.out).mono ?_;rintro e w1⟨fa,fcap,rfl,hfl0,hb1⟩;have hX1:=za (zl w _ _) (by simp) hb1;have hz1:w.heap.size<w1.heap.size:=by have:=hb1.size;simp at this;omega
  have hB1:Below w.heap.size w w1:=(bAl _ _).trans (hb1.mono (by simp));have hfl1:=hfl0.mono hb1;clear hb1 hfl0;go_wp2_with fail
  refine(zf HNm.out (zk _ _ ho.small.nm)).mono ?_;rintro e w2⟨rfl,rfl⟩;go_wp2_with fail
  refine(zf HTm.out (zk _ _ ho.small.tm)).mono ?_;rintro e w3⟨rfl,rfl⟩;go_wp2_with fail
  refine(zf HAsc.out (zau _ _ _ _ (ho.holds.mono hB1))).mono ?_;rintro e w4⟨rfl,nd,rfl⟩;go_wp2_with fail
  go_ret2
  exact⟨by rw[HR.out];rfl,below_drewN hB1 _⟩
 have HAsc:=hid ha
 by_cases hv:0<=o.vr/\o.vr<=1000000
 rotate_left
 ·have HV:=hid hv
  have HR:Hid (yC ss o=(1,0)):=by
   unfold Hid yC;rw[if_neg];unfold whole qx;intro h;simp only[Bool.and_eq_true,decide_eq_true_eq]at h;exact hv h.1.2
  clear ht hc hn ha hv;go_enter Tryz.func102,Tryz.ntmps102;go_wp2_with fail
  refine(jc _ _ _ _ _ _ _ _ _ (hw.mono (bAl _ _)) (ho.mono (bAl _ _)) HCt.out).mono ?_;rintro e w1⟨fa,fcap,rfl,hfl0,hb1⟩;have hX1:=za (zl w _ _) (by simp) hb1;have hz1:w.heap.size<w1.heap.size:=by have:=hb1.size;simp at this;omega
  have hB1:Below w.heap.size w w1:=(bAl _ _).trans (hb1.mono (by simp));have hfl1:=hfl0.mono hb1;clear hb1 hfl0;go_wp2_with fail
  refine(zf HNm.out (zk _ _ ho.small.nm)).mono ?_;rintro e w2⟨rfl,rfl⟩;go_wp2_with fail
  refine(zf HTm.out (zk _ _ ho.small.tm)).mono ?_;rintro e w3⟨rfl,rfl⟩;go_wp2_with fail
  refine(zf HAsc.out (zau _ _ _ _ (ho.holds.mono hB1))).mono ?_;rintro e w4⟨rfl,nd,rfl⟩;go_wp2_with fail
  refine(zc7 _ _ _ _ (by have:=HV.out;omega)).mono ?_;rintro e w5⟨rfl,rfl⟩;go_wp2_with fail
  go_ret2
  exact⟨by rw[HR.out];rfl,below_drewN hB1 _⟩
 obtain⟨hv0,hv1⟩:=hv
 have HR:Hid (yC ss o=jJ (shapeOf ss o.kd).fs o.vs):=by
  unfold Hid yC;rw[if_pos];unfold whole qH qW qx;simp[hc,hn,ht,h3,ha,hv0,hv1]
 have HLn:Hid (o.vs.length=(shapeOf ss o.kd).fs.length):=by
  unfold zB at hc;simp only[Bool.and_eq_true,decide_eq_true_eq]at hc;exact hc.2
 clear hc hn ht ha;go_enter Tryz.func102,Tryz.ntmps102;go_wp2_with fail
 refine(jc _ _ _ _ _ _ _ _ _ (hw.mono (bAl _ _)) (ho.mono (bAl _ _)) HCt.out).mono ?_;rintro e w1⟨fa,fcap,rfl,hfl0,hb1⟩;have hX1:=za (zl w _ _) (by simp) hb1;have hz1:w.heap.size<w1.heap.size:=by have:=hb1.size;simp at this;omega
 have hB1:Below w.heap.size w w1:=(bAl _ _).trans (hb1.mono (by simp));have hfl1:=hfl0.mono hb1;clear hb1 hfl0;go_wp2_with fail
 refine(zf HNm.out (zk _ _ ho.small.nm)).mono ?_;rintro e w2⟨rfl,rfl⟩;go_wp2_with fail
 refine(zf HTm.out (zk _ _ ho.small.tm)).mono ?_;rintro e w3⟨rfl,rfl⟩;go_wp2_with fail
 refine(zf HAsc.out (zau _ _ _ _ (ho.holds.mono hB1))).mono ?_;rintro e w4⟨rfl,nd,rfl⟩;go_wp2_with fail
 refine(zbz _ _ _ _ hv0 hv1).mono ?_;rintro e w5⟨rfl,rfl⟩
 generalize hfs:(shapeOf ss o.kd).fs=fs at *
 have hlen:=hfl1.len;unfold maxLen at hlen;go_wp2_with fail
 go_loopw [8] (fun i wr=>∃k:Nat,k<=fs.length/\i=.int .i64 k/\up (za9 fs o.vs) k=true/\Below w3.heap.size w3 wr) (fun i _=>fs.length-(intOf i).toNat)
 case atStart=>exact⟨0,Nat.zero_le _,rfl,rfl,below_drewN (bRf _ _) _⟩
 case round=>
  obtain⟨k,hk,rfl,hup,hBr⟩:=hrel;have hszr:=hBr.size;have hB:Below w.heap.size w wr:=hB1.trans (hBr.mono (by omega))
  by_cases hlt:k<fs.length
  ·have hXr:=za hX1 hz1 hBr
   obtain⟨b,off,rfl,hb,hr⟩:=hfl1.rows (by rintro rfl;simp at hlt);obtain⟨wa,wcap,hf0⟩:=hr k hlt;have hf:=hf0.mono hb hBr;obtain⟨c0,c1,c2,c3,c4,c5,c6,c7,c8,c9,c10⟩:=hf.load;have hst:=hf.strs;have hltv:k<o.vs.length:=by rw[HLn.out];exact hlt
   obtain⟨vb,voff,rfl,hvb,hvc⟩:=ho.vals.cells (by intro h;rw[h]at hltv;simp at hltv);have hcv:=(hB.cell (p:=⟨vb,voff+k,none⟩) hvb).trans (hvc k hltv);have hvs:=ho.vals.small _ (List.getElem_mem hltv);have hltI:(k:Int)<(fs.length:Int):=by omega
   have hltV:(k:Int)<(o.vs.length:Int):=by omega
   have HFX:=hid (zjb hlt hltv)
   have HS:Hid (zaC fs[k] o.vs[k]=0->up (za9 fs o.vs) (k+1)=true):=fun h=>by
    rw[qZ,hup];unfold za9;rw[HFX.out,h];rfl
   have HN:Hid (∀n:Int,n≠0->zaC fs[k] o.vs[k]=n->yC ss o=(n,(k:Int))):=fun n hn0 h=>by
    rw[HR.out,zlp hlt hup (by unfold za9;rw[HFX.out,h];simp[hn0]),HFX.out,h]
   clear hX1 hr hf0 hf hup
   by_cases he:o.vs[k].size=0
   ·have hne:o.vs[k].toList.isEmpty=true:=by rw[zx];simp[he]
    have HE:=hid he;clear he
    by_cases hmu:fs[k].mu=true
    ·have HM:=hid hmu
     go_wp2_with fail
     go_ret2
     have hv:=HN.out 2 (by decide) (by unfold zaC;rw[if_pos HE.out,if_pos HM.out]);exact⟨by rw[hv];rfl,hB⟩
    ·have hmu':fs[k].mu=false:=by simpa using hmu
     have HM:=hid hmu';clear hmu;go_wp2_with fail
     exact⟨⟨k+1,by omega,by go_num,HS.out (by unfold zaC;rw[if_pos HE.out,HM.out];rfl),hBr⟩,by simp[intOf];omega⟩
   ·have hne:o.vs[k].toList.isEmpty=false:=by rw[zx];simp[he]
    have HE:Hid (¬o.vs[k].size=0):=he;clear he
    by_cases hfit:fits fs[k].kd fs[k].ls fs[k].ms fs[k].ws o.vs[k]=true
    all_goals
     first
      | (have HFT:Hid (fits fs[k].kd fs[k].ls fs[k].ms fs[k].ws o.vs[k]=true):=hfit)
      | (have HFT:Hid (fits fs[k].kd fs[k].ls fs[k].ms fs[k].ws o.vs[k]=false):=by simpa[Hid] using hfit)
     clear hfit;go_wp2_with fail
     have hbx:Below wr.heap.size wr wr.drew:=(bRf _ _).drew
     go_region_with (go_at_call 139;refine(zf HFT.out (yU _ _ _ _ _ _ _ _ _ _ _ _ _ _ _ hvs (by exact hst.mono hbx))).mono ?_;rintro e w3⟨rfl,hb3⟩)
     all_goals go_wp2_with fail
    all_goals have hB3:Below wr.heap.size wr w3:=hbx.trans hb3
    all_goals first
     | (have hft:fits fs[k].kd fs[k].ls fs[k].ms fs[k].ws o.vs[k]=true:=HFT.out
        exact⟨⟨k+1,by omega,by go_num,HS.out (by unfold zaC;rw[if_neg HE.out];unfold zfx;rw[hft];rfl),hBr.trans (hB3.mono hszr)⟩,by simp[intOf];omega⟩)
     | (have hft:fits fs[k].kd fs[k].ls fs[k].ms fs[k].ws o.vs[k]=false:=HFT.out
        go_ret2
        have hv:=HN.out 3 (by decide) (by unfold zaC;rw[if_neg HE.out];unfold zfx;rw[hft];rfl);exact⟨by rw[hv];rfl,hB.trans (hB3.mono (by omega))⟩)
  ·have HF:Hid (yC ss o=(0,0)):=by
    have e:k=fs.length:=by omega
    subst e;rw[HR.out];exact zic hup
   clear hup;go_wp2_with fail
   go_ret2
   exact⟨by rw[HF.out];rfl,hB⟩
end Go.Proofs.YtkficnallnpjnaaGreat
