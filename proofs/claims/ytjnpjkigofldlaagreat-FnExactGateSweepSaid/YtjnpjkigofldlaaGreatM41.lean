import Derived.Test.YtjnpjkigofldlaaGreatM39
import Derived.Deep.CutRange
set_option maxRecDepth 20000
set_option maxHeartbeats 40000000
namespace Go.Proofs.YtjnpjkigofldlaaGreat
open Go.RowKit
theorem znT {P:Program}{f:FuncId}{args:AV}{w:World}{b c:Int}{R:World->Prop}(hb:b=c)(h:Calls P f args w fun e w'=>e=.returned (.i b)/\R w'):Calls P f args w fun e w'=>e=.returned (.i c)/\R w':=by
 subst hb;exact h
theorem zkK {a b:BA}(h:a=b):Ending.returned (.s a)=.returned (.s b):=by rw[h]
theorem ztT {s:Shp}{ms:List Mnd}{p:Nat}(hrd:∀x∈yC s ms p,0<=x/\x<s.fs.length){m:Mnd}(hm:m∈ms)(ht:turns m s p=true){v:BA}(hv:v∈zT m):∃j:Nat,j<s.fs.length/\yh s.fs v=(j:Int):=by
 have h:=hrd (yh s.fs v) (by
  unfold yC;rw[List.mem_flatMap];refine⟨m,hm,?_⟩;rw[if_pos ht];exact List.mem_map.2 ⟨v,hv,rfl⟩)
 exact⟨(yh s.fs v).toNat,by omega,by omega⟩
theorem zlP (s:Shp)(ms:List Mnd)(o:Ob)(vs:List BA)(p:Nat)(fa ma va ha:OA)(fcap mcap vcap hcap:Nat)(w:World)(hf:yw w fa s.fs)(hm:qQ w ma ms)(hv:zD w va vs)(hc:vs.length=s.fs.length)(hp:p<s.fs.length)(hix:yh s.fs s.fs[p].nm=(p:Int))(hkd:o.kd=s.kd)(hrd:∀x∈yC s ms p,0<=x/\x<s.fs.length) :
 Calls Tryz.prog 207 #[.l fa s.fs.length fcap,.l ma ms.length mcap,.agg #[.s o.kd,.s o.nm,.s o.tm,.l va vs.length vcap,.bool o.en,.l ha o.hs.length hcap,.i o.vr],.s s.fs[p].nm] w fun e w'=>e=.returned (.s (decided s ms p vs))/\Bw w w':=by
 have hpv:p<vs.length:=by omega
 have hml:=hm.len;have hl:=hv.len;unfold maxLen at hl hml;obtain⟨vb,voff,rfl,hvb,hcell⟩:=hv.cells (by rintro rfl;simp at hpv);have HC:Hid (∀W,Bw w W->∀i (h:i<vs.length),W.cell? (aD vb (voff+i))=some (.s vs[i])):=fun W hb i h=>(hb.cell (p:=(aD vb (voff+i))) hvb).trans (hcell i h)
 have HF:Hid (∀W,Bw w W->yw W fa s.fs):=fun W hb=>hf.mono hb
 have HM:=zkq hm hc hix hkd hrd;clear hf hm hv hc hcell hix hkd hrd;go_in
 go_upto_region 1 with fail
 refine jG (fun W=>Bw w W/\W.heap[w.heap.size]?=some (.cells #[.s o.kd,.s o.nm,.s o.tm,.l (some (aD vb voff)) vs.length vcap,.bool o.en,.l ha o.hs.length hcap,.i o.vr] 116)) ⟨bAl _ _,(MapKept.heap_alloc w _).1⟩ ?_;rintro W0 hW0;have H0:=hid hW0;clear hW0;go_wp2_with fail
 go_loopg [9] ms.length (fun g iv wr=>∃k:Nat,k+g=ms.length/\iv=.i k/\Hid ((ms.take k).findSome? (gives s vs p)=none)/\Hid (Bw w wr/\wr.heap[w.heap.size]?=some (.cells #[.s o.kd,.s o.nm,.s o.tm,.l (some (aD vb voff)) vs.length vcap,.bool o.en,.l ha o.hs.length hcap,.i o.vr] 116)))
 case atStart=>exact⟨0,by omega,rfl,rfl,H0⟩
 case round=>
  clear H0;obtain⟨k,hk,rfl,HN,HB⟩:=hrel;have hXo:=fun j=>cell_of_block (o:=j) HB.o.2
  have hvz:vb<wr.heap.size:=nLt hvb HB.o.1.size;have hzo:=(gES HB.o.2).1
  by_cases hlt:k<ms.length
  ·obtain⟨mb,moff,rfl,hmb,c0,c1,c2,c3,c4,c5⟩:=HM.o.1.load HB.o.1 k hlt
   have hltI:(k:Int)<(ms.length:Int):=by omega
   obtain⟨m,hmE⟩:=xN (ms[k])
   have HNX:Hid (gives s vs p m=none->(ms.take (k+1)).findSome? (gives s vs p)=none):=by
    intro h;rw[tSe hlt,List.findSome?_append,HN.o,<- hmE]
    simp[h]
   have HSX:Hid (∀x,gives s vs p m=some x->decided s ms p vs=x):=by
    intro x h;unfold decided
    have e:ms.findSome? (gives s vs p)=some x:=by
     conv=>lhs;rw[<- List.take_append_drop k ms,List.drop_eq_getElem_cons hlt]
     rw[List.findSome?_append,HN.o,List.findSome?_cons,<- hmE,h]
     rfl
    rw[e];rfl
   have HRD:Hid (turns m s p=true->∀v,isSet v=true->v=m.wh \/ v=m.fr->∃j:Nat,∃h:j<vs.length,yh s.fs v=(j:Int)/\qX s.fs vs v=vs[j]):=fun ht v hs hv=>by
    obtain⟨j,hj,hx⟩:=ztT HM.o.2.2.2.2 (hmE ▸ List.getElem_mem hlt) ht (show v∈zT m by unfold zT;rw[List.mem_filter];exact⟨by simpa using hv,hs⟩);have hjv:j<vs.length:=by rw[HM.o.2.1];exact hj
    exact⟨j,hjv,hx,by rw[zg3 hx,getD_at vs j _ hjv]⟩
   have HTU:Hid (turns m s p=((m.kd.toList == o.kd.toList)&&(m.fd.toList == s.fs[p].nm.toList))):=by
    rw[Hid,beq_toList,beq_toList,HM.o.2.2.2.1];unfold turns;rw[getD_at s.fs p _ hp]
   rw[<- hmE]at c0 c1 c2 c3 c4 c5;clear HN hmE
   go_upto_region 5 with fail
   refine jG (fun W=>Bw w W/\W.heap[w.heap.size]?=some (.cells #[.s o.kd,.s o.nm,.s o.tm,.l (some (aD vb voff)) vs.length vcap,.bool o.en,.l ha o.hs.length hcap,.i o.vr] 116)/\W.heap[wr.heap.size]?=some (.cells #[.s m.kd,.s m.fd,.s m.wh,.s m.wi,.s m.pt,.s m.fr] 132)) ⟨HB.o.1.alloc HB.o.1.size _,(((bRf _ wr).alloc (Nat.le_refl _) _).block _ hzo).trans HB.o.2,(MapKept.heap_alloc wr _).1⟩ ?_;rintro W2 hW2;obtain⟨kM,hkM⟩:∃x,x=wr.heap.size:=⟨_,rfl⟩
   rw[<- hkM]at hW2 ⊢;have H2:=hid hW2;have hXm:=fun j=>cell_of_block (o:=j) hW2.2.2
   have hzm:=(gES hW2.2.2).1;clear hXo hzo hvz;have hXo:=fun j=>cell_of_block (o:=j) hW2.2.1
   have hzo:=(gES hW2.2.1).1;have hvz:vb<W2.heap.size:=nLt hvb H2.o.1.size;obtain⟨app,happ⟩:∃x,x=decide (turns m s p=true/\¬(isSet m.wh=true/\qX s.fs vs m.wh≠m.wi)):=⟨_,rfl⟩
   have HAP:=hid happ;clear hW2 hkM c0 c1 c2 c3 c4 c5 HB happ
   go_cut [50] from 12 to 66 (fun vx W=>vx=.bool (!app)/\Hid (Bw w W/\W.heap[w.heap.size]?=some (.cells #[.s o.kd,.s o.nm,.s o.tm,.l (some (aD vb voff)) vs.length vcap,.bool o.en,.l ha o.hs.length hcap,.i o.vr] 116)/\W.heap[kM]?=some (.cells #[.s m.kd,.s m.fd,.s m.wh,.s m.wi,.s m.pt,.s m.fr] 132)))
   case first=>
    have HZ:Hid (∀n,Bw w (W2.drewN n)/\(W2.drewN n).heap[w.heap.size]?=some (.cells #[.s o.kd,.s o.nm,.s o.tm,.l (some (aD vb voff)) vs.length vcap,.bool o.en,.l ha o.hs.length hcap,.i o.vr] 116)/\(W2.drewN n).heap[kM]?=some (.cells #[.s m.kd,.s m.fd,.s m.wh,.s m.wi,.s m.pt,.s m.fr] 132)):=fun n=>⟨below_drewN H2.o.1 n,H2.o.2⟩
    rcases hkd:(m.kd.toList == o.kd.toList) with _|_
    ·go_quiet (fail)
     go_wp2
     go_meet
     case rel=>exact⟨by rw[HAP.o,HTU.o,hkd];simp,HZ.o _⟩
    rcases hfd:(m.fd.toList == s.fs[p].nm.toList) with _|_
    ·go_quiet (fail)
     go_wp2
     go_meet
     case rel=>exact⟨by rw[HAP.o,HTU.o,hkd,hfd];simp,HZ.o _⟩
    rcases hwh:m.wh.toList.isEmpty with _|_
    ·obtain⟨jw,hjw,hjx,hjv⟩:=HRD.o (by rw[HTU.o,hkd,hfd];rfl) m.wh (by unfold isSet;rw[hwh];rfl) (Or.inl rfl)
     have cw:=HC.o _ H2.o.1 jw hjw;have hjI:(jw:Int)<(vs.length:Int):=by omega
     have hj0:(0:Int)<=(jw:Int):=by omega
     have HJ:=yB hjx hjv;clear hjx hjv;have HJ1:=hid HJ.o.1
     go_quiet ((go_at_call 204;exact Calls.quiet_of_same (znT HJ1.o (zaY _ _ s.fs _ _ (by exact HF.o _ (below_drewN H2.o.1 _))))))
     go_wp2
     go_meet
     case rel=>exact⟨by rw[HAP.o,HTU.o,hkd,hfd,HJ.o.2,beq_toList];simp[isSet,hwh],HZ.o _⟩
    ·go_quiet (fail)
     go_wp2
     go_meet
     case rel=>exact⟨by rw[HAP.o,HTU.o,hkd,hfd];simp[isSet,hwh],HZ.o _⟩
   case rest=>
    obtain⟨rfl,H3⟩:=hcut;obtain⟨W3,rfl⟩:∃x,x=wc:=⟨_,rfl⟩
    clear hXm hXo H2 hzm hzo hvz;have hXm:=fun j=>cell_of_block (o:=j) H3.o.2.2
    have hXo:=fun j=>cell_of_block (o:=j) H3.o.2.1
    have hzm:=(gES H3.o.2.2).1;have hzo:=(gES H3.o.2.1).1;have hvz:vb<W3.heap.size:=nLt hvb H3.o.1.size;have hstep:IntKind.i64.wrap ((k:Int)+1)=((k+1:Nat):Int):=by rw[IntKind.wrap_i64];omega
    obtain⟨g1,rfl⟩:∃g,gk=g+1:=⟨gk-1,by omega⟩
    cases app with
    | false=>
     have HG:=hid (HNX.o (by unfold gives;rw[if_neg (of_decide_eq_false HAP.o.symm)]));go_wp2
     go_roundg g1
     case measure=>omega
     case rel=>exact⟨k+1,by omega,rfl,HG,⟨H3.o.1,H3.o.2.1⟩⟩
    | true=>
     have HA:=hid (of_decide_eq_true HAP.o.symm)
     rcases hfr:m.fr.toList.isEmpty with _|_
     ·obtain⟨jf,hjf,hjx,hjv⟩:=HRD.o HA.o.1 m.fr (by unfold isSet;rw[hfr];rfl) (Or.inr rfl)
      have cf:=HC.o _ H3.o.1 jf hjf;have hjI:(jf:Int)<(vs.length:Int):=by omega
      have hj0:(0:Int)<=(jf:Int):=by omega
      have HJ:=yB hjx hjv;clear hjx hjv;have HJ1:=hid HJ.o.1;have HZ:Hid (∀n,Bw w (W3.drewN n)/\(W3.drewN n).heap[w.heap.size]?=some (.cells #[.s o.kd,.s o.nm,.s o.tm,.l (some (aD vb voff)) vs.length vcap,.bool o.en,.l ha o.hs.length hcap,.i o.vr] 116)):=fun n=>⟨below_drewN H3.o.1 n,H3.o.2.1⟩
      go_wp2_with fail
      go_quiet ((go_at_call 204;exact Calls.quiet_of_same (znT HJ1.o (zaY _ _ s.fs _ _ (by exact HF.o _ (below_drewN H3.o.1 _))))))
      rcases hve:vs[jf].toList.isEmpty with _|_
      ·have HG:=hid (HSX.o vs[jf] (by unfold gives;rw[if_pos HA.o,HJ.o.2];simp[isSet,hfr,hve]))
       go_wp2
       go_ret;exact⟨zkK HG.o.symm,(HZ.o _).1⟩
      ·have HG:=hid (HNX.o (by unfold gives;rw[if_pos HA.o,HJ.o.2];simp[isSet,hfr,hve]))
       go_wp2
       go_roundg g1
       case measure=>omega
       case rel=>exact⟨k+1,by omega,rfl,HG,HZ.o _⟩
     ·have HG:=hid (HSX.o m.pt (by unfold gives;rw[if_pos HA.o];simp[isSet,hfr]))
      go_wp2
      go_ret;exact⟨zkK HG.o.symm,H3.o.1⟩
  ·have hnI:¬(k:Int)<(ms.length:Int):=by omega
   have HD:Hid (decided s ms p vs=vs[p]):=by
    have e:ms.findSome? (gives s vs p)=none:=by have:=HN.o;rwa [tOl (by omega)]at this
    unfold Hid decided;rw[e,getD_at vs p _ hpv];rfl
   have HJP:=hid HM.o.2.2.1;have cp:=HC.o _ HB.o.1 p hpv;have hpI:(p:Int)<(vs.length:Int):=by omega
   have hp0:(0:Int)<=(p:Int):=by omega
   go_wp2_with fail
   go_quiet ((go_at_call 204;exact Calls.quiet_of_same (znT HJP.o (zaY _ _ s.fs _ _ (by exact HF.o _ (below_drewN HB.o.1 _))))))
   go_wp2
   go_ret;exact⟨zkK HD.o.symm,below_drewN HB.o.1 _⟩
theorem zmA {a b:Int}:zdI a b<0↔a<b:=by
 unfold zdI
 split
 ·omega
 ·split <;> omega
theorem zln (b:Bk)(a0 a1 a2 a3:OA)(c0 c1 c2 c3:Nat)(w:World)(hb:qj w b a0 a1 a2 a3) :
 Calls Tryz.prog 65 #[.agg (b.cells a0 a1 a2 a3 c0 c1 c2 c3)] w fun e w'=>e=.returned (.bool (yK b))/\Bw w w':=by
 have HK:=hid hb;clear hb;unfold Bk.cells;go_in
 go_upto_region 1 with fail
 refine jG (fun W=>Bw w W/\W.heap[w.heap.size]?=some (.cells (bC b a0 a1 a2 a3 c0 c1 c2 c3) 40)) ⟨bAl _ _,(MapKept.heap_alloc w _).1⟩ ?_;rintro W0⟨h01,h02⟩;have HB:Hid (∀W,Bw W0 W->Bw w W/\(∀j,W.cell? (aD w.heap.size j)=(bC b a0 a1 a2 a3 c0 c1 c2 c3)[j]?)):=fun W h=>⟨h01.trans (h.mono h01.size),fun j=>cell_of_block ((h.block _ (gES h02).1).trans h02)⟩
 clear h01 h02;have cX:=(HB.o W0 (bRf _ _)).2
 by_cases hln:b.gs.length<=24
 rotate_left
 ·have HF:Hid (yK b=false):=by unfold Hid yK;rw[decide_eq_false hln];rfl
  have hg:(24:Int)<(b.gs.length:Int):=by omega
  go_wp2
  go_ret;exact⟨ze HF.o.symm,(HB.o _ (bRf _ _)).1⟩
 have hg:decide ((24:Int)<(b.gs.length:Int))=false:=by simp;omega
 have HLN:=hid hln;clear hln;go_wp2_with fail
 clear hg cX
 go_loopg [3] b.gs.length (fun gn iv wr=>∃k:Nat,k+gn=b.gs.length/\iv=.i k/\Hid ((b.gs.take k).all (qy b.given)=true/\za1 zcT b.gs k/\Bw W0 wr))
 case atStart=>exact⟨0,by omega,rfl,by simp,fun i _ h=>by omega,bRf _ _⟩
 case round=>
  obtain⟨k,hk,rfl,HQ⟩:=hrel;have hkn:k<=24:=by have:=HLN.o;omega
  have cX:=(HB.o _ HQ.o.2.2).2;have hstep:IntKind.i64.wrap ((k:Int)+1)=((k+1:Nat):Int):=by rw[IntKind.wrap_i64];omega
  by_cases hlt:k<b.gs.length
  ·obtain⟨g1,rfl⟩:∃g,gk=g+1:=⟨gk-1,by omega⟩
   obtain⟨ob,off,v0,q0,rfl,hob,hsm,hi0,d0,d1,d2,d3,d4,d5,d6⟩:=HK.o.gs.load (HB.o _ HQ.o.2.2).1 k hlt;have hltI:(k:Int)<(b.gs.length:Int):=by omega
   obtain⟨v,hvE⟩:∃v:Gr,∀h0:0<k,v=b.gs[k-1]'(by omega):=by
    by_cases h0:0<k
    ·exact⟨b.gs[k-1]'(by omega),fun _=>rfl⟩
    ·exact⟨b.gs[k],fun h=>absurd h h0⟩
   have HNo:Hid (qy b.given b.gs[k]=false->yK b=false):=fun h=>by unfold yK;rw[zaE _ _ _ hlt h];simp
   have HNa:Hid (0<k->0<=zcT v b.gs[k]->yK b=false):=fun h0 h=>by unfold yK;rw[zeI hlt h0 (Int.not_lt.2 (by rw[<- hvE h0];exact h))];simp
   have HYes:Hid (qy b.given b.gs[k]=true->(0<k->zcT v b.gs[k]<0)->(b.gs.take (k+1)).all (qy b.given)=true/\za1 zcT b.gs (k+1)):=fun h h'=>⟨by rw[qM _ _ _ hlt,HQ.o.1,h];rfl,zfY HQ.o.2.1 hlt (zj6 hlt fun h0=>by rw[<- hvE h0];exact h' h0)⟩
   have HVC:Hid (∀W,Bw w W->0<k->W.cell? (aD ob (off+(k-1)*7))=some (.i v.no)):=fun W hW h0=>by
    obtain⟨ob',off',v0',q0',e',-,-,-,e0,-⟩:=HK.o.gs.load hW (k-1) (by omega)
    cases e'
    rw[hvE h0];exact e0
   obtain⟨g,hgE⟩:=xN (b.gs[k]);rw[<- hgE]at d0 d1 d2 d3 d4 d5 d6 hsm hi0 HNo HNa HYes;have HSm:=yB hsm hi0;clear hvE hob hgE hsm hi0
   go_upto_region 7 with fail
   refine jG (fun W=>Bw wr W/\W.heap[wr.heap.size]?=some (.cells #[.i g.no,.s g.to,.s g.gb,.l v0 g.r.vs.length q0,.s g.r.kd,.s g.r.tm,.s g.r.px] 126)) ⟨bAl _ _,(MapKept.heap_alloc wr _).1⟩ ?_;rintro W5⟨h51,h52⟩;obtain⟨kG,hkG⟩:∃x,x=wr.heap.size:=⟨_,rfl⟩
   rw[<- hkG]at h52 ⊢
   have HV:Hid (∀W,Bw W5 W->((∀j,W.cell? (aD w.heap.size j)=(bC b a0 (some (aD ob off)) a2 a3 c0 c1 c2 c3)[j]?)/\(∀j,W.cell? (aD kG j)=(#[.i g.no,.s g.to,.s g.gb,.l v0 g.r.vs.length q0,.s g.r.kd,.s g.r.tm,.s g.r.px]:AV)[j]?)/\(0<k->W.cell? (aD ob (off+(k-1)*7))=some (.i v.no)))/\Bw W0 W/\yZ W v0 g.r.vs):=fun W h=>by
    have h5:=h51.trans (h.mono h51.size);have h6:=HQ.o.2.2.trans (h5.mono HQ.o.2.2.size);have hB:=HB.o _ h6;exact⟨⟨hB.2,fun j=>cell_of_block ((h.block _ (gES h52).1).trans h52),HVC.o _ hB.1⟩,h6,HSm.o.2.mono h5⟩
   obtain⟨y1,hy1⟩:∃x,x=(decide (1<=g.no)&&decide (g.no<=b.given)):=⟨_,rfl⟩
   obtain⟨x1,hx1⟩:∃x,x=(!y1||(decide (0<k)&&decide (g.no<=v.no))):=⟨_,rfl⟩
   obtain⟨x2,hx2⟩:∃x,x=(x1||!zC g.to):=⟨_,rfl⟩
   obtain⟨x3,hx3⟩:∃x,x=(x2||(!g.gb.toList.isEmpty&&!zC g.gb)):=⟨_,rfl⟩
   obtain⟨x4,hx4⟩:∃x,x=(x3||!zaH g.r):=⟨_,rfl⟩
   have HX:=zkq hy1 hx1 hx2 hx3 hx4;have hkw:IntKind.i64.wrap ((k:Int)-1)=(k:Int)-1:=by rw[IntKind.wrap_i64];omega
   have hki:decide (0<k)=true->0<k/\(0:Int)<=(k:Int)-1/\(k:Int)-1<(b.gs.length:Int)/\((k:Int)-1).toNat=k-1/\(1:Int)<=(k:Int):=fun h=>by have h:=of_decide_eq_true h;omega
   have HKI:=hid hki;have HD5:=hid (show Bw W5 W5.drew from(bRf _ _).drew);clear h51 h52 hkG d0 d1 d2 d3 d4 d5 d6 HVC hy1 hx1 hx2 hx3 hx4 cX hki;refine wp_region_held_drew (S:=fun W=>(∀j,W.cell? (aD w.heap.size j)=(bC b a0 (some (aD ob off)) a2 a3 c0 c1 c2 c3)[j]?)/\(∀j,W.cell? (aD kG j)=(#[.i g.no,.s g.to,.s g.gb,.l v0 g.r.vs.length q0,.s g.r.kd,.s g.r.tm,.s g.r.px]:AV)[j]?)/\(0<k->W.cell? (aD ob (off+(k-1)*7))=some (.i v.no))) (by kernel_rfl) (HV.o _ HD5.o).1 (fun H_=>?_);obtain⟨V,hVe⟩:∃x,x=W5.drew:=⟨_,rfl⟩
   rw[<- hVe]at HD5 H_ ⊢;clear hVe;refine tG 0 ?_;refine tG 1 ?_;refine tG 2 ?_;refine tG 3 ?_;refine cH 4 rfl fun K hK=>?_
   go_simp
   refine(zw HX.o.1.symm (zah _ _ _ _)).mono ?_;rintro e w6⟨rfl,rfl⟩
   (try go_wp2_with fail)
   refine hK.out _ _ H_ (fun H_=>?_);clear hK K
   (try simp only[Act.put,sA,s0,sS])
   refine tG 5 ?_;refine tG 6 ?_;refine sF 7 ?_;refine sF 8 ?_;refine sF 9 ?_;refine sFT 10 ?_;refine sFT 11 ?_;refine sFT 12 ?_;refine sFT 13 ?_
   refine sFT 14 ?_ (hy:=by
    intro hg hx w hSw;obtain⟨-,h1,h2,h3,h4⟩:=HKI.o hx
    go_simp
    try with_reducible rfl)
   refine sFT 15 ?_
   refine sFT (v:=.i v.no) 16 ?_ (hy:=by
    intro hg hx w hSw;obtain⟨h0,h1,h2,h3,h4⟩:=HKI.o hx;have e0:=hSw.2.2 h0
    go_simp)
   refine sFT 17 ?_;refine sFT 18 ?_;refine sFT 19 ?_;refine sF (v:=.bool (decide (0<k)&&decide (g.no<=v.no))) 20 ?_ (hy:=by intro hg w hSw;cases h:decide (0<k) <;> go_simp);refine tG (v:=.bool x1) 21 ?_ (hy:=by intro w hSw;rw[HX.o.2.1];cases h:y1 <;> go_simp);refine tG 22 ?_;refine sF 23 ?_;refine sF 24 ?_;refine cF 25 (.bool (zC g.to)) (fun W=>Bw W5 W) (fun hg K hK=>?_) ?_ HD5.o
   ·go_simp
    refine(yg _ _ HSm.o.1.to).mono ?_;rintro e w6⟨rfl,rfl⟩
    (try go_wp2_with fail)
    first|exact⟨rfl,hK.out _ H_ HD5.o⟩|exact hK.out _ H_ HD5.o
   rintro w7 hw7 H_;have HD6:=hid hw7;clear hw7 HD5
   (try simp only[Act.put,sA,s0,sS])
   refine sF 26 ?_;refine tG (v:=.bool x2) 27 ?_ (hy:=by intro w hSw;rw[HX.o.2.2.1];cases h:x1 <;> go_simp);refine tG 28 ?_;refine sF 29 ?_;refine sF 30 ?_;refine sF 31 ?_;refine sF 32 ?_;refine sFT 33 ?_;refine sFT 34 ?_;refine cFT 35 (.bool (zC g.gb)) (fun W=>Bw W5 W) (fun hg hx K hK=>?_) ?_ HD6.o
   ·go_simp
    refine(yg _ _ HSm.o.1.gb).mono ?_;rintro e w6⟨rfl,rfl⟩
    (try go_wp2_with fail)
    first|exact⟨rfl,hK.out _ H_ HD6.o⟩|exact hK.out _ H_ HD6.o
   rintro w8 hw8 H_;have HD7:=hid hw8;clear hw8 HD6
   (try simp only[Act.put,sA,s0,sS])
   refine sFT 36 ?_;refine sF (v:=.bool (!g.gb.toList.isEmpty&&!zC g.gb)) 37 ?_ (hy:=by intro hg w hSw;cases h:g.gb.toList.isEmpty <;> go_simp);refine tG (v:=.bool x3) 38 ?_ (hy:=by intro w hSw;rw[HX.o.2.2.2.1];cases h:x2 <;> go_simp);refine tG 39 ?_;refine sF 40 ?_;refine sF 41 ?_;refine cF 42 (.bool (zaH g.r)) (fun W=>Bw W5 W) (fun hg K hK=>?_) ?_ HD7.o
   ·go_simp
    refine(zoh g.r v0 q0 _ HSm.o.1.r (HV.o _ HD7.o).2.2).mono ?_;rintro e w6⟨rfl,hb6⟩
    (try go_wp2_with fail)
    have hb6:=HD7.o.trans (hb6.mono HD7.o.size)
    first|exact⟨rfl,hK.out _ (HV.o _ hb6).1 hb6⟩|exact hK.out _ (HV.o _ hb6).1 hb6
   rintro w9 hw9 H_;have HD8:=hid hw9;clear hw9 HD7
   (try simp only[Act.put,sA,s0,sS])
   refine sF 43 ?_;refine tG (v:=.bool x4) 44 ?_ (hy:=by intro w hSw;rw[HX.o.2.2.2.2];cases h:x3 <;> go_simp);refine wpAnyH_done (by kernel_rfl) ?_ _;clear H_ HKI
   have HGA:Hid (x4=(!qy b.given g||(decide (0<k)&&decide (g.no<=v.no)))):=by
    unfold Hid qy within;rw[HX.o.2.2.2.2,HX.o.2.2.2.1,HX.o.2.2.1,HX.o.2.1,HX.o.1]
    cases (decide (1<=g.no)&&decide (g.no<=b.given)) <;> cases (decide (0<k)&&decide (g.no<=v.no)) <;> cases zC g.to <;> cases g.gb.toList.isEmpty <;> cases zC g.gb <;> cases zaH g.r <;> rfl
   have HR9:=hid (HV.o _ HD8.o).2.1
   cases x4 with
   | true=>
    have HF:Hid (yK b=false):=by
     cases hq:qy b.given g with
     | false=>exact HNo.o hq
     | true=>
      have h:=HGA.o.symm;rw[hq]at h;simp only[Bool.not_true,Bool.false_or,Bool.and_eq_true,decide_eq_true_eq]at h;exact HNa.o h.1 (Int.not_lt.1 fun h2=>by have:=zmA.1 h2;omega)
    go_wp2
    go_ret;exact⟨ze HF.o.symm,(HB.o _ HR9.o).1⟩
   | false=>
    have HY:Hid ((b.gs.take (k+1)).all (qy b.given)=true/\za1 zcT b.gs (k+1)):=by
     have h:=HGA.o.symm;simp only[Bool.or_eq_false_iff,Bool.not_eq_false']at h;refine HYes.o h.1 fun h0=>?_
     have h2:=h.2;rw[decide_eq_true h0,Bool.true_and]at h2;exact zmA.2 (Int.not_le.1 (of_decide_eq_false h2))
    go_wp2
    go_roundg g1
    case measure=>omega
    case rel=>exact⟨k+1,by omega,rfl,HY.o.1,HY.o.2,HR9.o⟩
  ·have e:k=b.gs.length:=by omega
   subst e
   have HE:Hid (yK b=true):=by
    unfold Hid yK;rw[zg1 HQ.o.2.1 (Nat.le_refl _),decide_eq_true HLN.o]
    have:=HQ.o.1
    rw[tOl (Nat.le_refl _)]at this;rw[this];rfl
   have HR:=hid (HB.o _ HQ.o.2.2).1;clear HQ hlt hk;go_wp2
   go_ret;exact⟨ze HE.o.symm,HR.o⟩
theorem zlh (b:Bk)(a0 a1 a2 a3:OA)(c0 c1 c2 c3:Nat)(w:World)(hl:qj w b a0 a1 a2 a3)(ho:zb1 w a0 b.os)(hf:b.Few) :
 Calls Tryz.prog 24 #[.agg (bC b a0 a1 a2 a3 c0 c1 c2 c3)] w fun e w'=>∃own d0 d1 d2 d3 e0 e1 e2 e3,e=.returned (.agg (bC b d0 d1 d2 d3 e0 e1 e2 e3))/\BkL (w.heap.size+1+1+1) w'.heap.size w' own b d0 d1 d2 d3/\(zfb (w.heap.size+1+1+1) w' own (.l d2 b.ls.length e2) b.ls/\zgN (w.heap.size+1+1+1) w' own (.l d3 b.ps.length e3) b.ps)/\Bw w w':=by
 obtain⟨i0,hi0,hzi0,hsi0,hbi0⟩:=info_parts Tryz.zrj;obtain⟨i1,hi1,hzi1,hsi1,hbi1⟩:=info_parts Tryz.zsU;obtain⟨i2,hi2,hzi2,hsi2,hbi2⟩:=info_parts Tryz.ztn;obtain⟨i3,hi3,hzi3,hsi3,hbi3⟩:=info_parts Tryz.zs6;have HI0:=j3 hi0 hzi0 hsi0 hbi0;have HI1:=j3 hi1 hzi1 hsi1 hbi1;have HI2:=j3 hi2 hzi2 hsi2 hbi2;have HI3:=j3 hi3 hzi3 hsi3 hbi3;have HL:=hid hl;have HO:=hid ho;have HF:=hid hf;have hno:=hf.os.1;clear hl hf ho hi0 hzi0 hsi0 hbi0 hi1 hzi1 hsi1 hbi1 hi2 hzi2 hsi2 hbi2 hi3 hzi3 hsi3 hbi3;have k0:=zmi w (.cells (bC b a0 a1 a2 a3 c0 c1 c2 c3) 40) (.cells bZ 40) (.cells #[.i b.now,.i b.tick,.i b.given,.l none 0 0,.l none 0 0,.l none 0 0,.l none 0 0] 40);have hB0:=below3' w (.cells (bC b a0 a1 a2 a3 c0 c1 c2 c3) 40) (.cells bZ 40) (.cells #[.i b.now,.i b.tick,.i b.given,.l none 0 0,.l none 0 0,.l none 0 0,.l none 0 0] 40);obtain⟨W0,hW0⟩:=xN (((w.alloc (.cells (bC b a0 a1 a2 a3 c0 c1 c2 c3) 40)).alloc (.cells bZ 40)).alloc (.cells #[.i b.now,.i b.tick,.i b.given,.l none 0 0,.l none 0 0,.l none 0 0,.l none 0 0] 40));have hz0:W0.heap.size=w.heap.size+1+1+1:=by rw[hW0];simp
 go_in;go_wp2_with fail
 rw[<- hW0]at k0 hB0 ⊢;clear hW0;have HB0:=hid hB0;have HK0:=yB k0.1 k0.2.1;have HX0:=hid k0.2.2;clear hB0 k0
 go_loopw [4] (fun iv wr=>∃(k:Nat) (v:Value) (own:Nat->Lb),k<=b.os.length/\iv=.i k/\Hid (wr.heap[w.heap.size+1+1]?=some (.cells #[.i b.now,.i b.tick,.i b.given,v,.l none 0 0,.l none 0 0,.l none 0 0] 40)/\zd2 (w.heap.size+1+1+1) wr own v (b.os.take k)/\(∀q,q<(w.heap.size+1+1+1)->own q=(9,0,0))/\Below (w.heap.size+1+1) W0 wr)) (fun iv _=>b.os.length-(intOf iv).toNat)
 case atStart=>exact⟨0,_,fun _=>(9,0,0),Nat.zero_le _,rfl,HX0.o,⟨[],by simp,World.ownsRow_nil _ _ _ _,fun k hk=>by simp[Value.ownBlock]at hk,fun i hi=>absurd hi (by simp)⟩,fun _ _=>rfl,bRf _ _⟩
 case round=>
  obtain⟨k,v,own,hk,rfl,HQ⟩:=hrel;have hBr:Bw w wr:=HB0.o.trans (HQ.o.2.2.2.mono (by omega));have hzr:w.heap.size+1+1<wr.heap.size:=(gES HQ.o.1).1;have kP:=(HQ.o.2.2.2.block w.heap.size (by omega)).trans HK0.o.1;have cP:=fun j=>cell_of_block (o:=j) kP
  by_cases hlt:k<b.os.length
  ·obtain⟨ob,off,g0,g1,vc0,vc1,rfl,hob,hsm,hi0,hi1,d0,d1,d2,d3,d4,d5,d6⟩:=HO.o.load hBr k hlt
   have hltI:(k:Int)<(b.os.length:Int):=by omega
   have cX:=fun j=>cell_of_block (o:=j) HQ.o.1
   have fX:=fun j=>zf (o:=j) HQ.o.1
   have hS0:(fun w':World=>(∀j,w'.cell? (aD w.heap.size j)=(bC b (some (aD ob off)) a1 a2 a3 c0 c1 c2 c3)[j]?)/\w'.cell? (aD ob (off+k*7))=some (.s b.os[k].kd)/\w'.cell? (aD ob (off+k*7+1))=some (.s b.os[k].nm)/\w'.cell? (aD ob (off+k*7+2))=some (.s b.os[k].tm)/\w'.cell? (aD ob (off+k*7+3))=some (.l (some (aD g0 0)) b.os[k].vs.length vc0)/\w'.cell? (aD ob (off+k*7+4))=some (.bool b.os[k].en)/\w'.cell? (aD ob (off+k*7+5))=some (.l (some (aD g1 0)) b.os[k].hs.length vc1)/\w'.cell? (aD ob (off+k*7+6))=some (.i b.os[k].vr)) wr.drew:=⟨cP,d0,d1,d2,d3,d4,d5,d6⟩
   have HSS:Hid (∀W,Below (w.heap.size+1) wr W->(fun w':World=>(∀j,w'.cell? (aD w.heap.size j)=(bC b (some (aD ob off)) a1 a2 a3 c0 c1 c2 c3)[j]?)/\w'.cell? (aD ob (off+k*7))=some (.s b.os[k].kd)/\w'.cell? (aD ob (off+k*7+1))=some (.s b.os[k].nm)/\w'.cell? (aD ob (off+k*7+2))=some (.s b.os[k].tm)/\w'.cell? (aD ob (off+k*7+3))=some (.l (some (aD g0 0)) b.os[k].vs.length vc0)/\w'.cell? (aD ob (off+k*7+4))=some (.bool b.os[k].en)/\w'.cell? (aD ob (off+k*7+5))=some (.l (some (aD g1 0)) b.os[k].hs.length vc1)/\w'.cell? (aD ob (off+k*7+6))=some (.i b.os[k].vr)) W):=fun W hW=>⟨fun j=>(hW.cell (p:=(aD w.heap.size j)) (by show w.heap.size<_;omega)).trans (cP j),by
    have hob2:ob<w.heap.size+1:=by omega
    exact⟨(hW.cell (p:=(aD ob _)) hob2).trans d0,(hW.cell (p:=(aD ob _)) hob2).trans d1,(hW.cell (p:=(aD ob _)) hob2).trans d2,(hW.cell (p:=(aD ob _)) hob2).trans d3,(hW.cell (p:=(aD ob _)) hob2).trans d4,(hW.cell (p:=(aD ob _)) hob2).trans d5,(hW.cell (p:=(aD ob _)) hob2).trans d6⟩⟩
   have HII:=zao hsm hi0 hi1;have hob2:ob<wr.heap.size:=nLt hob hBr.size;clear hsm hi0 hi1;go_wp2_with fail
   clear cP d0 d1 d2 d3 d4 d5 d6;have cXd:wr.drew.cell? (aD (w.heap.size+1+1) 3)=some v:=cX 3;have hBd:Below (w.heap.size+1+1) W0 wr.drew:=HQ.o.2.2.2.drew;have hBdd:Bw wr wr.drew:=(bRf _ _).drew;refine zca (fun A A' w'=>∃u21 u22 u23 u24 u25 u26 u27 u28 u29 u30 u31 v' own',A'=(((((((((((A.put (some 21) u21).put (some 22) u22).put (some 23) u23).put (some 24) u24).put (some 25) u25).put (some 26) u26).put (some 27) u27).put (some 28) u28).put (some 29) u29).put (some 30) u30).put (some 31) u31)/\w'.heap[w.heap.size+1+1]?=some (.cells #[.i b.now,.i b.tick,.i b.given,v',.l none 0 0,.l none 0 0,.l none 0 0] 40)/\zd2 (w.heap.size+1+1+1) w' own' v' (b.os.take (k+1))/\(∀q,q<(w.heap.size+1+1+1)->own' q=(9,0,0))/\Below (w.heap.size+1+1) W0 w') ?_ ?_
   ·refine zfK (fun w'=>((∀j,w'.cell? (aD w.heap.size j)=(bC b (some (aD ob off)) a1 a2 a3 c0 c1 c2 c3)[j]?)/\w'.cell? (aD ob (off+k*7))=some (.s b.os[k].kd)/\w'.cell? (aD ob (off+k*7+1))=some (.s b.os[k].nm)/\w'.cell? (aD ob (off+k*7+2))=some (.s b.os[k].tm)/\w'.cell? (aD ob (off+k*7+3))=some (.l (some (aD g0 0)) b.os[k].vs.length vc0)/\w'.cell? (aD ob (off+k*7+4))=some (.bool b.os[k].en)/\w'.cell? (aD ob (off+k*7+5))=some (.l (some (aD g1 0)) b.os[k].hs.length vc1)/\w'.cell? (aD ob (off+k*7+6))=some (.i b.os[k].vr))/\w'.cell? (aD (w.heap.size+1+1) 3)=some v) [11] (by kernel_rfl) ⟨hS0,cXd⟩ (fun H_=>?_)
    refine tD 0 ?_ (hQ:=fun _ _ _ h=>by cases h.1);refine tD 1 ?_ (hQ:=fun _ _ _ h=>by cases h.1);refine tD 2 ?_ (hQ:=fun _ _ _ h=>by cases h.1);refine tD 3 ?_ (hQ:=fun _ _ _ h=>by cases h.1);refine tD 4 ?_ (hQ:=fun _ _ _ h=>by cases h.1);refine tD 5 ?_ (hQ:=fun _ _ _ h=>by cases h.1);refine tD 6 ?_ (hQ:=fun _ _ _ h=>by cases h.1);refine cD 7 fun K hK=>?_
    go_simp
    refine(zgE b.os[k] g0 0 g1 0 vc0 vc1 wr.drew ⟨HII.o.1,HII.o.2.1.mono hBdd,HII.o.2.2.mono hBdd⟩ (HF.o.os.2 k hlt).1 (HF.o.os.2 k hlt).2).mono ?_;rintro e w1⟨f0,h0,f1,h1,m,rfl,ht0,hm,hsm1,ht1,hb1d⟩;have hb1:Bw wr w1:=hBdd.trans hb1d;have hS1:=HSS.o w1 (hb1.mono (by omega));have hS2:=HSS.o _ ((hb1.alloc hb1.size (.cells (oC b.os[k] f0 f1 h0 h1) 116)).mono (by omega));have cX1:w1.cell? (aD (w.heap.size+1+1) 3)=some v:=(hb1.cell (p:=(aD (w.heap.size+1+1) 3)) hzr).trans cXd;have cX2:(w1.alloc (.cells (oC b.os[k] f0 f1 h0 h1) 116)).cell? (aD (w.heap.size+1+1) 3)=some v:=((hb1.alloc hb1.size _).cell (p:=(aD (w.heap.size+1+1) 3)) hzr).trans cXd
    (try go_wp2_with fail)
    refine hK.out _ _ (fun _=>⟨hS1,cX1⟩) (fun H_=>?_);clear hK K
    (try simp only[Act.put,sA,s0,sS])
    replace H_:=H_ (by decide)
    refine cD 8 fun K hK=>?_
    go_simp
    refine hK.out _ _ (fun _=>⟨hS2,cX2⟩) (fun H_=>?_);clear hK K
    (try simp only[Act.put,sA,s0,sS])
    replace H_:=H_ (by decide)
    refine cD 9 fun K hK=>?_
    obtain⟨ps,hps,hown,hlab,hent⟩:=HQ.o.2.1;have hown1:w1.ownsRow (w.heap.size+1+1+1) 116 7 v ps.length (ps.flatMap ObP.row):=yc hown hb1;have hpl:ps.length=(b.os.take k).length:=by rw[<- hps,List.length_map]
    rw[List.length_take]at hpl;have HPL:Hid (ps.length<=1048576):=by show _<=_;omega
    clear hpl;have hz1:=hb1.size;refine zin _ (.tmp 22) (.tmp 29) 35 rfl (w.heap.size+1+1+1) 116 i0 (.agg oZ) 7 112 Tryz.underlying35 HI0.o.1 HI0.o.2.1 HI0.o.2.2.1 HI0.o.2.2.2 rfl (by decide) _ _ _ rfl (hown1.alloc _) (aD w1.heap.size 0) 1 1 [.s b.os[k].kd,.s b.os[k].nm,.s b.os[k].tm,.l f0 b.os[k].vs.length h0,.bool b.os[k].en,.l f1 b.os[k].hs.length h1,.i b.os[k].vr] rfl rfl (zfi _ _ _) (by intro u hu;simp at hu;rcases hu with rfl|rfl|rfl|rfl|rfl|rfl|rfl <;> rfl) (by have:=HPL.o;unfold maxLen;omega) (by have:=HPL.o;omega) (by simp;omega) ?_;intro v' w4 hown' hgr hat;obtain⟨va,vc,rfl⟩:=zam hown';obtain⟨own',ho1,ho2⟩:=zd2.snoc hps hown hlab hent (by omega) hb1 ht0 hm hsm1 ht1 hgr hown' hat;have hvb:∀z,v.ownBlock=some z->(w.heap.size+1+1+1)<=z:=fun z hz=>(hown.lt z hz).1
    have kX4:w4.heap[w.heap.size+1+1]?=some (.cells #[.i b.now,.i b.tick,.i b.given,v,.l none 0 0,.l none 0 0,.l none 0 0] 40):=(hgr.block _ (by simp;omega) (fun e=>by have h9:=hlab _ e.symm;rw[HQ.o.2.2.1 _ (by omega)]at h9;simp at h9)).trans (((hb1.alloc hb1.size _).block _ hzr).trans HQ.o.1);have hB4:Below (w.heap.size+1+1) wr w4:=(((hb1.alloc hb1.size _).mono (by omega))).grown hgr (by simp;omega) (fun z hz=>by have:=hvb z hz;omega);have hS4:=HSS.o w4 (hB4.mono (by omega));have cX4:=fun j=>cell_of_block (o:=j) kX4
    have fX4:=fun j=>zf (o:=j) kX4
    have hz4:w.heap.size+1+1<w4.heap.size:=(gES kX4).1;refine hK.out _ _ (fun _=>⟨hS4,cX4 3⟩) (fun H_=>?_);clear hK K
    (try simp only[Act.put,sA,s0,sS])
    replace H_:=H_ (by decide)
    refine tD 10 ?_ (hQ:=fun _ _ _ h=>by cases h.1);refine cD 11 fun K hK=>?_
    go_simp
    refine hK.out _ _ (fun h=>absurd (by decide) h) (fun _=>?_);clear hK K
    (try simp only[Act.put,sA,s0,sS])
    refine zfy (by kernel_rfl) ?_ _;refine⟨rfl,_,_,_,_,_,_,_,_,_,_,_,_,own',rfl,zh kX4 _,?_,fun z hz=>(ho1 z (by omega)).trans (HQ.o.2.2.1 z hz),HQ.o.2.2.2.trans (hB4.setCell (Nat.le_refl _) (.l va (ps.length+1) vc))⟩;rw[tSe hlt];exact ho2.left ((Left.refl (fun z=>z=w.heap.size+1+1) w4).set rfl 3 (.l va (ps.length+1) vc)) (fun z h1 h2=>by subst h2;rw[ho1 _ (by omega),HQ.o.2.2.1 _ (by omega)]at h1;simp at h1)
   ·rintro A' w'⟨u21,u22,u23,u24,u25,u26,u27,u28,u29,u30,u31,v',own',rfl,hx',hr',hw',hB'⟩
    have HQ':=j3 hx' hr' hw' hB';clear hx' hr' hw' hB' HQ HSS HII hS0 cX fX cXd hBd hBdd
    (try simp only[Act.put,sA,s0,sS])
    go_wp2
    exact⟨⟨k+1,v',own',by omega,by go_num,HQ'.out⟩,zi hlt⟩
  ·have e:k=b.os.length:=by omega
   subst e;obtain⟨hx,hr,hw,hB⟩:=HQ.o;rw[tOl (Nat.le_refl _)]at hr;obtain⟨d0,e0,rfl,hn⟩:=hr.lie;have HE:=j3 hx hn hw hB;clear HQ hx hr hn hw hB hlt hk;go_wp2
   go_loopw [5] (fun iv wr=>∃(k:Nat) (v:Value) (own:Nat->Lb),k<=b.gs.length/\iv=.i k/\Hid (wr.heap[w.heap.size+1+1]?=some (.cells #[.i b.now,.i b.tick,.i b.given,.l d0 b.os.length e0,v,.l none 0 0,.l none 0 0] 40)/\jD (w.heap.size+1+1+1) wr own d0 b.os.length (jo b.os)/\ziA (w.heap.size+1+1+1) wr own v (b.gs.take k)/\(∀q,q<(w.heap.size+1+1+1)->own q=(9,0,0))/\Below (w.heap.size+1+1) W0 wr)) (fun iv _=>b.gs.length-(intOf iv).toNat)
   case atStart=>exact⟨0,_,own,Nat.zero_le _,rfl,HE.o.1,HE.o.2.1,⟨[],by simp,World.ownsRow_nil _ _ _ _,fun k hk=>by simp[Value.ownBlock]at hk,fun i hi=>absurd hi (by simp)⟩,HE.o.2.2.1,HE.o.2.2.2⟩
   case round=>
    clear HE;obtain⟨k,v,own,hk,rfl,HQ⟩:=hrel;have hBr:Bw w wr:=HB0.o.trans (HQ.o.2.2.2.2.mono (by omega));have hzr:w.heap.size+1+1<wr.heap.size:=(gES HQ.o.1).1;have kP:=(HQ.o.2.2.2.2.block w.heap.size (by omega)).trans HK0.o.1;have cP:=fun j=>cell_of_block (o:=j) kP
    have hng:=HF.o.gs.1
    by_cases hlt:k<b.gs.length
    ·obtain⟨ob,off,va,vc,rfl,hob,hsm,hi0,d0',d1,d2,d3,d4,d5,d6⟩:=HL.o.gs.load hBr k hlt
     have hltI:(k:Int)<(b.gs.length:Int):=by omega
     have hob2:ob<wr.heap.size:=nLt hob hBr.size;have HI:=hid hi0;have HBa:=hid ((bRf wr.heap.size wr).alloc (Nat.le_refl _) (.cells #[.i b.gs[k].no,.s b.gs[k].to,.s b.gs[k].gb,.l va b.gs[k].r.vs.length vc,.s b.gs[k].r.kd,.s b.gs[k].r.tm,.s b.gs[k].r.px] 126));clear hi0 hsm;go_wp2_with fail
     clear d0' d1 d2 d3 d4 d5 d6 cP;refine(zq9 b.gs[k].r va vc _ (HI.o.mono HBa.o) (HF.o.gs.2 k hlt)).mono ?_;rintro e w1⟨f0,h0,rfl,ht0,hb1⟩;have kG:=(hb1.block wr.heap.size (by simp)).trans (alloc_at wr (.cells #[.i b.gs[k].no,.s b.gs[k].to,.s b.gs[k].gb,.l va b.gs[k].r.vs.length vc,.s b.gs[k].r.kd,.s b.gs[k].r.tm,.s b.gs[k].r.px] 126));have hz1:wr.heap.size<w1.heap.size:=(gES kG).1;have hB1:Bw wr w1:=HBa.o.trans (hb1.mono (by simp));have hBW:Bw wr ((((w1.setCell (aD wr.heap.size 3) (.l f0 b.gs[k].r.vs.length h0)).setCell (aD wr.heap.size 4) (.s b.gs[k].r.kd)).setCell (aD wr.heap.size 5) (.s b.gs[k].r.tm)).setCell (aD wr.heap.size 6) (.s b.gs[k].r.px)):=(((hB1.setCell (Nat.le_refl _) _).setCell (Nat.le_refl _) _).setCell (Nat.le_refl _) _).setCell (Nat.le_refl _) _
     have htW:z8 (wr.heap.size+1) ((((w1.setCell (aD wr.heap.size 3) (.l f0 b.gs[k].r.vs.length h0)).setCell (aD wr.heap.size 4) (.s b.gs[k].r.kd)).setCell (aD wr.heap.size 5) (.s b.gs[k].r.tm)).setCell (aD wr.heap.size 6) (.s b.gs[k].r.px)) f0 b.gs[k].r.vs:=by
      have ht1:z8 (wr.heap.size+1) w1 f0 b.gs[k].r.vs:=by simpa using ht0
      exact(((ht1.setCell _ (Nat.lt_succ_self _) _).setCell _ (Nat.lt_succ_self _) _).setCell _ (Nat.lt_succ_self _) _).setCell _ (Nat.lt_succ_self _) _
     have kGW:=zh (o:=6) (zh (o:=5) (zh (o:=4) (zh (o:=3) kG (.l f0 b.gs[k].r.vs.length h0)) (.s b.gs[k].r.kd)) (.s b.gs[k].r.tm)) (.s b.gs[k].r.px);have cG:=fun j=>cell_of_block (o:=j) kG
     have fG:=fun j=>zf (o:=j) kG
     have cX1:∀j,w1.cell? (aD (w.heap.size+1+1) j)=(#[.i b.now,.i b.tick,.i b.given,.l d0 b.os.length e0,v,.l none 0 0,.l none 0 0]:AV)[j]?:=fun j=>(hB1.cell (p:=(aD (w.heap.size+1+1) j)) hzr).trans (cell_of_block HQ.o.1)
     have hxg:wr.heap.size≠w.heap.size+1+1:=by omega
     have HBW:=zao hBW htW kGW;have hzw:((((w1.setCell (aD wr.heap.size 3) (.l f0 b.gs[k].r.vs.length h0)).setCell (aD wr.heap.size 4) (.s b.gs[k].r.kd)).setCell (aD wr.heap.size 5) (.s b.gs[k].r.tm)).setCell (aD wr.heap.size 6) (.s b.gs[k].r.px)).heap.size=w1.heap.size:=by simp[World.setCell]
     have kXW:((((w1.setCell (aD wr.heap.size 3) (.l f0 b.gs[k].r.vs.length h0)).setCell (aD wr.heap.size 4) (.s b.gs[k].r.kd)).setCell (aD wr.heap.size 5) (.s b.gs[k].r.tm)).setCell (aD wr.heap.size 6) (.s b.gs[k].r.px)).heap[w.heap.size+1+1]?=some (.cells #[.i b.now,.i b.tick,.i b.given,.l d0 b.os.length e0,v,.l none 0 0,.l none 0 0] 40):=(hBW.block _ hzr).trans HQ.o.1;have HXW:=hid kXW;clear ht0 hb1 hB1 hBW htW kG kGW kXW HBa HI;obtain⟨W1,hW1⟩:=xN ((((w1.setCell (aD wr.heap.size 3) (.l f0 b.gs[k].r.vs.length h0)).setCell (aD wr.heap.size 4) (.s b.gs[k].r.kd)).setCell (aD wr.heap.size 5) (.s b.gs[k].r.tm)).setCell (aD wr.heap.size 6) (.s b.gs[k].r.px));rw[<- hW1]at HBW hzw HXW
     go_wp2_with (at_builtin;refine zcr ?_)
     rw[<- hW1];clear hW1 cG fG cX1
     show wpList _ _ _ _ _ _
     obtain⟨ps,hps,hown,hlab,hent⟩:=HQ.o.2.2.1;have HPS:=j3 hps hown hlab hent;have hpl:ps.length=(b.gs.take k).length:=by rw[<- hps,List.length_map]
     rw[List.length_take]at hpl;have HPL:Hid (ps.length<=1048576):=by show _<=_;omega
     have hownW:=yc hown HBW.o.1;clear hpl hps hown hlab hent;refine wpList_append_own_at _ rfl (.tmp 49) (.tmp 51) 36 rfl (w.heap.size+1+1+1) 126 i1 (.agg #[.i 0,.s ByteArray.empty,.s ByteArray.empty,.l none 0 0,.s ByteArray.empty,.s ByteArray.empty,.s ByteArray.empty]) 7 112 Tryz.underlying36 HI1.o.1 HI1.o.2.1 HI1.o.2.2.1 HI1.o.2.2.2 rfl (by decide) _ _ _ rfl (hownW.alloc _) (aD w1.heap.size 0) 1 1 [.i b.gs[k].no,.s b.gs[k].to,.s b.gs[k].gb,.l f0 b.gs[k].r.vs.length h0,.s b.gs[k].r.kd,.s b.gs[k].r.tm,.s b.gs[k].r.px] rfl rfl (by rw[<- hzw];exact zfi _ _ _) (by intro u hu;simp at hu;rcases hu with rfl|rfl|rfl|rfl|rfl|rfl|rfl <;> rfl) (by have:=HPL.o;unfold maxLen;omega) (by have:=HPL.o;omega) (by simp;omega) ?_;intro v' w4 hown' hgr _ hat;obtain⟨va',vc',rfl⟩:=zam hown';obtain⟨own',ho1,ho2⟩:=ziA.snoc HPS.o.1 HPS.o.2.1 HPS.o.2.2.1 HPS.o.2.2.2 (by omega) HBW.o.1 (HBW.o.2.1.low (by omega)) hgr hown' hat;have hvb:∀z,v.ownBlock=some z->(w.heap.size+1+1+1)<=z/\z<wr.heap.size:=fun z hz=>HPS.o.2.1.lt z hz
     have hL4:Left (fun z=>v.ownBlock=some z) wr w4:=(Left.of_below _ (HBW.o.1.alloc HBW.o.1.size _)).grown hgr (fun _ h=>h);have hwo:∀z,z<(w.heap.size+1+1+1)->own' z=(9,0,0):=fun z hz=>(ho1 z (by omega)).trans (HQ.o.2.2.2.1 z hz)
     have hob4:jD (w.heap.size+1+1+1) w4 own' d0 b.os.length (jo b.os):=(HQ.o.2.1.own (fun z hz _=>ho1 z hz)).left hL4 (fun z h1 h2=>by rw[ho1 z (hvb z h2).2,HPS.o.2.2.1 z h2]at h1;simp at h1);have kX4:w4.heap[w.heap.size+1+1]?=some (.cells #[.i b.now,.i b.tick,.i b.given,.l d0 b.os.length e0,v,.l none 0 0,.l none 0 0] 40):=(hL4.out _ hzr (fun h2=>by have:=(hvb _ h2).1;omega)).trans HQ.o.1;have hB4:Below (w.heap.size+1+1) wr w4:=hL4.below (fun z hz h2=>by have:=(hvb z h2).1;omega) (by omega);have hsx:=(Left.refl (fun z=>z=w.heap.size+1+1) w4).set (b:=w.heap.size+1+1) rfl 4 (.l va' (ps.length+1) vc')
     have HE4:Hid ((w4.setCell (aD (w.heap.size+1+1) 4) (.l va' (ps.length+1) vc')).heap[w.heap.size+1+1]?=some (.cells #[.i b.now,.i b.tick,.i b.given,.l d0 b.os.length e0,.l va' (ps.length+1) vc',.l none 0 0,.l none 0 0] 40)/\jD (w.heap.size+1+1+1) (w4.setCell (aD (w.heap.size+1+1) 4) (.l va' (ps.length+1) vc')) own' d0 b.os.length (jo b.os)/\ziA (w.heap.size+1+1+1) (w4.setCell (aD (w.heap.size+1+1) 4) (.l va' (ps.length+1) vc')) own' (.l va' (ps.length+1) vc') (b.gs.take (k+1))/\(∀q,q<(w.heap.size+1+1+1)->own' q=(9,0,0))/\Below (w.heap.size+1+1) W0 (w4.setCell (aD (w.heap.size+1+1) 4) (.l va' (ps.length+1) vc'))):=by
      refine⟨zh kX4 _,hob4.left hsx (fun z h1 h2=>by subst h2;rw[hwo _ (by omega)]at h1;simp at h1),?_,hwo,HQ.o.2.2.2.2.trans (hB4.setCell (Nat.le_refl _) _)⟩;rw[tSe hlt];exact ho2.left hsx (fun z h1 h2=>by subst h2;rw[hwo _ (by omega)]at h1;simp at h1)
     have cX4:=fun j=>cell_of_block (o:=j) kX4
     have fX4:=fun j=>zf (o:=j) kX4
     have hz4:w.heap.size+1+1<w4.heap.size:=(gES kX4).1;clear ho1 ho2 hL4 hwo hob4 kX4 hB4 hsx hown' hgr hat hownW HPS HBW HXW hzw HQ;go_wp2
     exact⟨⟨k+1,_,own',by omega,by go_num,HE4.o⟩,zi hlt⟩
    ·have e:k=b.gs.length:=by omega
     subst e;obtain⟨hx,hno1,hr,hw,hB⟩:=HQ.o;rw[tOl (Nat.le_refl _)]at hr;obtain⟨d1,e1,rfl,hn⟩:=hr.lie;have HN2:=j3 hno1 hn hw hB;have HW2:=hid hw;have kR:=(hB.block (w.heap.size+1) (by omega)).trans HK0.o.2;have HX2:=yB hx kR;have cX:=fun j=>cell_of_block (o:=j) hx
     have HBr:=hid hBr;clear HQ hr hn hno1 hw hB hlt hk kP kR hx hBr hng
     go_wp2_with (at_builtin;refine zcr ?_)
     clear cX cP
     show wpList _ _ _ _ _ _
     refine zex rfl (.tmp 55) (.tmp 57) 37 rfl 138 i2 (.agg #[.s ByteArray.empty,.s ByteArray.empty,.i 0,.i 0]) 4 48 Tryz.underlying37 HI2.o.1 HI2.o.2.1 HI2.o.2.2.1 HI2.o.2.2.2 rfl (by decide) rfl a2 b.ls.length c2 (b.ls.flatMap Lg.row) rfl (zcX _ 4 (fun _=>rfl) _) (fun h=>(HL.o.ls.mono HBr.o).from h) zrz (by have:=HF.o.ls;unfold maxLen;omega) (by have:=HF.o.ls;omega) ?_;intro v2 w3 hown hb3;obtain⟨d2,e2,rfl⟩:=zam hown;obtain⟨own3,he3⟩:∃own3:Nat->Lb,own3=fun k=>if k<wr.heap.size then own k else (2,0,0):=⟨_,rfl⟩
     have hw3:∀k,k<wr.heap.size->own3 k=own k:=fun k hk=>by rw[he3];exact if_pos hk
     have hR3:zfb wr.heap.size w3 own3 (.l d2 b.ls.length e2) b.ls:=⟨hown,fun k hk=>by rw[he3];exact if_neg (by have:=(hown.lt k hk).1;omega)⟩
     obtain⟨d2',e2',h9,hn3⟩:=hR3.lie
     cases h9
     have HRL:=hid (hR3.low (lo':=(w.heap.size+1+1+1)) (by omega));have HW3:Hid (∀k,k<(w.heap.size+1+1+1)->own3 k=(9,0,0)):=fun k hk=>(hw3 k (by omega)).trans (HW2.o k hk)
     have hz3:=hb3.size;have HN3:Hid (jD (w.heap.size+1+1+1) w3 own3 d0 b.os.length (jo b.os)/\zcl (w.heap.size+1+1+1) w3 own3 d1 b.gs.length (zcm b.gs)/\zaR (w.heap.size+1+1+1) w3 own3 d2 b.ls.length (zdl b.ls)):=⟨(HN2.o.1.own (fun k hk _=>hw3 k hk)).mono hb3,(HN2.o.2.1.own (fun k hk _=>hw3 k hk)).mono hb3,hn3.low (by omega)⟩
     have kX:=(hb3.block _ hzr).trans HX2.o.1;have kR:=(hb3.block (w.heap.size+1) (by omega)).trans HX2.o.2;have kP:=(hb3.block w.heap.size (by omega)).trans ((HN2.o.2.2.2.block w.heap.size (by omega)).trans HK0.o.1);have HB3:=hid (HBr.o.trans (hb3.mono HBr.o.size));clear hR3 hn3 hw3 he3 hown hb3 HN2 HW2 HX2;have cX:=fun j=>cell_of_block (o:=j) kX
     have fX:=fun j=>zf (o:=j) kX
     have hzz3:w.heap.size+1+1<w3.heap.size:=by omega
     have kX1:=zh (o:=5) kX (.l d2 b.ls.length e2);have kR1:=(zA (w:=w3) (o:=5) (v:=.l d2 b.ls.length e2) (show w.heap.size+1≠w.heap.size+1+1 by omega)).trans kR;have kP1:=(zA (w:=w3) (o:=5) (v:=.l d2 b.ls.length e2) (show w.heap.size≠w.heap.size+1+1 by omega)).trans kP;have HB3':=hid (HB3.o.setCell (p:=(aD (w.heap.size+1+1) 5)) (by show w.heap.size<=w.heap.size+1+1;omega) (.l d2 b.ls.length e2));have HK3:=yB kX1 kR1;have hLs:=(Left.refl (fun k=>k=w.heap.size+1+1) w3).set (b:=w.heap.size+1+1) rfl 5 (.l d2 b.ls.length e2);have HN3':=zao (HN3.o.1.left hLs (fun k h1 h2=>by subst h2;rw[HW3.o _ (by omega)]at h1;simp at h1)) (HN3.o.2.1.left hLs (fun k h1 h2=>by subst h2;rw[HW3.o _ (by omega)]at h1;simp at h1)) (HN3.o.2.2.left hLs (fun k h1 h2=>by subst h2;rw[HW3.o _ (by omega)]at h1;simp at h1));have HRL':=hid (HRL.o.left hLs (fun k h1 h2=>by subst h2;rw[HW3.o _ (by omega)]at h1;simp at h1));have hsz3:(w3.setCell (aD (w.heap.size+1+1) 5) (.l d2 b.ls.length e2)).heap.size=w3.heap.size:=World.size_setCell _ _ _;have cXX:=fun j=>cell_of_block (o:=j) kX1
     have cPP:=fun j=>cell_of_block (o:=j) kP1
     clear kX kR kX1 kR1 hLs kP kP1
     go_wp2_with (at_builtin;refine zcr ?_)
     generalize w3.setCell (aD (w.heap.size+1+1) 5) (.l d2 b.ls.length e2)=W3 at *
     clear cX fX HB3 HN3 cXX cPP
     show wpList _ _ _ _ _ _
     refine zex rfl (.tmp 61) (.tmp 63) 38 rfl 140 i3 (.agg #[.s ByteArray.empty,.s ByteArray.empty,.s ByteArray.empty,.i 0,.i 0]) 5 64 Tryz.underlying38 HI3.o.1 HI3.o.2.1 HI3.o.2.2.1 HI3.o.2.2.2 rfl (by decide) rfl a3 b.ps.length c3 (b.ps.flatMap Pu.row) rfl (zcX _ 5 (fun _=>rfl) _) (fun h=>(HL.o.ps.mono HB3'.out).from h) zrs (by have:=HF.o.ps;unfold maxLen;omega) (by have:=HF.o.ps;omega) ?_;intro v3 w4 hown hb4;obtain⟨d3,e3,rfl⟩:=zam hown;obtain⟨own4,he4⟩:∃own4:Nat->Lb,own4=fun k=>if k<W3.heap.size then own3 k else if k<w4.heap.size then (3,0,0) else (9,0,0):=⟨_,rfl⟩
     have hw4:∀k,k<W3.heap.size->own4 k=own3 k:=fun k hk=>by rw[he4];exact if_pos hk
     have hR4:zgN W3.heap.size w4 own4 (.l d3 b.ps.length e3) b.ps:=⟨hown,fun k hk=>by have h8:=hown.lt k hk;rw[he4];show(if _ then _ else _)=_;rw[if_neg (by omega),if_pos h8.2]⟩
     obtain⟨d3',e3',h9,hn4⟩:=hR4.lie
     cases h9
     have hz4:=hb4.size
     have HW4:Hid (∀k,(k<(w.heap.size+1+1+1) \/ w4.heap.size<=k)->own4 k=(9,0,0)):=by
      rintro k (hk|hk)
      ·exact(hw4 k (by omega)).trans (HW3.o k hk)
      ·rw[he4];show(if _ then _ else _)=_;rw[if_neg (by omega),if_neg (by omega)]
     have HRR:Hid (zfb (w.heap.size+1+1+1) w4 own4 (.l d2 b.ls.length e2) b.ls/\zgN (w.heap.size+1+1+1) w4 own4 (.l d3 b.ps.length e3) b.ps):=⟨(HRL'.out.own (fun k hk _=>hw4 k hk)).left (Left.of_below (fun _=>False) hb4) (fun _ _ h=>h),hR4.low (by omega)⟩
     have HN4:Hid (BkL (w.heap.size+1+1+1) w4.heap.size w4 own4 b d0 d1 d2 d3):=⟨(HN3'.out.1.own (fun k hk _=>hw4 k hk)).mono hb4,(HN3'.out.2.1.own (fun k hk _=>hw4 k hk)).mono hb4,(HN3'.out.2.2.own (fun k hk _=>hw4 k hk)).mono hb4,hn4.low (by omega),fun k hk=>by rw[HW4.o k hk],by omega,Nat.le_refl _⟩
     have kX:=(hb4.block (w.heap.size+1+1) (by omega)).trans HK3.o.1;have kR:=(hb4.block (w.heap.size+1) (by omega)).trans HK3.o.2;have HB4:=hid (HB3'.out.trans (hb4.mono HB3'.out.size));clear hR4 hn4 hw4 he4 hown hb4 HN3' HK3 HB3' HW3;have cX:=fun j=>cell_of_block (o:=j) kX
     have fX:=fun j=>zf (o:=j) kX
     have cR:=fun j=>cell_of_block (o:=j) kR
     have fR:=fun j=>zf (o:=j) kR
     have hzz4:w.heap.size+1+1<w4.heap.size:=by omega
     have hzz5:w.heap.size+1<w4.heap.size:=by omega
     clear kX kR;go_wp2
     refine bodyPost_ret (v:=.agg (bC b d0 d1 d2 d3 e0 e1 e2 e3)) (by simp[results,Tryz.results24,go_sem,cR]) rfl ⟨own4,d0,d1,d2,d3,e0,e1,e2,e3,rfl,?_⟩
     ·have hL0:=Left.refl (fun k=>k=w.heap.size+1+1 \/ k=w.heap.size+1) w4
      have hL:=(((((((hL0.set (b:=w.heap.size+1+1) (Or.inl rfl) 6 (.l d3 b.ps.length e3)).set (b:=w.heap.size+1) (Or.inr rfl) 0 (.i b.now)).set (b:=w.heap.size+1) (Or.inr rfl) 1 (.i b.tick)).set (b:=w.heap.size+1) (Or.inr rfl) 2 (.i b.given)).set (b:=w.heap.size+1) (Or.inr rfl) 3 (.l d0 b.os.length e0)).set (b:=w.heap.size+1) (Or.inr rfl) 4 (.l d1 b.gs.length e1)).set (b:=w.heap.size+1) (Or.inr rfl) 5 (.l d2 b.ls.length e2)).set (b:=w.heap.size+1) (Or.inr rfl) 6 (.l d3 b.ps.length e3);have h8:=BkF.left HN4.o hL (fun k hk h2=>by rw[HW4.o k (Or.inl (by omega))]at hk;simp at hk);simp only[World.size_setCell];refine⟨h8,⟨HRR.o.1.left hL (fun k hk h2=>by rw[HW4.o k (Or.inl (by omega))]at hk;simp at hk),HRR.o.2.left hL (fun k hk h2=>by rw[HW4.o k (Or.inl (by omega))]at hk;simp at hk)⟩,?_⟩;have h0:w.heap.size<=w.heap.size+1+1:=by omega
      have h1:w.heap.size<=w.heap.size+1:=Nat.le_succ _
      iterate 7 refine Below.setCell ?_ h1 _
      refine Below.setCell ?_ h0 _;exact HB4.o
end Go.Proofs.YtjnpjkigofldlaaGreat
