import Derived.Test.YtedangodjiolaaaGreatM15
import Derived.Test.YtedangodjiolaaaGreatM12
import Derived.Test.YtedangodjiolaaaGreatM14
set_option maxHeartbeats 4000000
namespace Go.Proofs.YtedangodjiolaaaGreat
open Go.RowKit
theorem zjn {p:Prop}(h:p):Hid p:=h
theorem q9 (w:World)(X Y:AV)(s t:TypeId):(∀j,((w.alloc (.cells X s)).alloc (.cells Y t)).cell? (aD w.heap.size j)=X[j]?)/\∀j,((w.alloc (.cells X s)).alloc (.cells Y t)).cell? (aD (w.heap.size+1) j)=Y[j]?:=by
 refine⟨za (zn w X s) (by simp) (bAl _ _),fun j=>?_⟩;have h:=zn (w.alloc (.cells X s)) Y t j;rw[World.size_alloc]at h;exact h
theorem zkq (l:Lw)(la lb lc:OA)(lca lcb lcc:Nat)(o:Ob)(oa oa':OA)(ocap ocap':Nat)(res:BA)(w:World)(hl:yF w l la lb lc)(_ho:j3 w o oa oa')(hc:¬(zG l.ss o=true/\res.toList.isEmpty=false)) :
 Calls Tryz.prog 241 #[.agg (l.cells la lb lc lca lcb lcc),.agg #[.s o.kd,.s o.nm,.s o.tm,.l oa o.vs.length ocap,.bool o.en,.l oa' o.hs.length ocap',.i o.vr],.s res] w fun e w'=>e=.returned (.i (qV l.ss o res))/\Bw w w':=by
 have HL:=hid hl;have HW:Hid (qV l.ss o res=0):=by unfold Hid qV;rw[if_neg hc]
 have HC:=hid hc;clear hl hc;unfold Lw.cells;go_enter Tryz.func241,Tryz.ntmps241;go_wp2_with fail
 refine(ql _ _ l.ss o.kd _ (HL.o.ss.mono (zx _ _ _))).mono ?_;rintro e w1⟨fa,fcap,rfl,hfl,hb⟩;obtain⟨hX0,hY0⟩:=q9 w #[.l la l.ss.length lca,.l lb l.ms.length lcb,.l lc l.ts.length lcc] (oC o oa oa' ocap ocap') 43 154;have hX1:=za hX0 (by simp;omega) hb;have hY1:=za hY0 (by simp) hb;have hz1:w.heap.size+1<w1.heap.size:=by have:=hb.size;simp at this;omega
 have HB1:Hid (Bw w w1):=(zx w _ _).trans (hb.mono (by simp;omega));clear hfl hb hX0 hY0
 by_cases hk:zC l.ss o.kd=true
 rotate_left
 ·have hk':zC l.ss o.kd=false:=by simpa using hk
  rw[hk'];clear hk hk';go_wp2_with fail
  go_ret;exact⟨zl HW.o.symm,HB1.o.alloc HB1.o.size _⟩
 by_cases he:res.toList.isEmpty=true
 ·have HK:=hid hk
  rw[HK.o];clear hk;go_wp2_with fail
  go_ret;exact⟨zl HW.o.symm,HB1.o.alloc HB1.o.size _⟩
 ·have he':res.toList.isEmpty=false:=by simpa using he
  have hne:((o.vs.length:Int) != ((shapeOf l.ss o.kd).fs.length:Int))=true:=by
   have h:=HC.o;unfold zG at h;rw[hk]at h;simp only[Bool.true_and,decide_eq_true_eq]at h;have h2:¬o.vs.length=(shapeOf l.ss o.kd).fs.length:=fun e=>h ⟨e,he'⟩
   simp;omega
  have HK:=hid hk;rw[HK.o];clear he hk;go_wp2_with fail
  go_ret;exact⟨zl HW.o.symm,HB1.o.alloc HB1.o.size _⟩
theorem zi8 (l:Lw)(la lb lc:OA)(lca lcb lcc:Nat)(o:Ob)(oa oa':OA)(ocap ocap':Nat)(res:BA)(w:World)(hl:yF w l la lb lc)(ho:j3 w o oa oa')(hc:zG l.ss o=true)(he:res.toList.isEmpty=false)(hlen:o.vs.length<=1048576) :
 Calls Tryz.prog 241 #[.agg (l.cells la lb lc lca lcb lcc),.agg #[.s o.kd,.s o.nm,.s o.tm,.l oa o.vs.length ocap,.bool o.en,.l oa' o.hs.length ocap',.i o.vr],.s res] w fun e w'=>e=.returned (.i (qV l.ss o res))/\Bw w w':=by
 have HL:=hid hl;have HO:=hid ho;have HW:Hid (qV l.ss o res=(if res=o.kd then 1 else 0)+zeb (shapeOf l.ss o.kd).fs o.vs res (shapeOf l.ss o.kd).fs.length):=by unfold Hid qV;rw[if_pos ⟨hc,he⟩]
 have HK:Hid (zC l.ss o.kd=true/\o.vs.length=(shapeOf l.ss o.kd).fs.length):=by unfold zG at hc;unfold Hid;simpa using hc
 have HN:=hid hlen;clear hl ho hc hlen;unfold Lw.cells;go_enter Tryz.func241,Tryz.ntmps241;go_wp2_with fail
 refine(ql _ _ l.ss o.kd _ (HL.o.ss.mono (zx _ _ _))).mono ?_;rintro e w1⟨fa,fcap,rfl,hfl,hb⟩;obtain⟨hX0,hY0⟩:=q9 w #[.l la l.ss.length lca,.l lb l.ms.length lcb,.l lc l.ts.length lcc] (oC o oa oa' ocap ocap') 43 154;have hY1:=za hY0 (by simp) hb;have hz1:w.heap.size+1<w1.heap.size:=by have:=hb.size;simp at this;omega
 have HB1:Hid (Bw w w1):=(zx w _ _).trans (hb.mono (by simp;omega));have HFl:=hid (hfl.mono hb);clear hfl hb hX0 hY0;rw[HK.o.1];obtain⟨S,HS⟩:∃S,Hid (S=shapeOf l.ss o.kd):=⟨_,rfl⟩
 rw[<- HS.o]at HFl HK HW ⊢;have hne:((o.vs.length:Int) != (S.fs.length:Int))=false:=by have:=HK.o.2;simp[this]
 obtain⟨n0,hn0⟩:∃n0:Int,n0=if res=o.kd then 1 else 0:=⟨_,rfl⟩
 have hb0:0<=n0/\n0<=1:=by rw[hn0];split <;> omega
 rw[<- hn0]at HW;have HN0:=hid hn0;clear hn0
 by_cases hk:res=o.kd
 all_goals (
  first
  | (have hq:(res.toList == o.kd.toList)=true:=by rw[beq_toList];simpa using hk)
  | (have hq:(res.toList == o.kd.toList)=false:=by rw[beq_toList];simpa using hk)
  have HKE:=zjn hk;clear hk;go_wp2_with fail
  go_loopw [9,44] (fun nv iv wr=>∃(k:Nat) (s:Int),k<=S.fs.length/\iv=.i k/\nv=.i s/\Hid (s=n0+zeb S.fs o.vs res k/\Bw w1 wr)) (fun _ iv _=>S.fs.length-(intOf iv).toNat)
  case atStart=>exact⟨0,n0,Nat.zero_le _,rfl,by have:=HN0.o;first|(rw[if_pos HKE.o]at this;rw[this])|(rw[if_neg HKE.o]at this;rw[this]),by simp[zeb],bAl _ _⟩
  case round=>
   obtain⟨k,s,hk,rfl,rfl,HQ⟩:=hrel;have hsb:0<=s/\s<=1+k*10000000:=by have h1:=HQ.o.1;have h2:=zcX S.fs o.vs res k;omega
   have hkn:k<=1048576:=by have:=HN.o;have:=HK.o.2;omega
   by_cases hlt:k<S.fs.length
   ·obtain⟨b,off,rfl,hb,hr⟩:=HFl.o.rows (by intro e;rw[e]at hlt;simp at hlt)
    obtain⟨wa,wcap,hf⟩:=hr k hlt;obtain⟨c0,c1,c2,c3,c4,c5,c6,c7,c8,c9,c10⟩:=(hf.mono hb HQ.o.2).load;have hlv:k<o.vs.length:=by have:=HK.o.2;omega
    have hltI:(k:Int)<(S.fs.length:Int):=by omega
    have hlvI:(k:Int)<(o.vs.length:Int):=by omega
    obtain⟨vb,voff,rfl,hvb,hvc0⟩:=HO.o.vals.cells (by intro e;rw[e]at hlv;simp at hlv);have hvc:=((HB1.o.trans (HQ.o.2.mono HB1.o.size)).cell (p:=(aD vb (voff+k))) hvb).trans (hvc0 k hlv);have hvb':=nLt hvb (HB1.o.trans (HQ.o.2.mono HB1.o.size)).size;have hb':=nLt hb HQ.o.2.size;have hY:=za hY1 hz1 HQ.o.2;have hz:=nLt hz1 HQ.o.2.size;have HSt:=zoV S.fs o.vs res k hlt hlv;have HSt:Hid (zeb S.fs o.vs res (k+1)=zeb S.fs o.vs res k+yP S.fs[k] o.vs[k] res):=HSt;have HVs:Hid (o.vs[k].size<=maxLen):=HO.o.vals.small _ (List.getElem_mem _);have HBo:Hid (∀ob,Bw w1 (wr.alloc ob)):=fun ob=>HQ.o.2.alloc HQ.o.2.size _
    clear hf hr hvc0
    by_cases h1:S.fs[k].kd=1
    ·have e1:(S.fs[k].kd == 1)=true:=by simpa using h1
     by_cases h2:S.fs[k].wg=res
     ·have e2:(S.fs[k].wg.toList == res.toList)=true:=by rw[beq_toList];simpa using h2
      have HFw:Hid (yP S.fs[k] o.vs[k] res=zaG o.vs[k]):=by unfold Hid yP;rw[if_pos ⟨h1,h2⟩]
      have hdb:=zed o.vs[k];clear h1 h2;go_wp2_with fail
      refine(zdu o.vs[k] _ HVs.o).mono ?_;rintro e w2⟨rfl,rfl⟩;go_wp2_with fail
      exact⟨⟨k+1,s+zaG o.vs[k],by omega,by go_num,by go_num,by rw[HSt.o,HFw.o,HQ.o.1];omega,HBo.o _⟩,zy hlt⟩
     ·have e2:(S.fs[k].wg.toList == res.toList)=false:=by rw[beq_toList];simpa using h2
      have HFw:Hid (yP S.fs[k] o.vs[k] res=0):=by unfold Hid yP;rw[if_neg (fun h=>h2 h.2)]
      clear h1 h2;go_wp2_with fail
      exact⟨⟨k+1,s,by omega,by go_num,rfl,by rw[HSt.o,HFw.o,HQ.o.1];omega,HBo.o _⟩,zy hlt⟩
    ·have e1:(S.fs[k].kd == 1)=false:=by simpa using h1
     have HFw:Hid (yP S.fs[k] o.vs[k] res=0):=by unfold Hid yP;rw[if_neg (fun h=>h1 h.1)]
     clear h1;go_wp2_with fail
     exact⟨⟨k+1,s,by omega,by go_num,rfl,by rw[HSt.o,HFw.o,HQ.o.1];omega,HBo.o _⟩,zy hlt⟩
   ·have e:k=S.fs.length:=by omega
    subst e;have HE:Hid (qV l.ss o res=s):=by unfold Hid;rw[HW.o,HQ.o.1]
    clear hlt hk;go_wp2_with fail
    go_ret;exact⟨zl HE.o.symm,HB1.o.trans (HQ.o.2.mono HB1.o.size)⟩)
theorem zo7 {w w':World}{g:Nat}{ws:List BA}(h:zK w (some (aD g 0)) ws)(hl:Bw w w')(i:Nat)(hi:i<ws.length):g<w.heap.size/\w'.cell? (aD g i)=some (.s ws[i]):=by
 obtain⟨b,off,e,hb,hr⟩:=h.cells (by rintro rfl;simp at hi);simp only[Option.some.injEq,Addr.mk.injEq]at e;obtain⟨rfl,rfl,_⟩:=e;refine⟨hb,?_⟩
 have:=hr i hi
 rw[Nat.zero_add]at this;exact(hl.cell (p:=(aD g i)) hb).trans this
theorem zo1 {w w':World}{a:OA}{fs:List Fld}(h:yh w a fs)(hl:Bw w w')(i:Nat)(hi:i<fs.length):∃b off fw fc,a=some (aD b off)/\b<w.heap.size/\zeJ w' b (off+i*11) fs[i] fw fc:=by
 obtain⟨b,off,ha,hb,hr⟩:=(h.mono hl).rows (by rintro rfl;simp at hi);obtain⟨b',off',ha',hb',_⟩:=h.rows (by rintro rfl;simp at hi);have e:=ha.symm.trans ha';simp only[Option.some.injEq,Addr.mk.injEq]at e;obtain⟨rfl,rfl,_⟩:=e;obtain⟨fw,fc,hf⟩:=hr i hi;exact⟨b,off,fw,fc,ha,hb',hf⟩
theorem znm (a0:OA)(cap0:Nat)(ss:List Shp)(o:Ob)(a a':OA)(cap cap':Nat)(w:World)(hw:yM w a0 ss)(ho:j3 w o a a') :
 Calls Tryz.prog 77 #[.l a0 ss.length cap0,.agg #[.s o.kd,.s o.nm,.s o.tm,.l a o.vs.length cap,.bool o.en,.l a' o.hs.length cap',.i o.vr]] w fun e w'=>e=.returned (.tuple #[.i (yE ss o).1,.i (yE ss o).2])/\Bw w w':=by
 have hlh:=ho.holds.len;unfold maxLen at hlh
 by_cases hc:zG ss o=true
 rotate_left
 ·have HCt:Hid (zG ss o=false):=by simpa[Hid] using hc
  have HR:Hid (yE ss o=(1,0)):=by unfold Hid yE;rw[if_neg];unfold whole;rw[HCt.o];simp
  clear hc;go_enter Tryz.func77,Tryz.ntmps77;go_wp2_with fail
  refine(zda _ _ _ _ _ _ _ _ _ (hw.mono (bAl _ _)) (ho.mono (bAl _ _)) HCt.o).mono ?_;rintro e w1⟨v,rfl,hb1⟩;have hB1:Bw w w1:=(bAl _ _).trans (hb1.mono (by simp));clear hb1;go_wp2_with fail
  go_ret2
  exact⟨by rw[HR.o];rfl,hB1⟩
 have HCt:=hid hc
 by_cases hn:zk o.nm=true
 rotate_left
 ·have hn':zk o.nm=false:=by simpa using hn
  have HNm:=hid hn';clear hn hc
  have HR:Hid (yE ss o=(1,0)):=by
   unfold Hid yE;rw[if_neg];unfold whole qK;simp[hn']
  go_enter Tryz.func77,Tryz.ntmps77;go_wp2_with fail
  refine(jl _ _ _ _ _ _ _ _ _ (hw.mono (bAl _ _)) (ho.mono (bAl _ _)) HCt.o).mono ?_;rintro e w1⟨fa,fcap,rfl,hfl0,hb1⟩;have hX1:=za (zn w _ _) (by simp) hb1;have hz1:w.heap.size<w1.heap.size:=by have:=hb1.size;simp at this;omega
  have hB1:Bw w w1:=(bAl _ _).trans (hb1.mono (by simp));have hfl1:=hfl0.mono hb1;clear hb1 hfl0;go_wp2_with fail
  refine(zf HNm.o (zh _ _ ho.small.nm)).mono ?_;rintro e w2⟨rfl,rfl⟩;go_wp2_with fail
  go_ret2
  exact⟨by rw[HR.o];rfl,hB1⟩
 have HNm:=hid hn
 by_cases ht:zk o.tm=true
 rotate_left
 ·have ht':zk o.tm=false:=by simpa using ht
  have HTm:=hid ht';clear ht hc hn
  have HR:Hid (yE ss o=(1,0)):=by
   unfold Hid yE;rw[if_neg];unfold whole qK;simp[ht']
  go_enter Tryz.func77,Tryz.ntmps77;go_wp2_with fail
  refine(jl _ _ _ _ _ _ _ _ _ (hw.mono (bAl _ _)) (ho.mono (bAl _ _)) HCt.o).mono ?_;rintro e w1⟨fa,fcap,rfl,hfl0,hb1⟩;have hX1:=za (zn w _ _) (by simp) hb1;have hz1:w.heap.size<w1.heap.size:=by have:=hb1.size;simp at this;omega
  have hB1:Bw w w1:=(bAl _ _).trans (hb1.mono (by simp));have hfl1:=hfl0.mono hb1;clear hb1 hfl0;go_wp2_with fail
  refine(zf HNm.o (zh _ _ ho.small.nm)).mono ?_;rintro e w2⟨rfl,rfl⟩;go_wp2_with fail
  refine(zf HTm.o (zh _ _ ho.small.tm)).mono ?_;rintro e w3⟨rfl,rfl⟩;go_wp2_with fail
  go_ret2
  exact⟨by rw[HR.o];rfl,hB1⟩
 have HTm:=hid ht
 by_cases h3:o.hs.length<=3
 rotate_left
 ·have h3I:(3:Int)<(o.hs.length:Int):=by omega
  clear ht hc hn
  have HR:Hid (yE ss o=(1,0)):=by
   unfold Hid yE;rw[if_neg];unfold whole qZ;simp[show ¬o.hs.length<=3 by omega]
  go_enter Tryz.func77,Tryz.ntmps77;go_wp2_with fail
  refine(jl _ _ _ _ _ _ _ _ _ (hw.mono (bAl _ _)) (ho.mono (bAl _ _)) HCt.o).mono ?_;rintro e w1⟨fa,fcap,rfl,hfl0,hb1⟩;have hX1:=za (zn w _ _) (by simp) hb1;have hz1:w.heap.size<w1.heap.size:=by have:=hb1.size;simp at this;omega
  have hB1:Bw w w1:=(bAl _ _).trans (hb1.mono (by simp));have hfl1:=hfl0.mono hb1;clear hb1 hfl0;go_wp2_with fail
  refine(zf HNm.o (zh _ _ ho.small.nm)).mono ?_;rintro e w2⟨rfl,rfl⟩;go_wp2_with fail
  refine(zf HTm.o (zh _ _ ho.small.tm)).mono ?_;rintro e w3⟨rfl,rfl⟩;go_wp2_with fail
  go_ret2
  exact⟨by rw[HR.o];rfl,hB1⟩
 have h3I:(o.hs.length:Int)<=3:=by omega
 by_cases ha:asc o.hs=true
 rotate_left
 ·have ha':asc o.hs=false:=by simpa using ha
  have HAsc:=hid ha';clear ht hc hn ha
  have HR:Hid (yE ss o=(1,0)):=by
   unfold Hid yE;rw[if_neg];unfold whole qZ;simp[ha']
  go_enter Tryz.func77,Tryz.ntmps77;go_wp2_with fail
  refine(jl _ _ _ _ _ _ _ _ _ (hw.mono (bAl _ _)) (ho.mono (bAl _ _)) HCt.o).mono ?_;rintro e w1⟨fa,fcap,rfl,hfl0,hb1⟩;have hX1:=za (zn w _ _) (by simp) hb1;have hz1:w.heap.size<w1.heap.size:=by have:=hb1.size;simp at this;omega
  have hB1:Bw w w1:=(bAl _ _).trans (hb1.mono (by simp));have hfl1:=hfl0.mono hb1;clear hb1 hfl0;go_wp2_with fail
  refine(zf HNm.o (zh _ _ ho.small.nm)).mono ?_;rintro e w2⟨rfl,rfl⟩;go_wp2_with fail
  refine(zf HTm.o (zh _ _ ho.small.tm)).mono ?_;rintro e w3⟨rfl,rfl⟩;go_wp2_with fail
  refine(zf HAsc.o (j5 _ _ _ _ (ho.holds.mono hB1))).mono ?_;rintro e w4⟨rfl,nd,rfl⟩;go_wp2_with fail
  go_ret2
  exact⟨by rw[HR.o];rfl,below_drewN hB1 _⟩
 have HAsc:=hid ha
 by_cases hv:0<=o.vr/\o.vr<=1000000
 rotate_left
 ·have HV:=hid hv
  have HR:Hid (yE ss o=(1,0)):=by
   unfold Hid yE;rw[if_neg];unfold whole qz;intro h;simp only[Bool.and_eq_true,decide_eq_true_eq]at h;exact hv h.1.2
  clear ht hc hn ha hv;go_enter Tryz.func77,Tryz.ntmps77;go_wp2_with fail
  refine(jl _ _ _ _ _ _ _ _ _ (hw.mono (bAl _ _)) (ho.mono (bAl _ _)) HCt.o).mono ?_;rintro e w1⟨fa,fcap,rfl,hfl0,hb1⟩;have hX1:=za (zn w _ _) (by simp) hb1;have hz1:w.heap.size<w1.heap.size:=by have:=hb1.size;simp at this;omega
  have hB1:Bw w w1:=(bAl _ _).trans (hb1.mono (by simp));have hfl1:=hfl0.mono hb1;clear hb1 hfl0;go_wp2_with fail
  refine(zf HNm.o (zh _ _ ho.small.nm)).mono ?_;rintro e w2⟨rfl,rfl⟩;go_wp2_with fail
  refine(zf HTm.o (zh _ _ ho.small.tm)).mono ?_;rintro e w3⟨rfl,rfl⟩;go_wp2_with fail
  refine(zf HAsc.o (j5 _ _ _ _ (ho.holds.mono hB1))).mono ?_;rintro e w4⟨rfl,nd,rfl⟩;go_wp2_with fail
  refine(zdm _ _ _ _ (by have:=HV.o;omega)).mono ?_;rintro e w5⟨rfl,rfl⟩;go_wp2_with fail
  go_ret2
  exact⟨by rw[HR.o];rfl,below_drewN hB1 _⟩
 obtain⟨hv0,hv1⟩:=hv
 have HR:Hid (yE ss o=jU (shapeOf ss o.kd).fs o.vs):=by
  unfold Hid yE;rw[if_pos];unfold whole qK qZ qz;simp[hc,hn,ht,h3,ha,hv0,hv1]
 have HLn:Hid (o.vs.length=(shapeOf ss o.kd).fs.length):=by
  unfold zG at hc;simp only[Bool.and_eq_true,decide_eq_true_eq]at hc;exact hc.2
 clear hc hn ht ha;go_enter Tryz.func77,Tryz.ntmps77;go_wp2_with fail
 refine(jl _ _ _ _ _ _ _ _ _ (hw.mono (bAl _ _)) (ho.mono (bAl _ _)) HCt.o).mono ?_;rintro e w1⟨fa,fcap,rfl,hfl0,hb1⟩;have hX1:=za (zn w _ _) (by simp) hb1;have hz1:w.heap.size<w1.heap.size:=by have:=hb1.size;simp at this;omega
 have hB1:Bw w w1:=(bAl _ _).trans (hb1.mono (by simp));have hfl1:=hfl0.mono hb1;clear hb1 hfl0;go_wp2_with fail
 refine(zf HNm.o (zh _ _ ho.small.nm)).mono ?_;rintro e w2⟨rfl,rfl⟩;go_wp2_with fail
 refine(zf HTm.o (zh _ _ ho.small.tm)).mono ?_;rintro e w3⟨rfl,rfl⟩;go_wp2_with fail
 refine(zf HAsc.o (j5 _ _ _ _ (ho.holds.mono hB1))).mono ?_;rintro e w4⟨rfl,nd,rfl⟩;go_wp2_with fail
 refine(zbO _ _ _ _ hv0 hv1).mono ?_;rintro e w5⟨rfl,rfl⟩
 generalize hfs:(shapeOf ss o.kd).fs=fs at *
 have hlen:=hfl1.len;unfold maxLen at hlen;go_wp2_with fail
 go_loopw [8] (fun i wr=>∃k:Nat,k<=fs.length/\i=.i k/\up (zbi fs o.vs) k=true/\Bw w3 wr) (fun i _=>fs.length-(intOf i).toNat)
 case atStart=>exact⟨0,Nat.zero_le _,rfl,rfl,below_drewN (bRf _ _) _⟩
 case round=>
  obtain⟨k,hk,rfl,hup,hBr⟩:=hrel;have hszr:=hBr.size;have hB:Bw w wr:=hB1.trans (hBr.mono (by omega))
  by_cases hlt:k<fs.length
  ·have hXr:=za hX1 hz1 hBr
   obtain⟨b,off,rfl,hb,hr⟩:=hfl1.rows (by rintro rfl;simp at hlt);obtain⟨wa,wcap,hf0⟩:=hr k hlt;have hf:=hf0.mono hb hBr;obtain⟨c0,c1,c2,c3,c4,c5,c6,c7,c8,c9,c10⟩:=hf.load;have hst:=hf.strs;have hltv:k<o.vs.length:=by rw[HLn.o];exact hlt
   obtain⟨vb,voff,rfl,hvb,hvc⟩:=ho.vals.cells (by intro h;rw[h]at hltv;simp at hltv);have hcv:=(hB.cell (p:=(aD vb (voff+k))) hvb).trans (hvc k hltv);have hvs:=ho.vals.small _ (List.getElem_mem hltv);have hltI:(k:Int)<(fs.length:Int):=by omega
   have hltV:(k:Int)<(o.vs.length:Int):=by omega
   have HFX:=hid (zjr hlt hltv)
   have HS:Hid (zaJ fs[k] o.vs[k]=0->up (zbi fs o.vs) (k+1)=true):=fun h=>by
    rw[jh,hup];unfold zbi;rw[HFX.o,h];rfl
   have HN:Hid (∀n:Int,n≠0->zaJ fs[k] o.vs[k]=n->yE ss o=(n,(k:Int))):=fun n hn0 h=>by
    rw[HR.o,zk4 hlt hup (by unfold zbi;rw[HFX.o,h];simp[hn0]),HFX.o,h]
   clear hX1 hr hf0 hf hup
   by_cases he:o.vs[k].size=0
   ·have hne:o.vs[k].toList.isEmpty=true:=by rw[zB];simp[he]
    have HE:=hid he;clear he
    by_cases hmu:fs[k].mu=true
    ·have HM:=hid hmu
     go_wp2_with fail
     go_ret2
     have hv:=HN.o 2 (by decide) (by unfold zaJ;rw[if_pos HE.o,if_pos HM.o]);exact⟨by rw[hv];rfl,hB⟩
    ·have hmu':fs[k].mu=false:=by simpa using hmu
     have HM:=hid hmu';clear hmu;go_wp2_with fail
     exact⟨⟨k+1,by omega,by go_num,HS.o (by unfold zaJ;rw[if_pos HE.o,HM.o];rfl),hBr⟩,by simp[intOf];omega⟩
   ·have hne:o.vs[k].toList.isEmpty=false:=by rw[zB];simp[he]
    have HE:Hid (¬o.vs[k].size=0):=he;clear he
    by_cases hfit:fits fs[k].kd fs[k].ls fs[k].ms fs[k].ws o.vs[k]=true
    all_goals
     first
      | (have HFT:Hid (fits fs[k].kd fs[k].ls fs[k].ms fs[k].ws o.vs[k]=true):=hfit)
      | (have HFT:Hid (fits fs[k].kd fs[k].ls fs[k].ms fs[k].ws o.vs[k]=false):=by simpa[Hid] using hfit)
     clear hfit;go_wp2_with fail
     have hbx:Bw wr wr.drew:=(bRf _ _).drew
     go_region_with (go_at_call 126;refine(zf HFT.o (yZ _ _ _ _ _ _ _ _ _ _ _ _ _ _ _ hvs (by exact hst.mono hbx))).mono ?_;rintro e w3⟨rfl,hb3⟩)
     all_goals go_wp2_with fail
    all_goals have hB3:Bw wr w3:=hbx.trans hb3
    all_goals first
     | (have hft:fits fs[k].kd fs[k].ls fs[k].ms fs[k].ws o.vs[k]=true:=HFT.o
        exact⟨⟨k+1,by omega,by go_num,HS.o (by unfold zaJ;rw[if_neg HE.o];unfold zfG;rw[hft];rfl),hBr.trans (hB3.mono hszr)⟩,by simp[intOf];omega⟩)
     | (have hft:fits fs[k].kd fs[k].ls fs[k].ms fs[k].ws o.vs[k]=false:=HFT.o
        go_ret2
        have hv:=HN.o 3 (by decide) (by unfold zaJ;rw[if_neg HE.o];unfold zfG;rw[hft];rfl);exact⟨by rw[hv];rfl,hB.trans (hB3.mono (by omega))⟩)
  ·have HF:Hid (yE ss o=(0,0)):=by
    have e:k=fs.length:=by omega
    subst e;rw[HR.o];exact zhV hup
   clear hup;go_wp2_with fail
   go_ret2
   exact⟨by rw[HF.o];rfl,hB⟩
end Go.Proofs.YtedangodjiolaaaGreat
namespace Go.Proofs.YtedangodjiolaaaGreat
open Go.ChangeShapes Go.WideShapes Go.ChangeAt Go.RowKit
theorem Tryz.zmO:Tryz.prog.cellsOf 199=15:=by kernel_rfl
section
variable {H:Type} {enc:TypeId × Value->H} {w:World} {base:Nat} {spare:Nat->Bool} {held:Bool}
theorem zc5 {P:Program}{t:TypeId}{fs:Array Field}{fuel:Nat}{cs:List Value}{x:DataW H × List MemPlace}(ht:P.underlying t=some (.struct fs))(h:DataW.trod enc P w base spare held fuel t cs=some x)
 (i tf off n:Nat) (hf:(fs[i]?).map (fun f=>(f.type,f.offset))=some (tf,off)) (hn:P.cellsOf tf=n):∃m y,DataW.trod enc P w base spare held m tf ((cs.drop off).take n)=some y:=by
 obtain⟨f,hf1,hf2⟩:=Option.map_eq_some_iff.1 hf;simp only[Prod.mk.injEq]at hf2;obtain⟨rfl,rfl⟩:=hf2;subst hn;exact zfR ht h i f hf1
theorem zqB {fuel:Nat}{cs:List Value}{x:DataW H × List MemPlace}(h:DataW.trod enc Tryz.prog w base spare held fuel 199 cs=some x) :
 ∃(k:Ak) (a0 a1 a2:OA) (q0 q1 q2:Nat),cs=(k.cells a0 a1 a2 q0 q1 q2).toList/\je w k a0 a1 a2:=by
 have hlen:cs.length=15:=by
  obtain⟨_,_,_,_,hl,_,_⟩:=DataW.trod_struct Tryz.underlying199 h;rw[hl];exact Tryz.zmO
 match cs,hlen with
 | [c0,c1,c2,c3,c4,c5,c6,c7,c8,c9,c10,c11,c12,c13,c14],_=>
  have hf:=jd Tryz.underlying199 h;obtain⟨_,_,f0⟩:=hf 0 9 0 c0 rfl Tryz.zL rfl;obtain⟨_,_,f1⟩:=hf 1 3 1 c1 rfl Tryz.qY rfl;obtain⟨_,_,f2⟩:=hf 2 9 2 c2 rfl Tryz.zL rfl;obtain⟨_,_,f3⟩:=hf 3 9 3 c3 rfl Tryz.zL rfl;obtain⟨_,_,f4⟩:=hf 4 9 4 c4 rfl Tryz.zL rfl;obtain⟨_,_,f5⟩:=hf 5 102 5 c5 rfl Tryz.zbz rfl;obtain⟨_,_,f6⟩:=hf 6 102 6 c6 rfl Tryz.zbz rfl;obtain⟨_,_,f7⟩:=hf 7 3 7 c7 rfl Tryz.qY rfl;obtain⟨_,_,f8⟩:=hf 8 9 8 c8 rfl Tryz.zL rfl;obtain⟨_,_,f9⟩:=hf 9 9 9 c9 rfl Tryz.zL rfl;obtain⟨_,_,f10⟩:=zc5 Tryz.underlying199 h 10 142 10 4 rfl Tryz.zhq;obtain⟨_,_,f11⟩:=hf 11 3 14 c14 rfl Tryz.qY rfl;obtain⟨who,e0,_,s0⟩:=DataW.trod_string Tryz.underlying9 f0;obtain⟨vb,e1,_,_⟩:=DataW.trod_int Tryz.underlying3 f1;obtain⟨kd,e2,_,s2⟩:=DataW.trod_string Tryz.underlying9 f2;obtain⟨nm,e3,_,s3⟩:=DataW.trod_string Tryz.underlying9 f3;obtain⟨tm,e4,_,s4⟩:=DataW.trod_string Tryz.underlying9 f4;obtain⟨avs,qvs,vs,e5,hvs⟩:=zd0 Tryz.underlying102 Tryz.underlying9 Tryz.zL f5;obtain⟨ahs,qhs,hs,e6,hhs⟩:=zd0 Tryz.underlying102 Tryz.underlying9 Tryz.zL f6;obtain⟨sn,e7,_,_⟩:=DataW.trod_int Tryz.underlying3 f7;obtain⟨hd,e8,_,s8⟩:=DataW.trod_string Tryz.underlying9 f8;obtain⟨to,e9,_,s9⟩:=DataW.trod_string Tryz.underlying9 f9;obtain⟨r,ar,qr,e10,hrs,hr⟩:=zlt f10;obtain⟨no,e11,_,_⟩:=DataW.trod_int Tryz.underlying3 f11;simp only[List.cons.injEq,and_true]at e0 e1 e2 e3 e4 e5 e6 e7 e8 e9 e11;subst e0 e1 e2 e3 e4 e5 e6 e7 e8 e9 e11;have er:[c10,c11,c12,c13]=(r.cells ar qr).toList:=e10;unfold Rl.cells at er;simp only[List.cons.injEq,and_true]at er;obtain⟨g0,g1,g2,g3⟩:=er;subst g0 g1 g2 g3;exact⟨⟨who,vb,kd,nm,tm,vs,hs,sn,hd,to,r,no⟩,avs,ahs,ar,qvs,qhs,qr,rfl,⟨⟨s0,s2,s3,s4,s8,s9,hrs⟩,hvs,hhs,hr⟩⟩
end
end Go.Proofs.YtedangodjiolaaaGreat
