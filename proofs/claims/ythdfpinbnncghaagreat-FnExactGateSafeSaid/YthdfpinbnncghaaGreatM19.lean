import Derived.Test.YthdfpinbnncghaaGreatM15
import Derived.Test.YthdfpinbnncghaaGreatM12
import Derived.Test.YthdfpinbnncghaaGreatM14
set_option maxHeartbeats 4000000
namespace Go.Proofs.YthdfpinbnncghaaGreat
open Go.RowKit
theorem zkN {p:Prop}(h:p):Hid p:=h
theorem jC (w:World)(X Y:AV)(s t:TypeId):(∀j,((w.alloc (.cells X s)).alloc (.cells Y t)).cell? (aD w.heap.size j)=X[j]?)/\∀j,((w.alloc (.cells X s)).alloc (.cells Y t)).cell? (aD (w.heap.size+1) j)=Y[j]?:=by
 refine⟨za (zn w X s) (by simp) (bAl _ _),fun j=>?_⟩;have h:=zn (w.alloc (.cells X s)) Y t j;rw[World.size_alloc]at h;exact h
theorem zlb (l:Lw)(la lb lc:OA)(lca lcb lcc:Nat)(o:Ob)(oa oa':OA)(ocap ocap':Nat)(res:BA)(w:World)(hl:yH w l la lb lc)(_ho:zab w o oa oa')(hc:¬(zH l.ss o=true/\res.toList.isEmpty=false)) :
 Calls Tryz.prog 252 #[.agg (l.cells la lb lc lca lcb lcc),.agg #[.s o.kd,.s o.nm,.s o.tm,.l oa o.vs.length ocap,.bool o.en,.l oa' o.hs.length ocap',.i o.vr],.s res] w fun e w'=>e=.returned (.i (je l.ss o res))/\Bw w w':=by
 have HL:=hid hl;have HW:Hid (je l.ss o res=0):=by unfold Hid je;rw[if_neg hc]
 have HC:=hid hc;clear hl hc;unfold Lw.cells;go_enter Tryz.func252,Tryz.ntmps252;go_wp2_with fail
 refine(qB _ _ l.ss o.kd _ (HL.o.ss.mono (zx _ _ _))).mono ?_;rintro e w1⟨fa,fcap,rfl,hfl,hb⟩;obtain⟨hX0,hY0⟩:=jC w #[.l la l.ss.length lca,.l lb l.ms.length lcb,.l lc l.ts.length lcc] (oC o oa oa' ocap ocap') 44 145;have hX1:=za hX0 (by simp;omega) hb;have hY1:=za hY0 (by simp) hb;have hz1:w.heap.size+1<w1.heap.size:=by have:=hb.size;simp at this;omega
 have HB1:Hid (Bw w w1):=(zx w _ _).trans (hb.mono (by simp;omega));clear hfl hb hX0 hY0
 by_cases hk:zC l.ss o.kd=true
 rotate_left
 ·have hk':zC l.ss o.kd=false:=by simpa using hk
  rw[hk'];clear hk hk';go_wp2_with fail
  go_ret;exact⟨zk HW.o.symm,HB1.o.alloc HB1.o.size _⟩
 by_cases he:res.toList.isEmpty=true
 ·have HK:=hid hk
  rw[HK.o];clear hk;go_wp2_with fail
  go_ret;exact⟨zk HW.o.symm,HB1.o.alloc HB1.o.size _⟩
 ·have he':res.toList.isEmpty=false:=by simpa using he
  have hne:((o.vs.length:Int) != ((shapeOf l.ss o.kd).fs.length:Int))=true:=by
   have h:=HC.o;unfold zH at h;rw[hk]at h;simp only[Bool.true_and,decide_eq_true_eq]at h;have h2:¬o.vs.length=(shapeOf l.ss o.kd).fs.length:=fun e=>h ⟨e,he'⟩
   simp;omega
  have HK:=hid hk;rw[HK.o];clear he hk;go_wp2_with fail
  go_ret;exact⟨zk HW.o.symm,HB1.o.alloc HB1.o.size _⟩
theorem zjU (l:Lw)(la lb lc:OA)(lca lcb lcc:Nat)(o:Ob)(oa oa':OA)(ocap ocap':Nat)(res:BA)(w:World)(hl:yH w l la lb lc)(ho:zab w o oa oa')(hc:zH l.ss o=true)(he:res.toList.isEmpty=false)(hlen:o.vs.length<=1048576) :
 Calls Tryz.prog 252 #[.agg (l.cells la lb lc lca lcb lcc),.agg #[.s o.kd,.s o.nm,.s o.tm,.l oa o.vs.length ocap,.bool o.en,.l oa' o.hs.length ocap',.i o.vr],.s res] w fun e w'=>e=.returned (.i (je l.ss o res))/\Bw w w':=by
 have HL:=hid hl;have HO:=hid ho;have HW:Hid (je l.ss o res=(if res=o.kd then 1 else 0)+zes (shapeOf l.ss o.kd).fs o.vs res (shapeOf l.ss o.kd).fs.length):=by unfold Hid je;rw[if_pos ⟨hc,he⟩]
 have HK:Hid (zC l.ss o.kd=true/\o.vs.length=(shapeOf l.ss o.kd).fs.length):=by unfold zH at hc;unfold Hid;simpa using hc
 have HN:=hid hlen;clear hl ho hc hlen;unfold Lw.cells;go_enter Tryz.func252,Tryz.ntmps252;go_wp2_with fail
 refine(qB _ _ l.ss o.kd _ (HL.o.ss.mono (zx _ _ _))).mono ?_;rintro e w1⟨fa,fcap,rfl,hfl,hb⟩;obtain⟨hX0,hY0⟩:=jC w #[.l la l.ss.length lca,.l lb l.ms.length lcb,.l lc l.ts.length lcc] (oC o oa oa' ocap ocap') 44 145;have hY1:=za hY0 (by simp) hb;have hz1:w.heap.size+1<w1.heap.size:=by have:=hb.size;simp at this;omega
 have HB1:Hid (Bw w w1):=(zx w _ _).trans (hb.mono (by simp;omega));have HFl:=hid (hfl.mono hb);clear hfl hb hX0 hY0;rw[HK.o.1];obtain⟨S,HS⟩:∃S,Hid (S=shapeOf l.ss o.kd):=⟨_,rfl⟩
 rw[<- HS.o]at HFl HK HW ⊢;have hne:((o.vs.length:Int) != (S.fs.length:Int))=false:=by have:=HK.o.2;simp[this]
 obtain⟨n0,hn0⟩:∃n0:Int,n0=if res=o.kd then 1 else 0:=⟨_,rfl⟩
 have hb0:0<=n0/\n0<=1:=by rw[hn0];split <;> omega
 rw[<- hn0]at HW;have HN0:=hid hn0;clear hn0
 by_cases hk:res=o.kd
 all_goals (
  first
  | (have hq:(res.toList == o.kd.toList)=true:=by rw[beq_toList];simpa using hk)
  | (have hq:(res.toList == o.kd.toList)=false:=by rw[beq_toList];simpa using hk)
  have HKE:=zkN hk;clear hk;go_wp2_with fail
  go_loopw [9,44] (fun nv iv wr=>∃(k:Nat) (s:Int),k<=S.fs.length/\iv=.i k/\nv=.i s/\Hid (s=n0+zes S.fs o.vs res k/\Bw w1 wr)) (fun _ iv _=>S.fs.length-(intOf iv).toNat)
  case atStart=>exact⟨0,n0,Nat.zero_le _,rfl,by have:=HN0.o;first|(rw[if_pos HKE.o]at this;rw[this])|(rw[if_neg HKE.o]at this;rw[this]),by simp[zes],bAl _ _⟩
  case round=>
   obtain⟨k,s,hk,rfl,rfl,HQ⟩:=hrel;have hsb:0<=s/\s<=1+k*10000000:=by have h1:=HQ.o.1;have h2:=zc2 S.fs o.vs res k;omega
   have hkn:k<=1048576:=by have:=HN.o;have:=HK.o.2;omega
   by_cases hlt:k<S.fs.length
   ·obtain⟨b,off,rfl,hb,hr⟩:=HFl.o.rows (by intro e;rw[e]at hlt;simp at hlt)
    obtain⟨wa,wcap,hf⟩:=hr k hlt;obtain⟨c0,c1,c2,c3,c4,c5,c6,c7,c8,c9,c10⟩:=(hf.mono hb HQ.o.2).load;have hlv:k<o.vs.length:=by have:=HK.o.2;omega
    have hltI:(k:Int)<(S.fs.length:Int):=by omega
    have hlvI:(k:Int)<(o.vs.length:Int):=by omega
    obtain⟨vb,voff,rfl,hvb,hvc0⟩:=HO.o.vals.cells (by intro e;rw[e]at hlv;simp at hlv);have hvc:=((HB1.o.trans (HQ.o.2.mono HB1.o.size)).cell (p:=(aD vb (voff+k))) hvb).trans (hvc0 k hlv);have hvb':=nLt hvb (HB1.o.trans (HQ.o.2.mono HB1.o.size)).size;have hb':=nLt hb HQ.o.2.size;have hY:=za hY1 hz1 HQ.o.2;have hz:=nLt hz1 HQ.o.2.size;have HSt:=zpY S.fs o.vs res k hlt hlv;have HSt:Hid (zes S.fs o.vs res (k+1)=zes S.fs o.vs res k+yS S.fs[k] o.vs[k] res):=HSt;have HVs:Hid (o.vs[k].size<=maxLen):=HO.o.vals.small _ (List.getElem_mem _);have HBo:Hid (∀ob,Bw w1 (wr.alloc ob)):=fun ob=>HQ.o.2.alloc HQ.o.2.size _
    clear hf hr hvc0
    by_cases h1:S.fs[k].kd=1
    ·have e1:(S.fs[k].kd == 1)=true:=by simpa using h1
     by_cases h2:S.fs[k].wg=res
     ·have e2:(S.fs[k].wg.toList == res.toList)=true:=by rw[beq_toList];simpa using h2
      have HFw:Hid (yS S.fs[k] o.vs[k] res=zaJ o.vs[k]):=by unfold Hid yS;rw[if_pos ⟨h1,h2⟩]
      have hdb:=zeq o.vs[k];clear h1 h2;go_wp2_with fail
      refine(zdL o.vs[k] _ HVs.o).mono ?_;rintro e w2⟨rfl,rfl⟩;go_wp2_with fail
      exact⟨⟨k+1,s+zaJ o.vs[k],by omega,by go_num,by go_num,by rw[HSt.o,HFw.o,HQ.o.1];omega,HBo.o _⟩,zw hlt⟩
     ·have e2:(S.fs[k].wg.toList == res.toList)=false:=by rw[beq_toList];simpa using h2
      have HFw:Hid (yS S.fs[k] o.vs[k] res=0):=by unfold Hid yS;rw[if_neg (fun h=>h2 h.2)]
      clear h1 h2;go_wp2_with fail
      exact⟨⟨k+1,s,by omega,by go_num,rfl,by rw[HSt.o,HFw.o,HQ.o.1];omega,HBo.o _⟩,zw hlt⟩
    ·have e1:(S.fs[k].kd == 1)=false:=by simpa using h1
     have HFw:Hid (yS S.fs[k] o.vs[k] res=0):=by unfold Hid yS;rw[if_neg (fun h=>h1 h.1)]
     clear h1;go_wp2_with fail
     exact⟨⟨k+1,s,by omega,by go_num,rfl,by rw[HSt.o,HFw.o,HQ.o.1];omega,HBo.o _⟩,zw hlt⟩
   ·have e:k=S.fs.length:=by omega
    subst e;have HE:Hid (je l.ss o res=s):=by unfold Hid;rw[HW.o,HQ.o.1]
    clear hlt hk;go_wp2_with fail
    go_ret;exact⟨zk HE.o.symm,HB1.o.trans (HQ.o.2.mono HB1.o.size)⟩)
def zfH (ta:OA)(tcap:Nat)(ts:List Tm)(r:Rl)(a:OA)(cap:Nat):AV:=
 #[.l ta ts.length tcap, .l a r.vs.length cap, .s r.kd, .s r.tm, .s r.px, .int .u8 (bitsOf (yG r.vs))]
def qV (ts:List Tm)(r:Rl)(kd tm nm:BA):Int:=bitsOf (fun v=>meets ts r kd tm nm&&yG r.vs v)
theorem zdn {ts:List Tm}{r:Rl}{kd tm nm:BA}(h:meets ts r kd tm nm=false):qV ts r kd tm nm=0:=by
 unfold qV;rw[h];rfl
theorem zfC {ts:List Tm}{r:Rl}{kd tm nm:BA}(h:meets ts r kd tm nm=true):qV ts r kd tm nm=bitsOf (yG r.vs):=by
 unfold qV;rw[h];rfl
theorem zmN (ta:OA)(tcap:Nat)(ts:List Tm)(r:Rl)(a:OA)(cap:Nat)(kd tm nm:BA)(w:World)(hw:jB w ta ts)(hm:r.Small)(hn:nm.size<=maxLen) :
 Calls Tryz.prog 125 #[.agg (zfH ta tcap ts r a cap),.s kd,.s tm,.s nm] w fun e w'=>e=.returned (.int .u8 (qV ts r kd tm nm))/\Bw w w':=by
 have hpx:=hm.px;have HB:Hid (∀ob,Bw w (w.alloc ob)):=fun ob=>bAl _ _
 have HT:Hid (∀ob,jB (w.alloc ob) ta ts):=fun ob=>hw.mono (HB.o ob)
 clear hw hm;unfold zfH
 have hkc:(r.kd.toList.isEmpty=true) \/ (r.kd.toList.isEmpty=false/\(r.kd.toList == kd.toList)=true) \/ (r.kd.toList.isEmpty=false/\(r.kd.toList == kd.toList)=false):=by
  cases r.kd.toList.isEmpty <;> cases (r.kd.toList == kd.toList) <;> simp
 have htc:(r.tm.toList.isEmpty=true) \/ (r.tm.toList.isEmpty=false/\Hid (under ts 4 tm r.tm=true)) \/ (r.tm.toList.isEmpty=false/\Hid (under ts 4 tm r.tm=false)):=by
  unfold Hid
  cases r.tm.toList.isEmpty <;> cases under ts 4 tm r.tm <;> simp
 have HM:Hid (meets ts r kd tm nm=((r.kd.toList.isEmpty||(r.kd.toList == kd.toList))&&((r.tm.toList.isEmpty||under ts 4 tm r.tm)&&begins nm r.px))):=by
  unfold Hid meets;rw[beq_toList]
 rcases hkc with hk|⟨hk,hke⟩|⟨hk,hke⟩
 ·rcases htc with ht|⟨ht,HU⟩|⟨ht,HU⟩
  ·by_cases hb:begins nm r.px=true
   ·have HP:Hid (begins nm r.px=true):=hb
    clear hb;have HF:Hid (qV ts r kd tm nm=bitsOf (yG r.vs)):=zfC (by rw[HM.o,hk,ht,HP.o];rfl);go_enter Tryz.func125,Tryz.ntmps125
    go_wp2_with (go_at_call 182;refine(zf HP.o (jP nm r.px _ hn hpx)).mono ?_;rintro e w'⟨rfl,rfl⟩)
    go_ret;exact⟨zk HF.o.symm,HB.o _⟩
   ·have HP:Hid (begins nm r.px=false):=by simpa[Hid] using hb
    clear hb;have HF:Hid (qV ts r kd tm nm=0):=zdn (by rw[HM.o,hk,ht,HP.o];simp);go_enter Tryz.func125,Tryz.ntmps125
    go_wp2_with (go_at_call 182;refine(zf HP.o (jP nm r.px _ hn hpx)).mono ?_;rintro e w'⟨rfl,rfl⟩)
    go_ret;exact⟨zk HF.o.symm,HB.o _⟩
  ·by_cases hb:begins nm r.px=true
   ·have HP:Hid (begins nm r.px=true):=hb
    clear hb;have HF:Hid (qV ts r kd tm nm=bitsOf (yG r.vs)):=zfC (by rw[HM.o,hk,ht,HU.o,HP.o];rfl);go_enter Tryz.func125,Tryz.ntmps125;go_wp2_with fail
    refine(zf HU.o (zan _ _ ts tm r.tm _ (HT.o _))).mono ?_;rintro e w1⟨rfl,hb1⟩;have hX1:=za (zn w _ _) (by simp) hb1;have hz:w.heap.size<w1.heap.size:=by have:=hb1.size;simp at this;omega
    have HB1:Hid (Bw w w1):=(HB.o _).trans (hb1.mono (by simp));clear hb1
    go_wp2_with (go_at_call 182;refine(zf HP.o (jP nm r.px _ hn hpx)).mono ?_;rintro e w'⟨rfl,rfl⟩)
    go_ret;exact⟨zk HF.o.symm,HB1.o⟩
   ·have HP:Hid (begins nm r.px=false):=by simpa[Hid] using hb
    clear hb;have HF:Hid (qV ts r kd tm nm=0):=zdn (by rw[HM.o,hk,ht,HU.o,HP.o];simp);go_enter Tryz.func125,Tryz.ntmps125;go_wp2_with fail
    refine(zf HU.o (zan _ _ ts tm r.tm _ (HT.o _))).mono ?_;rintro e w1⟨rfl,hb1⟩;have hX1:=za (zn w _ _) (by simp) hb1;have hz:w.heap.size<w1.heap.size:=by have:=hb1.size;simp at this;omega
    have HB1:Hid (Bw w w1):=(HB.o _).trans (hb1.mono (by simp));clear hb1
    go_wp2_with (go_at_call 182;refine(zf HP.o (jP nm r.px _ hn hpx)).mono ?_;rintro e w'⟨rfl,rfl⟩)
    go_ret;exact⟨zk HF.o.symm,HB1.o⟩
  ·have HF:Hid (qV ts r kd tm nm=0):=zdn (by rw[HM.o,hk,ht,HU.o];simp)
   go_enter Tryz.func125,Tryz.ntmps125;go_wp2_with fail
   refine(zf HU.o (zan _ _ ts tm r.tm _ (HT.o _))).mono ?_;rintro e w1⟨rfl,hb1⟩;have HB1:Hid (Bw w w1):=(HB.o _).trans (hb1.mono (by simp));clear hb1;go_wp2_with fail
   go_ret;exact⟨zk HF.o.symm,HB1.o⟩
 ·rcases htc with ht|⟨ht,HU⟩|⟨ht,HU⟩
  ·by_cases hb:begins nm r.px=true
   ·have HP:Hid (begins nm r.px=true):=hb
    clear hb;have HF:Hid (qV ts r kd tm nm=bitsOf (yG r.vs)):=zfC (by rw[HM.o,hk,hke,ht,HP.o];rfl);go_enter Tryz.func125,Tryz.ntmps125
    go_wp2_with (go_at_call 182;refine(zf HP.o (jP nm r.px _ hn hpx)).mono ?_;rintro e w'⟨rfl,rfl⟩)
    go_ret;exact⟨zk HF.o.symm,HB.o _⟩
   ·have HP:Hid (begins nm r.px=false):=by simpa[Hid] using hb
    clear hb;have HF:Hid (qV ts r kd tm nm=0):=zdn (by rw[HM.o,hk,hke,ht,HP.o];simp);go_enter Tryz.func125,Tryz.ntmps125
    go_wp2_with (go_at_call 182;refine(zf HP.o (jP nm r.px _ hn hpx)).mono ?_;rintro e w'⟨rfl,rfl⟩)
    go_ret;exact⟨zk HF.o.symm,HB.o _⟩
  ·by_cases hb:begins nm r.px=true
   ·have HP:Hid (begins nm r.px=true):=hb
    clear hb;have HF:Hid (qV ts r kd tm nm=bitsOf (yG r.vs)):=zfC (by rw[HM.o,hk,hke,ht,HU.o,HP.o];rfl);go_enter Tryz.func125,Tryz.ntmps125;go_wp2_with fail
    refine(zf HU.o (zan _ _ ts tm r.tm _ (HT.o _))).mono ?_;rintro e w1⟨rfl,hb1⟩;have hX1:=za (zn w _ _) (by simp) hb1;have hz:w.heap.size<w1.heap.size:=by have:=hb1.size;simp at this;omega
    have HB1:Hid (Bw w w1):=(HB.o _).trans (hb1.mono (by simp));clear hb1
    go_wp2_with (go_at_call 182;refine(zf HP.o (jP nm r.px _ hn hpx)).mono ?_;rintro e w'⟨rfl,rfl⟩)
    go_ret;exact⟨zk HF.o.symm,HB1.o⟩
   ·have HP:Hid (begins nm r.px=false):=by simpa[Hid] using hb
    clear hb;have HF:Hid (qV ts r kd tm nm=0):=zdn (by rw[HM.o,hk,hke,ht,HU.o,HP.o];simp);go_enter Tryz.func125,Tryz.ntmps125;go_wp2_with fail
    refine(zf HU.o (zan _ _ ts tm r.tm _ (HT.o _))).mono ?_;rintro e w1⟨rfl,hb1⟩;have hX1:=za (zn w _ _) (by simp) hb1;have hz:w.heap.size<w1.heap.size:=by have:=hb1.size;simp at this;omega
    have HB1:Hid (Bw w w1):=(HB.o _).trans (hb1.mono (by simp));clear hb1
    go_wp2_with (go_at_call 182;refine(zf HP.o (jP nm r.px _ hn hpx)).mono ?_;rintro e w'⟨rfl,rfl⟩)
    go_ret;exact⟨zk HF.o.symm,HB1.o⟩
  ·have HF:Hid (qV ts r kd tm nm=0):=zdn (by rw[HM.o,hk,hke,ht,HU.o];simp)
   go_enter Tryz.func125,Tryz.ntmps125;go_wp2_with fail
   refine(zf HU.o (zan _ _ ts tm r.tm _ (HT.o _))).mono ?_;rintro e w1⟨rfl,hb1⟩;have HB1:Hid (Bw w w1):=(HB.o _).trans (hb1.mono (by simp));clear hb1;go_wp2_with fail
   go_ret;exact⟨zk HF.o.symm,HB1.o⟩
 ·have HF:Hid (qV ts r kd tm nm=0):=zdn (by rw[HM.o,hk,hke];rfl)
  go_enter Tryz.func125,Tryz.ntmps125;go_wp2_with fail
  go_ret;exact⟨zk HF.o.symm,HB.o _⟩
theorem zm6 (ta:OA)(tcap:Nat)(ts:List Tm)(r:Rl)(a:OA)(cap:Nat)(w:World)(hw:yJ w a r.vs)(hv:yZ r.vs=true) :
 Calls Tryz.prog 78 #[.l ta ts.length tcap,.agg (r.cells a cap)] w fun e w'=>e=.returned (.func (.func 125) #[.agg (zfH ta tcap ts r a cap)] #[])/\Bw w w':=by
 unfold Rl.cells zfH;have HI:Hid (∀ob n,yJ ((w.alloc ob).drewN n) a r.vs):=fun ob n=>hw.mono (below_drewN (bAl _ _) n)
 go_enter Tryz.func78,Tryz.ntmps78;go_wp2_with fail
 go_quiet ((go_at_call 77;exact Calls.quiet_of_same (zis _ _ r.vs _ (by exact HI.o _ _) hv)))
 go_wp2_with fail
 go_ret;exact⟨rfl,below_drewN (bAl _ _) _⟩
theorem zp0 {w w':World}{g:Nat}{ws:List BA}(h:zJ w (some (aD g 0)) ws)(hl:Bw w w')(i:Nat)(hi:i<ws.length):g<w.heap.size/\w'.cell? (aD g i)=some (.s ws[i]):=by
 obtain⟨b,off,e,hb,hr⟩:=h.cells (by rintro rfl;simp at hi);simp only[Option.some.injEq,Addr.mk.injEq]at e;obtain⟨rfl,rfl,_⟩:=e;refine⟨hb,?_⟩
 have:=hr i hi
 rw[Nat.zero_add]at this;exact(hl.cell (p:=(aD g i)) hb).trans this
theorem zpZ {w w':World}{a:OA}{fs:List Fld}(h:yj w a fs)(hl:Bw w w')(i:Nat)(hi:i<fs.length):∃b off fw fc,a=some (aD b off)/\b<w.heap.size/\zeX w' b (off+i*11) fs[i] fw fc:=by
 obtain⟨b,off,ha,hb,hr⟩:=(h.mono hl).rows (by rintro rfl;simp at hi);obtain⟨b',off',ha',hb',_⟩:=h.rows (by rintro rfl;simp at hi);have e:=ha.symm.trans ha';simp only[Option.some.injEq,Addr.mk.injEq]at e;obtain⟨rfl,rfl,_⟩:=e;obtain⟨fw,fc,hf⟩:=hr i hi;exact⟨b,off,fw,fc,ha,hb',hf⟩
theorem znm (a0:OA)(cap0:Nat)(ss:List Shp)(o:Ob)(a a':OA)(cap cap':Nat)(w:World)(hw:yR w a0 ss)(ho:zab w o a a') :
 Calls Tryz.prog 93 #[.l a0 ss.length cap0,.agg #[.s o.kd,.s o.nm,.s o.tm,.l a o.vs.length cap,.bool o.en,.l a' o.hs.length cap',.i o.vr]] w fun e w'=>e=.returned (.tuple #[.i (yI ss o).1,.i (yI ss o).2])/\Bw w w':=by
 have hlh:=ho.holds.len;unfold maxLen at hlh
 by_cases hc:zH ss o=true
 rotate_left
 ·have HCt:Hid (zH ss o=false):=by simpa[Hid] using hc
  have HR:Hid (yI ss o=(1,0)):=by unfold Hid yI;rw[if_neg];unfold whole;rw[HCt.o];simp
  clear hc;go_enter Tryz.func93,Tryz.ntmps93;go_wp2_with fail
  refine(zdC _ _ _ _ _ _ _ _ _ (hw.mono (bAl _ _)) (ho.mono (bAl _ _)) HCt.o).mono ?_;rintro e w1⟨v,rfl,hb1⟩;have hB1:Bw w w1:=(bAl _ _).trans (hb1.mono (by simp));clear hb1;go_wp2_with fail
  go_ret2
  exact⟨by rw[HR.o];rfl,hB1⟩
 have HCt:=hid hc
 by_cases hn:zm o.nm=true
 rotate_left
 ·have hn':zm o.nm=false:=by simpa using hn
  have HNm:=hid hn';clear hn hc
  have HR:Hid (yI ss o=(1,0)):=by
   unfold Hid yI;rw[if_neg];unfold whole qU;simp[hn']
  go_enter Tryz.func93,Tryz.ntmps93;go_wp2_with fail
  refine(jE _ _ _ _ _ _ _ _ _ (hw.mono (bAl _ _)) (ho.mono (bAl _ _)) HCt.o).mono ?_;rintro e w1⟨fa,fcap,rfl,hfl0,hb1⟩;have hX1:=za (zn w _ _) (by simp) hb1;have hz1:w.heap.size<w1.heap.size:=by have:=hb1.size;simp at this;omega
  have hB1:Bw w w1:=(bAl _ _).trans (hb1.mono (by simp));have hfl1:=hfl0.mono hb1;clear hb1 hfl0;go_wp2_with fail
  refine(zf HNm.o (zi _ _ ho.small.nm)).mono ?_;rintro e w2⟨rfl,rfl⟩;go_wp2_with fail
  go_ret2
  exact⟨by rw[HR.o];rfl,hB1⟩
 have HNm:=hid hn
 by_cases ht:zm o.tm=true
 rotate_left
 ·have ht':zm o.tm=false:=by simpa using ht
  have HTm:=hid ht';clear ht hc hn
  have HR:Hid (yI ss o=(1,0)):=by
   unfold Hid yI;rw[if_neg];unfold whole qU;simp[ht']
  go_enter Tryz.func93,Tryz.ntmps93;go_wp2_with fail
  refine(jE _ _ _ _ _ _ _ _ _ (hw.mono (bAl _ _)) (ho.mono (bAl _ _)) HCt.o).mono ?_;rintro e w1⟨fa,fcap,rfl,hfl0,hb1⟩;have hX1:=za (zn w _ _) (by simp) hb1;have hz1:w.heap.size<w1.heap.size:=by have:=hb1.size;simp at this;omega
  have hB1:Bw w w1:=(bAl _ _).trans (hb1.mono (by simp));have hfl1:=hfl0.mono hb1;clear hb1 hfl0;go_wp2_with fail
  refine(zf HNm.o (zi _ _ ho.small.nm)).mono ?_;rintro e w2⟨rfl,rfl⟩;go_wp2_with fail
  refine(zf HTm.o (zi _ _ ho.small.tm)).mono ?_;rintro e w3⟨rfl,rfl⟩;go_wp2_with fail
  go_ret2
  exact⟨by rw[HR.o];rfl,hB1⟩
 have HTm:=hid ht
 by_cases h3:o.hs.length<=3
 rotate_left
 ·have h3I:(3:Int)<(o.hs.length:Int):=by omega
  clear ht hc hn
  have HR:Hid (yI ss o=(1,0)):=by
   unfold Hid yI;rw[if_neg];unfold whole jh;simp[show ¬o.hs.length<=3 by omega]
  go_enter Tryz.func93,Tryz.ntmps93;go_wp2_with fail
  refine(jE _ _ _ _ _ _ _ _ _ (hw.mono (bAl _ _)) (ho.mono (bAl _ _)) HCt.o).mono ?_;rintro e w1⟨fa,fcap,rfl,hfl0,hb1⟩;have hX1:=za (zn w _ _) (by simp) hb1;have hz1:w.heap.size<w1.heap.size:=by have:=hb1.size;simp at this;omega
  have hB1:Bw w w1:=(bAl _ _).trans (hb1.mono (by simp));have hfl1:=hfl0.mono hb1;clear hb1 hfl0;go_wp2_with fail
  refine(zf HNm.o (zi _ _ ho.small.nm)).mono ?_;rintro e w2⟨rfl,rfl⟩;go_wp2_with fail
  refine(zf HTm.o (zi _ _ ho.small.tm)).mono ?_;rintro e w3⟨rfl,rfl⟩;go_wp2_with fail
  go_ret2
  exact⟨by rw[HR.o];rfl,hB1⟩
 have h3I:(o.hs.length:Int)<=3:=by omega
 by_cases ha:asc o.hs=true
 rotate_left
 ·have ha':asc o.hs=false:=by simpa using ha
  have HAsc:=hid ha';clear ht hc hn ha
  have HR:Hid (yI ss o=(1,0)):=by
   unfold Hid yI;rw[if_neg];unfold whole jh;simp[ha']
  go_enter Tryz.func93,Tryz.ntmps93;go_wp2_with fail
  refine(jE _ _ _ _ _ _ _ _ _ (hw.mono (bAl _ _)) (ho.mono (bAl _ _)) HCt.o).mono ?_;rintro e w1⟨fa,fcap,rfl,hfl0,hb1⟩;have hX1:=za (zn w _ _) (by simp) hb1;have hz1:w.heap.size<w1.heap.size:=by have:=hb1.size;simp at this;omega
  have hB1:Bw w w1:=(bAl _ _).trans (hb1.mono (by simp));have hfl1:=hfl0.mono hb1;clear hb1 hfl0;go_wp2_with fail
  refine(zf HNm.o (zi _ _ ho.small.nm)).mono ?_;rintro e w2⟨rfl,rfl⟩;go_wp2_with fail
  refine(zf HTm.o (zi _ _ ho.small.tm)).mono ?_;rintro e w3⟨rfl,rfl⟩;go_wp2_with fail
  refine(zf HAsc.o (zae _ _ _ _ (ho.holds.mono hB1))).mono ?_;rintro e w4⟨rfl,nd,rfl⟩;go_wp2_with fail
  go_ret2
  exact⟨by rw[HR.o];rfl,below_drewN hB1 _⟩
 have HAsc:=hid ha
 by_cases hv:0<=o.vr/\o.vr<=1000000
 rotate_left
 ·have HV:=hid hv
  have HR:Hid (yI ss o=(1,0)):=by
   unfold Hid yI;rw[if_neg];unfold whole qG;intro h;simp only[Bool.and_eq_true,decide_eq_true_eq]at h;exact hv h.1.2
  clear ht hc hn ha hv;go_enter Tryz.func93,Tryz.ntmps93;go_wp2_with fail
  refine(jE _ _ _ _ _ _ _ _ _ (hw.mono (bAl _ _)) (ho.mono (bAl _ _)) HCt.o).mono ?_;rintro e w1⟨fa,fcap,rfl,hfl0,hb1⟩;have hX1:=za (zn w _ _) (by simp) hb1;have hz1:w.heap.size<w1.heap.size:=by have:=hb1.size;simp at this;omega
  have hB1:Bw w w1:=(bAl _ _).trans (hb1.mono (by simp));have hfl1:=hfl0.mono hb1;clear hb1 hfl0;go_wp2_with fail
  refine(zf HNm.o (zi _ _ ho.small.nm)).mono ?_;rintro e w2⟨rfl,rfl⟩;go_wp2_with fail
  refine(zf HTm.o (zi _ _ ho.small.tm)).mono ?_;rintro e w3⟨rfl,rfl⟩;go_wp2_with fail
  refine(zf HAsc.o (zae _ _ _ _ (ho.holds.mono hB1))).mono ?_;rintro e w4⟨rfl,nd,rfl⟩;go_wp2_with fail
  refine(zdG _ _ _ _ (by have:=HV.o;omega)).mono ?_;rintro e w5⟨rfl,rfl⟩;go_wp2_with fail
  go_ret2
  exact⟨by rw[HR.o];rfl,below_drewN hB1 _⟩
 obtain⟨hv0,hv1⟩:=hv
 have HR:Hid (yI ss o=jV (shapeOf ss o.kd).fs o.vs):=by
  unfold Hid yI;rw[if_pos];unfold whole qU jh qG;simp[hc,hn,ht,h3,ha,hv0,hv1]
 have HLn:Hid (o.vs.length=(shapeOf ss o.kd).fs.length):=by
  unfold zH at hc;simp only[Bool.and_eq_true,decide_eq_true_eq]at hc;exact hc.2
 clear hc hn ht ha;go_enter Tryz.func93,Tryz.ntmps93;go_wp2_with fail
 refine(jE _ _ _ _ _ _ _ _ _ (hw.mono (bAl _ _)) (ho.mono (bAl _ _)) HCt.o).mono ?_;rintro e w1⟨fa,fcap,rfl,hfl0,hb1⟩;have hX1:=za (zn w _ _) (by simp) hb1;have hz1:w.heap.size<w1.heap.size:=by have:=hb1.size;simp at this;omega
 have hB1:Bw w w1:=(bAl _ _).trans (hb1.mono (by simp));have hfl1:=hfl0.mono hb1;clear hb1 hfl0;go_wp2_with fail
 refine(zf HNm.o (zi _ _ ho.small.nm)).mono ?_;rintro e w2⟨rfl,rfl⟩;go_wp2_with fail
 refine(zf HTm.o (zi _ _ ho.small.tm)).mono ?_;rintro e w3⟨rfl,rfl⟩;go_wp2_with fail
 refine(zf HAsc.o (zae _ _ _ _ (ho.holds.mono hB1))).mono ?_;rintro e w4⟨rfl,nd,rfl⟩;go_wp2_with fail
 refine(zbJ _ _ _ _ hv0 hv1).mono ?_;rintro e w5⟨rfl,rfl⟩
 generalize hfs:(shapeOf ss o.kd).fs=fs at *
 have hlen:=hfl1.len;unfold maxLen at hlen;go_wp2_with fail
 go_loopw [8] (fun i wr=>∃k:Nat,k<=fs.length/\i=.i k/\up (zbo fs o.vs) k=true/\Bw w3 wr) (fun i _=>fs.length-(intOf i).toNat)
 case atStart=>exact⟨0,Nat.zero_le _,rfl,rfl,below_drewN (bRf _ _) _⟩
 case round=>
  obtain⟨k,hk,rfl,hup,hBr⟩:=hrel;have hszr:=hBr.size;have hB:Bw w wr:=hB1.trans (hBr.mono (by omega))
  by_cases hlt:k<fs.length
  ·have hXr:=za hX1 hz1 hBr
   obtain⟨b,off,rfl,hb,hr⟩:=hfl1.rows (by rintro rfl;simp at hlt);obtain⟨wa,wcap,hf0⟩:=hr k hlt;have hf:=hf0.mono hb hBr;obtain⟨c0,c1,c2,c3,c4,c5,c6,c7,c8,c9,c10⟩:=hf.load;have hst:=hf.strs;have hltv:k<o.vs.length:=by rw[HLn.o];exact hlt
   obtain⟨vb,voff,rfl,hvb,hvc⟩:=ho.vals.cells (by intro h;rw[h]at hltv;simp at hltv);have hcv:=(hB.cell (p:=(aD vb (voff+k))) hvb).trans (hvc k hltv);have hvs:=ho.vals.small _ (List.getElem_mem hltv);have hltI:(k:Int)<(fs.length:Int):=by omega
   have hltV:(k:Int)<(o.vs.length:Int):=by omega
   have HFX:=hid (zkS hlt hltv)
   have HS:Hid (zaO fs[k] o.vs[k]=0->up (zbo fs o.vs) (k+1)=true):=fun h=>by
    rw[jA,hup];unfold zbo;rw[HFX.o,h];rfl
   have HN:Hid (∀n:Int,n≠0->zaO fs[k] o.vs[k]=n->yI ss o=(n,(k:Int))):=fun n hn0 h=>by
    rw[HR.o,zlX hlt hup (by unfold zbo;rw[HFX.o,h];simp[hn0]),HFX.o,h]
   clear hX1 hr hf0 hf hup
   by_cases he:o.vs[k].size=0
   ·have hne:o.vs[k].toList.isEmpty=true:=by rw[zy];simp[he]
    have HE:=hid he;clear he
    by_cases hmu:fs[k].mu=true
    ·have HM:=hid hmu
     go_wp2_with fail
     go_ret2
     have hv:=HN.o 2 (by decide) (by unfold zaO;rw[if_pos HE.o,if_pos HM.o]);exact⟨by rw[hv];rfl,hB⟩
    ·have hmu':fs[k].mu=false:=by simpa using hmu
     have HM:=hid hmu';clear hmu;go_wp2_with fail
     exact⟨⟨k+1,by omega,by go_num,HS.o (by unfold zaO;rw[if_pos HE.o,HM.o];rfl),hBr⟩,by simp[intOf];omega⟩
   ·have hne:o.vs[k].toList.isEmpty=false:=by rw[zy];simp[he]
    have HE:Hid (¬o.vs[k].size=0):=he;clear he
    by_cases hfit:fits fs[k].kd fs[k].ls fs[k].ms fs[k].ws o.vs[k]=true
    all_goals
     first
      | (have HFT:Hid (fits fs[k].kd fs[k].ls fs[k].ms fs[k].ws o.vs[k]=true):=hfit)
      | (have HFT:Hid (fits fs[k].kd fs[k].ls fs[k].ms fs[k].ws o.vs[k]=false):=by simpa[Hid] using hfit)
     clear hfit;go_wp2_with fail
     have hbx:Bw wr wr.drew:=(bRf _ _).drew
     go_region_with (go_at_call 137;refine(zf HFT.o (qm _ _ _ _ _ _ _ _ _ _ _ _ _ _ _ hvs (by exact hst.mono hbx))).mono ?_;rintro e w3⟨rfl,hb3⟩)
     all_goals go_wp2_with fail
    all_goals have hB3:Bw wr w3:=hbx.trans hb3
    all_goals first
     | (have hft:fits fs[k].kd fs[k].ls fs[k].ms fs[k].ws o.vs[k]=true:=HFT.o
        exact⟨⟨k+1,by omega,by go_num,HS.o (by unfold zaO;rw[if_neg HE.o];unfold zfW;rw[hft];rfl),hBr.trans (hB3.mono hszr)⟩,by simp[intOf];omega⟩)
     | (have hft:fits fs[k].kd fs[k].ls fs[k].ms fs[k].ws o.vs[k]=false:=HFT.o
        go_ret2
        have hv:=HN.o 3 (by decide) (by unfold zaO;rw[if_neg HE.o];unfold zfW;rw[hft];rfl);exact⟨by rw[hv];rfl,hB.trans (hB3.mono (by omega))⟩)
  ·have HF:Hid (yI ss o=(0,0)):=by
    have e:k=fs.length:=by omega
    subst e;rw[HR.o];exact zit hup
   clear hup;go_wp2_with fail
   go_ret2
   exact⟨by rw[HF.o];rfl,hB⟩
end Go.Proofs.YthdfpinbnncghaaGreat
namespace Go.Proofs.YthdfpinbnncghaaGreat
open Go.ChangeShapes Go.WideShapes Go.ChangeAt Go.RowKit
theorem Tryz.znq:Tryz.prog.cellsOf 213=15:=by kernel_rfl
section
variable {H:Type} {enc:TypeId × Value->H} {w:World} {base:Nat} {spare:Nat->Bool} {held:Bool}
theorem zdD {P:Program}{t:TypeId}{fs:Array Field}{fuel:Nat}{cs:List Value}{x:DataW H × List MemPlace}(ht:P.underlying t=some (.struct fs))(h:DataW.trod enc P w base spare held fuel t cs=some x)
 (i tf off n:Nat) (hf:(fs[i]?).map (fun f=>(f.type,f.offset))=some (tf,off)) (hn:P.cellsOf tf=n):∃m y,DataW.trod enc P w base spare held m tf ((cs.drop off).take n)=some y:=by
 obtain⟨f,hf1,hf2⟩:=Option.map_eq_some_iff.1 hf;simp only[Prod.mk.injEq]at hf2;obtain⟨rfl,rfl⟩:=hf2;subst hn;exact zgi ht h i f hf1
theorem zqX {fuel:Nat}{cs:List Value}{x:DataW H × List MemPlace}(h:DataW.trod enc Tryz.prog w base spare held fuel 213 cs=some x) :
 ∃(k:Ak) (a0 a1 a2:OA) (q0 q1 q2:Nat),cs=(k.cells a0 a1 a2 q0 q1 q2).toList/\jq w k a0 a1 a2:=by
 have hlen:cs.length=15:=by
  obtain⟨_,_,_,_,hl,_,_⟩:=DataW.trod_struct Tryz.underlying213 h;rw[hl];exact Tryz.znq
 match cs,hlen with
 | [c0,c1,c2,c3,c4,c5,c6,c7,c8,c9,c10,c11,c12,c13,c14],_=>
  have hf:=jo Tryz.underlying213 h;obtain⟨_,_,f0⟩:=hf 0 9 0 c0 rfl Tryz.zK rfl;obtain⟨_,_,f1⟩:=hf 1 3 1 c1 rfl Tryz.jd rfl;obtain⟨_,_,f2⟩:=hf 2 9 2 c2 rfl Tryz.zK rfl;obtain⟨_,_,f3⟩:=hf 3 9 3 c3 rfl Tryz.zK rfl;obtain⟨_,_,f4⟩:=hf 4 9 4 c4 rfl Tryz.zK rfl;obtain⟨_,_,f5⟩:=hf 5 110 5 c5 rfl Tryz.zb0 rfl;obtain⟨_,_,f6⟩:=hf 6 110 6 c6 rfl Tryz.zb0 rfl;obtain⟨_,_,f7⟩:=hf 7 3 7 c7 rfl Tryz.jd rfl;obtain⟨_,_,f8⟩:=hf 8 9 8 c8 rfl Tryz.zK rfl;obtain⟨_,_,f9⟩:=hf 9 9 9 c9 rfl Tryz.zK rfl;obtain⟨_,_,f10⟩:=zdD Tryz.underlying213 h 10 114 10 4 rfl Tryz.zhR;obtain⟨_,_,f11⟩:=hf 11 3 14 c14 rfl Tryz.jd rfl;obtain⟨who,e0,_,s0⟩:=DataW.trod_string Tryz.underlying9 f0;obtain⟨vb,e1,_,_⟩:=DataW.trod_int Tryz.underlying3 f1;obtain⟨kd,e2,_,s2⟩:=DataW.trod_string Tryz.underlying9 f2;obtain⟨nm,e3,_,s3⟩:=DataW.trod_string Tryz.underlying9 f3;obtain⟨tm,e4,_,s4⟩:=DataW.trod_string Tryz.underlying9 f4;obtain⟨avs,qvs,vs,e5,hvs⟩:=zeg Tryz.underlying110 Tryz.underlying9 Tryz.zK f5;obtain⟨ahs,qhs,hs,e6,hhs⟩:=zeg Tryz.underlying110 Tryz.underlying9 Tryz.zK f6;obtain⟨sn,e7,_,_⟩:=DataW.trod_int Tryz.underlying3 f7;obtain⟨hd,e8,_,s8⟩:=DataW.trod_string Tryz.underlying9 f8;obtain⟨to,e9,_,s9⟩:=DataW.trod_string Tryz.underlying9 f9;obtain⟨r,ar,qr,e10,hrs,hr⟩:=zlS f10;obtain⟨no,e11,_,_⟩:=DataW.trod_int Tryz.underlying3 f11;simp only[List.cons.injEq,and_true]at e0 e1 e2 e3 e4 e5 e6 e7 e8 e9 e11;subst e0 e1 e2 e3 e4 e5 e6 e7 e8 e9 e11;have er:[c10,c11,c12,c13]=(r.cells ar qr).toList:=e10;unfold Rl.cells at er;simp only[List.cons.injEq,and_true]at er;obtain⟨g0,g1,g2,g3⟩:=er;subst g0 g1 g2 g3;exact⟨⟨who,vb,kd,nm,tm,vs,hs,sn,hd,to,r,no⟩,avs,ahs,ar,qvs,qhs,qr,rfl,⟨⟨s0,s2,s3,s4,s8,s9,hrs⟩,hvs,hhs,hr⟩⟩
end
end Go.Proofs.YthdfpinbnncghaaGreat
