import Derived.Test.YtecncindgjdbiaaGreatM16
import Derived.Test.YtecncindgjdbiaaGreatM18
set_option maxHeartbeats 4000000
namespace Go.Proofs.YtecncindgjdbiaaGreat
open Go.RowKit
structure Bk where
 now:Int
 tick:Int
 given:Int
 os:List Ob
 gs:List Gr
 ls:List Lg
 ps:List Pu
abbrev bC (b:Bk)(a0 a1 a2 a3:OA)(c0 c1 c2 c3:Nat):AV:=#[.i b.now,.i b.tick,.i b.given,.l a0 b.os.length c0,.l a1 b.gs.length c1,.l a2 b.ls.length c2,.l a3 b.ps.length c3]
abbrev bZ:AV:=#[.i 0,.i 0,.i 0,.l none 0 0,.l none 0 0,.l none 0 0,.l none 0 0]
def Bk.cells (b:Bk)(a0 a1 a2 a3:OA)(c0 c1 c2 c3:Nat):AV:=#[.i b.now,.i b.tick,.i b.given,.l a0 b.os.length c0,.l a1 b.gs.length c1,.l a2 b.ls.length c2,.l a3 b.ps.length c3]
structure jc (w:World)(b:Bk)(a0 a1 a2 a3:OA):Prop where
 os:zbJ w a0 b.os
 gs:zce w a1 b.gs
 ls:zbD w a2 b.ls
 ps:zbj w a3 b.ps
theorem jc.mono {w w':World}{b:Bk}{a0 a1 a2 a3:OA}(h:jc w b a0 a1 a2 a3)(hb:Bw w w'):jc w' b a0 a1 a2 a3:=⟨h.os.mono hb,h.gs.mono hb,h.ls.mono hb,h.ps.mono hb⟩
def Bk.sz (b:Bk):Nat:=qO b.os+zch b.gs+zcQ b.ls+zc6 b.ps
structure Bk.Few (b:Bk):Prop where
 os:b.os.length<=1048576/\∀i (h:i<b.os.length),b.os[i].vs.length<=1048576/\b.os[i].hs.length<=1048576
 gs:b.gs.length<=1048576/\∀i (h:i<b.gs.length),b.gs[i].r.vs.length<=1048576
 ls:b.ls.length<=1048576
 ps:b.ps.length<=1048576
theorem Bk.few {b:Bk}(h:(b.sz:Int)<=1048576):b.Few:=by
 unfold Bk.sz at h;refine⟨zl6 (left:=1048576) (by omega) (by omega),zqZ (left:=1048576) (by omega) (by omega),?_,?_⟩
 ·unfold zcQ at h;omega
 ·unfold zc6 at h;omega
structure Bk.Small (b:Bk):Prop where
 os:zeK b.os
 lo:b.os.length<=maxLen
 gs:zgO b.gs
 lg:b.gs.length<=maxLen
 ls:∀i (h:i<b.ls.length),b.ls[i].Small
 ll:b.ls.length<=maxLen
 ps:∀i (h:i<b.ps.length),b.ps[i].Small
 lp:b.ps.length<=maxLen
theorem jc.small {w:World}{b:Bk}{a0 a1 a2 a3:OA}(h:jc w b a0 a1 a2 a3):b.Small:=⟨h.os.smalls,h.os.len,h.gs.smalls,h.gs.len,h.ls.small,h.ls.len,h.ps.small,h.ps.len⟩
structure znc (lo:Nat)(w:World)(b:Bk)(g0 g1 g2 g3:Nat):Prop where
 os:zad lo w g0 b.os b.os.length
 gs:jZ lo w g1 b.gs b.gs.length
 ls:j4 lo w g2 b.ls b.ls.length
 ps:j6 lo w g3 b.ps b.ps.length
theorem znc.at {lo:Nat}{w:World}{b:Bk}{g0 g1 g2 g3:Nat}(h:znc lo w b g0 g1 g2 g3)(hs:b.Small):jc w b (some (aD g0 0)) (some (aD g1 0)) (some (aD g2 0)) (some (aD g3 0)):=⟨h.os.at hs.os hs.lo,h.gs.at hs.gs hs.lg,h.ls.at hs.ls hs.ll,h.ps.at hs.ps hs.lp⟩
theorem zjM (b:Bk)(a0 a1 a2 a3:OA)(c0 c1 c2 c3:Nat)(left:Int)(w:World)(hl:jc w b a0 a1 a2 a3)(h0:0<=left)(h1:left<=1048576) :
 Calls Tryz.prog 5 #[.agg (b.cells a0 a1 a2 a3 c0 c1 c2 c3),.i left] w fun e w'=>e=.returned (.i (zL b.sz left))/\Bw w w':=by
 have HL:Hid (jc w b a0 a1 a2 a3):=hl;clear hl;unfold Bk.cells;go_enter Tryz.func5,Tryz.ntmps5;go_wp2_with fail
 refine(zgb _ _ b.os _ _ (HL.o.os.mono (bAl _ _)) h0 h1).mono ?_;rintro e w1⟨rfl,hb⟩;have hX1:=za (zl w (bC b a0 a1 a2 a3 c0 c1 c2 c3) 32) (by simp) hb;have hz1:w.heap.size<w1.heap.size:=by have:=hb.size;simp at this;omega
 have hB1:Bw w w1:=(bAl _ _).trans (hb.mono (by simp));clear hb
 by_cases q1:(qO b.os:Int)<=left
 rotate_left
 ·have HF:Hid (zL b.sz left=-1):=zC (by unfold Bk.sz;omega)
  rw[zC q1];go_wp2_with fail
  go_ret;exact⟨zo HF.o.symm,hB1⟩
 rw[zM q1];go_wp2_with fail
 refine(zhg _ _ b.gs _ _ (HL.o.gs.mono hB1) (by omega) (by omega)).mono ?_;rintro e w2⟨rfl,hb⟩;have hX2:=za hX1 hz1 hb;have hz2:=nLt hz1 hb.size;have hB2:=hB1.trans (hb.mono hB1.size);clear hb hX1 hz1 hB1
 by_cases q2:(zch b.gs:Int)<=left-qO b.os
 rotate_left
 ·have HF:Hid (zL b.sz left=-1):=zC (by unfold Bk.sz;omega)
  rw[zC q2];go_wp2_with fail
  go_ret;exact⟨zo HF.o.symm,hB2⟩
 rw[zM q2];go_wp2_with fail
 refine(zgn _ _ b.ls _ _ (HL.o.ls.mono hB2) (by omega) (by omega)).mono ?_;rintro e w3⟨rfl,hb⟩;have hX3:=za hX2 hz2 hb;have hz3:=nLt hz2 hb.size;have hB3:=hB2.trans (hb.mono hB2.size);clear hb hX2 hz2 hB2
 by_cases q3:(zcQ b.ls:Int)<=left-qO b.os-zch b.gs
 rotate_left
 ·have HF:Hid (zL b.sz left=-1):=zC (by unfold Bk.sz;omega)
  rw[zC q3];go_wp2_with fail
  go_ret;exact⟨zo HF.o.symm,hB3⟩
 rw[zM q3];go_wp2_with fail
 refine(zg7 _ _ b.ps _ _ (HL.o.ps.mono hB3) (by omega) (by omega)).mono ?_;rintro e w4⟨rfl,hb⟩;have hX4:=za hX3 hz3 hb;have hz4:=nLt hz3 hb.size;have hB4:=hB3.trans (hb.mono hB3.size);clear hb hX3 hz3 hB3
 by_cases q4:(zc6 b.ps:Int)<=left-qO b.os-zch b.gs-zcQ b.ls
 rotate_left
 ·have HF:Hid (zL b.sz left=-1):=zC (by unfold Bk.sz;omega)
  rw[zC q4];go_wp2_with fail
  go_ret;exact⟨zo HF.o.symm,hB4⟩
 have HF:Hid (zL b.sz left=left-qO b.os-zch b.gs-zcQ b.ls-zc6 b.ps):=by
  unfold Hid;rw[zM (by unfold Bk.sz;omega)];unfold Bk.sz;omega
 rw[zM q4];go_wp2_with fail
 go_ret;exact⟨zo HF.o.symm,hB4⟩
theorem zbv (b:Bk)(a0 a1 a2 a3:OA)(c0 c1 c2 c3:Nat)(a0' a1' a2' a3':OA)(c0' c1' c2' c3':Nat)(w:World)(hl:jc w b a0 a1 a2 a3)(hl':jc w b a0' a1' a2' a3') :
 Calls Tryz.prog 10 #[.agg (b.cells a0 a1 a2 a3 c0 c1 c2 c3),.agg (b.cells a0' a1' a2' a3' c0' c1' c2' c3')] w fun e w'=>e=.returned (.bool true)/\Bw w w':=by
 have HL:Hid (jc w b a0 a1 a2 a3/\jc w b a0' a1' a2' a3'):=⟨hl,hl'⟩
 clear hl hl';have n1:(b.now != b.now)=false:=by simp
 have n2:(b.tick != b.tick)=false:=by simp
 have n3:(b.given != b.given)=false:=by simp
 unfold Bk.cells;go_enter Tryz.func10,Tryz.ntmps10;go_wp2_with fail
 refine(zf8 _ _ _ _ b.os _ (HL.o.1.os.mono (zw _ _ _)) (HL.o.2.os.mono (zw _ _ _))).mono ?_;rintro e w1⟨rfl,hb⟩;have hX1:=za (za (zl w _ _) (by simp) (bAl _ _)) (by simp;omega) hb;have hY1:=za (zl (w.alloc (.cells (bC b a0 a1 a2 a3 c0 c1 c2 c3) 40)) (bC b a0' a1' a2' a3' c0' c1' c2' c3') 40) (by simp) hb;have hz1:w.heap.size+1<w1.heap.size:=by have:=hb.size;simp at this;omega
 have hB1:=(zw w _ _).trans (hb.mono (by simp;omega));rw[World.size_alloc]at hY1;clear hb;go_wp2_with fail
 refine(zho _ _ _ _ b.gs _ (HL.o.1.gs.mono hB1) (HL.o.2.gs.mono hB1)).mono ?_;rintro e w2⟨rfl,hb⟩;have hX2:=za hX1 (nSl hz1) hb;have hY2:=za hY1 hz1 hb;have hz2:=nLt hz1 hb.size;have hB2:=hB1.trans (hb.mono hB1.size);clear hb hX1 hY1 hz1 hB1;go_wp2_with fail
 refine(zgj _ _ _ _ b.ls _ (HL.o.1.ls.mono hB2) (HL.o.2.ls.mono hB2)).mono ?_;rintro e w3⟨rfl,hb⟩;have hX3:=za hX2 (nSl hz2) hb;have hY3:=za hY2 hz2 hb;have hz3:=nLt hz2 hb.size;have hB3:=hB2.trans (hb.mono hB2.size);clear hb hX2 hY2 hz2 hB2;go_wp2_with fail
 refine(zhA _ _ _ _ b.ps _ (HL.o.1.ps.mono hB3) (HL.o.2.ps.mono hB3)).mono ?_;rintro e w4⟨rfl,hb⟩;have hX4:=za hX3 (nSl hz3) hb;have hY4:=za hY3 hz3 hb;have hz4:=nLt hz3 hb.size;have hB4:=hB3.trans (hb.mono hB3.size);clear hb hX3 hY3 hz3 hB3;go_wp2_with fail
 go_ret;exact⟨rfl,hB4⟩
theorem zkd {p:Prop}(h:p):Hid p:=h
theorem qZ (w:World)(X Y:AV)(s t:TypeId):(∀j,((w.alloc (.cells X s)).alloc (.cells Y t)).cell? (aD w.heap.size j)=X[j]?)/\∀j,((w.alloc (.cells X s)).alloc (.cells Y t)).cell? (aD (w.heap.size+1) j)=Y[j]?:=by
 refine⟨za (zl w X s) (by simp) (bAl _ _),fun j=>?_⟩;have h:=zl (w.alloc (.cells X s)) Y t j;rw[World.size_alloc]at h;exact h
theorem zk5 (l:Lw)(la lb lc:OA)(lca lcb lcc:Nat)(o:Ob)(oa oa':OA)(ocap ocap':Nat)(res:BA)(w:World)(hl:jr w l la lb lc)(_ho:jT w o oa oa')(hc:¬(zB l.ss o=true/\res.toList.isEmpty=false)) :
 Calls Tryz.prog 232 #[.agg (l.cells la lb lc lca lcb lcc),.agg #[.s o.kd,.s o.nm,.s o.tm,.l oa o.vs.length ocap,.bool o.en,.l oa' o.hs.length ocap',.i o.vr],.s res] w fun e w'=>e=.returned (.i (qU l.ss o res))/\Bw w w':=by
 have HL:=hid hl;have HW:Hid (qU l.ss o res=0):=by unfold Hid qU;rw[if_neg hc]
 have HC:=hid hc;clear hl hc;unfold Lw.cells;go_enter Tryz.func232,Tryz.ntmps232;go_wp2_with fail
 refine(qJ _ _ l.ss o.kd _ (HL.o.ss.mono (zw _ _ _))).mono ?_;rintro e w1⟨fa,fcap,rfl,hfl,hb⟩;obtain⟨hX0,hY0⟩:=qZ w #[.l la l.ss.length lca,.l lb l.ms.length lcb,.l lc l.ts.length lcc] (oC o oa oa' ocap ocap') 47 123;have hX1:=za hX0 (by simp;omega) hb;have hY1:=za hY0 (by simp) hb;have hz1:w.heap.size+1<w1.heap.size:=by have:=hb.size;simp at this;omega
 have HB1:Hid (Bw w w1):=(zw w _ _).trans (hb.mono (by simp;omega));clear hfl hb hX0 hY0
 by_cases hk:zJ l.ss o.kd=true
 rotate_left
 ·have hk':zJ l.ss o.kd=false:=by simpa using hk
  rw[hk'];clear hk hk';go_wp2_with fail
  go_ret;exact⟨zo HW.o.symm,HB1.o.alloc HB1.o.size _⟩
 by_cases he:res.toList.isEmpty=true
 ·have HK:=hid hk
  rw[HK.o];clear hk;go_wp2_with fail
  go_ret;exact⟨zo HW.o.symm,HB1.o.alloc HB1.o.size _⟩
 ·have he':res.toList.isEmpty=false:=by simpa using he
  have hne:((o.vs.length:Int) != ((shapeOf l.ss o.kd).fs.length:Int))=true:=by
   have h:=HC.o;unfold zB at h;rw[hk]at h;simp only[Bool.true_and,decide_eq_true_eq]at h;have h2:¬o.vs.length=(shapeOf l.ss o.kd).fs.length:=fun e=>h ⟨e,he'⟩
   simp;omega
  have HK:=hid hk;rw[HK.o];clear he hk;go_wp2_with fail
  go_ret;exact⟨zo HW.o.symm,HB1.o.alloc HB1.o.size _⟩
theorem zjJ (l:Lw)(la lb lc:OA)(lca lcb lcc:Nat)(o:Ob)(oa oa':OA)(ocap ocap':Nat)(res:BA)(w:World)(hl:jr w l la lb lc)(ho:jT w o oa oa')(hc:zB l.ss o=true)(he:res.toList.isEmpty=false)(hlen:o.vs.length<=1048576) :
 Calls Tryz.prog 232 #[.agg (l.cells la lb lc lca lcb lcc),.agg #[.s o.kd,.s o.nm,.s o.tm,.l oa o.vs.length ocap,.bool o.en,.l oa' o.hs.length ocap',.i o.vr],.s res] w fun e w'=>e=.returned (.i (qU l.ss o res))/\Bw w w':=by
 have HL:=hid hl;have HO:=hid ho;have HW:Hid (qU l.ss o res=(if res=o.kd then 1 else 0)+zel (shapeOf l.ss o.kd).fs o.vs res (shapeOf l.ss o.kd).fs.length):=by unfold Hid qU;rw[if_pos ⟨hc,he⟩]
 have HK:Hid (zJ l.ss o.kd=true/\o.vs.length=(shapeOf l.ss o.kd).fs.length):=by unfold zB at hc;unfold Hid;simpa using hc
 have HN:=hid hlen;clear hl ho hc hlen;unfold Lw.cells;go_enter Tryz.func232,Tryz.ntmps232;go_wp2_with fail
 refine(qJ _ _ l.ss o.kd _ (HL.o.ss.mono (zw _ _ _))).mono ?_;rintro e w1⟨fa,fcap,rfl,hfl,hb⟩;obtain⟨hX0,hY0⟩:=qZ w #[.l la l.ss.length lca,.l lb l.ms.length lcb,.l lc l.ts.length lcc] (oC o oa oa' ocap ocap') 47 123;have hY1:=za hY0 (by simp) hb;have hz1:w.heap.size+1<w1.heap.size:=by have:=hb.size;simp at this;omega
 have HB1:Hid (Bw w w1):=(zw w _ _).trans (hb.mono (by simp;omega));have HFl:=hid (hfl.mono hb);clear hfl hb hX0 hY0;rw[HK.o.1];obtain⟨S,HS⟩:∃S,Hid (S=shapeOf l.ss o.kd):=⟨_,rfl⟩
 rw[<- HS.o]at HFl HK HW ⊢;have hne:((o.vs.length:Int) != (S.fs.length:Int))=false:=by have:=HK.o.2;simp[this]
 obtain⟨n0,hn0⟩:∃n0:Int,n0=if res=o.kd then 1 else 0:=⟨_,rfl⟩
 have hb0:0<=n0/\n0<=1:=by rw[hn0];split <;> omega
 rw[<- hn0]at HW;have HN0:=hid hn0;clear hn0
 by_cases hk:res=o.kd
 all_goals (
  first
  | (have hq:(res.toList == o.kd.toList)=true:=by rw[beq_toList];simpa using hk)
  | (have hq:(res.toList == o.kd.toList)=false:=by rw[beq_toList];simpa using hk)
  have HKE:=zkd hk;clear hk;go_wp2_with fail
  go_loopw [9,44] (fun nv iv wr=>∃(k:Nat) (s:Int),k<=S.fs.length/\iv=.i k/\nv=.i s/\Hid (s=n0+zel S.fs o.vs res k/\Bw w1 wr)) (fun _ iv _=>S.fs.length-(intOf iv).toNat)
  case atStart=>exact⟨0,n0,Nat.zero_le _,rfl,by have:=HN0.o;first|(rw[if_pos HKE.o]at this;rw[this])|(rw[if_neg HKE.o]at this;rw[this]),by simp[zel],bAl _ _⟩
  case round=>
   obtain⟨k,s,hk,rfl,rfl,HQ⟩:=hrel;have hsb:0<=s/\s<=1+k*10000000:=by have h1:=HQ.o.1;have h2:=zcU S.fs o.vs res k;omega
   have hkn:k<=1048576:=by have:=HN.o;have:=HK.o.2;omega
   by_cases hlt:k<S.fs.length
   ·obtain⟨b,off,rfl,hb,hr⟩:=HFl.o.rows (by intro e;rw[e]at hlt;simp at hlt)
    obtain⟨wa,wcap,hf⟩:=hr k hlt;obtain⟨c0,c1,c2,c3,c4,c5,c6,c7,c8,c9,c10⟩:=(hf.mono hb HQ.o.2).load;have hlv:k<o.vs.length:=by have:=HK.o.2;omega
    have hltI:(k:Int)<(S.fs.length:Int):=by omega
    have hlvI:(k:Int)<(o.vs.length:Int):=by omega
    obtain⟨vb,voff,rfl,hvb,hvc0⟩:=HO.o.vals.cells (by intro e;rw[e]at hlv;simp at hlv);have hvc:=((HB1.o.trans (HQ.o.2.mono HB1.o.size)).cell (p:=(aD vb (voff+k))) hvb).trans (hvc0 k hlv);have hvb':=nLt hvb (HB1.o.trans (HQ.o.2.mono HB1.o.size)).size;have hb':=nLt hb HQ.o.2.size;have hY:=za hY1 hz1 HQ.o.2;have hz:=nLt hz1 HQ.o.2.size;have HSt:=zo3 S.fs o.vs res k hlt hlv;have HSt:Hid (zel S.fs o.vs res (k+1)=zel S.fs o.vs res k+yI S.fs[k] o.vs[k] res):=HSt;have HVs:Hid (o.vs[k].size<=maxLen):=HO.o.vals.small _ (List.getElem_mem _);have HBo:Hid (∀ob,Bw w1 (wr.alloc ob)):=fun ob=>HQ.o.2.alloc HQ.o.2.size _
    clear hf hr hvc0
    by_cases h1:S.fs[k].kd=1
    ·have e1:(S.fs[k].kd == 1)=true:=by simpa using h1
     by_cases h2:S.fs[k].wg=res
     ·have e2:(S.fs[k].wg.toList == res.toList)=true:=by rw[beq_toList];simpa using h2
      have HFw:Hid (yI S.fs[k] o.vs[k] res=zaw o.vs[k]):=by unfold Hid yI;rw[if_pos ⟨h1,h2⟩]
      have hdb:=zeq o.vs[k];clear h1 h2;go_wp2_with fail
      refine(zdq o.vs[k] _ HVs.o).mono ?_;rintro e w2⟨rfl,rfl⟩;go_wp2_with fail
      exact⟨⟨k+1,s+zaw o.vs[k],by omega,by go_num,by go_num,by rw[HSt.o,HFw.o,HQ.o.1];omega,HBo.o _⟩,zq hlt⟩
     ·have e2:(S.fs[k].wg.toList == res.toList)=false:=by rw[beq_toList];simpa using h2
      have HFw:Hid (yI S.fs[k] o.vs[k] res=0):=by unfold Hid yI;rw[if_neg (fun h=>h2 h.2)]
      clear h1 h2;go_wp2_with fail
      exact⟨⟨k+1,s,by omega,by go_num,rfl,by rw[HSt.o,HFw.o,HQ.o.1];omega,HBo.o _⟩,zq hlt⟩
    ·have e1:(S.fs[k].kd == 1)=false:=by simpa using h1
     have HFw:Hid (yI S.fs[k] o.vs[k] res=0):=by unfold Hid yI;rw[if_neg (fun h=>h1 h.1)]
     clear h1;go_wp2_with fail
     exact⟨⟨k+1,s,by omega,by go_num,rfl,by rw[HSt.o,HFw.o,HQ.o.1];omega,HBo.o _⟩,zq hlt⟩
   ·have e:k=S.fs.length:=by omega
    subst e;have HE:Hid (qU l.ss o res=s):=by unfold Hid;rw[HW.o,HQ.o.1]
    clear hlt hk;go_wp2_with fail
    go_ret;exact⟨zo HE.o.symm,HB1.o.trans (HQ.o.2.mono HB1.o.size)⟩)
def isSet (s:BA):Bool:=!s.toList.isEmpty
def zP (m:Mnd):List BA:=[m.wh,m.fr].filter isSet
def turns (m:Mnd)(s:Shp)(p:Nat):Bool:=decide (m.kd=s.kd)&&decide (m.fd=(s.fs.getD p zbC).nm)
set_option maxRecDepth 20000 in
theorem zfD (m:Mnd)(w:World) :
 Calls Tryz.prog 196 #[.agg m.cells] w fun e w'=>∃v,e=.returned v/\w'.ownsRow w.heap.size 9 1 v (zP m).length ((zP m).map Value.string)/\Bw w w':=by
 unfold Mnd.cells;obtain⟨i0,hi,hz0,hz1',hz2⟩:=info_parts Tryz.zc2;go_enter Tryz.func196,Tryz.ntmps196;go_wp2_with fail
 go_loopw [3,12] (fun nv0 iv wr=>∃(k:Nat) (nv:Value),nv=nv0/\k<=2/\iv=.i k/\wr.ownsRow (w.heap.size+2) 9 1 nv (([m.wh,m.fr].take k).filter isSet).length ((([m.wh,m.fr].take k).filter isSet).map Value.string)/\wr.heap[w.heap.size+1]?=some (.cells #[.s m.wh,.s m.fr] 9)/\Bw w wr) (fun _ iv _=>2-(intOf iv).toNat)
 case atStart=>exact⟨0,_,rfl,by omega,rfl,World.ownsRow_nil _ _ _ _,(zT _ _ _).2,zw _ _ _⟩
 case round=>
  obtain⟨k,nv,hnv,hk,rfl,hown,hlit,hB⟩:=hrel;subst hnv
  by_cases hlt:k<2
  ·have hltI:(k:Int)<2:=by omega
   obtain⟨x,hx,HT⟩:∃x,(#[.s m.wh,.s m.fr]:AV)[k]?=some (.s x)/\Hid (([m.wh,m.fr].take (k+1)).filter isSet=([m.wh,m.fr].take k).filter isSet++if isSet x=true then [x] else []):=by
    rcases k with _|_|k
    ·refine⟨m.wh,rfl,?_⟩
     by_cases h:isSet m.wh=true <;> simp[Hid,h]
    ·refine⟨m.fr,rfl,?_⟩
     by_cases h:isSet m.fr=true <;> by_cases h':isSet m.wh=true <;> simp[Hid,h,h']
    ·omega
   have hcx:wr.cell? (aD (w.heap.size+1) k)=some (.s x):=by rw[cell_of_block hlit];exact hx
   have hlen:(([m.wh,m.fr].take k).filter isSet).length<=2:=Nat.le_trans (List.length_filter_le _ _) (by simp;omega);have HB:=zcR hlit hB ((gES hlit).1);have HW:=hid hown;clear hlit hB hx hown
   by_cases hs:x.toList.isEmpty=true
   ·have HE:Hid (isSet x=false):=by unfold Hid isSet;rw[hs];rfl
    go_wp2_with fail
    have HT':([m.wh,m.fr].take (k+1)).filter isSet=([m.wh,m.fr].take k).filter isSet:=by rw[HT.o,HE.o];simp
    exact⟨⟨k+1,_,rfl,by omega,by go_num,by rw[HT'];exact HW.o,HB.o.1,HB.o.2.1⟩,zq hlt⟩
   ·have hs':x.toList.isEmpty=false:=by simpa using hs
    have HE:Hid (isSet x=true):=by unfold Hid isSet;rw[hs'];rfl
    clear hs
    go_wp2_with (at_builtin;refine wpList_append_own _ rfl (.tmp 18) (.tmp 20) 106 rfl (w.heap.size+2) 9 i0 (.s ByteArray.empty) 1 16 Tryz.underlying106 hi hz0 hz1' hz2 rfl (by decide) _ _ _ rfl (HW.o.alloc _) (aD wr.heap.size 0) 1 1 [.s x] rfl rfl (ze6 _ _ _) (by intro u hu;simp at hu;subst hu;rfl) (by unfold maxLen;omega) (by omega) (by have:=HB.o.2.2;simp;omega) ?_;intro v' w1 hown' hgr _)
    have HT':([m.wh,m.fr].take (k+1)).filter isSet=([m.wh,m.fr].take k).filter isSet++[x]:=by rw[HT.o,HE.o];simp
    have hgb:∀g,nv.ownBlock=some g->w.heap.size+2<=g:=fun g hg=>(HW.o.lt g hg).1
    refine⟨⟨k+1,_,rfl,by omega,by go_num,?_,?_,zc8 HB.o.2.1 HB.o.2.1.size hgr (fun g hg=>by have:=hgb g hg;omega)⟩,zq hlt⟩
    ·rw[HT',List.length_append,List.map_append];exact hown'
    ·rw[zaJ hgr (by have:=HB.o.2.2;simp;omega) (fun g hg=>by have:=hgb g hg;omega),Below.heap_alloc _ _ _ HB.o.2.2];exact HB.o.1
  ·have e:k=2:=by omega
   subst e;have HF:Hid (wr.ownsRow w.heap.size 9 1 nv (zP m).length ((zP m).map Value.string)/\Bw w wr):=⟨zdf hown (by omega),hB⟩
   clear hown hlit hB;go_wp2_with fail
   go_ret;exact⟨nv,rfl,HF.o⟩
theorem zlw (m:Mnd)(s:Shp)(fa:OA)(fcap p:Nat)(w:World)(hf:yc w fa s.fs)(hp:p<s.fs.length) :
 Calls Tryz.prog 201 #[.agg m.cells,.agg #[.s s.kd,.l fa s.fs.length fcap],.i p] w fun e w'=>e=.returned (.bool (turns m s p))/\Bw w w':=by
 unfold Mnd.cells;have hB:∀o1 o2,Bw w ((w.alloc o1).alloc o2):=fun o1 o2=>zw w o1 o2
 have hl:=hf.len;unfold maxLen at hl;obtain⟨b,off,rfl,hb,hr⟩:=hf.rows (by intro e;rw[e]at hp;simp at hp);obtain⟨wa,wcap,hf0⟩:=hr p hp;obtain⟨c0,c1,c2,c3,c4,c5,c6,c7,c8,c9,c10⟩:=hf0.load;have hpI:(p:Int)<(s.fs.length:Int):=by omega
 have HD:Hid ((s.fs.getD p zbC).nm=s.fs[p].nm):=by unfold Hid;rw[getD_at _ _ _ hp]
 clear hf hr hf0 c1 c2 c3 c4 c5 c6 c7 c8 c9 c10
 by_cases h1:m.kd=s.kd
 ·by_cases h2:m.fd=s.fs[p].nm
  ·have HR:Hid (turns m s p=true):=by unfold Hid turns;rw[HD.o];simp[h1,h2]
   have hq:(m.kd.toList == s.kd.toList)=true:=by rw[beq_toList];simpa using h1
   have hr:(m.fd.toList == s.fs[p].nm.toList)=true:=by rw[beq_toList];simpa using h2
   clear h1 h2;go_enter Tryz.func201,Tryz.ntmps201;go_wp2_with fail
   go_quiet (fail)
   go_wp2_with fail
   go_ret;exact⟨by rw[HR.o];rfl,below_drewN (hB _ _) _⟩
  ·have HR:Hid (turns m s p=false):=by unfold Hid turns;rw[HD.o];simp[h1,h2]
   have hq:(m.kd.toList == s.kd.toList)=true:=by rw[beq_toList];simpa using h1
   have hr:(m.fd.toList == s.fs[p].nm.toList)=false:=by rw[beq_toList];simpa using h2
   clear h1 h2;go_enter Tryz.func201,Tryz.ntmps201;go_wp2_with fail
   go_quiet (fail)
   go_wp2_with fail
   go_ret;exact⟨by rw[HR.o];rfl,below_drewN (hB _ _) _⟩
 ·have HR:Hid (turns m s p=false):=by unfold Hid turns;rw[HD.o];simp[h1]
  have hq:(m.kd.toList == s.kd.toList)=false:=by rw[beq_toList];simpa using h1
  clear h1;go_enter Tryz.func201,Tryz.ntmps201;go_wp2_with fail
  go_quiet (fail)
  go_wp2_with fail
  go_ret;exact⟨by rw[HR.o];rfl,below_drewN (hB _ _) _⟩
theorem zmv (a0:OA)(cap0:Nat)(ss:List Shp)(nm:BA)(ls ms:Int)(a:OA)(cap:Nat)(ws:List BA)(to:BA)(rl:Int)(mu fx:Bool)(df wg:BA)(w:World)(hnm:nm.size<=maxLen)(hdf:df.size<=maxLen)(hwg:wg.size<=maxLen)(hws:zF w a ws) :
 Calls Tryz.prog 183 #[.l a0 ss.length cap0,.agg #[.s nm,.i 1,.i ls,.i ms,.l a ws.length cap,.s to,.i rl,.bool mu,.bool fx,.s df,.s wg]] w
  fun e w'=>e=.returned (.bool (zy nm&&yF ss ⟨nm,1,ls,ms,ws,to,rl,mu,fx,df,wg⟩))/\Bw w w':=by
 have HO:Hid ((zy nm&&yF ss ⟨nm,1,ls,ms,ws,to,rl,mu,fx,df,wg⟩)=(zy nm&&(yK 1 ls ms ws.length to rl wg&&zW ss ⟨nm,1,ls,ms,ws,to,rl,mu,fx,df,wg⟩&&(df.toList.isEmpty||fits 1 ls ms ws df)))):=rfl
 generalize (zy nm&&yF ss ⟨nm,1,ls,ms,ws,to,rl,mu,fx,df,wg⟩)=res at HO
 by_cases hn:zy nm=true
 rotate_left
 ·have HNm:Hid (zy nm=false):=by simpa[Hid] using hn
  clear hn;go_enter Tryz.func183,Tryz.ntmps183;go_wp2_with fail
  refine(zf HNm.o (zk _ _ hnm)).mono ?_;rintro e w1⟨rfl,rfl⟩;go_wp2_with fail
  go_ret;exact⟨ze (by rw[HO.o,HNm.o];rfl),bAl _ _⟩
 have HNm:=hid hn;clear hn
 by_cases hbare:yK 1 ls ms ws.length to rl wg=true
 rotate_left
 ·have HBare:Hid (yK 1 ls ms ws.length to rl wg=false):=by simpa[Hid] using hbare
  clear hbare;go_enter Tryz.func183,Tryz.ntmps183;go_wp2_with fail
  refine(zf HNm.o (zk _ _ hnm)).mono ?_;rintro e w1⟨rfl,rfl⟩;go_wp2_with fail
  refine(zf HBare.o (zdW _ _ _ _ _ _ _ _ _ _ _ _ _)).mono ?_;rintro e w2⟨rfl,hb2⟩;have hX2:=za (zl w _ _) (by simp) hb2;have hz2:w.heap.size<w2.heap.size:=by have:=hb2.size;simp at this;omega
  have hB2:Bw w w2:=(bAl _ _).trans (hb2.mono (by simp));clear hb2;go_wp2_with fail
  go_ret;exact⟨ze (by rw[HO.o,HNm.o,HBare.o];rfl),hB2⟩
 have HBare:=hid hbare;clear hbare
 by_cases hd:df.toList.isEmpty=true
 ·have HD:=hid hd
  have HR:Hid (res=zW ss ⟨nm,1,ls,ms,ws,to,rl,mu,fx,df,wg⟩):=by unfold Hid;rw[HO.o,HNm.o,HBare.o,hd];simp
  clear HO;go_enter Tryz.func183,Tryz.ntmps183;go_wp2_with fail
  refine(zf HNm.o (zk _ _ hnm)).mono ?_;rintro e w1⟨rfl,rfl⟩;go_wp2_with fail
  refine(zf HBare.o (zdW _ _ _ _ _ _ _ _ _ _ _ _ _)).mono ?_;rintro e w2⟨rfl,hb2⟩;have hX2:=za (zl w _ _) (by simp) hb2;have hz2:w.heap.size<w2.heap.size:=by have:=hb2.size;simp at this;omega
  have hB2:Bw w w2:=(bAl _ _).trans (hb2.mono (by simp));clear hb2
  go_wp2_with (go_at_call 114;refine(zk _ _ hwg).mono ?_;rintro e w5⟨rfl,rfl⟩)
  all_goals
   go_ret;refine⟨ze ?_,hB2⟩;rw[HR.o]
   simp_all [zW,jl]
   try omega
 have hd':df.toList.isEmpty=false:=by simpa using hd
 have HD:=hid hd';clear hd
 by_cases hfit:fits 1 ls ms ws df=true
 rotate_left
 ·have HFit:Hid (fits 1 ls ms ws df=false):=by simpa[Hid] using hfit
  clear hfit;go_enter Tryz.func183,Tryz.ntmps183;go_wp2_with fail
  refine(zf HNm.o (zk _ _ hnm)).mono ?_;rintro e w1⟨rfl,rfl⟩;go_wp2_with fail
  refine(zf HBare.o (zdW _ _ _ _ _ _ _ _ _ _ _ _ _)).mono ?_;rintro e w2⟨rfl,hb2⟩;have hX2:=za (zl w _ _) (by simp) hb2;have hz2:w.heap.size<w2.heap.size:=by have:=hb2.size;simp at this;omega
  have hB2:Bw w w2:=(bAl _ _).trans (hb2.mono (by simp));clear hb2;go_wp2_with fail
  refine(zf HFit.o (yU _ _ _ _ _ _ _ _ _ _ _ _ _ _ _ hdf (hws.mono hB2))).mono ?_;rintro e w3⟨rfl,hb3⟩;have hX3:=za hX2 hz2 hb3;have hz3:w.heap.size<w3.heap.size:=by have:=hb3.size;omega
  have hB3:Bw w w3:=hB2.trans (hb3.mono (by omega));clear hb3 hX2 hz2 hB2;go_wp2_with fail
  go_ret;exact⟨ze (by rw[HO.o,HNm.o,HBare.o,HD.o,HFit.o];simp),hB3⟩
 ·have HFit:=hid hfit
  have HR:Hid (res=zW ss ⟨nm,1,ls,ms,ws,to,rl,mu,fx,df,wg⟩):=by unfold Hid;rw[HO.o,HNm.o,HBare.o,HD.o,hfit];simp
  clear hfit HO;go_enter Tryz.func183,Tryz.ntmps183;go_wp2_with fail
  refine(zf HNm.o (zk _ _ hnm)).mono ?_;rintro e w1⟨rfl,rfl⟩;go_wp2_with fail
  refine(zf HBare.o (zdW _ _ _ _ _ _ _ _ _ _ _ _ _)).mono ?_;rintro e w2⟨rfl,hb2⟩;have hX2:=za (zl w _ _) (by simp) hb2;have hz2:w.heap.size<w2.heap.size:=by have:=hb2.size;simp at this;omega
  have hB2:Bw w w2:=(bAl _ _).trans (hb2.mono (by simp));clear hb2;go_wp2_with fail
  refine(zf HFit.o (yU _ _ _ _ _ _ _ _ _ _ _ _ _ _ _ hdf (hws.mono hB2))).mono ?_;rintro e w3⟨rfl,hb3⟩;have hX3:=za hX2 hz2 hb3;have hz3:w.heap.size<w3.heap.size:=by have:=hb3.size;omega
  have hB3:Bw w w3:=hB2.trans (hb3.mono (by omega));clear hb3 hX2 hz2 hB2
  go_wp2_with (go_at_call 114;refine(zk _ _ hwg).mono ?_;rintro e w5⟨rfl,rfl⟩)
  all_goals
   go_ret;refine⟨ze ?_,hB3⟩;rw[HR.o]
   simp_all [zW,jl]
   try omega
theorem znE (a0:OA)(cap0:Nat)(ss:List Shp)(nm:BA)(ls ms:Int)(a:OA)(cap:Nat)(ws:List BA)(to:BA)(rl:Int)(mu fx:Bool)(df wg:BA)(w:World)(hnm:nm.size<=maxLen)(hdf:df.size<=maxLen)(hws:zF w a ws) :
 Calls Tryz.prog 183 #[.l a0 ss.length cap0,.agg #[.s nm,.i 2,.i ls,.i ms,.l a ws.length cap,.s to,.i rl,.bool mu,.bool fx,.s df,.s wg]] w
  fun e w'=>e=.returned (.bool (zy nm&&yF ss ⟨nm,2,ls,ms,ws,to,rl,mu,fx,df,wg⟩))/\Bw w w':=by
 have HO:Hid ((zy nm&&yF ss ⟨nm,2,ls,ms,ws,to,rl,mu,fx,df,wg⟩)=(zy nm&&(yK 2 ls ms ws.length to rl wg&&zW ss ⟨nm,2,ls,ms,ws,to,rl,mu,fx,df,wg⟩&&(df.toList.isEmpty||fits 2 ls ms ws df)))):=rfl
 generalize (zy nm&&yF ss ⟨nm,2,ls,ms,ws,to,rl,mu,fx,df,wg⟩)=res at HO
 by_cases hn:zy nm=true
 rotate_left
 ·have HNm:Hid (zy nm=false):=by simpa[Hid] using hn
  clear hn;go_enter Tryz.func183,Tryz.ntmps183;go_wp2_with fail
  refine(zf HNm.o (zk _ _ hnm)).mono ?_;rintro e w1⟨rfl,rfl⟩;go_wp2_with fail
  go_ret;exact⟨ze (by rw[HO.o,HNm.o];rfl),bAl _ _⟩
 have HNm:=hid hn;clear hn
 by_cases hbare:yK 2 ls ms ws.length to rl wg=true
 rotate_left
 ·have HBare:Hid (yK 2 ls ms ws.length to rl wg=false):=by simpa[Hid] using hbare
  clear hbare;go_enter Tryz.func183,Tryz.ntmps183;go_wp2_with fail
  refine(zf HNm.o (zk _ _ hnm)).mono ?_;rintro e w1⟨rfl,rfl⟩;go_wp2_with fail
  refine(zf HBare.o (zbM _ _ _ _ _ _ _ _ _ _ _ _ _)).mono ?_;rintro e w2⟨rfl,hb2⟩;have hX2:=za (zl w _ _) (by simp) hb2;have hz2:w.heap.size<w2.heap.size:=by have:=hb2.size;simp at this;omega
  have hB2:Bw w w2:=(bAl _ _).trans (hb2.mono (by simp));clear hb2;go_wp2_with fail
  go_ret;exact⟨ze (by rw[HO.o,HNm.o,HBare.o];rfl),hB2⟩
 have HBare:=hid hbare;clear hbare
 by_cases hd:df.toList.isEmpty=true
 ·have HD:=hid hd
  have HR:Hid (res=zW ss ⟨nm,2,ls,ms,ws,to,rl,mu,fx,df,wg⟩):=by unfold Hid;rw[HO.o,HNm.o,HBare.o,hd];simp
  clear HO;have HSn:Hid (zW ss ⟨nm,2,ls,ms,ws,to,rl,mu,fx,df,wg⟩=(decide (1<=ws.length)&&decide (ws.length<=6)&&asc ws)):=by simp[zW,Hid]
  have hl:=hws.len;unfold maxLen at hl
  by_cases h16:1<=ws.length/\ws.length<=6
  ·obtain⟨h1,h6⟩:=h16
   go_enter Tryz.func183,Tryz.ntmps183;go_wp2_with fail
   refine(zf HNm.o (zk _ _ hnm)).mono ?_;rintro e w1⟨rfl,rfl⟩;go_wp2_with fail
   refine(zf HBare.o (zbM _ _ _ _ _ _ _ _ _ _ _ _ _)).mono ?_;rintro e w2⟨rfl,hb2⟩;have hX2:=za (zl w _ _) (by simp) hb2;have hz2:w.heap.size<w2.heap.size:=by have:=hb2.size;simp at this;omega
   have hB2:Bw w w2:=(bAl _ _).trans (hb2.mono (by simp));clear hb2;go_wp2_with fail
   refine(zbF _ _ _ _ (by omega) (by omega)).mono ?_;rintro e w5⟨rfl,rfl⟩;go_wp2_with fail
   refine(zaq _ _ _ _ (hws.mono hB2)).mono ?_;rintro e w6⟨rfl,nd,rfl⟩;go_wp2_with fail
   go_ret;exact⟨ze (by rw[HR.o,HSn.o,decide_eq_true h1,decide_eq_true h6];rfl),below_drewN hB2 _⟩
  ·have HS0:Hid (zW ss ⟨nm,2,ls,ms,ws,to,rl,mu,fx,df,wg⟩=false):=by
    rw[HSn.o];unfold Hid
    by_cases h1:1<=ws.length
    ·rw[decide_eq_false (show ¬ws.length<=6 by omega)];simp
    ·rw[decide_eq_false h1];rfl
   go_enter Tryz.func183,Tryz.ntmps183;go_wp2_with fail
   refine(zf HNm.o (zk _ _ hnm)).mono ?_;rintro e w1⟨rfl,rfl⟩;go_wp2_with fail
   refine(zf HBare.o (zbM _ _ _ _ _ _ _ _ _ _ _ _ _)).mono ?_;rintro e w2⟨rfl,hb2⟩;have hX2:=za (zl w _ _) (by simp) hb2;have hz2:w.heap.size<w2.heap.size:=by have:=hb2.size;simp at this;omega
   have hB2:Bw w w2:=(bAl _ _).trans (hb2.mono (by simp));clear hb2;go_wp2_with fail
   refine(zdh _ _ _ _ (by omega)).mono ?_;rintro e w5⟨rfl,rfl⟩;go_wp2_with fail
   go_ret;exact⟨ze (by rw[HR.o,HS0.o]),hB2⟩
 have hd':df.toList.isEmpty=false:=by simpa using hd
 have HD:=hid hd';clear hd
 by_cases hfit:fits 2 ls ms ws df=true
 rotate_left
 ·have HFit:Hid (fits 2 ls ms ws df=false):=by simpa[Hid] using hfit
  clear hfit;go_enter Tryz.func183,Tryz.ntmps183;go_wp2_with fail
  refine(zf HNm.o (zk _ _ hnm)).mono ?_;rintro e w1⟨rfl,rfl⟩;go_wp2_with fail
  refine(zf HBare.o (zbM _ _ _ _ _ _ _ _ _ _ _ _ _)).mono ?_;rintro e w2⟨rfl,hb2⟩;have hX2:=za (zl w _ _) (by simp) hb2;have hz2:w.heap.size<w2.heap.size:=by have:=hb2.size;simp at this;omega
  have hB2:Bw w w2:=(bAl _ _).trans (hb2.mono (by simp));clear hb2;go_wp2_with fail
  refine(zf HFit.o (yU _ _ _ _ _ _ _ _ _ _ _ _ _ _ _ hdf (hws.mono hB2))).mono ?_;rintro e w3⟨rfl,hb3⟩;have hX3:=za hX2 hz2 hb3;have hz3:w.heap.size<w3.heap.size:=by have:=hb3.size;omega
  have hB3:Bw w w3:=hB2.trans (hb3.mono (by omega));clear hb3 hX2 hz2 hB2;go_wp2_with fail
  go_ret;exact⟨ze (by rw[HO.o,HNm.o,HBare.o,HD.o,HFit.o];simp),hB3⟩
 ·have HFit:=hid hfit
  have HR:Hid (res=zW ss ⟨nm,2,ls,ms,ws,to,rl,mu,fx,df,wg⟩):=by unfold Hid;rw[HO.o,HNm.o,HBare.o,HD.o,hfit];simp
  clear hfit HO;have HSn:Hid (zW ss ⟨nm,2,ls,ms,ws,to,rl,mu,fx,df,wg⟩=(decide (1<=ws.length)&&decide (ws.length<=6)&&asc ws)):=by simp[zW,Hid]
  have hl:=hws.len;unfold maxLen at hl
  by_cases h16:1<=ws.length/\ws.length<=6
  ·obtain⟨h1,h6⟩:=h16
   go_enter Tryz.func183,Tryz.ntmps183;go_wp2_with fail
   refine(zf HNm.o (zk _ _ hnm)).mono ?_;rintro e w1⟨rfl,rfl⟩;go_wp2_with fail
   refine(zf HBare.o (zbM _ _ _ _ _ _ _ _ _ _ _ _ _)).mono ?_;rintro e w2⟨rfl,hb2⟩;have hX2:=za (zl w _ _) (by simp) hb2;have hz2:w.heap.size<w2.heap.size:=by have:=hb2.size;simp at this;omega
   have hB2:Bw w w2:=(bAl _ _).trans (hb2.mono (by simp));clear hb2;go_wp2_with fail
   refine(zf HFit.o (yU _ _ _ _ _ _ _ _ _ _ _ _ _ _ _ hdf (hws.mono hB2))).mono ?_;rintro e w3⟨rfl,hb3⟩;have hX3:=za hX2 hz2 hb3;have hz3:w.heap.size<w3.heap.size:=by have:=hb3.size;omega
   have hB3:Bw w w3:=hB2.trans (hb3.mono (by omega));clear hb3 hX2 hz2 hB2;go_wp2_with fail
   refine(zbF _ _ _ _ (by omega) (by omega)).mono ?_;rintro e w5⟨rfl,rfl⟩;go_wp2_with fail
   refine(zaq _ _ _ _ (hws.mono hB3)).mono ?_;rintro e w6⟨rfl,nd,rfl⟩;go_wp2_with fail
   go_ret;exact⟨ze (by rw[HR.o,HSn.o,decide_eq_true h1,decide_eq_true h6];rfl),below_drewN hB3 _⟩
  ·have HS0:Hid (zW ss ⟨nm,2,ls,ms,ws,to,rl,mu,fx,df,wg⟩=false):=by
    rw[HSn.o];unfold Hid
    by_cases h1:1<=ws.length
    ·rw[decide_eq_false (show ¬ws.length<=6 by omega)];simp
    ·rw[decide_eq_false h1];rfl
   go_enter Tryz.func183,Tryz.ntmps183;go_wp2_with fail
   refine(zf HNm.o (zk _ _ hnm)).mono ?_;rintro e w1⟨rfl,rfl⟩;go_wp2_with fail
   refine(zf HBare.o (zbM _ _ _ _ _ _ _ _ _ _ _ _ _)).mono ?_;rintro e w2⟨rfl,hb2⟩;have hX2:=za (zl w _ _) (by simp) hb2;have hz2:w.heap.size<w2.heap.size:=by have:=hb2.size;simp at this;omega
   have hB2:Bw w w2:=(bAl _ _).trans (hb2.mono (by simp));clear hb2;go_wp2_with fail
   refine(zf HFit.o (yU _ _ _ _ _ _ _ _ _ _ _ _ _ _ _ hdf (hws.mono hB2))).mono ?_;rintro e w3⟨rfl,hb3⟩;have hX3:=za hX2 hz2 hb3;have hz3:w.heap.size<w3.heap.size:=by have:=hb3.size;omega
   have hB3:Bw w w3:=hB2.trans (hb3.mono (by omega));clear hb3 hX2 hz2 hB2;go_wp2_with fail
   refine(zdh _ _ _ _ (by omega)).mono ?_;rintro e w5⟨rfl,rfl⟩;go_wp2_with fail
   go_ret;exact⟨ze (by rw[HR.o,HS0.o]),hB3⟩
end Go.Proofs.YtecncindgjdbiaaGreat
