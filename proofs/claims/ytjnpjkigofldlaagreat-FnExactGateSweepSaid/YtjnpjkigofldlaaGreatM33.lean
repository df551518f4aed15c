import Derived.Test.YtjnpjkigofldlaaGreatM29
import Derived.Test.YtjnpjkigofldlaaGreatM30
import Derived.Test.YtjnpjkigofldlaaGreatM31
set_option maxRecDepth 20000
set_option maxHeartbeats 4000000
namespace Go.Proofs.YtjnpjkigofldlaaGreat
variable {ss:List Shp}{a b c:BA}{k:Nat}{w:World}
theorem zie (h:zQ ss=true)(i:Nat)(hi:i<ss.length):yR ss i=true:=by
 unfold zQ at h;rw[Bool.and_eq_true]at h;exact zgn hi h.2
theorem zqP (h:zQ ss=true):∀(j:Nat) (hj:j<ss.length) (i:Nat) (hi:i<j),less (ss[i]'(by omega)).kd ss[j].kd=true:=by
 intro j
 induction j with
 | zero=>intro _ i hi;omega
 | succ j ih=>
  intro hj i hi;have h1:=zie h (j+1) hj;rw[zg8 ss j hj]at h1;simp only[Bool.and_eq_true]at h1;have h2:=h1.1.2
  rcases Nat.lt_or_ge i j with hlt|hge
  ·exact zbh _ _ _ (ih (by omega) i hlt) h2
  ·have e:i=j:=by omega
   subst e;exact h2
theorem zeh (h:zQ ss=true)(i:Nat)(hi:i<ss.length):shapeOf ss ss[i].kd=ss[i]:=by
 refine zef ss _ i hi ?_ rfl;unfold zF;rw[List.any_eq_false];intro x hx;obtain⟨k,hk,rfl⟩:=List.mem_iff_getElem.1 hx;have hk':k<i:=by simp at hk;omega
 have h1:=zqP h i hi k hk';simp only[List.getElem_take,decide_eq_true_eq];intro e;unfold less at h1;rw[e,zcb]at h1
 cases h1
theorem zgv (h:zQ ss=true)(i:Nat)(hi:i<ss.length):ss[i].fs.length<=6:=by
 have h1:=zie h i hi;unfold yR at h1;rw[getD_at ss i _ hi]at h1;simp only[Bool.and_eq_true]at h1;have h2:=h1.2;unfold yS at h2;simp only[Bool.and_eq_true,decide_eq_true_eq]at h2;exact h2.1
def j5 (ss:List Shp)(m:Mnd):Bool:=zF ss m.kd&&za2 (shapeOf ss m.kd).fs m
def rowOk (ms:List Mnd)(s:Shp):Bool:=(zG (zl s ms) s.fs.length).1
def yj (ss:List Shp)(ms:List Mnd):Bool:=decide (ms.length<=12)&&zQ ss&&ms.all (j5 ss)&&ss.all (rowOk ms)
theorem zk1 {ms:List Mnd}(h:zQ ss=true)(hm:ms.all (j5 ss)=true)(i:Nat)(hi:i<ss.length):∀q,q<ss[i].fs.length->∀x∈yC ss[i] ms q,0<=x/\x<ss[i].fs.length:=by
 intro q _ x hx;unfold yC at hx;obtain⟨m,hmm,hx⟩:=List.mem_flatMap.1 hx
 by_cases ht:turns m ss[i] q=true
 ·rw[if_pos ht]at hx
  obtain⟨v,hv,rfl⟩:=List.mem_map.1 hx;unfold turns at ht;simp only[Bool.and_eq_true,decide_eq_true_eq]at ht;have h1:=List.all_eq_true.1 hm m hmm;unfold j5 at h1;rw[ht.1,zeh h i hi]at h1;simp only[Bool.and_eq_true]at h1;have h2:=h1.2;unfold za2 at h2;simp only[Bool.and_eq_true]at h2;have h3:=List.all_eq_true.1 h2.1.2 v hv;unfold jV at h3;simp only[Bool.and_eq_true]at h3
  rcases jX ss[i].fs v with⟨_,h5⟩|⟨k,hk,h4,_⟩
  ·rw[zbm h5]at h3;exact absurd h3.2 (by simp)
  ·rw[h4];omega
 ·rw[if_neg ht]at hx;cases hx
open Go.RowKit
theorem zaY (a:OA)(cap:Nat)(fs:List Fld)(v:BA)(w:World)(hw:yw w a fs) :
 Calls Tryz.prog 204 #[.l a fs.length cap,.s v] w fun e w'=>e=.returned (.i (yh fs v))/\w'=w:=by
 have hl:=hw.len;unfold maxLen at hl;go_in
 go_wp2
 go_loop [5] (fun i=>∃k:Nat,k<=fs.length/\i=.i k/\hasName (fs.take k) v=false) (fun i=>fs.length-(intOf i).toNat)
 case atStart=>exact⟨0,Nat.zero_le _,rfl,rfl⟩
 case round=>
  obtain⟨k,hk,rfl,hno⟩:=hrel
  by_cases hlt:k<fs.length
  ·obtain⟨b,off,rfl,hb,hr⟩:=hw.rows (by rintro rfl;simp at hlt)
   obtain⟨wa,wcap,hf⟩:=hr k hlt;obtain⟨c0,c1,c2,c3,c4,c5,c6,c7,c8,c9,c10⟩:=hf.load;clear hw hr hf c1 c2 c3 c4 c5 c6 c7 c8 c9 c10
   by_cases he:fs[k].nm=v
   ·have hbe:(fs[k].nm.toList == v.toList)=true:=by rw[beq_toList];simpa using he
    have HB:Hid (yh fs v=(k:Int)):=zeO fs v k hlt hno he;clear he hno
    go_wp2
    go_ret;exact⟨by rw[HB.o];rfl,rfl⟩
   ·have hbe:(fs[k].nm.toList == v.toList)=false:=by rw[beq_toList];simpa using he
    have HS:Hid (hasName (fs.take (k+1)) v=false):=by unfold Hid;rw[zeM fs v k hlt,hno,decide_eq_false he];rfl
    clear he hno
    go_wp2
    go_round
    case rel=>exact⟨k+1,by omega,by go_num,HS.o⟩
    case measure=>simp[intOf];omega
  ·have HA:Hid (yh fs v=-1):=zhr fs v (by rw[<- zi5 fs v k (by omega)];exact hno)
   clear hno hw
   go_wp2
   go_ret;exact⟨by rw[HA.o];rfl,rfl⟩
theorem zpF (a:OA)(cap:Nat)(fs:List Fld)(v:BA)(w:World)(hw:yw w a fs) :
 Calls Tryz.prog 203 #[.l a fs.length cap,.s v] w fun e w'=>e=.returned (.bool (plain fs v))/\Bw w w':=by
 have hl:=hw.len;unfold maxLen at hl
 rcases jX fs v with⟨h1,h2⟩|⟨i,hi,h1,h2,h3⟩
 ·have HP:Hid (plain fs v=false):=zbm h2
  go_in;go_wp2_with fail
  have h:=zaY a cap fs v w hw;rw[h1]at h;refine h.mono ?_;rintro e w1⟨rfl,rfl⟩;clear h;go_wp2
  go_ret;exact⟨by rw[HP.o];rfl,bRf _ _⟩
 ·have HP:Hid (plain fs v=decide (fs[i].kd≠4)):=zlB h3
  obtain⟨b,off,rfl,hb,hr⟩:=hw.rows (by rintro rfl;simp at hi);obtain⟨wa,wcap,hf0⟩:=hr i hi;go_in;go_wp2_with fail
  have h:=zaY (some (aD b off)) cap fs v w hw;rw[h1]at h;refine h.mono ?_;rintro e w1⟨rfl,rfl⟩;obtain⟨c0,c1,c2,c3,c4,c5,c6,c7,c8,c9,c10⟩:=hf0.load;have hiI:(i:Int)<(fs.length:Int):=by omega
  have hge:decide ((i:Int)≥0)=true:=by simp
  clear h hw hr hf0 h3 h2 h1;go_wp2
  go_ret;exact⟨by rw[HP.o];exact zt5 fs[i].kd,bRf _ _⟩
def zee (fs:List Fld)(m:Mnd):Bool:=
 plain fs m.fd&&(!isSet m.wh||plain fs m.wh)&&(!isSet m.fr||plain fs m.fr)&&!decide (m.wh=m.fd)&&!decide (m.fr=m.fd)&&za5 fs m
theorem zsC (s:BA):isSet s=true↔s≠ByteArray.empty:=by
 unfold isSet;rw[zu]
 constructor
 ·intro h e;subst e;simp at h
 ·intro h
  simp only[Bool.not_eq_true',decide_eq_false_iff_not];intro h0
  apply h
  have:s.data.size=0:=h0
  cases s with
  | mk d=>simp only at this;have:=Array.eq_empty_of_size_eq_zero this;subst this;rfl
theorem zlb (l:Lw)(la lb lc:OA)(lca lcb lcc:Nat)(b:Bk)(a0 a1 a2 a3:OA)(c0 c1 c2 c3:Nat)(w:World)(hb:qj w b a0 a1 a2 a3)(hl:qp w l la lb lc) :
 Calls Tryz.prog 140 #[.agg (l.cells la lb lc lca lcb lcc),.agg (b.cells a0 a1 a2 a3 c0 c1 c2 c3)] w fun e w'=>e=.returned (.bool (yQ l.ts b))/\Bw w w':=by
 have HK:=hid hb;have HL:=hid hl;clear hb hl;unfold Lw.cells Bk.cells
 by_cases hln:b.ls.length<=10
 rotate_left
 ·have HF:Hid (yQ l.ts b=false):=by unfold Hid yQ;rw[decide_eq_false hln];rfl
  have hg:(10:Int)<(b.ls.length:Int):=by omega
  go_in;go_wp2
  go_ret;exact⟨ze HF.o.symm,zo _ _ _⟩
 have hg:decide ((10:Int)<(b.ls.length:Int))=false:=by simp;omega
 have HLN:Hid (b.ls.length<=10):=hln;clear hln;go_in;go_wp2_with fail
 obtain⟨hL0,hX0⟩:=qB w (lC l la lb lc lca lcb lcc) (bC b a0 a1 a2 a3 c0 c1 c2 c3) 47 40;have HB0:Hid (Bw w ((w.alloc (.cells (lC l la lb lc lca lcb lcc) 47)).alloc (.cells (bC b a0 a1 a2 a3 c0 c1 c2 c3) 40))):=zo w _ _;obtain⟨W0,hW0⟩:=xN ((w.alloc (.cells (lC l la lb lc lca lcb lcc) 47)).alloc (.cells (bC b a0 a1 a2 a3 c0 c1 c2 c3) 40));have hz0:w.heap.size+1<W0.heap.size:=by rw[hW0];simp
 rw[<- hW0]at HB0 hX0 hL0 ⊢;clear hW0;refine(zjG _ _ b.ls _ (HK.o.ls.mono HB0.o)).mono ?_;rintro e w1⟨rfl,hb1⟩;have HB1:=hid (HB0.o.trans (hb1.mono HB0.o.size));have hX1:=za hX0 hz0 hb1;have hL1:=za hL0 (nSl hz0) hb1;have hz1:=nLt hz0 hb1.size;clear hb1 hX0 hL0 hz0 HB0
 by_cases has:zb0 qz b.ls=true
 rotate_left
 ·have has':zb0 qz b.ls=false:=by simpa using has
  have HF:Hid (yQ l.ts b=false):=by unfold Hid yQ;rw[has'];simp
  rw[has'];clear has has';go_wp2
  go_ret;exact⟨ze HF.o.symm,HB1.o⟩
 have HG:Hid (yQ l.ts b=b.ls.all (yH l.ts)):=by unfold Hid yQ;rw[has,decide_eq_true HLN.o];rfl
 rw[has];clear has;go_wp2
 go_loopw [20] (fun iv wr=>∃k:Nat,k<=b.ls.length/\iv=.i k/\Hid ((b.ls.take k).all (yH l.ts)=true/\Bw w1 wr)) (fun iv _=>b.ls.length-(intOf iv).toNat)
 case atStart=>exact⟨0,Nat.zero_le _,rfl,by simp,bRf _ _⟩
 case round=>
  obtain⟨k,hk,rfl,HQ⟩:=hrel;have hkn:k<=10:=by have:=HLN.o;omega
  by_cases hlt:k<b.ls.length
  ·obtain⟨ob,off,rfl,hob,d0,d1,d2,d3⟩:=HK.o.ls.load (HB1.o.trans (HQ.o.2.mono HB1.o.size)) k hlt
   have hob':=nLt hob (HB1.o.trans (HQ.o.2.mono HB1.o.size)).size;have hltI:(k:Int)<(b.ls.length:Int):=by omega
   have hX:=za hX1 hz1 HQ.o.2;have hz:w.heap.size+1<wr.heap.size:=nLt hz1 HQ.o.2.size;have HSn:Hid ((b.ls.take (k+1)).all (yH l.ts)=((b.ls.take k).all (yH l.ts)&&(yH l.ts) b.ls[k])):=qM _ _ _ hlt;have HBo:Hid (∀ob,Bw w1 (wr.alloc ob)):=fun ob=>HQ.o.2.alloc HQ.o.2.size _
   have HBw:Hid (∀W,Bw w1 W->Bw w W):=fun W hW=>HB1.o.trans (hW.mono HB1.o.size)
   have HNo:Hid ((yH l.ts) b.ls[k]=false->yQ l.ts b=false):=fun h=>by rw[HG.o];exact zaE _ _ _ hlt h
   have HYes:Hid ((yH l.ts) b.ls[k]=true->(b.ls.take (k+1)).all (yH l.ts)=true):=fun h=>by rw[HSn.o,HQ.o.1,h];rfl
   have hL:=za hL1 (nSl hz1) HQ.o.2;have hzL:=nSl hz;have HSm:Hid b.ls[k].Small:=HK.o.ls.small k hlt;go_wp2_with fail
   have hbN:Bw wr (wr.alloc (.cells #[.s b.ls[k].tm,.s b.ls[k].rs,.i b.ls[k].mo,.i b.ls[k].fr] 138)):=bAl _ _;have hN:=zI wr #[.s b.ls[k].tm,.s b.ls[k].rs,.i b.ls[k].mo,.i b.ls[k].fr] 138;obtain⟨w2,hw2⟩:=xN (wr.alloc (.cells #[.s b.ls[k].tm,.s b.ls[k].rs,.i b.ls[k].mo,.i b.ls[k].fr] 138));have hn2:wr.heap.size<w2.heap.size:=by rw[hw2];simp
   rw[<- hw2]at hbN hN ⊢;have HB2:Hid (Bw w1 w2):=by unfold Hid;rw[hw2];exact HBo.o _
   clear hw2 d0 d1 d2 d3 hX hL hbN;refine(zc4 _ _ l.ts b.ls[k].tm _ (HL.o.ts.mono (HBw.o _ HB2.o))).mono ?_;rintro e w3⟨rfl,hb3⟩;have HB3:=hid (HB2.o.trans (hb3.mono HB2.o.size));have hN3:=za hN hn2 hb3;have hn3:=nLt hn2 hb3.size;clear hb3 hN hn2 HB2;have HN1:∀v,zC b.ls[k].rs=v->Hid (∀W,Calls Tryz.prog 175 #[.s b.ls[k].rs] W fun e w'=>e=.returned (.bool v)/\w'=W):=fun v h W=>zw h (zZ _ W HSm.o.rs)
   by_cases t1:yD l.ts b.ls[k].tm=true
   rotate_left
   ·have HF:Hid (yQ l.ts b=false):=HNo.o (by unfold yH;rw[bFi t1];rfl)
    rw[bFi t1];clear HN1 t1;go_wp2
    go_ret;exact⟨ze HF.o.symm,HBw.o _ HB3.o⟩
   rw[t1]
   by_cases t2:zC b.ls[k].rs=true
   rotate_left
   ·have HF:Hid (yQ l.ts b=false):=HNo.o (by unfold yH;rw[t1,bFi t2];rfl)
    have H2:=HN1 false (bFi t2);clear HN1 t1 t2;go_wp2_with fail
    refine(H2.o _).mono ?_;rintro e w4⟨rfl,rfl⟩;go_wp2
    go_ret;exact⟨ze HF.o.symm,HBw.o _ HB3.o⟩
   have H2:=HN1 true t2
   by_cases t3:jO b.ls[k].fr b.ls[k].mo 0 1000000=true
   ·have HY:Hid ((b.ls.take (k+1)).all (yH l.ts)=true):=HYes.o (by unfold yH;rw[t1,t2,t3];rfl)
    have H3:Hid (∀W,Calls Tryz.prog 190 #[.i b.ls[k].fr,.i b.ls[k].mo,.i 0,.i 1000000] W fun e w'=>e=.returned (.bool true)/\w'=W):=fun W=>zw t3 (zbv _ _ _ _ W)
    clear HN1 t1 t2 t3;go_wp2_with fail
    refine(H2.o _).mono ?_;rintro e w4⟨rfl,rfl⟩;go_wp2_with fail
    refine(H3.o _).mono ?_;rintro e w4⟨rfl,rfl⟩;go_wp2
    exact⟨⟨k+1,by omega,by go_num,HY.o,HB3.o⟩,zi hlt⟩
   ·have HF:Hid (yQ l.ts b=false):=HNo.o (by unfold yH;rw[t1,t2,bFi t3];rfl)
    have H3:Hid (∀W,Calls Tryz.prog 190 #[.i b.ls[k].fr,.i b.ls[k].mo,.i 0,.i 1000000] W fun e w'=>e=.returned (.bool false)/\w'=W):=fun W=>zw (bFi t3) (zbv _ _ _ _ W)
    clear HN1 t1 t2 t3;go_wp2_with fail
    refine(H2.o _).mono ?_;rintro e w4⟨rfl,rfl⟩;go_wp2_with fail
    refine(H3.o _).mono ?_;rintro e w4⟨rfl,rfl⟩;go_wp2
    go_ret;exact⟨ze HF.o.symm,HBw.o _ HB3.o⟩
  ·have e:k=b.ls.length:=by omega
   subst e
   have HE:Hid (yQ l.ts b=true):=by
    unfold Hid;rw[HG.o];have h:=HQ.o.1;rw[tOl (Nat.le_refl _)]at h;exact h
   have HBe:=hid (HB1.o.trans (HQ.o.2.mono HB1.o.size));clear hlt hk HQ;go_wp2
   go_ret;exact⟨ze HE.o.symm,HBe.o⟩
theorem ztZ (a b:BA):key a b<0↔less a b=true:=by
 rw[zku,decide_eq_true_eq]
 have:=zpX a b
 omega
theorem znk (h:key a b<0)(h':key b c<0):key a c<0:=by
 rw[ztZ]at h h' ⊢;exact zbh _ _ _ h h'
theorem zlC {d e f:BA}(h:key2 a b c d<0)(h':key2 c d e f<0):key2 a b e f<0:=by
 unfold key2 at h h' ⊢
 by_cases h1:key a c=0
 ·rw[if_pos h1]at h
  have e1:=(zbO a c).1 h1;subst e1
  by_cases h2:key a e=0
  ·rw[if_pos h2]at h' ⊢
   exact znk h h'
  ·rw[if_neg h2]at h' ⊢
   exact h'
 ·rw[if_neg h1]at h
  by_cases h2:key c e=0
  ·have e1:=(zbO c e).1 h2
   subst e1;rw[if_neg h1];exact h
  ·rw[if_neg h2]at h'
   have h3:=znk h h';rw[if_neg (by omega)];exact h3
theorem zbs {a b c:Lg}(h:qz a b<0)(h':qz b c<0):qz a c<0:=zlC h h'
theorem zfX {d:BA}:key2 a b c d=0↔a=c/\b=d:=by
 unfold key2
 by_cases h:key a c=0
 ·rw[if_pos h,zbO]
  exact⟨fun e=>⟨(zbO a c).1 h,e⟩,fun e=>e.2⟩
 ·rw[if_neg h]
  exact⟨fun e=>absurd e h,fun e=>absurd ((zbO a c).2 e.1) h⟩
theorem zcS {α:Type}{key:α->α->Int}(ht:∀a b c:α,key a b<0->key b c<0->key a c<0){ms:List α}(h:rising key ms):∀(j:Nat) (hj:j<ms.length) (i:Nat) (hi:i<j),key (ms[i]'(by omega)) ms[j]<0
 | 0,_,i,hi=>by omega
 | j+1,hj,i,hi=>by
  rcases Nat.lt_or_ge i j with hlt|hge
  ·have hjl:j<ms.length:=by omega
   have hil:i<ms.length:=by omega
   exact ht ms[i] ms[j] ms[j+1] (zcS ht h j hjl i hlt) (h j hj)
  ·have e:i=j:=by omega
   subst e;exact h i hj
def jA (ls:List Lg)(tm rs:BA):Bool:=ls.any fun g=>decide (g.tm=tm)&&decide (g.rs=rs)
structure zfd (ls:List Lg)(tm rs:BA)(p:Nat):Prop where
 le:p<=ls.length
 below:∀i (h:i<ls.length),i<p->key2 ls[i].tm ls[i].rs tm rs<0
 above:∀i (h:i<ls.length),p<=i->0<=key2 ls[i].tm ls[i].rs tm rs
theorem zfd.found {ls:List Lg}{tm rs:BA}{p:Nat}(h:zfd ls tm rs p)(hr:rising qz ls):jA ls tm rs=true↔∃hp:p<ls.length,ls[p].tm=tm/\ls[p].rs=rs:=by
 unfold jA;rw[List.any_eq_true]
 constructor
 ·rintro⟨g,hg,he⟩
  obtain⟨i,hi,rfl⟩:=List.mem_iff_getElem.1 hg;simp only[Bool.and_eq_true,decide_eq_true_eq]at he;have hz:key2 ls[i].tm ls[i].rs tm rs=0:=zfX.2 he
  have hpi:p<=i:=by
   rcases Nat.lt_or_ge i p with hlt|hge
   ·have:=h.below i hi hlt;omega
   ·exact hge
  rcases Nat.eq_or_lt_of_le hpi with e|hlt
  ·subst e;exact⟨hi,he⟩
  ·have h1:=zcS (fun a b c=>zbs (a:=a) (b:=b) (c:=c)) hr i hi p hlt
   have h2:=h.above p (by omega) (Nat.le_refl _);unfold qz at h1;rw[he.1,he.2]at h1;omega
 ·rintro⟨hp,he⟩
  exact⟨ls[p],List.getElem_mem _,by simp[he.1,he.2]⟩
theorem zfY {α:Type}{key:α->α->Int}{ms:List α}(h:za1 key ms k)(hk:k<ms.length)(hn:∀m (e:k=m+1),key (ms[m]'(by omega)) ms[k]<0):za1 key ms (k+1):=by
 intro i hi hik
 rcases Nat.lt_or_ge (i+1) k with hlt|hge
 ·exact h i hi hlt
 ·have e:k=i+1:=by omega
  subst e;exact hn i rfl
theorem zj6 {α:Type}{key:α->α->Int}{ms:List α}(hk:k<ms.length)(h:∀h0:0<k,key (ms[k-1]'(by omega)) ms[k]<0):∀m (e:k=m+1),key (ms[m]'(by omega)) ms[k]<0:=by
 intro m e;subst e;exact h (by omega)
theorem zg1 {α:Type}{key:α->α->Int}{ms:List α}(h:za1 key ms k)(hk:ms.length<=k):zb0 key ms=true:=by
 rw[zkg];exact fun i hi=>h i hi (by omega)
theorem zeI {α:Type}{key:α->α->Int}{ms:List α}(hk:k<ms.length)(h0:0<k)(hn:¬key (ms[k-1]'(by omega)) ms[k]<0):zb0 key ms=false:=by
 obtain⟨m,rfl⟩:∃m,k=m+1:=⟨k-1,by omega⟩
 exact zhz hk hn
theorem zex {P:Program}{ops:Array Oper}{rest:List Oper}{o:Oper}{a:Act}{Q:Exit->Act->World->Prop}(hgd:o.guard=none)(s x:Operand)(t:TypeId)
 (ho:o.op=.call { callee:=.builtin .append,args:=#[s,x],argTypes:=#[t,t] })
 (e:TypeId) (i:TypeInfo) (z:Value) (size bytes:Nat) (ht:P.underlying t=some (.slice e)) (hi:P.info? e=some i) (hz:i.zero=some z)
 (hsize:i.size=size) (hby:i.bytes=bytes) (hzs:z.cells.size=size) (hsz:0<size) (hs:a.eval s=.l none 0 0)
 (ad:OA) (n c:Nat) (news:List Value) (hx:a.eval x=.l ad n c) (hl:news.length=n*size) (hn:n≠0->∃p,ad=some p/\∀j u,news[j]?=some u->w.cell? (p.add j)=some u) (h1:∀u∈news,u.oneCell'=true)
 (h63:n<=maxLen) (hbytes:n*bytes<=140737488355328)
 (h:∀v' w',w'.ownsRow w.heap.size e size v' n news->Bw w w'->wpList P ops Q rest (a.put o.dst v') w'):wpList P ops Q (o :: rest) a w:=by
 by_cases h0:n=0
 ·subst h0
  have hr:(Builtin.append_ #[t,t] o.type #[.l none 0 0,.l ad 0 c]).run P w=.ok (.l none 0 0) w:=by
   have hso:(sizeOf e).run P w=.ok size w:=by
    unfold sizeOf typeInfo
    simp[hi,hsize,go_sem,Result.andThen]
   rcases ad with _|p
   ·simp[Builtin.append_,run_underlying ht,Builtin.lenOf,Builtin.firstCells,go_sem,Result.andThen,hso]
   ·simp[Builtin.append_,run_underlying ht,Builtin.lenOf,Builtin.firstCells,go_sem,Result.andThen,hso]
  refine wpList_plain hgd fun K hK=>?_
  unfold Oper.wp;simp only[execOp,ho,resolve,invoke,builtin,Sem.run_bind,Sem.run_pure,Result.andThen_ok,List.map_toArray,List.map_cons,List.map_nil,hs,hx,hr];have hnews:news=[]:=List.length_eq_zero_iff.1 (by rw[hl];simp);exact hK _ _ (h _ _ (by rw[hnews];exact World.ownsRow_nil _ _ _ _) (bRf _ _))
 ·obtain⟨p,rfl,hc⟩:=hn h0
  refine wpList_append_own w hgd s x t ho w.heap.size e i z size bytes ht hi hz hsize hby hzs hsz (.l none 0 0) 0 [] hs (World.ownsRow_nil _ _ _ _) p n c news hx hl hc h1 (by omega) (by rw[Nat.zero_add];exact hbytes) (Nat.le_refl _) ?_;intro v' w' hown hgr _;rw[Nat.zero_add,List.nil_append]at hown;exact h v' w' hown ((bRf _ _).grown hgr (Nat.le_refl _) (by simp[Value.ownBlock]))
theorem zbU.from {a:OA}{xs:List Lg}(h:zbU w a xs)(hne:xs.length≠0):∃p,a=some p/\∀j u,(xs.flatMap Lg.row)[j]?=some u->w.cell? (p.add j)=some u:=by
 obtain⟨b,off,rfl,_⟩:=h.rows (fun e=>hne (by rw[e];rfl));exact⟨_,rfl,ztF h⟩
theorem zcp.from {a:OA}{xs:List Pu}(h:zcp w a xs)(hne:xs.length≠0):∃p,a=some p/\∀j u,(xs.flatMap Pu.row)[j]?=some u->w.cell? (p.add j)=some u:=by
 obtain⟨b,off,rfl,_⟩:=h.rows (fun e=>hne (by rw[e];rfl));exact⟨_,rfl,ztd h⟩
theorem zhS (b:Bk)(a0 a1 a2 a3:OA)(c0 c1 c2 c3:Nat)(w:World)(hl:qj w b a0 a1 a2 a3)(hf:b.Few) :
 Calls Tryz.prog 35 #[.agg (bC b a0 a1 a2 a3 c0 c1 c2 c3)] w fun e w'=>∃own d0 d1 d2 d3 e0 e1 e2 e3,e=.returned (.agg (bC b d0 d1 d2 d3 e0 e1 e2 e3))/\BkL (w.heap.size+1+1) w'.heap.size w' own b d0 d1 d2 d3/\(zfb (w.heap.size+1+1) w' own (.l d2 b.ls.length e2) b.ls/\zgN (w.heap.size+1+1) w' own (.l d3 b.ps.length e3) b.ps)/\Bw w w'/\b.os.length<=e0:=by
 obtain⟨i2,hi2,hzi2,hsi2,hbi2⟩:=info_parts Tryz.ztn;obtain⟨i3,hi3,hzi3,hsi3,hbi3⟩:=info_parts Tryz.zs6;have HI2:=j3 hi2 hzi2 hsi2 hbi2;have HI3:=j3 hi3 hzi3 hsi3 hbi3;have HL:=hid hl;have HF:=hid hf;clear hl hf hi2 hzi2 hsi2 hbi2 hi3 hzi3 hsi3 hbi3;have k0:=zK w (.cells (bC b a0 a1 a2 a3 c0 c1 c2 c3) 40) (.cells bZ 40);have hB0:=zo w (.cells (bC b a0 a1 a2 a3 c0 c1 c2 c3) 40) (.cells bZ 40);obtain⟨W0,hW0⟩:=xN ((w.alloc (.cells (bC b a0 a1 a2 a3 c0 c1 c2 c3) 40)).alloc (.cells bZ 40));have hz0:W0.heap.size=w.heap.size+1+1:=by rw[hW0];simp
 go_in;go_wp2_with fail
 rw[<- hW0]at k0 hB0 ⊢;clear hW0;refine(zpI (fun _=>(9,0,0)) a0 c0 b.os W0 (HL.o.os.mono hB0) HF.o.os.1 HF.o.os.2).mono ?_;rintro e w1⟨v0,own1,rfl,hw1,hr1,hb1⟩;obtain⟨d0,e0,rfl,hn1⟩:=hr1.lie;have HC0:=hid hr1.cap;rw[hz0]at hw1 hn1;have kX:=(hb1.block w.heap.size (by omega)).trans k0.1;have kR:=(hb1.block (w.heap.size+1) (by omega)).trans k0.2;have hz1:=hb1.size;have HB1:=hid (hB0.trans (hb1.mono (by omega)));have HN1:=yB hn1 hw1;clear hr1 hn1 hw1 hb1 k0 hB0;have cX:=fun j=>cell_of_block (o:=j) kX
 have fX:=fun j=>zf (o:=j) kX
 have hzz1:w.heap.size<w1.heap.size:=by omega
 have kX1:=zh (o:=3) kX (.l d0 b.os.length e0);have kR1:=(zA (w:=w1) (o:=3) (v:=.l d0 b.os.length e0) (show w.heap.size+1≠w.heap.size by omega)).trans kR;have HB1':=hid (HB1.o.setCell (p:=(aD w.heap.size 3)) (Nat.le_refl _) (.l d0 b.os.length e0));have HK1:=yB kX1 kR1;have HN1':Hid (jD (w.heap.size+1+1) (w1.setCell (aD w.heap.size 3) (.l d0 b.os.length e0)) own1 d0 b.os.length (jo b.os)):=HN1.o.1.left ((Left.refl (fun k=>k=w.heap.size) w1).set rfl _ _) (fun k h1 h2=>by subst h2;rw[HN1.o.2 _ (by omega)]at h1;simp at h1);have hsz1:(w1.setCell (aD w.heap.size 3) (.l d0 b.os.length e0)).heap.size=w1.heap.size:=World.size_setCell _ _ _;clear kX kR kX1 kR1;go_wp2_with fail
 generalize w1.setCell (aD w.heap.size 3) (.l d0 b.os.length e0)=W1 at *
 clear cX fX HB1;refine(zp9 own1 a1 c1 b.gs W1 (HL.o.gs.mono HB1'.out) HF.o.gs.1 HF.o.gs.2).mono ?_;rintro e w2⟨v1,own2,rfl,hw2,hr2,hb2⟩;obtain⟨d1,e1,rfl,hn2⟩:=hr2.lie;have HW2:Hid (∀k,k<w.heap.size+1+1->own2 k=(9,0,0)):=fun k hk=>(hw2 k (by omega)).trans (HN1.o.2 k hk)
 have hz2:=hb2.size;have HN2:Hid (jD (w.heap.size+1+1) w2 own2 d0 b.os.length (jo b.os)/\zcl (w.heap.size+1+1) w2 own2 d1 b.gs.length (zcm b.gs)):=⟨(HN1'.out.own (fun k hk _=>hw2 k hk)).mono hb2,hn2.low (by omega)⟩
 have kX:=(hb2.block w.heap.size (by omega)).trans HK1.o.1;have kR:=(hb2.block (w.heap.size+1) (by omega)).trans HK1.o.2;have HB2:=hid (HB1'.out.trans (hb2.mono HB1'.out.size));clear hr2 hn2 hw2 hb2 HN1 HN1' HK1 HB1';have cX:=fun j=>cell_of_block (o:=j) kX
 have fX:=fun j=>zf (o:=j) kX
 have hzz2:w.heap.size<w2.heap.size:=by omega
 have kX1:=zh (o:=4) kX (.l d1 b.gs.length e1);have kR1:=(zA (w:=w2) (o:=4) (v:=.l d1 b.gs.length e1) (show w.heap.size+1≠w.heap.size by omega)).trans kR;have HB2':=hid (HB2.o.setCell (p:=(aD w.heap.size 4)) (Nat.le_refl _) (.l d1 b.gs.length e1));have HK2:=yB kX1 kR1;have hLs:=(Left.refl (fun k=>k=w.heap.size) w2).set (b:=w.heap.size) rfl 4 (.l d1 b.gs.length e1);have HN2':=yB (HN2.o.1.left hLs (fun k h1 h2=>by subst h2;rw[HW2.o _ (by omega)]at h1;simp at h1)) (HN2.o.2.left hLs (fun k h1 h2=>by subst h2;rw[HW2.o _ (by omega)]at h1;simp at h1));have hsz2:(w2.setCell (aD w.heap.size 4) (.l d1 b.gs.length e1)).heap.size=w2.heap.size:=World.size_setCell _ _ _;have cXX:=fun j=>cell_of_block (o:=j) kX1
 clear kX kR kX1 kR1 hLs
 go_wp2_with (at_builtin;refine zcr ?_)
 generalize w2.setCell (aD w.heap.size 4) (.l d1 b.gs.length e1)=W2 at *
 clear cX fX HB2 HN2 cXX
 show wpList _ _ _ _ _ _
 refine zex rfl (.const (.l none 0 0)) (.tmp 12) 37 rfl 138 i2 (.agg #[.s ByteArray.empty,.s ByteArray.empty,.i 0,.i 0]) 4 48 Tryz.underlying37 HI2.o.1 HI2.o.2.1 HI2.o.2.2.1 HI2.o.2.2.2 rfl (by decide) rfl a2 b.ls.length c2 (b.ls.flatMap Lg.row) rfl (zcX _ 4 (fun _=>rfl) _) (fun h=>(HL.o.ls.mono HB2'.out).from h) zrz (by have:=HF.o.ls;unfold maxLen;omega) (by have:=HF.o.ls;omega) ?_;intro v2 w3 hown hb3;obtain⟨d2,e2,rfl⟩:=zam hown;obtain⟨own3,he3⟩:∃own3:Nat->Lb,own3=fun k=>if k<W2.heap.size then own2 k else (2,0,0):=⟨_,rfl⟩
 have hw3:∀k,k<W2.heap.size->own3 k=own2 k:=fun k hk=>by rw[he3];exact if_pos hk
 have hR3:zfb W2.heap.size w3 own3 (.l d2 b.ls.length e2) b.ls:=⟨hown,fun k hk=>by rw[he3];exact if_neg (by have:=(hown.lt k hk).1;omega)⟩
 obtain⟨d2',e2',h9,hn3⟩:=hR3.lie
 cases h9
 have HRL:=hid (hR3.low (lo':=(w.heap.size+1+1)) (by omega));have HW3:Hid (∀k,k<w.heap.size+1+1->own3 k=(9,0,0)):=fun k hk=>(hw3 k (by omega)).trans (HW2.o k hk)
 have hz3:=hb3.size;have HN3:Hid (jD (w.heap.size+1+1) w3 own3 d0 b.os.length (jo b.os)/\zcl (w.heap.size+1+1) w3 own3 d1 b.gs.length (zcm b.gs)/\zaR (w.heap.size+1+1) w3 own3 d2 b.ls.length (zdl b.ls)):=⟨(HN2'.out.1.own (fun k hk _=>hw3 k hk)).mono hb3,(HN2'.out.2.own (fun k hk _=>hw3 k hk)).mono hb3,hn3.low (by omega)⟩
 have kX:=(hb3.block w.heap.size (by omega)).trans HK2.o.1;have kR:=(hb3.block (w.heap.size+1) (by omega)).trans HK2.o.2;have HB3:=hid (HB2'.out.trans (hb3.mono HB2'.out.size));clear hR3 hn3 hw3 he3 hown hb3 HN2' HK2 HB2' HW2;have cX:=fun j=>cell_of_block (o:=j) kX
 have fX:=fun j=>zf (o:=j) kX
 have hzz3:w.heap.size<w3.heap.size:=by omega
 have kX1:=zh (o:=5) kX (.l d2 b.ls.length e2);have kR1:=(zA (w:=w3) (o:=5) (v:=.l d2 b.ls.length e2) (show w.heap.size+1≠w.heap.size by omega)).trans kR;have HB3':=hid (HB3.o.setCell (p:=(aD w.heap.size 5)) (Nat.le_refl _) (.l d2 b.ls.length e2));have HK3:=yB kX1 kR1;have hLs:=(Left.refl (fun k=>k=w.heap.size) w3).set (b:=w.heap.size) rfl 5 (.l d2 b.ls.length e2);have HN3':=zao (HN3.o.1.left hLs (fun k h1 h2=>by subst h2;rw[HW3.o _ (by omega)]at h1;simp at h1)) (HN3.o.2.1.left hLs (fun k h1 h2=>by subst h2;rw[HW3.o _ (by omega)]at h1;simp at h1)) (HN3.o.2.2.left hLs (fun k h1 h2=>by subst h2;rw[HW3.o _ (by omega)]at h1;simp at h1));have HRL':=hid (HRL.o.left hLs (fun k h1 h2=>by subst h2;rw[HW3.o _ (by omega)]at h1;simp at h1));have hsz3:(w3.setCell (aD w.heap.size 5) (.l d2 b.ls.length e2)).heap.size=w3.heap.size:=World.size_setCell _ _ _;have cXX:=fun j=>cell_of_block (o:=j) kX1
 clear kX kR kX1 kR1 hLs
 go_wp2_with (at_builtin;refine zcr ?_)
 generalize w3.setCell (aD w.heap.size 5) (.l d2 b.ls.length e2)=W3 at *
 clear cX fX HB3 HN3 cXX
 show wpList _ _ _ _ _ _
 refine zex rfl (.const (.l none 0 0)) (.tmp 16) 38 rfl 140 i3 (.agg #[.s ByteArray.empty,.s ByteArray.empty,.s ByteArray.empty,.i 0,.i 0]) 5 64 Tryz.underlying38 HI3.o.1 HI3.o.2.1 HI3.o.2.2.1 HI3.o.2.2.2 rfl (by decide) rfl a3 b.ps.length c3 (b.ps.flatMap Pu.row) rfl (zcX _ 5 (fun _=>rfl) _) (fun h=>(HL.o.ps.mono HB3'.out).from h) zrs (by have:=HF.o.ps;unfold maxLen;omega) (by have:=HF.o.ps;omega) ?_;intro v3 w4 hown hb4;obtain⟨d3,e3,rfl⟩:=zam hown;obtain⟨own4,he4⟩:∃own4:Nat->Lb,own4=fun k=>if k<W3.heap.size then own3 k else if k<w4.heap.size then (3,0,0) else (9,0,0):=⟨_,rfl⟩
 have hw4:∀k,k<W3.heap.size->own4 k=own3 k:=fun k hk=>by rw[he4];exact if_pos hk
 have hR4:zgN W3.heap.size w4 own4 (.l d3 b.ps.length e3) b.ps:=⟨hown,fun k hk=>by have h8:=hown.lt k hk;rw[he4];show(if _ then _ else _)=_;rw[if_neg (by omega),if_pos h8.2]⟩
 obtain⟨d3',e3',h9,hn4⟩:=hR4.lie
 cases h9
 have hz4:=hb4.size
 have HW4:Hid (∀k,(k<w.heap.size+1+1 \/ w4.heap.size<=k)->own4 k=(9,0,0)):=by
  rintro k (hk|hk)
  ·exact(hw4 k (by omega)).trans (HW3.o k hk)
  ·rw[he4];show(if _ then _ else _)=_;rw[if_neg (by omega),if_neg (by omega)]
 have HRR:Hid (zfb (w.heap.size+1+1) w4 own4 (.l d2 b.ls.length e2) b.ls/\zgN (w.heap.size+1+1) w4 own4 (.l d3 b.ps.length e3) b.ps):=⟨(HRL'.out.own (fun k hk _=>hw4 k hk)).left (Left.of_below (fun _=>False) hb4) (fun _ _ h=>h),hR4.low (by omega)⟩
 have HN4:Hid (BkL (w.heap.size+1+1) w4.heap.size w4 own4 b d0 d1 d2 d3):=⟨(HN3'.out.1.own (fun k hk _=>hw4 k hk)).mono hb4,(HN3'.out.2.1.own (fun k hk _=>hw4 k hk)).mono hb4,(HN3'.out.2.2.own (fun k hk _=>hw4 k hk)).mono hb4,hn4.low (by omega),fun k hk=>by rw[HW4.o k hk],by omega,Nat.le_refl _⟩
 have kX:=(hb4.block w.heap.size (by omega)).trans HK3.o.1;have kR:=(hb4.block (w.heap.size+1) (by omega)).trans HK3.o.2;have HB4:=hid (HB3'.out.trans (hb4.mono HB3'.out.size));clear hR4 hn4 hw4 he4 hown hb4 HN3' HK3 HB3' HW3;have cX:=fun j=>cell_of_block (o:=j) kX
 have fX:=fun j=>zf (o:=j) kX
 have cR:=fun j=>cell_of_block (o:=j) kR
 have fR:=fun j=>zf (o:=j) kR
 have hzz4:w.heap.size<w4.heap.size:=by omega
 have hzz5:w.heap.size+1<w4.heap.size:=by omega
 clear kX kR;go_wp2
 refine bodyPost_ret (v:=.agg (bC b d0 d1 d2 d3 e0 e1 e2 e3)) (by simp[results,Tryz.results35,go_sem,cR]) rfl ⟨own4,d0,d1,d2,d3,e0,e1,e2,e3,rfl,?_⟩
 ·have hL0:=Left.refl (fun k=>k=w.heap.size \/ k=w.heap.size+1) w4
  have hL:=(((((((hL0.set (b:=w.heap.size) (Or.inl rfl) 6 (.l d3 b.ps.length e3)).set (b:=w.heap.size+1) (Or.inr rfl) 0 (.i b.now)).set (b:=w.heap.size+1) (Or.inr rfl) 1 (.i b.tick)).set (b:=w.heap.size+1) (Or.inr rfl) 2 (.i b.given)).set (b:=w.heap.size+1) (Or.inr rfl) 3 (.l d0 b.os.length e0)).set (b:=w.heap.size+1) (Or.inr rfl) 4 (.l d1 b.gs.length e1)).set (b:=w.heap.size+1) (Or.inr rfl) 5 (.l d2 b.ls.length e2)).set (b:=w.heap.size+1) (Or.inr rfl) 6 (.l d3 b.ps.length e3);have h8:=BkF.left HN4.o hL (fun k hk h2=>by rw[HW4.o k (Or.inl (by omega))]at hk;simp at hk);simp only[World.size_setCell];refine⟨h8,⟨HRR.o.1.left hL (fun k hk h2=>by rw[HW4.o k (Or.inl (by omega))]at hk;simp at hk),HRR.o.2.left hL (fun k hk h2=>by rw[HW4.o k (Or.inl (by omega))]at hk;simp at hk)⟩,?_,HC0.o⟩;have h0:w.heap.size<=w.heap.size:=Nat.le_refl _;have h1:w.heap.size<=w.heap.size+1:=Nat.le_succ _
  iterate 7 refine Below.setCell ?_ h1 _
  refine Below.setCell ?_ h0 _;exact HB4.o
theorem zg6 (b:Bk)(a0 a1 a2 a3:OA)(c0 c1 c2 c3:Nat)(w:World)(hl:qj w b a0 a1 a2 a3)(hf:b.Few) :
 Calls Tryz.prog 35 #[.agg (bC b a0 a1 a2 a3 c0 c1 c2 c3)] w fun e w'=>∃own d0 d1 d2 d3 e0 e1 e2 e3,e=.returned (.agg (bC b d0 d1 d2 d3 e0 e1 e2 e3))/\BkL (w.heap.size+1+1) w'.heap.size w' own b d0 d1 d2 d3/\(zfb (w.heap.size+1+1) w' own (.l d2 b.ls.length e2) b.ls/\zgN (w.heap.size+1+1) w' own (.l d3 b.ps.length e3) b.ps)/\Bw w w':=
 (zhS b a0 a1 a2 a3 c0 c1 c2 c3 w hl hf).mono fun _ _ ⟨own,d0,d1,d2,d3,e0,e1,e2,e3,h1,h2,h3,h4,_⟩=>⟨own,d0,d1,d2,d3,e0,e1,e2,e3,h1,h2,h3,h4⟩
end Go.Proofs.YtjnpjkigofldlaaGreat
