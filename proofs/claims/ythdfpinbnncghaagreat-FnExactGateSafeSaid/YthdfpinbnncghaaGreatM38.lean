import Derived.Test.YthdfpinbnncghaaGreatM35
set_option maxHeartbeats 4000000
namespace Go.Proofs.YthdfpinbnncghaaGreat
open Go.RowKit
def zaj (fs:List Fld)(m:Mnd)(v:BA):Bool:=!decide (v=m.fd)&&plain fs v
def yL (fs:List Fld)(m:Mnd):Bool:=!((!isSet m.wh&&isSet m.wi)||(isSet m.pt == isSet m.fr))&&(!isSet m.pt||zfW (zcU fs m.fd) m.pt)
def zbe (fs:List Fld)(m:Mnd):Bool:=plain fs m.fd&&(zS m).all (zaj fs m)&&yL fs m
set_option maxRecDepth 20000 in
theorem zpD (r:Nat)(a:OA)(cap:Nat)(fs:List Fld)(m:Mnd)(w:World)(hr:w.heap[r]?=some (.map yY 4))(hw:yj w a fs)(hm:m.Small) :
 Calls Tryz.prog 151 #[.map (some r),.l a fs.length cap,.agg m.cells] w fun e w'=>e=.returned (.bool (zbe fs m))/\Bw w w':=by
 have hcells:m.cells=#[.s m.kd,.s m.fd,.s m.wh,.s m.wi,.s m.pt,.s m.fr]:=rfl;have HW:=hid hw;have HR:=hid hr;have hl:=hw.len;unfold maxLen at hl;clear hw hr;rw[hcells];have hba:=(bRf w.heap.size w).alloc (Nat.le_refl _) (.cells #[.s m.kd,.s m.fd,.s m.wh,.s m.wi,.s m.pt,.s m.fr] 141)
 by_cases hp:plain fs m.fd=true
 rotate_left
 ·have hpf:plain fs m.fd=false:=by simpa using hp
  have HF:Hid (zbe fs m=false):=by unfold Hid zbe;rw[hpf];rfl
  go_enter Tryz.func151,Tryz.ntmps151;go_wp2_with fail
  have h:=zdd a cap fs m.fd _ (HW.o.mono hba);rw[hpf]at h;refine h.mono ?_;rintro e w1⟨rfl,hb1⟩;have HB1:=hid (hba.trans (hb1.mono hba.size));clear h hba hb1;go_wp2_with fail
  go_ret;exact⟨by rw[HF.o];rfl,HB1.o⟩
 have HP:=hid hp;go_enter Tryz.func151,Tryz.ntmps151;go_wp2_with fail
 have h:=zdd a cap fs m.fd _ (HW.o.mono hba);rw[hp]at h;refine h.mono ?_;rintro e w1⟨rfl,hb1⟩;have HB1:=hid (hba.trans (hb1.mono hba.size));have hX1:=za (zn w _ _) (by simp) hb1;have hz1:w.heap.size<w1.heap.size:=by have:=hb1.size;simp at this;omega
 clear h hba hb1 hp;go_wp2_with fail
 refine(zfZ m w1).mono ?_;rintro e w2⟨nv,rfl,hn,hb2⟩;obtain⟨na,ncap,rfl⟩:=qL hn;have HN2:=hid hn;have HB2:=hid (HB1.o.trans (hb2.mono HB1.o.size));have hX2:=za hX1 hz1 hb2;have HX2:=hid hX2;have hz2:w.heap.size<w2.heap.size:=nLt hz1 hb2.size;have HNL:Hid ((zS m).length<=2):=zeC _;clear hn hb2 hX1 hX2;go_wp2_with fail
 go_loopw [17] (fun iv wr=>∃k:Nat,k<=(zS m).length/\iv=.i k/\((zS m).take k).all (zaj fs m)=true/\Bw w2 wr) (fun iv _=>(zS m).length-(intOf iv).toNat)
 case atStart=>exact⟨0,Nat.zero_le _,rfl,rfl,bRf _ _⟩
 case round=>
  obtain⟨k,hk,rfl,hall,hB⟩:=hrel;have HB:=ji hB (HB2.o.trans (hB.mono HB2.o.size));have HA:=hid hall;have hXr:=za HX2.o hz2 hB;have hzr:=nLt hz2 hB.size;clear hall hB
  by_cases hlt:k<(zS m).length
  ·have hltI:(k:Int)<((zS m).length:Int):=by omega
   obtain⟨g,rfl,hcell⟩:∃g,na=some (aD g 0)/\wr.cell? (aD g k)=some (.s (zS m)[k]):=by
    have hrow:=jD HN2.o HB.o.1;obtain⟨_,⟨h0,h1⟩|⟨g,cap,cur,h0,h1⟩⟩:=id hrow
    ·rw[h1]at hlt;exact absurd hlt (by omega)
    ·cases h0
     refine⟨g,rfl,?_⟩;rw[hrow.cellAt k (by omega)]
     simp[hlt]
   have HTK:Hid (((zS m).take (k+1)).all (zaj fs m)=zaj fs m (zS m)[k]):=by
    unfold Hid;rw[tSe hlt,List.all_append,HA.o];simp
   have HNO:Hid (zaj fs m (zS m)[k]=false->zbe fs m=false):=by
    intro h
    have:(zS m).all (zaj fs m)=false:=by
     rw[List.all_eq_false];exact⟨_,List.getElem_mem hlt,by rw[h];simp⟩
    unfold zbe;rw[this];simp
   revert HTK HNO hcell
   generalize (zS m)[k]=x
   intro hcell HTK HNO
   by_cases hx:x=m.fd
   ·have hbe:(x.toList == m.fd.toList)=true:=by rw[beq_toList];simpa using hx
    have HF:Hid (zbe fs m=false):=HNO.o (by unfold zaj;simp[hx]);clear hx;go_wp2_with fail
    go_ret;exact⟨by rw[HF.o];rfl,HB.o.2⟩
   ·have hbe:(x.toList == m.fd.toList)=false:=by rw[beq_toList];simpa using hx
    have HNX:Hid (zaj fs m x=plain fs x):=by unfold Hid zaj;simp[hx]
    clear hx;go_wp2_with fail
    have h:=zdd a cap fs x wr (HW.o.mono HB.o.2)
    by_cases hp:plain fs x=true
    ·rw[hp]at h
     refine h.mono ?_;rintro e w3⟨rfl,hb3⟩;have HP3:Hid (((zS m).take (k+1)).all (zaj fs m)=true/\Bw w2 w3):=⟨by rw[HTK.o,HNX.o];exact hp,HB.o.1.trans (hb3.mono HB.o.1.size)⟩
     clear h hp hb3;go_wp2_with fail
     exact⟨⟨k+1,by omega,by rw[wrap_one (by have:=HNL.o;omega)],HP3.o.1,HP3.o.2⟩,zfJ hlt (by have:=HNL.o;omega)⟩
    ·have hpf:plain fs x=false:=by simpa using hp
     rw[hpf]at h;refine h.mono ?_;rintro e w3⟨rfl,hb3⟩;have HF:Hid (zbe fs m=false/\Bw w w3):=⟨HNO.o (by rw[HNX.o];exact hpf),HB.o.2.trans (hb3.mono HB.o.2.size)⟩
     clear h hp hb3;go_wp2_with fail
     go_ret;exact⟨by rw[HF.o.1];rfl,HF.o.2⟩
  ·have e:k=(zS m).length:=by omega
   have hall:=HA.o;rw[e,tOl (Nat.le_refl _)]at hall;have HM:Hid (zbe fs m=yL fs m):=by unfold Hid zbe;rw[HP.o,hall];simp
   subst e;clear hall HA;have HD:Hid (decide ((((zS m).length:Nat):Int)<((zS m).length:Int))=false):=by unfold Hid;simp
   obtain⟨fi,hfi,hix,hfind⟩:∃fi,∃h:fi<fs.length,zY fs m.fd=(fi:Int)/\fs.find? (fun f=>decide (f.nm=m.fd))=some fs[fi]:=by
    rcases jQ fs m.fd with⟨_,h2⟩|⟨fi,hfi,h1,_,h3⟩
    ·have:=HP.o;rw[zaT h2]at this;cases this
    ·exact⟨fi,hfi,h1,h3⟩
   have HFO:Hid (zcU fs m.fd=fs[fi]):=by unfold Hid zcU;rw[hfind];rfl
   have HFP:Hid (∀W,Bw w W->Calls Tryz.prog 208 #[.l a fs.length cap,.s m.fd] W fun e w'=>e=.returned (.i (fi:Int))/\Bw W w'):=by
    intro W hb;have h:=jH a cap fs m.fd W (HW.o.mono hb);rw[hix]at h;exact h
   have hfiI:(fi:Int)<(fs.length:Int):=by omega
   have HSM:=hid hm.pt;have hrl:=(gES HR.o).1;clear hfind hix
   rcases hwh:m.wh.toList.isEmpty with _|_ <;> rcases hwi:m.wi.toList.isEmpty with _|_ <;> rcases hpt:m.pt.toList.isEmpty with _|_ <;> rcases hfr:m.fr.toList.isEmpty with _|_
   all_goals first
    | (have HT:Hid (yL fs m=false):=(by unfold Hid yL isSet;simp[hwh,hwi,hpt,hfr]);go_wp2_with fail;go_ret;exact⟨by rw[HM.o,HT.o];rfl,HB.o.2⟩)
    | (have HT:Hid (yL fs m=true):=(by unfold Hid yL isSet;simp[hwh,hwi,hpt,hfr]);go_wp2_with fail;go_quiet (fail);go_wp2_with fail;go_ret;exact⟨by rw[HM.o,HT.o];rfl,below_drewN HB.o.2 _⟩)
    | skip
   all_goals
    have HT:Hid (yL fs m=zfW fs[fi] m.pt):=by unfold Hid yL;rw[HFO.o];unfold isSet;simp[hwh,hwi,hpt,hfr]
    obtain⟨fb,foff,rfl,hfb,hrows⟩:=HW.o.rows (by rintro rfl;simp at hfi);obtain⟨wa,wcap,hf0⟩:=hrows fi hfi;have HFI:Hid (∀W,Bw w W->zeX W fb (foff+fi*11) fs[fi] wa wcap):=fun W hb=>hf0.mono hfb hb
    have HBD:=hid HB.o.2.drew;have hbc:=HBD.o;have hXc:=za HX2.o hz2 (HB.o.1.drew);have hL:=(HFI.o _ hbc).load;have hbW:=HB.o.1.drew;clear hrows hf0;go_wp2_with fail
    go_region_held3 (fun w'=>(∀j,w'.cell? (aD w.heap.size j)=(#[.s m.kd,.s m.fd,.s m.wh,.s m.wi,.s m.pt,.s m.fr]:AV)[j]?)/\w'.cell? (aD fb (foff+fi*11))=some (.s fs[fi].nm)/\w'.cell? (aD fb (foff+fi*11+1))=some (.i fs[fi].kd)/\w'.cell? (aD fb (foff+fi*11+2))=some (.i fs[fi].ls)/\w'.cell? (aD fb (foff+fi*11+3))=some (.i fs[fi].ms)/\w'.cell? (aD fb (foff+fi*11+4))=some (.l wa fs[fi].ws.length wcap)/\w'.cell? (aD fb (foff+fi*11+5))=some (.s fs[fi].to)/\w'.cell? (aD fb (foff+fi*11+6))=some (.i fs[fi].rl)/\w'.cell? (aD fb (foff+fi*11+7))=some (.bool fs[fi].mu)/\w'.cell? (aD fb (foff+fi*11+8))=some (.bool fs[fi].fx)/\w'.cell? (aD fb (foff+fi*11+9))=some (.s fs[fi].df)/\w'.cell? (aD fb (foff+fi*11+10))=some (.s fs[fi].wg)) (exact⟨hXc,hL⟩) (first
     | (go_at_call 208;refine(HFP.o _ hbc).mono ?_;rintro e w5⟨rfl,hb5⟩;have hbW:=hbW.trans (hb5.mono hbW.size);have hbc:=hbc.trans (hb5.mono hbc.size);have hXc:=za HX2.o hz2 hbW;have hL:=(HFI.o _ hbc).load;clear hb5)
     | (go_at_call 207;refine(zfT r _ _ _ _ _ _ _ _ _ _ _ _ _ _ _ (by exact(hbc.block r hrl).trans HR.o) HSM.o (by exact(HFI.o _ hbc).strs)).mono ?_;rintro e w5⟨rfl,hb5⟩;have hbW:=hbW.trans (hb5.mono hbW.size);have hbc:=hbc.trans (hb5.mono hbc.size);have hXc:=za HX2.o hz2 hbW;have hL:=(HFI.o _ hbc).load;clear hb5))
    go_wp2_with fail
    go_ret;exact⟨by rw[HM.o,HT.o];rfl,hbc⟩
theorem zr6 (a b:BA):key a b<0↔less a b=true:=by
 rw[zeV,decide_eq_true_eq]
 have:=zkd a b
 omega
theorem zlV {a b c:BA}(h:key a b<0)(h':key b c<0):key a c<0:=by
 rw[zr6]at h h' ⊢;exact zbq _ _ _ h h'
theorem zoZ {a b c d e f:BA}(h:key2 a b c d<0)(h':key2 c d e f<0):key2 a b e f<0:=by
 unfold key2 at h h' ⊢
 by_cases h1:key a c=0
 ·rw[if_pos h1]at h
  have e1:=(zbP a c).1 h1;subst e1
  by_cases h2:key a e=0
  ·rw[if_pos h2]at h' ⊢
   exact zlV h h'
  ·rw[if_neg h2]at h' ⊢
   exact h'
 ·rw[if_neg h1]at h
  by_cases h2:key c e=0
  ·have e1:=(zbP c e).1 h2
   subst e1;rw[if_neg h1];exact h
  ·rw[if_neg h2]at h'
   have h3:=zlV h h';rw[if_neg (by omega)];exact h3
theorem zbG {a b c:Lg}(h:q9 a b<0)(h':q9 b c<0):q9 a c<0:=zoZ h h'
theorem zhS {a b c d:BA}:key2 a b c d=0↔a=c/\b=d:=by
 unfold key2
 by_cases h:key a c=0
 ·rw[if_pos h,zbP]
  exact⟨fun e=>⟨(zbP a c).1 h,e⟩,fun e=>e.2⟩
 ·rw[if_neg h]
  exact⟨fun e=>absurd e h,fun e=>absurd ((zbP a c).2 e.1) h⟩
theorem zd5 {α:Type}{key:α->α->Int}(ht:∀a b c:α,key a b<0->key b c<0->key a c<0){ms:List α}(h:rising key ms):∀(j:Nat) (hj:j<ms.length) (i:Nat) (hi:i<j),key (ms[i]'(by omega)) ms[j]<0
 | 0,_,i,hi=>by omega
 | j+1,hj,i,hi=>by
  rcases Nat.lt_or_ge i j with hlt|hge
  ·have hjl:j<ms.length:=by omega
   have hil:i<ms.length:=by omega
   exact ht ms[i] ms[j] ms[j+1] (zd5 ht h j hjl i hlt) (h j hj)
  ·have e:i=j:=by omega
   subst e;exact h i hj
def jJ (ls:List Lg)(tm rs:BA):Bool:=ls.any fun g=>decide (g.tm=tm)&&decide (g.rs=rs)
structure zfj (ls:List Lg)(tm rs:BA)(p:Nat):Prop where
 le:p<=ls.length
 below:∀i (h:i<ls.length),i<p->key2 ls[i].tm ls[i].rs tm rs<0
 above:∀i (h:i<ls.length),p<=i->0<=key2 ls[i].tm ls[i].rs tm rs
theorem zfj.found {ls:List Lg}{tm rs:BA}{p:Nat}(h:zfj ls tm rs p)(hr:rising q9 ls):jJ ls tm rs=true↔∃hp:p<ls.length,ls[p].tm=tm/\ls[p].rs=rs:=by
 unfold jJ;rw[List.any_eq_true]
 constructor
 ·rintro⟨g,hg,he⟩
  obtain⟨i,hi,rfl⟩:=List.mem_iff_getElem.1 hg;simp only[Bool.and_eq_true,decide_eq_true_eq]at he;have hz:key2 ls[i].tm ls[i].rs tm rs=0:=zhS.2 he
  have hpi:p<=i:=by
   rcases Nat.lt_or_ge i p with hlt|hge
   ·have:=h.below i hi hlt;omega
   ·exact hge
  rcases Nat.eq_or_lt_of_le hpi with e|hlt
  ·subst e;exact⟨hi,he⟩
  ·have h1:=zd5 (fun a b c=>zbG (a:=a) (b:=b) (c:=c)) hr i hi p hlt
   have h2:=h.above p (by omega) (Nat.le_refl _);unfold q9 at h1;rw[he.1,he.2]at h1;omega
 ·rintro⟨hp,he⟩
  exact⟨ls[p],List.getElem_mem _,by simp[he.1,he.2]⟩
end Go.Proofs.YthdfpinbnncghaaGreat
