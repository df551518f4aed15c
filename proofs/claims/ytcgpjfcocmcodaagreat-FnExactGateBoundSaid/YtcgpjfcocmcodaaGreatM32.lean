import Derived.Test.YtcgpjfcocmcodaaGreatM29
import Derived.Test.YtcgpjfcocmcodaaGreatM30
set_option maxHeartbeats 4000000
namespace Go.Proofs.YtcgpjfcocmcodaaGreat
open Go.RowKit
def jZ (fs:List Fld)(m:Mnd)(v:BA):Bool:=!decide (v=m.fd)&&plain fs v
def yE (fs:List Fld)(m:Mnd):Bool:=!((!isSet m.wh&&isSet m.wi)||(isSet m.pt == isSet m.fr))&&(!isSet m.pt||zfU (zcz fs m.fd) m.pt)
def za2 (fs:List Fld)(m:Mnd):Bool:=plain fs m.fd&&(zP m).all (jZ fs m)&&yE fs m
set_option maxRecDepth 20000 in
theorem zo4 (r:Nat)(a:OA)(cap:Nat)(fs:List Fld)(m:Mnd)(w:World)(hr:w.heap[r]?=some (.map yO 4))(hw:yg w a fs)(hm:m.Small) :
 Calls Tryz.prog 167 #[.map (some r),.l a fs.length cap,.agg m.cells] w fun e w'=>e=.returned (.bool (za2 fs m))/\Bw w w':=by
 have hcells:m.cells=#[.s m.kd,.s m.fd,.s m.wh,.s m.wi,.s m.pt,.s m.fr]:=rfl;have HW:=hid hw;have HR:=hid hr;have hl:=hw.len;unfold maxLen at hl;clear hw hr;rw[hcells];have hba:=(bRf w.heap.size w).alloc (Nat.le_refl _) (.cells #[.s m.kd,.s m.fd,.s m.wh,.s m.wi,.s m.pt,.s m.fr] 136)
 by_cases hp:plain fs m.fd=true
 rotate_left
 ·have hpf:plain fs m.fd=false:=by simpa using hp
  have HF:Hid (za2 fs m=false):=by unfold Hid za2;rw[hpf];rfl
  go_enter Tryz.func167,Tryz.ntmps167;go_wp2_with fail
  have h:=zc2 a cap fs m.fd _ (HW.o.mono hba);rw[hpf]at h;refine h.mono ?_;rintro e w1⟨rfl,hb1⟩;have HB1:=hid (hba.trans (hb1.mono hba.size));clear h hba hb1;go_wp2_with fail
  go_ret;exact⟨by rw[HF.o];rfl,HB1.o⟩
 have HP:=hid hp;go_enter Tryz.func167,Tryz.ntmps167;go_wp2_with fail
 have h:=zc2 a cap fs m.fd _ (HW.o.mono hba);rw[hp]at h;refine h.mono ?_;rintro e w1⟨rfl,hb1⟩;have HB1:=hid (hba.trans (hb1.mono hba.size));have hX1:=za (zl w _ _) (by simp) hb1;have hz1:w.heap.size<w1.heap.size:=by have:=hb1.size;simp at this;omega
 clear h hba hb1 hp;go_wp2_with fail
 refine(zfQ m w1).mono ?_;rintro e w2⟨nv,rfl,hn,hb2⟩;obtain⟨na,ncap,rfl⟩:=qD hn;have HN2:=hid hn;have HB2:=hid (HB1.o.trans (hb2.mono HB1.o.size));have hX2:=za hX1 hz1 hb2;have HX2:=hid hX2;have hz2:w.heap.size<w2.heap.size:=nLt hz1 hb2.size;have HNL:Hid ((zP m).length<=2):=zec _;clear hn hb2 hX1 hX2;go_wp2_with fail
 go_loopw [17] (fun iv wr=>∃k:Nat,k<=(zP m).length/\iv=.i k/\((zP m).take k).all (jZ fs m)=true/\Bw w2 wr) (fun iv _=>(zP m).length-(intOf iv).toNat)
 case atStart=>exact⟨0,Nat.zero_le _,rfl,rfl,bRf _ _⟩
 case round=>
  obtain⟨k,hk,rfl,hall,hB⟩:=hrel;have HB:=ql hB (HB2.o.trans (hB.mono HB2.o.size));have HA:=hid hall;have hXr:=za HX2.o hz2 hB;have hzr:=nLt hz2 hB.size;clear hall hB
  by_cases hlt:k<(zP m).length
  ·have hltI:(k:Int)<((zP m).length:Int):=by omega
   obtain⟨g,rfl,hcell⟩:∃g,na=some (aD g 0)/\wr.cell? (aD g k)=some (.s (zP m)[k]):=by
    have hrow:=yC HN2.o HB.o.1;obtain⟨_,⟨h0,h1⟩|⟨g,cap,cur,h0,h1⟩⟩:=id hrow
    ·rw[h1]at hlt;exact absurd hlt (by omega)
    ·cases h0
     refine⟨g,rfl,?_⟩;rw[hrow.cellAt k (by omega)]
     simp[hlt]
   have HTK:Hid (((zP m).take (k+1)).all (jZ fs m)=jZ fs m (zP m)[k]):=by
    unfold Hid;rw[tSe hlt,List.all_append,HA.o];simp
   have HNO:Hid (jZ fs m (zP m)[k]=false->za2 fs m=false):=by
    intro h
    have:(zP m).all (jZ fs m)=false:=by
     rw[List.all_eq_false];exact⟨_,List.getElem_mem hlt,by rw[h];simp⟩
    unfold za2;rw[this];simp
   revert HTK HNO hcell
   generalize (zP m)[k]=x
   intro hcell HTK HNO
   by_cases hx:x=m.fd
   ·have hbe:(x.toList == m.fd.toList)=true:=by rw[beq_toList];simpa using hx
    have HF:Hid (za2 fs m=false):=HNO.o (by unfold jZ;simp[hx]);clear hx;go_wp2_with fail
    go_ret;exact⟨by rw[HF.o];rfl,HB.o.2⟩
   ·have hbe:(x.toList == m.fd.toList)=false:=by rw[beq_toList];simpa using hx
    have HNX:Hid (jZ fs m x=plain fs x):=by unfold Hid jZ;simp[hx]
    clear hx;go_wp2_with fail
    have h:=zc2 a cap fs x wr (HW.o.mono HB.o.2)
    by_cases hp:plain fs x=true
    ·rw[hp]at h
     refine h.mono ?_;rintro e w3⟨rfl,hb3⟩;have HP3:Hid (((zP m).take (k+1)).all (jZ fs m)=true/\Bw w2 w3):=⟨by rw[HTK.o,HNX.o];exact hp,HB.o.1.trans (hb3.mono HB.o.1.size)⟩
     clear h hp hb3;go_wp2_with fail
     exact⟨⟨k+1,by omega,by rw[wrap_one (by have:=HNL.o;omega)],HP3.o.1,HP3.o.2⟩,yR hlt (by have:=HNL.o;omega)⟩
    ·have hpf:plain fs x=false:=by simpa using hp
     rw[hpf]at h;refine h.mono ?_;rintro e w3⟨rfl,hb3⟩;have HF:Hid (za2 fs m=false/\Bw w w3):=⟨HNO.o (by rw[HNX.o];exact hpf),HB.o.2.trans (hb3.mono HB.o.2.size)⟩
     clear h hp hb3;go_wp2_with fail
     go_ret;exact⟨by rw[HF.o.1];rfl,HF.o.2⟩
  ·have e:k=(zP m).length:=by omega
   have hall:=HA.o;rw[e,tOl (Nat.le_refl _)]at hall;have HM:Hid (za2 fs m=yE fs m):=by unfold Hid za2;rw[HP.o,hall];simp
   subst e;clear hall HA;have HD:Hid (decide ((((zP m).length:Nat):Int)<((zP m).length:Int))=false):=by unfold Hid;simp
   obtain⟨fi,hfi,hix,hfind⟩:∃fi,∃h:fi<fs.length,zS fs m.fd=(fi:Int)/\fs.find? (fun f=>decide (f.nm=m.fd))=some fs[fi]:=by
    rcases jB fs m.fd with⟨_,h2⟩|⟨fi,hfi,h1,_,h3⟩
    ·have:=HP.o;rw[zaP h2]at this;cases this
    ·exact⟨fi,hfi,h1,h3⟩
   have HFO:Hid (zcz fs m.fd=fs[fi]):=by unfold Hid zcz;rw[hfind];rfl
   have HFP:Hid (∀W,Bw w W->Calls Tryz.prog 204 #[.l a fs.length cap,.s m.fd] W fun e w'=>e=.returned (.i (fi:Int))/\Bw W w'):=by
    intro W hb;have h:=jk a cap fs m.fd W (HW.o.mono hb);rw[hix]at h;exact h
   have hfiI:(fi:Int)<(fs.length:Int):=by omega
   have HSM:=hid hm.pt;have hrl:=(gES HR.o).1;clear hfind hix
   rcases hwh:m.wh.toList.isEmpty with _|_ <;> rcases hwi:m.wi.toList.isEmpty with _|_ <;> rcases hpt:m.pt.toList.isEmpty with _|_ <;> rcases hfr:m.fr.toList.isEmpty with _|_
   all_goals first
    | (have HT:Hid (yE fs m=false):=(by unfold Hid yE isSet;simp[hwh,hwi,hpt,hfr]);go_wp2_with fail;go_ret;exact⟨by rw[HM.o,HT.o];rfl,HB.o.2⟩)
    | (have HT:Hid (yE fs m=true):=(by unfold Hid yE isSet;simp[hwh,hwi,hpt,hfr]);go_wp2_with fail;go_quiet (fail);go_wp2_with fail;go_ret;exact⟨by rw[HM.o,HT.o];rfl,below_drewN HB.o.2 _⟩)
    | skip
   all_goals
    have HT:Hid (yE fs m=zfU fs[fi] m.pt):=by unfold Hid yE;rw[HFO.o];unfold isSet;simp[hwh,hwi,hpt,hfr]
    obtain⟨fb,foff,rfl,hfb,hrows⟩:=HW.o.rows (by rintro rfl;simp at hfi);obtain⟨wa,wcap,hf0⟩:=hrows fi hfi;have HFI:Hid (∀W,Bw w W->zeX W fb (foff+fi*11) fs[fi] wa wcap):=fun W hb=>hf0.mono hfb hb
    have HBD:=hid HB.o.2.drew;have hbc:=HBD.o;have hXc:=za HX2.o hz2 (HB.o.1.drew);have hL:=(HFI.o _ hbc).load;have hbW:=HB.o.1.drew;clear hrows hf0;go_wp2_with fail
    go_region_held3 (fun w'=>(∀j,w'.cell? (aD w.heap.size j)=(#[.s m.kd,.s m.fd,.s m.wh,.s m.wi,.s m.pt,.s m.fr]:AV)[j]?)/\w'.cell? (aD fb (foff+fi*11))=some (.s fs[fi].nm)/\w'.cell? (aD fb (foff+fi*11+1))=some (.i fs[fi].kd)/\w'.cell? (aD fb (foff+fi*11+2))=some (.i fs[fi].ls)/\w'.cell? (aD fb (foff+fi*11+3))=some (.i fs[fi].ms)/\w'.cell? (aD fb (foff+fi*11+4))=some (.l wa fs[fi].ws.length wcap)/\w'.cell? (aD fb (foff+fi*11+5))=some (.s fs[fi].to)/\w'.cell? (aD fb (foff+fi*11+6))=some (.i fs[fi].rl)/\w'.cell? (aD fb (foff+fi*11+7))=some (.bool fs[fi].mu)/\w'.cell? (aD fb (foff+fi*11+8))=some (.bool fs[fi].fx)/\w'.cell? (aD fb (foff+fi*11+9))=some (.s fs[fi].df)/\w'.cell? (aD fb (foff+fi*11+10))=some (.s fs[fi].wg)) (exact⟨hXc,hL⟩) (first
     | (go_at_call 204;refine(HFP.o _ hbc).mono ?_;rintro e w5⟨rfl,hb5⟩;have hbW:=hbW.trans (hb5.mono hbW.size);have hbc:=hbc.trans (hb5.mono hbc.size);have hXc:=za HX2.o hz2 hbW;have hL:=(HFI.o _ hbc).load;clear hb5)
     | (go_at_call 203;refine(zfI r _ _ _ _ _ _ _ _ _ _ _ _ _ _ _ (by exact(hbc.block r hrl).trans HR.o) HSM.o (by exact(HFI.o _ hbc).strs)).mono ?_;rintro e w5⟨rfl,hb5⟩;have hbW:=hbW.trans (hb5.mono hbW.size);have hbc:=hbc.trans (hb5.mono hbc.size);have hXc:=za HX2.o hz2 hbW;have hL:=(HFI.o _ hbc).load;clear hb5))
    go_wp2_with fail
    go_ret;exact⟨by rw[HM.o,HT.o];rfl,hbc⟩
theorem zrp (a b:BA):key a b<0↔less a b=true:=by
 rw[zkC,decide_eq_true_eq]
 have:=zn3 a b
 omega
theorem zlx {a b c:BA}(h:key a b<0)(h':key b c<0):key a c<0:=by
 rw[zrp]at h h' ⊢;exact zbb _ _ _ h h'
theorem zoG {a b c d e f:BA}(h:key2 a b c d<0)(h':key2 c d e f<0):key2 a b e f<0:=by
 unfold key2 at h h' ⊢
 by_cases h1:key a c=0
 ·rw[if_pos h1]at h
  have e1:=(zbO a c).1 h1;subst e1
  by_cases h2:key a e=0
  ·rw[if_pos h2]at h' ⊢
   exact zlx h h'
  ·rw[if_neg h2]at h' ⊢
   exact h'
 ·rw[if_neg h1]at h
  by_cases h2:key c e=0
  ·have e1:=(zbO c e).1 h2
   subst e1;rw[if_neg h1];exact h
  ·rw[if_neg h2]at h'
   have h3:=zlx h h';rw[if_neg (by omega)];exact h3
theorem zbu {a b c:Lg}(h:y9 a b<0)(h':y9 b c<0):y9 a c<0:=zoG h h'
theorem zdU {a b c d:BA}:key2 a b c d=0↔a=c/\b=d:=by
 unfold key2
 by_cases h:key a c=0
 ·rw[if_pos h,zbO]
  exact⟨fun e=>⟨(zbO a c).1 h,e⟩,fun e=>e.2⟩
 ·rw[if_neg h]
  exact⟨fun e=>absurd e h,fun e=>absurd ((zbO a c).2 e.1) h⟩
theorem zdW {α:Type}{key:α->α->Int}(ht:∀a b c:α,key a b<0->key b c<0->key a c<0){ms:List α}(h:rising key ms):∀(j:Nat) (hj:j<ms.length) (i:Nat) (hi:i<j),key (ms[i]'(by omega)) ms[j]<0
 | 0,_,i,hi=>by omega
 | j+1,hj,i,hi=>by
  rcases Nat.lt_or_ge i j with hlt|hge
  ·have hjl:j<ms.length:=by omega
   have hil:i<ms.length:=by omega
   exact ht ms[i] ms[j] ms[j+1] (zdW ht h j hjl i hlt) (h j hj)
  ·have e:i=j:=by omega
   subst e;exact h i hj
def yJ (ls:List Lg)(tm rs:BA):Bool:=ls.any fun g=>decide (g.tm=tm)&&decide (g.rs=rs)
structure zbK (ls:List Lg)(tm rs:BA)(p:Nat):Prop where
 le:p<=ls.length
 below:∀i (h:i<ls.length),i<p->key2 ls[i].tm ls[i].rs tm rs<0
 above:∀i (h:i<ls.length),p<=i->0<=key2 ls[i].tm ls[i].rs tm rs
theorem zbK.found {ls:List Lg}{tm rs:BA}{p:Nat}(h:zbK ls tm rs p)(hr:rising y9 ls):yJ ls tm rs=true↔∃hp:p<ls.length,ls[p].tm=tm/\ls[p].rs=rs:=by
 unfold yJ;rw[List.any_eq_true]
 constructor
 ·rintro⟨g,hg,he⟩
  obtain⟨i,hi,rfl⟩:=List.mem_iff_getElem.1 hg;simp only[Bool.and_eq_true,decide_eq_true_eq]at he;have hz:key2 ls[i].tm ls[i].rs tm rs=0:=zdU.2 he
  have hpi:p<=i:=by
   rcases Nat.lt_or_ge i p with hlt|hge
   ·have:=h.below i hi hlt;omega
   ·exact hge
  rcases Nat.eq_or_lt_of_le hpi with e|hlt
  ·subst e;exact⟨hi,he⟩
  ·have h1:=zdW (fun a b c=>zbu (a:=a) (b:=b) (c:=c)) hr i hi p hlt
   have h2:=h.above p (by omega) (Nat.le_refl _);unfold y9 at h1;rw[he.1,he.2]at h1;omega
 ·rintro⟨hp,he⟩
  exact⟨ls[p],List.getElem_mem _,by simp[he.1,he.2]⟩
theorem zbB {p:Prop}(h:Hid p):p:=h
abbrev Lb:=Nat × Nat × Nat
structure Left (S:Nat->Prop)(w w':World):Prop where
 os:w'.os=w.os
 tape:w'.tape=w.tape
 output:w'.output=w.output
 size:w.heap.size<=w'.heap.size
 out:∀k,k<w.heap.size->¬S k->w'.heap[k]?=w.heap[k]?
theorem Left.refl (S:Nat->Prop)(w:World):Left S w w:=⟨rfl,rfl,rfl,Nat.le_refl _,fun _ _ _=>rfl⟩
theorem Left.trans {S:Nat->Prop}{a b c:World}(h:Left S a b)(k:Left S b c):Left S a c:=
 ⟨k.os.trans h.os,k.tape.trans h.tape,k.output.trans h.output,Nat.le_trans h.size k.size,fun i hi hS=>(k.out i (nLt hi h.size) hS).trans (h.out i hi hS)⟩
theorem Left.wide {S S':Nat->Prop}{w w':World}(h:Left S w w')(hS:∀k,S k->S' k):Left S' w w':=⟨h.os,h.tape,h.output,h.size,fun k hk hn=>h.out k hk fun hs=>hn (hS k hs)⟩
theorem Left.of_below (S:Nat->Prop){w w':World}(h:Bw w w'):Left S w w':=⟨h.os,h.tape,h.output,h.size,fun k hk _=>h.block k hk⟩
theorem Left.zlA {g:Nat}{w w':World}(h:Marked g (g+1) w w'):Left (fun k=>k=g) w w':=⟨h.os,h.tape,h.output,h.size,fun k hk hn=>h.out k hk (by omega)⟩
theorem Left.set {S:Nat->Prop}{w W:World}(h:Left S w W){b:Nat}(hb:S b)(o:Nat)(v:Value):Left S w (W.setCell (aD b o) v):=
 ⟨h.os,h.tape,h.output,by have:=h.size;simpa[World.setCell] using this,fun k hk hn=>(Below.heap_setCell _ _ _ _ (by show k≠b;rintro rfl;exact hn hb)).trans (h.out k hk hn)⟩
theorem Left.below {S:Nat->Prop}{B:Nat}{w w':World}(h:Left S w w')(hS:∀k,k<B->¬S k)(hB:B<=w.heap.size):Below B w w':=⟨h.os,h.tape,h.output,h.size,fun k hk=>h.out k (by omega) (hS k hk)⟩
theorem zn.left {S:Nat->Prop}{lo:Nat}{w w':World}{a:OA}{ws:List BA}(h:zn lo w a ws)(hl:Left S w w')(hn:∀g,a=some g->¬S g.block):zn lo w' a ws:=by
 rcases h with⟨rfl,rfl⟩|⟨g,C,rfl,hg,hh,hc⟩
 ·exact Or.inl ⟨rfl,rfl⟩
 ·exact Or.inr ⟨g,C,rfl,hg,(hl.out g (gES hh).1 (hn _ rfl)).trans hh,hc⟩
def yx (lo:Nat)(w:World)(a:OA)(xs:List Int):Prop:=
 (a=none/\xs=[]) \/ ∃g C,a=some (aD g 0)/\lo<=g/\w.heap[g]?=some (.cells C 3)/\∀i (h:i<xs.length),C[i]?=some (.i xs[i])
theorem yx.left {S:Nat->Prop}{lo:Nat}{w w':World}{a:OA}{xs:List Int}(h:yx lo w a xs)(hl:Left S w w')(hn:∀g,a=some g->¬S g.block):yx lo w' a xs:=by
 rcases h with⟨rfl,rfl⟩|⟨g,C,rfl,hg,hh,hc⟩
 ·exact Or.inl ⟨rfl,rfl⟩
 ·exact Or.inr ⟨g,C,rfl,hg,(hl.out g (gES hh).1 (hn _ rfl)).trans hh,hc⟩
theorem yx.lt {lo:Nat}{w:World}{a:OA}{xs:List Int}(h:yx lo w a xs):∀g,a=some g->g.block<w.heap.size:=by
 rintro g rfl
 rcases h with⟨h0,_⟩|⟨g',C,h0,_,hh,_⟩
 ·cases h0
 ·cases h0;exact(gES hh).1
theorem yx.at {lo:Nat}{w:World}{a:OA}{xs:List Int}(h:yx lo w a xs)(hl:xs.length<=maxLen):qm w a xs:=by
 refine⟨hl,fun hne=>?_⟩
 rcases h with⟨_,rfl⟩|⟨g,C,rfl,_,hh,hc⟩
 ·exact absurd rfl hne
 ·refine⟨g,0,rfl,(gES hh).1,fun i hi=>?_⟩
  rw[cell_of_block hh,Nat.zero_add];exact hc i hi
theorem yx.low {lo lo':Nat}{w:World}{a:OA}{xs:List Int}(h:yx lo w a xs)(hl:lo'<=lo):yx lo' w a xs:=by
 rcases h with⟨rfl,rfl⟩|⟨g,C,rfl,hg,hh,hc⟩
 ·exact Or.inl ⟨rfl,rfl⟩
 ·exact Or.inr ⟨g,C,rfl,Nat.le_trans hl hg,hh,hc⟩
theorem yx.zdq {lo:Nat}{w:World}{v:Value}{xs:List Int}(h:w.ownsRow lo 3 1 v xs.length (ints xs)):∃a cap,v=.l a xs.length cap/\yx lo w a xs:=by
 obtain⟨_,⟨rfl,h0⟩|⟨g,cap,cur,rfl,hg,hh,_,_,_,ht⟩⟩:=h
 ·exact⟨none,0,by rw[h0],Or.inl ⟨rfl,List.length_eq_zero_iff.1 h0⟩⟩
 ·refine⟨some (aD g 0),cap,rfl,Or.inr ⟨g,cur,rfl,hg,hh,fun i hi=>?_⟩⟩
  have h1:(cur.toList.take (xs.length*1))[i]?=(ints xs)[i]?:=by rw[ht]
  rw[List.getElem?_take_of_lt (by omega)]at h1;unfold ints at h1;rw[List.getElem?_map,List.getElem?_eq_getElem hi]at h1
  simpa using h1
theorem yx.setCell {lo:Nat}{w:World}{a:OA}{xs:List Int}(h:yx lo w a xs)(p:Addr)(hp:p.block<lo)(v:Value):yx lo (w.setCell p v) a xs:=by
 rcases h with⟨rfl,rfl⟩|⟨g,C,rfl,hg,hh,hc⟩
 ·exact Or.inl ⟨rfl,rfl⟩
 ·exact Or.inr ⟨g,C,rfl,hg,(Below.heap_setCell _ _ _ _ (by omega)).trans hh,hc⟩
structure jl (W:World)(bo:Nat)(T:TypeId)(C:AV)(n i:Nat)(D:AV):Prop where
 ex:∃C':AV,W.heap[bo]?=some (.cells C' T)/\C'.size=C.size/\(∀q,(q<i*n \/ i*n+n<=q)->C'[q]?=C[q]?)/\∀j,j<n->C'[i*n+j]?=D[j]?
theorem jl.cell {W:World}{bo:Nat}{T:TypeId}{C:AV}{n i:Nat}{D:AV}(h:jl W bo T C n i D)(j:Nat)(hj:j<n):W.cell? (aD bo (i*n+j))=D[j]?:=by
 obtain⟨C',hC,_,_,hd⟩:=h.ex;rw[cell_of_block hC];exact hd j hj
theorem jl.fz {W:World}{bo:Nat}{T:TypeId}{C:AV}{n i:Nat}{D:AV}(h:jl W bo T C n i D)(o:Nat):W.frozen? (aD bo o)=false:=by
 obtain⟨C',hC,_⟩:=h.ex;exact zh hC
theorem jl.lt {W:World}{bo:Nat}{T:TypeId}{C:AV}{n i:Nat}{D:AV}(h:jl W bo T C n i D):bo<W.heap.size:=by
 obtain⟨C',hC,_⟩:=h.ex;exact(gES hC).1
theorem jl.left {S:Nat->Prop}{W W':World}{bo:Nat}{T:TypeId}{C:AV}{n i:Nat}{D:AV}(h:jl W bo T C n i D)(hl:Left S W W')(hn:¬S bo):jl W' bo T C n i D:=by
 obtain⟨C',hC,h1⟩:=h.ex;exact⟨C',(hl.out bo h.lt hn).trans hC,h1⟩
theorem jl.below {W W':World}{bo:Nat}{T:TypeId}{C:AV}{n i:Nat}{D:AV}(h:jl W bo T C n i D)(hb:Bw W W'):jl W' bo T C n i D:=h.left (Left.of_below (fun _=>False) hb) (fun h=>h)
theorem jl.set {W:World}{bo:Nat}{T:TypeId}{C:AV}{n i:Nat}{D:AV}(h:jl W bo T C n i D)(j:Nat)(v:Value)(hj:j<n)(hs:i*n+n<=C.size)(hd:D.size=n):jl (W.setCell (aD bo (i*n+j)) v) bo T C n i (D.setIfInBounds j v):=by
 obtain⟨C',hC,h1,h2,h3⟩:=h.ex;refine⟨C'.setIfInBounds (i*n+j) v,zi hC _,by simpa using h1,fun q hq=>?_,fun q hq=>?_⟩
 ·rw[Array.getElem?_setIfInBounds_ne (by omega)];exact h2 q hq
 ·by_cases e:q=j
  ·subst e
   rw[Array.getElem?_setIfInBounds_self_of_lt (by omega),Array.getElem?_setIfInBounds_self_of_lt (by omega)]
  ·rw[Array.getElem?_setIfInBounds_ne (by omega),Array.getElem?_setIfInBounds_ne (by omega)];exact h3 q hq
theorem jl.new {W:World}{bo:Nat}{T:TypeId}{C:AV}{n i:Nat}{D:AV}(h:W.heap[bo]?=some (.cells C T))(hd:∀j,j<n->C[i*n+j]?=D[j]?):jl W bo T C n i D:=⟨C,h,rfl,fun _ _=>rfl,hd⟩
structure Mid (own:Nat->Lb)(lo bo:Nat)(T:TypeId)(C:AV)(n i L:Nat)(wr W:World)(D:AV)(a0 a1 a2:OA)(s0 s1:List BA)(s2:List Int):Prop where
 row:jl W bo T C n i D
 sz:D.size=n
 left:Left (fun q=>own q=(L,0,0) \/ own q=(L,i,1) \/ own q=(L,i,2) \/ own q=(L,i,3)) wr W
 bo:own bo=(L,0,0)
 t0:zn lo W a0 s0
 o0:∀g,a0=some g->own g.block=(L,i,1)
 t1:zn lo W a1 s1
 o1:∀g,a1=some g->own g.block=(L,i,2)
 t2:yx lo W a2 s2
 o2:∀g,a2=some g->own g.block=(L,i,3)
section
variable {own:Nat->Lb} {lo bo:Nat} {T:TypeId} {C:AV} {n i L:Nat} {wr W W':World} {D:AV} {a0 a1 a2:OA} {s0 s1:List BA} {s2:List Int}
theorem Mid.below (h:Mid own lo bo T C n i L wr W D a0 a1 a2 s0 s1 s2)(hb:Bw W W'):Mid own lo bo T C n i L wr W' D a0 a1 a2 s0 s1 s2:=
 ⟨h.row.below hb,h.sz,h.left.trans (Left.of_below _ hb),h.bo,h.t0.mono hb,h.o0,h.t1.mono hb,h.o1,h.t2.left (Left.of_below (fun _=>False) hb) (fun _ _ h=>h),h.o2⟩
theorem zhi {x y L j k:Nat}(h:own x=(L,j,k+1))(h':own y=(L,0,0)):x≠y:=by rintro rfl;rw[h]at h';simp at h'
theorem zfs {x y L j k k':Nat}(h:own x=(L,j,k))(h':own y=(L,j,k'))(hk:k≠k'):x≠y:=by rintro rfl;rw[h]at h';simp at h';exact hk h'
theorem Mid.set (h:Mid own lo bo T C n i L wr W D a0 a1 a2 s0 s1 s2)(j:Nat)(v:Value)(hj:j<n)(hs:i*n+n<=C.size):Mid own lo bo T C n i L wr (W.setCell (aD bo (i*n+j)) v) (D.setIfInBounds j v) a0 a1 a2 s0 s1 s2:=by
 have hl:=(Left.refl (fun q=>q=bo) W).set (b:=bo) rfl (i*n+j) v;exact⟨h.row.set j v hj hs h.sz,by simpa using h.sz,h.left.set (Or.inl h.bo) _ _,h.bo,h.t0.left hl (fun g hg=>zhi (h.o0 g hg) h.bo),h.o0,h.t1.left hl (fun g hg=>zhi (h.o1 g hg) h.bo),h.o1,h.t2.left hl (fun g hg=>zhi (h.o2 g hg) h.bo),h.o2⟩
theorem Mid.ex (h:Mid own lo bo T C n i L wr W D a0 a1 a2 s0 s1 s2)(j:Nat)(hj:j<n):∃u,W.cell? (aD bo (i*n+j))=some u:=⟨D[j]'(by rw[h.sz];exact hj),(h.row.cell j hj).trans (Array.getElem?_eq_getElem _)⟩
theorem Mid.l0 (h:Mid own lo bo T C n i L wr W D a0 a1 a2 s0 s1 s2){s:List BA}(ho:zn lo W' a0 s)(hl:Left (fun q=>∃g,a0=some g/\q=g.block) W W'):Mid own lo bo T C n i L wr W' D a0 a1 a2 s s1 s2:=
 ⟨h.row.left hl (fun⟨g,hg,e⟩=>zhi (h.o0 g hg) h.bo e.symm),h.sz,h.left.trans (hl.wide fun q ⟨g,hg,e⟩=>Or.inr (Or.inl (e ▸ h.o0 g hg))),h.bo,ho,h.o0,h.t1.left hl (fun g hg ⟨g1,h1,e⟩=>zfs (h.o1 g hg) (h.o0 g1 h1) (by omega) e),h.o1,h.t2.left hl (fun g hg ⟨g1,h1,e⟩=>zfs (h.o2 g hg) (h.o0 g1 h1) (by omega) e),h.o2⟩
theorem Mid.l1 (h:Mid own lo bo T C n i L wr W D a0 a1 a2 s0 s1 s2){s:List BA}(ho:zn lo W' a1 s)(hl:Left (fun q=>∃g,a1=some g/\q=g.block) W W'):Mid own lo bo T C n i L wr W' D a0 a1 a2 s0 s s2:=
 ⟨h.row.left hl (fun⟨g,hg,e⟩=>zhi (h.o1 g hg) h.bo e.symm),h.sz,h.left.trans (hl.wide fun q ⟨g,hg,e⟩=>Or.inr (Or.inr (Or.inl (e ▸ h.o1 g hg)))),h.bo,h.t0.left hl (fun g hg ⟨g1,h1,e⟩=>zfs (h.o0 g hg) (h.o1 g1 h1) (by omega) e),h.o0,ho,h.o1,h.t2.left hl (fun g hg ⟨g1,h1,e⟩=>zfs (h.o2 g hg) (h.o1 g1 h1) (by omega) e),h.o2⟩
theorem Mid.l2 (h:Mid own lo bo T C n i L wr W D a0 a1 a2 s0 s1 s2){s:List Int}(ho:yx lo W' a2 s)(hl:Left (fun q=>∃g,a2=some g/\q=g.block) W W'):Mid own lo bo T C n i L wr W' D a0 a1 a2 s0 s1 s:=
 ⟨h.row.left hl (fun⟨g,hg,e⟩=>zhi (h.o2 g hg) h.bo e.symm),h.sz,h.left.trans (hl.wide fun q ⟨g,hg,e⟩=>Or.inr (Or.inr (Or.inr (e ▸ h.o2 g hg)))),h.bo,h.t0.left hl (fun g hg ⟨g1,h1,e⟩=>zfs (h.o0 g hg) (h.o2 g1 h1) (by omega) e),h.o0,h.t1.left hl (fun g hg ⟨g1,h1,e⟩=>zfs (h.o1 g hg) (h.o2 g1 h1) (by omega) e),h.o1,ho,h.o2⟩
end
def mkT (k:Int):BA:=zaG k.toNat
theorem yI (k:Int)(w:World)(hk:0<k)(hk2:k<9000000000000000000) :
 Calls Tryz.prog 107 #[.i k] w fun e w'=>e=.returned (.s (mkT k))/\Bw w w':=by
 obtain⟨m,rfl⟩:∃m:Nat,k=m:=⟨k.toNat,by omega⟩
 exact zcH m w (by omega) (by omega)
def zlb (k:Int)(n:Nat):List BA:=zcb k.toNat n
def zq8 (k:Int)(n:Nat):List Int:=zbz k.toNat n
theorem zbr (k:Int)(n:Nat):(zlb k n).length=n:=zeI _ _
theorem zdf (k:Int)(n:Nat):(zq8 k n).length=n:=zcr _ _
theorem zgh (lo cap:Nat)(a:OA)(vs:List BA)(k:Int)(w:World)(h:zn lo w a vs)(hk:0<k)(hkn:k+vs.length<9000000000000000000) :
 Calls Tryz.prog 109 #[.l a vs.length cap,.i k] w fun e w'=>∃k',e=.returned (.i k')/\k'=k+vs.length/\zn lo w' a (zlb k vs.length)/\Left (fun q=>∃g,a=some g/\q=g.block) w w':=by
 obtain⟨m,rfl⟩:∃m:Nat,k=m:=⟨k.toNat,by omega⟩
 refine(zi4 lo cap a vs m w h (by omega) (by omega)).mono ?_;rintro e w'⟨rfl,h1,_,h3,h4⟩;refine⟨_,rfl,by omega,h1,?_⟩
 rcases a with _|g
 ·rw[h3 rfl];exact Left.refl _ _
 ·exact(Left.zlA (h4 g rfl)).wide fun k hk=>⟨g,rfl,hk⟩
theorem zpY (lo cap:Nat)(a:OA)(vs:List Int)(k:Int)(w:World)(h:yx lo w a vs)(hk:0<k)(hkn:k+vs.length<9000000000000000000) :
 Calls Tryz.prog 110 #[.l a vs.length cap,.i k] w fun e w'=>∃k',e=.returned (.i k')/\k'=k+vs.length/\yx lo w' a (zq8 k vs.length)/\Left (fun q=>∃g,a=some g/\q=g.block) w w':=by
 obtain⟨m,rfl⟩:∃m:Nat,k=m:=⟨k.toNat,by omega⟩
 rcases h with⟨rfl,rfl⟩|⟨g,C,rfl,hg,hh,hc⟩
 ·refine(zkV (m:Int) none cap w).mono ?_
  rintro e w'⟨rfl,rfl⟩;exact⟨_,rfl,by simp,Or.inl ⟨rfl,rfl⟩,Left.refl _ _⟩
 ·have hs:vs.length<=C.size:=by
   rcases Nat.lt_or_ge C.size vs.length with hlt|hge
   ·have:=hc C.size hlt
    rw[Array.getElem?_eq_none (Nat.le_refl _)]at this;cases this
   ·exact hge
  refine(zgT g vs.length cap C m w hh hs (fun i hi a' m' c he=>by rw[hc i hi]at he;cases he) (by omega) (by omega)).mono ?_;rintro e w'⟨rfl,hM,C',hC',_,hc'⟩;refine⟨_,rfl,by omega,Or.inr ⟨g,C',rfl,hg,hC',fun i hi=>?_⟩,(Left.zlA hM).wide fun k hk=>⟨_,rfl,hk⟩⟩;rw[zdf]at hi;rw[hc' i hi];exact congrArg (fun z=>some (Value.i z)) (ziv m vs.length i (by rw[zcr];exact hi)).symm
theorem zn5 (d:Nat):∀(n:Nat) (acc:BA),n<10 ^ d->(digits n acc).size<=acc.size+d:=by
 induction d with
 | zero=>
  intro n acc h;have e:n=0:=by simpa using h
  rw[e,zfd];omega
 | succ d ih=>
  intro n acc h
  by_cases e:n=0
  ·rw[e,zfd];omega
  ·rw[zjy (by omega)]
   have h1:=ih (n / 10) (zc0 (n % 10)++acc) (by rw[Nat.pow_succ]at h;omega);rw[ByteArray.size_append]at h1;have h2:(zc0 (n % 10)).size=1:=rfl;omega
theorem zju (k:Int)(n:Nat)(h0:0<k)(h:k+n<9000000000000000000):∀s∈zlb k n,s.size<=maxLen:=by
 intro s hs;unfold zlb zcb at hs;obtain⟨i,hi,rfl⟩:=List.mem_map.1 hs;have hi':=List.mem_range.1 hi;have h1:=zn5 19 (k.toNat+i) ByteArray.empty (zpm (by omega));unfold zaG;rw[ByteArray.size_append];have h2:(ByteArray.mk #[109]).size=1:=rfl;have h3:ByteArray.empty.size=0:=rfl;unfold maxLen;omega
theorem zgo (a:OA)(cap n:Nat)(k:Int)(w:World)(h:zG w a (zlb k n))(hk:0<k)(hkn:k+n<9000000000000000000) :
 Calls Tryz.prog 111 #[.l a n cap,.i k] w fun e w'=>∃k',e=.returned (.i k')/\k'=k+n/\Bw w w':=by
 obtain⟨m,rfl⟩:∃m:Nat,k=m:=⟨k.toNat,by omega⟩
 have h1:=ziH a cap (zlb m n) m w h (by omega) (by rw[zbr];omega) (fun i hi=>zif _ _ _ hi);rw[zbr]at h1;exact h1.mono fun e w' ⟨h2,h3⟩=>⟨_,h2,by omega,h3⟩
theorem zqm (a:OA)(cap n:Nat)(k:Int)(w:World)(h:qm w a (zq8 k n))(hn:n<=1048576)(hk:0<k)(hkn:k<8000000000000000000) :
 Calls Tryz.prog 112 #[.l a n cap,.i k] w fun e w'=>∃k',e=.returned (.i k')/\k'=k+n/\Bw w w':=by
 obtain⟨m,rfl⟩:∃m:Nat,k=m:=⟨k.toNat,by omega⟩
 refine(zl5 a cap n m w h (by omega) hn (by omega)).mono ?_;rintro e w'⟨rfl,rfl⟩;exact⟨_,rfl,by omega,bRf _ _⟩
def Kept (lo hi:Nat)(w w':World):Prop:=∀(k:Nat) (C:AV) (t:TypeId),lo<=k->k<hi->w.heap[k]?=some (.cells C t)->∃C':AV,w'.heap[k]?=some (.cells C' t)/\C'.size=C.size/\∀(j:Nat) a n c,C'[j]?=some (Value.slice a n c)↔C[j]?=some (Value.slice a n c)
theorem Marked.kept {lo hi:Nat}{w w':World}(h:Marked lo hi w w'):Kept lo hi w w':=h.inn
theorem Kept.of_below {lo hi:Nat}{w w':World}(h:Bw w w'):Kept lo hi w w':=(Marked.of_below h).kept
theorem Kept.apart {lo hi lo' hi':Nat}{w w':World}(h:Marked lo hi w w')(ha:hi<=lo' \/ hi'<=lo):Kept lo' hi' w w':=fun k C _ h1 h2 hC=>⟨C,(h.out k (gES hC).1 (by omega)).trans hC,rfl,fun _ _ _ _=>Iff.rfl⟩
theorem jH.kept {lo hi:Nat}{w w':World}{b n:Nat}(h:jH lo hi w b n)(hM:Kept lo hi w w'):jH lo hi w' b n:=by
 obtain⟨C,hC,hs,hn⟩:=h.rows;obtain⟨C',hC',hs',hk⟩:=hM b C _ h.low h.high hC;exact⟨h.low,h.high,C',hC',by omega,fun j hj a m c he=>hn j hj a m c ((hk j a m c).1 he)⟩
theorem jy.kept {lo hi:Nat}{w w':World}{b:Nat}{fs:List Fld}(h:jy lo hi w b fs)(hM:Kept lo hi w w'):jy lo hi w' b fs:=by
 obtain⟨C,hC,hs,hn⟩:=h.rows;obtain⟨C',hC',hs',hk⟩:=hM b C _ h.low h.high hC;refine⟨h.low,h.high,C',hC',by omega,fun i hi=>?_⟩;obtain⟨bk,cap,h1,h2,h3⟩:=hn i hi;exact⟨bk,cap,h1.kept hM,(hk _ _ _ _).2 h2,fun j hj hj4 a m c he=>h3 j hj hj4 a m c ((hk _ a m c).1 he)⟩
theorem jM.kept {lo hi:Nat}{w w':World}{b:Nat}{ss:List Shp}(h:jM lo hi w b ss)(hM:Kept lo hi w w'):jM lo hi w' b ss:=by
 obtain⟨C,hC,hs,hn⟩:=h.rows;obtain⟨C',hC',hs',hk⟩:=hM b C _ h.low h.high hC;refine⟨h.low,h.high,C',hC',by omega,fun i hi=>?_⟩;obtain⟨bk,cap,h1,h2,h3⟩:=hn i hi;exact⟨bk,cap,h1.kept hM,(hk _ _ _ _).2 h2,fun a m c he=>h3 a m c ((hk _ a m c).1 he)⟩
theorem jY.kept {lo hi:Nat}{w w':World}{b:Nat}{ms:List Mnd}(h:jY lo hi w b ms)(hM:Kept lo hi w w'):jY lo hi w' b ms:=by
 obtain⟨C,hC,hs,hn⟩:=h.rows;obtain⟨C',hC',hs',hk⟩:=hM b C _ h.low h.high hC;exact⟨h.low,h.high,C',hC',by omega,fun j hj a m c he=>hn j hj a m c ((hk j a m c).1 he)⟩
theorem zaB.kept {lo hi:Nat}{w w':World}{b:Nat}{ms:List Tm}(h:zaB lo hi w b ms)(hM:Kept lo hi w w'):zaB lo hi w' b ms:=by
 obtain⟨C,hC,hs,hn⟩:=h.rows;obtain⟨C',hC',hs',hk⟩:=hM b C _ h.low h.high hC;refine⟨h.low,h.high,C',hC',by omega,fun i hi=>?_⟩;have h0:=hn i hi;exact fun j hj a m c he=>h0 j hj a m c ((hk _ a m c).1 he)
theorem zaC.kept {lo hi:Nat}{w w':World}{b:Nat}{ms:List Lg}(h:zaC lo hi w b ms)(hM:Kept lo hi w w'):zaC lo hi w' b ms:=by
 obtain⟨C,hC,hs,hn⟩:=h.rows;obtain⟨C',hC',hs',hk⟩:=hM b C _ h.low h.high hC;refine⟨h.low,h.high,C',hC',by omega,fun i hi=>?_⟩;have h0:=hn i hi;exact fun j hj a m c he=>h0 j hj a m c ((hk _ a m c).1 he)
theorem zaA.kept {lo hi:Nat}{w w':World}{b:Nat}{ms:List Pu}(h:zaA lo hi w b ms)(hM:Kept lo hi w w'):zaA lo hi w' b ms:=by
 obtain⟨C,hC,hs,hn⟩:=h.rows;obtain⟨C',hC',hs',hk⟩:=hM b C _ h.low h.high hC;refine⟨h.low,h.high,C',hC',by omega,fun i hi=>?_⟩;have h0:=hn i hi;exact fun j hj a m c he=>h0 j hj a m c ((hk _ a m c).1 he)
theorem za5.kept {lo hi:Nat}{w w':World}{b n:Nat}(h:za5 lo hi w b n)(hM:Kept lo hi w w'):za5 lo hi w' b n:=by
 obtain⟨C,hC,hs,hn⟩:=h.rows;obtain⟨C',hC',hs',hk⟩:=hM b C _ h.low h.high hC;exact⟨h.low,h.high,C',hC',by omega,fun j hj a m c he=>hn j hj a m c ((hk j a m c).1 he)⟩
theorem zad.kept {lo hi:Nat}{w w':World}{b:Nat}{ms:List Gr}(h:zad lo hi w b ms)(hM:Kept lo hi w w'):zad lo hi w' b ms:=by
 obtain⟨C,hC,hs,hn⟩:=h.rows;obtain⟨C',hC',hs',hk⟩:=hM b C _ h.low h.high hC;refine⟨h.low,h.high,C',hC',by omega,fun i hi=>?_⟩;obtain⟨h0,bk,cap,f1,g1⟩:=hn i hi;exact⟨fun j hj n3 a m c he=>h0 j hj n3 a m c ((hk _ a m c).1 he),bk,cap,f1.kept hM,(hk _ _ _ _).2 g1⟩
theorem jP.kept {lo hi:Nat}{w w':World}{b:Nat}{ms:List Ob}(h:jP lo hi w b ms)(hM:Kept lo hi w w'):jP lo hi w' b ms:=by
 obtain⟨C,hC,hs,hn⟩:=h.rows;obtain⟨C',hC',hs',hk⟩:=hM b C _ h.low h.high hC;refine⟨h.low,h.high,C',hC',by omega,fun i hi=>?_⟩;obtain⟨h0,⟨bk,cap,f1,g1⟩,⟨bk2,cap2,f2,g2⟩⟩:=hn i hi;exact⟨fun j hj n3 n5 a m c he=>h0 j hj n3 n5 a m c ((hk _ a m c).1 he),⟨bk,cap,f1.kept hM,(hk _ _ _ _).2 g1⟩,⟨bk2,cap2,f2.kept hM,(hk _ _ _ _).2 g2⟩⟩
structure zfc (lo hi:Nat)(w:World)(l:Lw)(a b c:Nat):Prop where
 ss:jM lo hi w a l.ss
 ms:jY lo hi w b l.ms
 ts:zaB lo hi w c l.ts
structure zfa (lo hi:Nat)(w:World)(b:Bk)(g0 g1 g2 g3:Nat):Prop where
 os:jP lo hi w g0 b.os
 gs:zad lo hi w g1 b.gs
 ls:zaC lo hi w g2 b.ls
 ps:zaA lo hi w g3 b.ps
theorem zfc.kept {lo hi:Nat}{w w':World}{l:Lw}{a b c:Nat}(h:zfc lo hi w l a b c)(hM:Kept lo hi w w'):zfc lo hi w' l a b c:=⟨h.ss.kept hM,h.ms.kept hM,h.ts.kept hM⟩
theorem zfa.kept {lo hi:Nat}{w w':World}{b:Bk}{g0 g1 g2 g3:Nat}(h:zfa lo hi w b g0 g1 g2 g3)(hM:Kept lo hi w w'):zfa lo hi w' b g0 g1 g2 g3:=⟨h.os.kept hM,h.gs.kept hM,h.ls.kept hM,h.ps.kept hM⟩
theorem zfc.mono {lo hi:Nat}{w w':World}{l:Lw}{a b c:Nat}(h:zfc lo hi w l a b c)(hb:Bw w w'):zfc lo hi w' l a b c:=h.kept (Kept.of_below hb)
theorem zfa.mono {lo hi:Nat}{w w':World}{b:Bk}{g0 g1 g2 g3:Nat}(h:zfa lo hi w b g0 g1 g2 g3)(hb:Bw w w'):zfa lo hi w' b g0 g1 g2 g3:=h.kept (Kept.of_below hb)
theorem znf.form {lo:Nat}{w:World}{l:Lw}{a b c:Nat}(h:znf lo w l a b c):zfc lo w.heap.size w l a b c:=⟨h.ss.form,h.ms.form,h.ts.form⟩
theorem zmU.form {lo:Nat}{w:World}{b:Bk}{g0 g1 g2 g3:Nat}(h:zmU lo w b g0 g1 g2 g3):zfa lo w.heap.size w b g0 g1 g2 g3:=⟨h.os.form,h.gs.form,h.ls.form,h.ps.form⟩
theorem zhY (l:Lw)(a b c ca cb cc:Nat)(lo hi:Nat)(k:Int)(w:World)(h:zfc lo hi w l a b c)(hf:l.Few)(hhi:hi<=w.heap.size)(hk:0<k)(hk2:k<1000000000000000000) :
 Calls Tryz.prog 12 #[.agg #[.l (some (aD a 0)) l.ss.length ca,.l (some (aD b 0)) l.ms.length cb,.l (some (aD c 0)) l.ts.length cc],.i k] w fun e w'=>∃k',e=.returned (.i k')/\0<k'/\k'<3000000000000000000/\Marked lo hi w w':=by
 have HF:=hid h;have HL:=hid hf;have HK:Hid (0<k/\k<1000000000000000000):=⟨hk,hk2⟩
 clear h hf hk hk2;go_enter Tryz.func12,Tryz.ntmps12;go_wp2_with fail
 have hX0:=zl w #[.l (some (aD a 0)) l.ss.length ca,.l (some (aD b 0)) l.ms.length cb,.l (some (aD c 0)) l.ts.length cc] 47;have HM0:Hid (Marked lo hi w (w.alloc (.cells #[.l (some (aD a 0)) l.ss.length ca,.l (some (aD b 0)) l.ms.length cb,.l (some (aD c 0)) l.ts.length cc] 47))):=Marked.of_below (bAl _ _);obtain⟨W0,hW0⟩:=xN (w.alloc (.cells #[.l (some (aD a 0)) l.ss.length ca,.l (some (aD b 0)) l.ms.length cb,.l (some (aD c 0)) l.ts.length cc] 47));have hz0:w.heap.size<W0.heap.size:=by rw[hW0];simp
 rw[<- hW0]at hX0 HM0 ⊢;clear hW0;refine(zf5 lo hi _ _ _ _ _ (HF.o.ss.mono HM0.o) HL.o.ss.1 HL.o.ss.2 (by have a0:=HK.o;omega) (by have a0:=HK.o;omega)).mono ?_;rintro e w1⟨k1,rfl,h1,h2,hM⟩;have HK1:Hid (k<=k1/\k1<=k+1200000000000000000):=⟨h1,by have:=HL.o;have c1:=HL.o.ss.1;omega⟩
 have HM1:=hid (HM0.o.trans hM);have hX1:=hM.box hX0 hz0 (Or.inr hhi);have hz1:=nLt hz0 hM.size;clear h1 h2 hM hX0 hz0;go_wp2_with fail
 refine(zg4 lo hi _ _ _ _ _ (HF.o.ms.mono HM1.o) HL.o.ms (by have a0:=HK.o;have b1:=HK1.o;omega) (by have a0:=HK.o;have b1:=HK1.o;omega)).mono ?_;rintro e w2⟨k2,rfl,h1,h2,hM⟩;have HK2:Hid (k1<=k2/\k2<=k1+10000000):=⟨h1,by have:=HL.o;have c1:=HL.o.ms;omega⟩
 have HM2:=hid (HM1.o.trans hM);have hX2:=hM.box hX1 hz1 (Or.inr hhi);have hz2:=nLt hz1 hM.size;clear h1 h2 hM hX1 hz1;go_wp2_with fail
 refine(zgk lo hi _ _ _ _ _ (HF.o.ts.mono HM2.o) HL.o.ts (by have a0:=HK.o;have b1:=HK1.o;have b2:=HK2.o;omega) (by have a0:=HK.o;have b1:=HK1.o;have b2:=HK2.o;omega)).mono ?_;rintro e w3⟨k3,rfl,h1,h2,hM⟩;have HK3:Hid (k2<=k3/\k3<=k2+10000000):=⟨h1,by have:=HL.o;have c1:=HL.o.ts;omega⟩
 have HM3:=hid (HM2.o.trans hM);have hX3:=hM.box hX2 hz2 (Or.inr hhi);have hz3:=nLt hz2 hM.size;clear h1 h2 hM hX2 hz2;go_wp2_with fail
 go_ret;exact⟨k3,rfl,by have a0:=HK.o;have b1:=HK1.o;have b2:=HK2.o;have b3:=HK3.o;omega,by have a0:=HK.o;have b1:=HK1.o;have b2:=HK2.o;have b3:=HK3.o;omega,HM3.o⟩
theorem zgr (b:Bk)(g0 g1 g2 g3 c0 c1 c2 c3:Nat)(lo hi:Nat)(k:Int)(w:World)(h:zfa lo hi w b g0 g1 g2 g3)(hf:b.Few)(hhi:hi<=w.heap.size)(hk:0<k)(hk2:k<3000000000000000000) :
 Calls Tryz.prog 13 #[.agg #[.i b.now,.i b.tick,.i b.given,.l (some (aD g0 0)) b.os.length c0,.l (some (aD g1 0)) b.gs.length c1,.l (some (aD g2 0)) b.ls.length c2,.l (some (aD g3 0)) b.ps.length c3],.i k] w fun e w'=>∃k',e=.returned (.i k')/\0<k'/\k'<4000000000000000000/\Marked lo hi w w':=by
 have HF:=hid h;have HL:=hid hf;have HK:Hid (0<k/\k<3000000000000000000):=⟨hk,hk2⟩
 clear h hf hk hk2;go_enter Tryz.func13,Tryz.ntmps13;go_wp2_with fail
 have hX0:=zl w (bC b (some (aD g0 0)) (some (aD g1 0)) (some (aD g2 0)) (some (aD g3 0)) c0 c1 c2 c3) 40;have HM0:Hid (Marked lo hi w (w.alloc (.cells (bC b (some (aD g0 0)) (some (aD g1 0)) (some (aD g2 0)) (some (aD g3 0)) c0 c1 c2 c3) 40))):=Marked.of_below (bAl _ _);obtain⟨W0,hW0⟩:=xN (w.alloc (.cells (bC b (some (aD g0 0)) (some (aD g1 0)) (some (aD g2 0)) (some (aD g3 0)) c0 c1 c2 c3) 40));have hz0:w.heap.size<W0.heap.size:=by rw[hW0];simp
 rw[<- hW0]at hX0 HM0 ⊢;clear hW0;refine(zfD lo hi _ _ _ _ _ (HF.o.os.mono HM0.o) HL.o.os.1 HL.o.os.2 (by have a0:=HK.o;omega) (by have a0:=HK.o;omega)).mono ?_;rintro e w1⟨k1,rfl,h1,h2,hM⟩;have HK1:Hid (k<=k1/\k1<=k+3000000000000):=⟨h1,by have:=HL.o;have c1:=HL.o.os.1;omega⟩
 have HM1:=hid (HM0.o.trans hM);have hX1:=hM.box hX0 hz0 (Or.inr hhi);have hz1:=nLt hz0 hM.size;clear h1 h2 hM hX0 hz0;go_wp2_with fail
 refine(zf6 lo hi _ _ _ _ _ (HF.o.gs.mono HM1.o) HL.o.gs.1 HL.o.gs.2 (by have a0:=HK.o;have b1:=HK1.o;omega) (by have a0:=HK.o;have b1:=HK1.o;omega)).mono ?_;rintro e w2⟨k2,rfl,h1,h2,hM⟩;have HK2:Hid (k1<=k2/\k2<=k1+3000000000000):=⟨h1,by have:=HL.o;have c1:=HL.o.gs.1;omega⟩
 have HM2:=hid (HM1.o.trans hM);have hX2:=hM.box hX1 hz1 (Or.inr hhi);have hz2:=nLt hz1 hM.size;clear h1 h2 hM hX1 hz1;go_wp2_with fail
 refine(zfF lo hi _ _ _ _ _ (HF.o.ls.mono HM2.o) HL.o.ls (by have a0:=HK.o;have b1:=HK1.o;have b2:=HK2.o;omega) (by have a0:=HK.o;have b1:=HK1.o;have b2:=HK2.o;omega)).mono ?_;rintro e w3⟨k3,rfl,h1,h2,hM⟩;have HK3:Hid (k2<=k3/\k3<=k2+10000000):=⟨h1,by have:=HL.o;have c1:=HL.o.ls;omega⟩
 have HM3:=hid (HM2.o.trans hM);have hX3:=hM.box hX2 hz2 (Or.inr hhi);have hz3:=nLt hz2 hM.size;clear h1 h2 hM hX2 hz2;go_wp2_with fail
 refine(zgg lo hi _ _ _ _ _ (HF.o.ps.mono HM3.o) HL.o.ps (by have a0:=HK.o;have b1:=HK1.o;have b2:=HK2.o;have b3:=HK3.o;omega) (by have a0:=HK.o;have b1:=HK1.o;have b2:=HK2.o;have b3:=HK3.o;omega)).mono ?_;rintro e w4⟨k4,rfl,h1,h2,hM⟩;have HK4:Hid (k3<=k4/\k4<=k3+10000000):=⟨h1,by have:=HL.o;have c1:=HL.o.ps;omega⟩
 have HM4:=hid (HM3.o.trans hM);have hX4:=hM.box hX3 hz3 (Or.inr hhi);have hz4:=nLt hz3 hM.size;clear h1 h2 hM hX3 hz3;go_wp2_with fail
 go_ret;exact⟨k4,rfl,by have a0:=HK.o;have b1:=HK1.o;have b2:=HK2.o;have b3:=HK3.o;have b4:=HK4.o;omega,by have a0:=HK.o;have b1:=HK1.o;have b2:=HK2.o;have b3:=HK3.o;have b4:=HK4.o;omega,HM4.o⟩
end Go.Proofs.YtcgpjfcocmcodaaGreat
