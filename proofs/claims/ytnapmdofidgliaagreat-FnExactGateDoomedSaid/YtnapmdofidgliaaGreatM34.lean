import Derived.Test.YtnapmdofidgliaaGreatM32
import Derived.Test.YtnapmdofidgliaaGreatM33
set_option maxHeartbeats 4000000
namespace Go.Proofs.YtnapmdofidgliaaGreat
open Go.RowKit
def j5 (fs:List Fld)(m:Mnd)(v:ByteArray):Bool:=!decide (v=m.fd)&&plain fs v
def yD (fs:List Fld)(m:Mnd):Bool:=!((!isSet m.wh&&isSet m.wi)||(isSet m.pt == isSet m.fr))&&(!isSet m.pt||ze1 (zbn fs m.fd) m.pt)
def za4 (fs:List Fld)(m:Mnd):Bool:=plain fs m.fd&&(zQ m).all (j5 fs m)&&yD fs m
set_option maxRecDepth 20000 in
theorem zo7 (r:Nat)(a:Option Addr)(cap:Nat)(fs:List Fld)(m:Mnd)(w:World)(hr:w.heap[r]?=some (.map yQ 4))(hw:zY w a fs)(hm:m.Small) :
 Calls Tryz.prog 145 #[.map (some r),.slice a fs.length cap,.agg m.cells] w fun e w'=>e=.returned (.bool (za4 fs m))/\Below w.heap.size w w':=by
 have hcells:m.cells=#[.string m.kd,.string m.fd,.string m.wh,.string m.wi,.string m.pt,.string m.fr]:=rfl;have HW:=hid hw;have HR:=hid hr;have hl:=hw.len;unfold maxLen at hl;clear hw hr;rw[hcells];have hba:=(bRf w.heap.size w).alloc (Nat.le_refl _) (.cells #[.string m.kd,.string m.fd,.string m.wh,.string m.wi,.string m.pt,.string m.fr] 133)
 by_cases hp:plain fs m.fd=true
 rotate_left
 ·have hpf:plain fs m.fd=false:=by simpa using hp
  have HF:Hid (za4 fs m=false):=by unfold Hid za4;rw[hpf];rfl
  go_enter Tryz.func145,Tryz.ntmps145;go_wp2_with fail
  have h:=zcT a cap fs m.fd _ (HW.out.mono hba);rw[hpf]at h;refine h.mono ?_;rintro e w1⟨rfl,hb1⟩;have HB1:=hid (hba.trans (hb1.mono hba.size));clear h hba hb1;go_wp2_with fail
  go_ret;exact⟨by rw[HF.out];rfl,HB1.out⟩
 have HP:=hid hp;go_enter Tryz.func145,Tryz.ntmps145;go_wp2_with fail
 have h:=zcT a cap fs m.fd _ (HW.out.mono hba);rw[hp]at h;refine h.mono ?_;rintro e w1⟨rfl,hb1⟩;have HB1:=hid (hba.trans (hb1.mono hba.size));have hX1:=za (zl w _ _) (by simp) hb1;have hz1:w.heap.size<w1.heap.size:=by have:=hb1.size;simp at this;omega
 clear h hba hb1 hp;go_wp2_with fail
 refine(zfB m w1).mono ?_;rintro e w2⟨nv,rfl,hn,hb2⟩;obtain⟨na,ncap,rfl⟩:=yY hn;have HN2:=hid hn;have HB2:=hid (HB1.out.trans (hb2.mono HB1.out.size));have hX2:=za hX1 hz1 hb2;have HX2:=hid hX2;have hz2:w.heap.size<w2.heap.size:=nLt hz1 hb2.size;have HNL:Hid ((zQ m).length<=2):=zd4 _;clear hn hb2 hX1 hX2;go_wp2_with fail
 go_loopw [17] (fun iv wr=>∃k:Nat,k<=(zQ m).length/\iv=.int .i64 k/\((zQ m).take k).all (j5 fs m)=true/\Below w2.heap.size w2 wr) (fun iv _=>(zQ m).length-(intOf iv).toNat)
 case atStart=>exact⟨0,Nat.zero_le _,rfl,rfl,bRf _ _⟩
 case round=>
  obtain⟨k,hk,rfl,hall,hB⟩:=hrel;have HB:=jC hB (HB2.out.trans (hB.mono HB2.out.size));have HA:=hid hall;have hXr:=za HX2.out hz2 hB;have hzr:=nLt hz2 hB.size;clear hall hB
  by_cases hlt:k<(zQ m).length
  ·have hltI:(k:Int)<((zQ m).length:Int):=by omega
   obtain⟨g,rfl,hcell⟩:∃g,na=some ⟨g,0,none⟩/\wr.cell? ⟨g,k,none⟩=some (.string (zQ m)[k]):=by
    have hrow:=yF HN2.out HB.out.1;obtain⟨_,⟨h0,h1⟩|⟨g,cap,cur,h0,h1⟩⟩:=id hrow
    ·rw[h1]at hlt;exact absurd hlt (by omega)
    ·cases h0
     refine⟨g,rfl,?_⟩;rw[hrow.cellAt k (by omega)]
     simp[hlt]
   have HTK:Hid (((zQ m).take (k+1)).all (j5 fs m)=j5 fs m (zQ m)[k]):=by
    unfold Hid;rw[tSe hlt,List.all_append,HA.out];simp
   have HNO:Hid (j5 fs m (zQ m)[k]=false->za4 fs m=false):=by
    intro h
    have:(zQ m).all (j5 fs m)=false:=by
     rw[List.all_eq_false];exact⟨_,List.getElem_mem hlt,by rw[h];simp⟩
    unfold za4;rw[this];simp
   revert HTK HNO hcell
   generalize (zQ m)[k]=x
   intro hcell HTK HNO
   by_cases hx:x=m.fd
   ·have hbe:(x.toList == m.fd.toList)=true:=by rw[beq_toList];simpa using hx
    have HF:Hid (za4 fs m=false):=HNO.out (by unfold j5;simp[hx]);clear hx;go_wp2_with fail
    go_ret;exact⟨by rw[HF.out];rfl,HB.out.2⟩
   ·have hbe:(x.toList == m.fd.toList)=false:=by rw[beq_toList];simpa using hx
    have HNX:Hid (j5 fs m x=plain fs x):=by unfold Hid j5;simp[hx]
    clear hx;go_wp2_with fail
    have h:=zcT a cap fs x wr (HW.out.mono HB.out.2)
    by_cases hp:plain fs x=true
    ·rw[hp]at h
     refine h.mono ?_;rintro e w3⟨rfl,hb3⟩;have HP3:Hid (((zQ m).take (k+1)).all (j5 fs m)=true/\Below w2.heap.size w2 w3):=⟨by rw[HTK.out,HNX.out];exact hp,HB.out.1.trans (hb3.mono HB.out.1.size)⟩
     clear h hp hb3;go_wp2_with fail
     exact⟨⟨k+1,by omega,by rw[wrap_one (by have:=HNL.out;omega)],HP3.out.1,HP3.out.2⟩,jq hlt (by have:=HNL.out;omega)⟩
    ·have hpf:plain fs x=false:=by simpa using hp
     rw[hpf]at h;refine h.mono ?_;rintro e w3⟨rfl,hb3⟩;have HF:Hid (za4 fs m=false/\Below w.heap.size w w3):=⟨HNO.out (by rw[HNX.out];exact hpf),HB.out.2.trans (hb3.mono HB.out.2.size)⟩
     clear h hp hb3;go_wp2_with fail
     go_ret;exact⟨by rw[HF.out.1];rfl,HF.out.2⟩
  ·have e:k=(zQ m).length:=by omega
   have hall:=HA.out;rw[e,tOl (Nat.le_refl _)]at hall;have HM:Hid (za4 fs m=yD fs m):=by unfold Hid za4;rw[HP.out,hall];simp
   subst e;clear hall HA;have HD:Hid (decide ((((zQ m).length:Nat):Int)<((zQ m).length:Int))=false):=by unfold Hid;simp
   obtain⟨fi,hfi,hix,hfind⟩:∃fi,∃h:fi<fs.length,zR fs m.fd=(fi:Int)/\fs.find? (fun f=>decide (f.nm=m.fd))=some fs[fi]:=by
    rcases jm fs m.fd with⟨_,h2⟩|⟨fi,hfi,h1,_,h3⟩
    ·have:=HP.out;rw[zav h2]at this;cases this
    ·exact⟨fi,hfi,h1,h3⟩
   have HFO:Hid (zbn fs m.fd=fs[fi]):=by unfold Hid zbn;rw[hfind];rfl
   have HFP:Hid (∀W,Below w.heap.size w W->Calls Tryz.prog 186 #[.slice a fs.length cap,.string m.fd] W fun e w'=>e=.returned (.int .i64 (fi:Int))/\Below W.heap.size W w'):=by
    intro W hb;have h:=jl a cap fs m.fd W (HW.out.mono hb);rw[hix]at h;exact h
   have hfiI:(fi:Int)<(fs.length:Int):=by omega
   have HSM:=hid hm.pt;have hrl:=(gES HR.out).1;clear hfind hix
   rcases hwh:m.wh.toList.isEmpty with _|_ <;> rcases hwi:m.wi.toList.isEmpty with _|_ <;> rcases hpt:m.pt.toList.isEmpty with _|_ <;> rcases hfr:m.fr.toList.isEmpty with _|_
   all_goals first
    | (have HT:Hid (yD fs m=false):=(by unfold Hid yD isSet;simp[hwh,hwi,hpt,hfr]);go_wp2_with fail;go_ret;exact⟨by rw[HM.out,HT.out];rfl,HB.out.2⟩)
    | (have HT:Hid (yD fs m=true):=(by unfold Hid yD isSet;simp[hwh,hwi,hpt,hfr]);go_wp2_with fail;go_quiet (fail);go_wp2_with fail;go_ret;exact⟨by rw[HM.out,HT.out];rfl,below_drewN HB.out.2 _⟩)
    | skip
   all_goals
    have HT:Hid (yD fs m=ze1 fs[fi] m.pt):=by unfold Hid yD;rw[HFO.out];unfold isSet;simp[hwh,hwi,hpt,hfr]
    obtain⟨fb,foff,rfl,hfb,hrows⟩:=HW.out.rows (by rintro rfl;simp at hfi);obtain⟨wa,wcap,hf0⟩:=hrows fi hfi;have HFI:Hid (∀W,Below w.heap.size w W->zeC W fb (foff+fi*11) fs[fi] wa wcap):=fun W hb=>hf0.mono hfb hb
    have HBD:=hid HB.out.2.drew;have hbc:=HBD.out;have hXc:=za HX2.out hz2 (HB.out.1.drew);have hL:=(HFI.out _ hbc).load;have hbW:=HB.out.1.drew;clear hrows hf0;go_wp2_with fail
    go_region_held3 (fun w'=>(∀j,w'.cell? ⟨w.heap.size,j,none⟩=(#[.string m.kd,.string m.fd,.string m.wh,.string m.wi,.string m.pt,.string m.fr]:Array Value)[j]?)/\w'.cell? ⟨fb,foff+fi*11,none⟩=some (.string fs[fi].nm)/\w'.cell? ⟨fb,foff+fi*11+1,none⟩=some (.int .i64 fs[fi].kd)/\w'.cell? ⟨fb,foff+fi*11+2,none⟩=some (.int .i64 fs[fi].ls)/\w'.cell? ⟨fb,foff+fi*11+3,none⟩=some (.int .i64 fs[fi].ms)/\w'.cell? ⟨fb,foff+fi*11+4,none⟩=some (.slice wa fs[fi].ws.length wcap)/\w'.cell? ⟨fb,foff+fi*11+5,none⟩=some (.string fs[fi].to)/\w'.cell? ⟨fb,foff+fi*11+6,none⟩=some (.int .i64 fs[fi].rl)/\w'.cell? ⟨fb,foff+fi*11+7,none⟩=some (.bool fs[fi].mu)/\w'.cell? ⟨fb,foff+fi*11+8,none⟩=some (.bool fs[fi].fx)/\w'.cell? ⟨fb,foff+fi*11+9,none⟩=some (.string fs[fi].df)/\w'.cell? ⟨fb,foff+fi*11+10,none⟩=some (.string fs[fi].wg)) (exact⟨hXc,hL⟩) (first
     | (go_at_call 186;refine(HFP.out _ hbc).mono ?_;rintro e w5⟨rfl,hb5⟩;have hbW:=hbW.trans (hb5.mono hbW.size);have hbc:=hbc.trans (hb5.mono hbc.size);have hXc:=za HX2.out hz2 hbW;have hL:=(HFI.out _ hbc).load;clear hb5)
     | (go_at_call 185;refine(zfA r _ _ _ _ _ _ _ _ _ _ _ _ _ _ _ (by exact(hbc.block r hrl).trans HR.out) HSM.out (by exact(HFI.out _ hbc).strs)).mono ?_;rintro e w5⟨rfl,hb5⟩;have hbW:=hbW.trans (hb5.mono hbW.size);have hbc:=hbc.trans (hb5.mono hbc.size);have hXc:=za HX2.out hz2 hbW;have hL:=(HFI.out _ hbc).load;clear hb5))
    go_wp2_with fail
    go_ret;exact⟨by rw[HM.out,HT.out];rfl,hbc⟩
theorem zhQ (a:Option Addr)(cap:Nat)(ms:List Lg)(t:Lg)(w:World)(hw:zcX w a ms)(hl:ms.length<=1000)(hr:rising qP ms) :
 Calls Tryz.prog 201 #[.slice a ms.length cap,.agg t.cells,.func (.func 161) #[] #[]] w fun e w'=>(∃p:Nat,e=.returned (.tuple #[.int .i64 p,.bool (jr ms t.tm t.rs)])/\zfi ms t.tm t.rs p)/\Below w.heap.size w w':=by
 have HW:=hid hw;have HR:Hid (rising qP ms):=hr;clear hw hr;unfold Lg.cells;go_enter Tryz.func201,Tryz.ntmps201;go_wp2_with fail
 have hT0:=zl w #[.string t.tm,.string t.rs,.int .i64 t.mo,.int .i64 t.fr] 142;have HB0:Hid (Below w.heap.size w (w.alloc (.cells #[.string t.tm,.string t.rs,.int .i64 t.mo,.int .i64 t.fr] 142))):=bAl _ _;obtain⟨W0,hW0⟩:∃W0,W0=w.alloc (.cells #[.string t.tm,.string t.rs,.int .i64 t.mo,.int .i64 t.fr] 142):=⟨_,rfl⟩
 have hz0:w.heap.size<W0.heap.size:=by rw[hW0];simp
 rw[<- hW0]at HB0 hT0 ⊢;clear hW0;have hlI:(ms.length:Int)<=1000:=by omega
 go_loopw [9,10] (fun iv jv wr=>∃lo hi:Nat,iv=.int .i64 lo/\jv=.int .i64 hi/\lo<=hi/\hi<=ms.length/\Hid ((∀i (h:i<ms.length),i<lo->qP ms[i] t<0)/\(∀i (h:i<ms.length),hi<=i->0<=qP ms[i] t)/\Below W0.heap.size W0 wr)) (fun iv jv _=>(intOf jv).toNat-(intOf iv).toNat)
 case atStart=>exact⟨0,ms.length,rfl,rfl,Nat.zero_le _,Nat.le_refl _,fun i h h'=>by omega,fun i h h'=>by omega,bRf _ _⟩
 case round=>
  obtain⟨lo,hi,rfl,rfl,hlh,hhn,HQ⟩:=hrel;have hT:=za hT0 hz0 HQ.out.2.2;have hzT:=nLt hz0 HQ.out.2.2.size;have HBr:=hid (HB0.out.trans (HQ.out.2.2.mono HB0.out.size));have HBW:Hid (∀W,Below w.heap.size w W->Below wr.heap.size wr W->Below W0.heap.size W0 W):=fun W _ h=>HQ.out.2.2.trans (h.mono HQ.out.2.2.size)
  have hloI:(lo:Int)<=1000:=by omega
  have hhiI:(hi:Int)<=1000:=by omega
  by_cases hlt:lo<hi
  ·obtain⟨m,hm⟩:∃m,m=(lo+hi) / 2:=⟨_,rfl⟩
   have HM1:Hid (lo<=m/\m<hi):=⟨by omega,by omega⟩
   have hml:m<ms.length:=by omega
   have hmI:((lo:Int)+(hi:Int)) / 2=(m:Int):=by omega
   clear hm;obtain⟨b,off,rfl,hb,d0,d1,d2,d3⟩:=HW.out.load HBr.out m hml;have hb':=nLt hb HBr.out.size;have hmlI:(m:Int)<(ms.length:Int):=by omega
   have hS:(∀j,wr.drew.cell? ⟨w.heap.size,j,none⟩=(#[.string t.tm,.string t.rs,.int .i64 t.mo,.int .i64 t.fr]:Array Value)[j]?)/\wr.drew.cell? ⟨b,off+m*4,none⟩=some (.string ms[m].tm)/\wr.drew.cell? ⟨b,off+m*4+1,none⟩=some (.string ms[m].rs)/\wr.drew.cell? ⟨b,off+m*4+2,none⟩=some (.int .i64 ms[m].mo)/\wr.drew.cell? ⟨b,off+m*4+3,none⟩=some (.int .i64 ms[m].fr):=⟨hT,d0,d1,d2,d3⟩
   clear d0 d1 d2 d3 hT;go_wp2_with fail
   go_region_held3 (fun w'=>(∀j,w'.cell? ⟨w.heap.size,j,none⟩=(#[.string t.tm,.string t.rs,.int .i64 t.mo,.int .i64 t.fr]:Array Value)[j]?)/\w'.cell? ⟨b,off+m*4,none⟩=some (.string ms[m].tm)/\w'.cell? ⟨b,off+m*4+1,none⟩=some (.string ms[m].rs)/\w'.cell? ⟨b,off+m*4+2,none⟩=some (.int .i64 ms[m].mo)/\w'.cell? ⟨b,off+m*4+3,none⟩=some (.int .i64 ms[m].fr)) (exact hS) (first|(go_at_call 161;refine(zcr ms[m] t _).mono ?_;rintro e w2⟨rfl,hb2⟩;have hS:=(⟨za hS.1 hzT hb2,(hb2.cell (p:=⟨b,_,none⟩) hb').trans hS.2.1,(hb2.cell (p:=⟨b,_,none⟩) hb').trans hS.2.2.1,(hb2.cell (p:=⟨b,_,none⟩) hb').trans hS.2.2.2.1,(hb2.cell (p:=⟨b,_,none⟩) hb').trans hS.2.2.2.2⟩:_/\_/\_/\_/\_);have hB2:=HBr.out.drew.trans (hb2.mono HBr.out.drew.size);have hB2':=(bRf wr.heap.size wr).drew.trans hb2;clear hb2))
   have HB2:=hid (HBW.out w2 hB2 hB2')
   by_cases hk:qP ms[m] t<0
   ·have hd:decide (qP ms[m] t<0)=true:=by simpa using hk
    have HA:Hid (∀i (h:i<ms.length),i<m+1->qP ms[i] t<0):=by
     intro i hi him
     rcases Nat.eq_or_lt_of_le (Nat.le_of_lt_succ him) with e|hlt'
     ·subst e;exact hk
     ·exact zbC (zcJ (fun a b c=>zbC (a:=a) (b:=b) (c:=c)) HR.out m hml i hlt') hk
    rw[hd];clear hd hk hS;go_wp2_with fail
    exact⟨⟨m+1,hi,by go_num,rfl,HM1.out.2,hhn,HA.out,HQ.out.2.1,HB2.out⟩,by have:=HM1.out;show(hi:Int).toNat-((m:Int)+1).toNat<(hi:Int).toNat-(lo:Int).toNat;omega⟩
   ·have hd:decide (qP ms[m] t<0)=false:=by simpa using hk
    have HA:Hid (∀i (h:i<ms.length),m<=i->0<=qP ms[i] t):=by
     intro i hi him
     rcases Nat.eq_or_lt_of_le him with e|hlt'
     ·subst e;omega
     ·rcases Int.lt_or_le (qP ms[i] t) 0 with h1|h1
      ·exact absurd (zbC (zcJ (fun a b c=>zbC (a:=a) (b:=b) (c:=c)) HR.out i hi m hlt') h1) hk
      ·exact h1
    rw[hd];clear hd hk hS;go_wp2_with fail
    exact⟨⟨lo,m,rfl,rfl,HM1.out.1,Nat.le_of_lt hml,HQ.out.1,HA.out,HB2.out⟩,by have:=HM1.out;show(m:Int).toNat-(lo:Int).toNat<(hi:Int).toNat-(lo:Int).toNat;omega⟩
  ·have e:hi=lo:=by omega
   subst e;have HA:Hid (zfi ms t.tm t.rs hi):=⟨hhn,HQ.out.1,HQ.out.2.1⟩
   clear HQ
   by_cases hn:hi<ms.length
   ·obtain⟨b,off,rfl,hb,d0,d1,d2,d3⟩:=HW.out.load HBr.out hi hn
    have hb':b<wr.heap.size:=nLt hb HBr.out.size;have hnI:(hi:Int)<(ms.length:Int):=by omega
    have hS:(∀j,wr.drew.cell? ⟨w.heap.size,j,none⟩=(#[.string t.tm,.string t.rs,.int .i64 t.mo,.int .i64 t.fr]:Array Value)[j]?)/\wr.drew.cell? ⟨b,off+hi*4,none⟩=some (.string ms[hi].tm)/\wr.drew.cell? ⟨b,off+hi*4+1,none⟩=some (.string ms[hi].rs)/\wr.drew.cell? ⟨b,off+hi*4+2,none⟩=some (.int .i64 ms[hi].mo)/\wr.drew.cell? ⟨b,off+hi*4+3,none⟩=some (.int .i64 ms[hi].fr):=⟨hT,d0,d1,d2,d3⟩
    have HFd:Hid (jr ms t.tm t.rs=(qP ms[hi] t == 0)):=by
     unfold Hid;rw[Bool.eq_iff_iff,HA.out.found HR.out,beq_iff_eq];unfold qP;rw[zfo];exact⟨fun h=>h.2,fun h=>⟨hn,h⟩⟩
    clear d0 d1 d2 d3 hT hlt;go_wp2_with fail
    go_region_held3 (fun w'=>(∀j,w'.cell? ⟨w.heap.size,j,none⟩=(#[.string t.tm,.string t.rs,.int .i64 t.mo,.int .i64 t.fr]:Array Value)[j]?)/\w'.cell? ⟨b,off+hi*4,none⟩=some (.string ms[hi].tm)/\w'.cell? ⟨b,off+hi*4+1,none⟩=some (.string ms[hi].rs)/\w'.cell? ⟨b,off+hi*4+2,none⟩=some (.int .i64 ms[hi].mo)/\w'.cell? ⟨b,off+hi*4+3,none⟩=some (.int .i64 ms[hi].fr)) (exact hS) (first|(go_at_call 161;refine(zcr ms[hi] t _).mono ?_;rintro e w2⟨rfl,hb2⟩;have hS:=(⟨za hS.1 hzT hb2,(hb2.cell (p:=⟨b,_,none⟩) hb').trans hS.2.1,(hb2.cell (p:=⟨b,_,none⟩) hb').trans hS.2.2.1,(hb2.cell (p:=⟨b,_,none⟩) hb').trans hS.2.2.2.1,(hb2.cell (p:=⟨b,_,none⟩) hb').trans hS.2.2.2.2⟩:_/\_/\_/\_/\_);have hB2:=HBr.out.drew.trans (hb2.mono HBr.out.drew.size);have hB2':=(bRf wr.heap.size wr).drew.trans hb2;clear hb2))
    go_wp2_with fail
    go_ret2
    exact⟨⟨hi,by rw[HFd.out];rfl,HA.out⟩,hB2⟩
   ·have hnI:¬(hi:Int)<(ms.length:Int):=by omega
    have HFd:Hid (jr ms t.tm t.rs=false):=by
     unfold Hid;rw[Bool.eq_false_iff];intro h;obtain⟨hp,_⟩:=(HA.out.found HR.out).1 h;exact hn hp
    clear hlt;go_wp2_with fail
    go_quiet (fail)
    go_wp2_with fail
    go_ret2
    exact⟨⟨hi,by rw[HFd.out];rfl,HA.out⟩,below_drewN HBr.out _⟩
def Kept (lo hi:Nat)(w w':World):Prop:=∀(k:Nat) (C:Array Value) (t:TypeId),lo<=k->k<hi->w.heap[k]?=some (.cells C t)->∃C':Array Value,w'.heap[k]?=some (.cells C' t)/\C'.size=C.size/\∀(j:Nat) a n c,C'[j]?=some (Value.slice a n c)↔C[j]?=some (Value.slice a n c)
theorem Marked.kept {lo hi:Nat}{w w':World}(h:Marked lo hi w w'):Kept lo hi w w':=h.inn
theorem Kept.of_below {lo hi:Nat}{w w':World}(h:Below w.heap.size w w'):Kept lo hi w w':=(Marked.of_below h).kept
theorem Kept.apart {lo hi lo' hi':Nat}{w w':World}(h:Marked lo hi w w')(ha:hi<=lo' \/ hi'<=lo):Kept lo' hi' w w':=fun k C _ h1 h2 hC=>⟨C,(h.out k (gES hC).1 (by omega)).trans hC,rfl,fun _ _ _ _=>Iff.rfl⟩
theorem jQ.kept {lo hi:Nat}{w w':World}{b n:Nat}(h:jQ lo hi w b n)(hM:Kept lo hi w w'):jQ lo hi w' b n:=by
 obtain⟨C,hC,hs,hn⟩:=h.rows;obtain⟨C',hC',hs',hk⟩:=hM b C _ h.low h.high hC;exact⟨h.low,h.high,C',hC',by omega,fun j hj a m c he=>hn j hj a m c ((hk j a m c).1 he)⟩
theorem jB.kept {lo hi:Nat}{w w':World}{b:Nat}{fs:List Fld}(h:jB lo hi w b fs)(hM:Kept lo hi w w'):jB lo hi w' b fs:=by
 obtain⟨C,hC,hs,hn⟩:=h.rows;obtain⟨C',hC',hs',hk⟩:=hM b C _ h.low h.high hC;refine⟨h.low,h.high,C',hC',by omega,fun i hi=>?_⟩;obtain⟨bk,cap,h1,h2,h3⟩:=hn i hi;exact⟨bk,cap,h1.kept hM,(hk _ _ _ _).2 h2,fun j hj hj4 a m c he=>h3 j hj hj4 a m c ((hk _ a m c).1 he)⟩
theorem jP.kept {lo hi:Nat}{w w':World}{b:Nat}{ss:List Shp}(h:jP lo hi w b ss)(hM:Kept lo hi w w'):jP lo hi w' b ss:=by
 obtain⟨C,hC,hs,hn⟩:=h.rows;obtain⟨C',hC',hs',hk⟩:=hM b C _ h.low h.high hC;refine⟨h.low,h.high,C',hC',by omega,fun i hi=>?_⟩;obtain⟨bk,cap,h1,h2,h3⟩:=hn i hi;exact⟨bk,cap,h1.kept hM,(hk _ _ _ _).2 h2,fun a m c he=>h3 a m c ((hk _ a m c).1 he)⟩
theorem j4.kept {lo hi:Nat}{w w':World}{b:Nat}{ms:List Mnd}(h:j4 lo hi w b ms)(hM:Kept lo hi w w'):j4 lo hi w' b ms:=by
 obtain⟨C,hC,hs,hn⟩:=h.rows;obtain⟨C',hC',hs',hk⟩:=hM b C _ h.low h.high hC;exact⟨h.low,h.high,C',hC',by omega,fun j hj a m c he=>hn j hj a m c ((hk j a m c).1 he)⟩
theorem zaL.kept {lo hi:Nat}{w w':World}{b:Nat}{ms:List Tm}(h:zaL lo hi w b ms)(hM:Kept lo hi w w'):zaL lo hi w' b ms:=by
 obtain⟨C,hC,hs,hn⟩:=h.rows;obtain⟨C',hC',hs',hk⟩:=hM b C _ h.low h.high hC;refine⟨h.low,h.high,C',hC',by omega,fun i hi=>?_⟩;have h0:=hn i hi;exact fun j hj a m c he=>h0 j hj a m c ((hk _ a m c).1 he)
theorem zaG.kept {lo hi:Nat}{w w':World}{b:Nat}{ms:List Lg}(h:zaG lo hi w b ms)(hM:Kept lo hi w w'):zaG lo hi w' b ms:=by
 obtain⟨C,hC,hs,hn⟩:=h.rows;obtain⟨C',hC',hs',hk⟩:=hM b C _ h.low h.high hC;refine⟨h.low,h.high,C',hC',by omega,fun i hi=>?_⟩;have h0:=hn i hi;exact fun j hj a m c he=>h0 j hj a m c ((hk _ a m c).1 he)
theorem zaK.kept {lo hi:Nat}{w w':World}{b:Nat}{ms:List Pu}(h:zaK lo hi w b ms)(hM:Kept lo hi w w'):zaK lo hi w' b ms:=by
 obtain⟨C,hC,hs,hn⟩:=h.rows;obtain⟨C',hC',hs',hk⟩:=hM b C _ h.low h.high hC;refine⟨h.low,h.high,C',hC',by omega,fun i hi=>?_⟩;have h0:=hn i hi;exact fun j hj a m c he=>h0 j hj a m c ((hk _ a m c).1 he)
theorem zbc.kept {lo hi:Nat}{w w':World}{b n:Nat}(h:zbc lo hi w b n)(hM:Kept lo hi w w'):zbc lo hi w' b n:=by
 obtain⟨C,hC,hs,hn⟩:=h.rows;obtain⟨C',hC',hs',hk⟩:=hM b C _ h.low h.high hC;exact⟨h.low,h.high,C',hC',by omega,fun j hj a m c he=>hn j hj a m c ((hk j a m c).1 he)⟩
theorem zai.kept {lo hi:Nat}{w w':World}{b:Nat}{ms:List Gr}(h:zai lo hi w b ms)(hM:Kept lo hi w w'):zai lo hi w' b ms:=by
 obtain⟨C,hC,hs,hn⟩:=h.rows;obtain⟨C',hC',hs',hk⟩:=hM b C _ h.low h.high hC;refine⟨h.low,h.high,C',hC',by omega,fun i hi=>?_⟩;obtain⟨h0,bk,cap,f1,g1⟩:=hn i hi;exact⟨fun j hj n3 a m c he=>h0 j hj n3 a m c ((hk _ a m c).1 he),bk,cap,f1.kept hM,(hk _ _ _ _).2 g1⟩
theorem jV.kept {lo hi:Nat}{w w':World}{b:Nat}{ms:List Ob}(h:jV lo hi w b ms)(hM:Kept lo hi w w'):jV lo hi w' b ms:=by
 obtain⟨C,hC,hs,hn⟩:=h.rows;obtain⟨C',hC',hs',hk⟩:=hM b C _ h.low h.high hC;refine⟨h.low,h.high,C',hC',by omega,fun i hi=>?_⟩;obtain⟨h0,⟨bk,cap,f1,g1⟩,⟨bk2,cap2,f2,g2⟩⟩:=hn i hi;exact⟨fun j hj n3 n5 a m c he=>h0 j hj n3 n5 a m c ((hk _ a m c).1 he),⟨bk,cap,f1.kept hM,(hk _ _ _ _).2 g1⟩,⟨bk2,cap2,f2.kept hM,(hk _ _ _ _).2 g2⟩⟩
structure zeY (lo hi:Nat)(w:World)(l:Lw)(a b c:Nat):Prop where
 ss:jP lo hi w a l.ss
 ms:j4 lo hi w b l.ms
 ts:zaL lo hi w c l.ts
structure zeS (lo hi:Nat)(w:World)(b:Bk)(g0 g1 g2 g3:Nat):Prop where
 os:jV lo hi w g0 b.os
 gs:zai lo hi w g1 b.gs
 ls:zaG lo hi w g2 b.ls
 ps:zaK lo hi w g3 b.ps
theorem zeY.kept {lo hi:Nat}{w w':World}{l:Lw}{a b c:Nat}(h:zeY lo hi w l a b c)(hM:Kept lo hi w w'):zeY lo hi w' l a b c:=⟨h.ss.kept hM,h.ms.kept hM,h.ts.kept hM⟩
theorem zeS.kept {lo hi:Nat}{w w':World}{b:Bk}{g0 g1 g2 g3:Nat}(h:zeS lo hi w b g0 g1 g2 g3)(hM:Kept lo hi w w'):zeS lo hi w' b g0 g1 g2 g3:=⟨h.os.kept hM,h.gs.kept hM,h.ls.kept hM,h.ps.kept hM⟩
theorem zeY.mono {lo hi:Nat}{w w':World}{l:Lw}{a b c:Nat}(h:zeY lo hi w l a b c)(hb:Below w.heap.size w w'):zeY lo hi w' l a b c:=h.kept (Kept.of_below hb)
theorem zeS.mono {lo hi:Nat}{w w':World}{b:Bk}{g0 g1 g2 g3:Nat}(h:zeS lo hi w b g0 g1 g2 g3)(hb:Below w.heap.size w w'):zeS lo hi w' b g0 g1 g2 g3:=h.kept (Kept.of_below hb)
theorem zmC.form {lo:Nat}{w:World}{l:Lw}{a b c:Nat}(h:zmC lo w l a b c):zeY lo w.heap.size w l a b c:=⟨h.ss.form,h.ms.form,h.ts.form⟩
theorem znW.form {lo:Nat}{w:World}{b:Bk}{g0 g1 g2 g3:Nat}(h:znW lo w b g0 g1 g2 g3):zeS lo w.heap.size w b g0 g1 g2 g3:=⟨h.os.form,h.gs.form,h.ls.form,h.ps.form⟩
theorem zhC (l:Lw)(a b c ca cb cc:Nat)(lo hi:Nat)(k:Int)(w:World)(h:zeY lo hi w l a b c)(hf:l.Few)(hhi:hi<=w.heap.size)(hk:0<k)(hk2:k<1000000000000000000) :
 Calls Tryz.prog 13 #[.agg #[.slice (some ⟨a,0,none⟩) l.ss.length ca,.slice (some ⟨b,0,none⟩) l.ms.length cb,.slice (some ⟨c,0,none⟩) l.ts.length cc],.int .i64 k] w fun e w'=>∃k',e=.returned (.int .i64 k')/\0<k'/\k'<3000000000000000000/\Marked lo hi w w':=by
 have HF:=hid h;have HL:=hid hf;have HK:Hid (0<k/\k<1000000000000000000):=⟨hk,hk2⟩
 clear h hf hk hk2;go_enter Tryz.func13,Tryz.ntmps13;go_wp2_with fail
 have hX0:=zl w #[.slice (some ⟨a,0,none⟩) l.ss.length ca,.slice (some ⟨b,0,none⟩) l.ms.length cb,.slice (some ⟨c,0,none⟩) l.ts.length cc] 41;have HM0:Hid (Marked lo hi w (w.alloc (.cells #[.slice (some ⟨a,0,none⟩) l.ss.length ca,.slice (some ⟨b,0,none⟩) l.ms.length cb,.slice (some ⟨c,0,none⟩) l.ts.length cc] 41))):=Marked.of_below (bAl _ _);obtain⟨W0,hW0⟩:∃W0,W0=w.alloc (.cells #[.slice (some ⟨a,0,none⟩) l.ss.length ca,.slice (some ⟨b,0,none⟩) l.ms.length cb,.slice (some ⟨c,0,none⟩) l.ts.length cc] 41):=⟨_,rfl⟩
 have hz0:w.heap.size<W0.heap.size:=by rw[hW0];simp
 rw[<- hW0]at hX0 HM0 ⊢;clear hW0;refine(zfZ lo hi _ _ _ _ _ (HF.out.ss.mono HM0.out) HL.out.ss.1 HL.out.ss.2 (by have a0:=HK.out;omega) (by have a0:=HK.out;omega)).mono ?_;rintro e w1⟨k1,rfl,h1,h2,hM⟩;have HK1:Hid (k<=k1/\k1<=k+1200000000000000000):=⟨h1,by have:=HL.out;have c1:=HL.out.ss.1;omega⟩
 have HM1:=hid (HM0.out.trans hM);have hX1:=hM.box hX0 hz0 (Or.inr hhi);have hz1:=nLt hz0 hM.size;clear h1 h2 hM hX0 hz0;go_wp2_with fail
 refine(zgp lo hi _ _ _ _ _ (HF.out.ms.mono HM1.out) HL.out.ms (by have a0:=HK.out;have b1:=HK1.out;omega) (by have a0:=HK.out;have b1:=HK1.out;omega)).mono ?_;rintro e w2⟨k2,rfl,h1,h2,hM⟩;have HK2:Hid (k1<=k2/\k2<=k1+10000000):=⟨h1,by have:=HL.out;have c1:=HL.out.ms;omega⟩
 have HM2:=hid (HM1.out.trans hM);have hX2:=hM.box hX1 hz1 (Or.inr hhi);have hz2:=nLt hz1 hM.size;clear h1 h2 hM hX1 hz1;go_wp2_with fail
 refine(zgv lo hi _ _ _ _ _ (HF.out.ts.mono HM2.out) HL.out.ts (by have a0:=HK.out;have b1:=HK1.out;have b2:=HK2.out;omega) (by have a0:=HK.out;have b1:=HK1.out;have b2:=HK2.out;omega)).mono ?_;rintro e w3⟨k3,rfl,h1,h2,hM⟩;have HK3:Hid (k2<=k3/\k3<=k2+10000000):=⟨h1,by have:=HL.out;have c1:=HL.out.ts;omega⟩
 have HM3:=hid (HM2.out.trans hM);have hX3:=hM.box hX2 hz2 (Or.inr hhi);have hz3:=nLt hz2 hM.size;clear h1 h2 hM hX2 hz2;go_wp2_with fail
 go_ret;exact⟨k3,rfl,by have a0:=HK.out;have b1:=HK1.out;have b2:=HK2.out;have b3:=HK3.out;omega,by have a0:=HK.out;have b1:=HK1.out;have b2:=HK2.out;have b3:=HK3.out;omega,HM3.out⟩
theorem zg4 (b:Bk)(g0 g1 g2 g3 c0 c1 c2 c3:Nat)(lo hi:Nat)(k:Int)(w:World)(h:zeS lo hi w b g0 g1 g2 g3)(hf:b.Few)(hhi:hi<=w.heap.size)(hk:0<k)(hk2:k<3000000000000000000) :
 Calls Tryz.prog 14 #[.agg #[.int .i64 b.now,.int .i64 b.tick,.int .i64 b.given,.slice (some ⟨g0,0,none⟩) b.os.length c0,.slice (some ⟨g1,0,none⟩) b.gs.length c1,.slice (some ⟨g2,0,none⟩) b.ls.length c2,.slice (some ⟨g3,0,none⟩) b.ps.length c3],.int .i64 k] w fun e w'=>∃k',e=.returned (.int .i64 k')/\0<k'/\k'<4000000000000000000/\Marked lo hi w w':=by
 have HF:=hid h;have HL:=hid hf;have HK:Hid (0<k/\k<3000000000000000000):=⟨hk,hk2⟩
 clear h hf hk hk2;go_enter Tryz.func14,Tryz.ntmps14;go_wp2_with fail
 have hX0:=zl w #[.int .i64 b.now,.int .i64 b.tick,.int .i64 b.given,.slice (some ⟨g0,0,none⟩) b.os.length c0,.slice (some ⟨g1,0,none⟩) b.gs.length c1,.slice (some ⟨g2,0,none⟩) b.ls.length c2,.slice (some ⟨g3,0,none⟩) b.ps.length c3] 48;have HM0:Hid (Marked lo hi w (w.alloc (.cells #[.int .i64 b.now,.int .i64 b.tick,.int .i64 b.given,.slice (some ⟨g0,0,none⟩) b.os.length c0,.slice (some ⟨g1,0,none⟩) b.gs.length c1,.slice (some ⟨g2,0,none⟩) b.ls.length c2,.slice (some ⟨g3,0,none⟩) b.ps.length c3] 48))):=Marked.of_below (bAl _ _);obtain⟨W0,hW0⟩:∃W0,W0=w.alloc (.cells #[.int .i64 b.now,.int .i64 b.tick,.int .i64 b.given,.slice (some ⟨g0,0,none⟩) b.os.length c0,.slice (some ⟨g1,0,none⟩) b.gs.length c1,.slice (some ⟨g2,0,none⟩) b.ls.length c2,.slice (some ⟨g3,0,none⟩) b.ps.length c3] 48):=⟨_,rfl⟩
 have hz0:w.heap.size<W0.heap.size:=by rw[hW0];simp
 rw[<- hW0]at hX0 HM0 ⊢;clear hW0;refine(zfy lo hi _ _ _ _ _ (HF.out.os.mono HM0.out) HL.out.os.1 HL.out.os.2 (by have a0:=HK.out;omega) (by have a0:=HK.out;omega)).mono ?_;rintro e w1⟨k1,rfl,h1,h2,hM⟩;have HK1:Hid (k<=k1/\k1<=k+3000000000000):=⟨h1,by have:=HL.out;have c1:=HL.out.os.1;omega⟩
 have HM1:=hid (HM0.out.trans hM);have hX1:=hM.box hX0 hz0 (Or.inr hhi);have hz1:=nLt hz0 hM.size;clear h1 h2 hM hX0 hz0;go_wp2_with fail
 refine(zfX lo hi _ _ _ _ _ (HF.out.gs.mono HM1.out) HL.out.gs.1 HL.out.gs.2 (by have a0:=HK.out;have b1:=HK1.out;omega) (by have a0:=HK.out;have b1:=HK1.out;omega)).mono ?_;rintro e w2⟨k2,rfl,h1,h2,hM⟩;have HK2:Hid (k1<=k2/\k2<=k1+3000000000000):=⟨h1,by have:=HL.out;have c1:=HL.out.gs.1;omega⟩
 have HM2:=hid (HM1.out.trans hM);have hX2:=hM.box hX1 hz1 (Or.inr hhi);have hz2:=nLt hz1 hM.size;clear h1 h2 hM hX1 hz1;go_wp2_with fail
 refine(zfx lo hi _ _ _ _ _ (HF.out.ls.mono HM2.out) HL.out.ls (by have a0:=HK.out;have b1:=HK1.out;have b2:=HK2.out;omega) (by have a0:=HK.out;have b1:=HK1.out;have b2:=HK2.out;omega)).mono ?_;rintro e w3⟨k3,rfl,h1,h2,hM⟩;have HK3:Hid (k2<=k3/\k3<=k2+10000000):=⟨h1,by have:=HL.out;have c1:=HL.out.ls;omega⟩
 have HM3:=hid (HM2.out.trans hM);have hX3:=hM.box hX2 hz2 (Or.inr hhi);have hz3:=nLt hz2 hM.size;clear h1 h2 hM hX2 hz2;go_wp2_with fail
 refine(zf7 lo hi _ _ _ _ _ (HF.out.ps.mono HM3.out) HL.out.ps (by have a0:=HK.out;have b1:=HK1.out;have b2:=HK2.out;have b3:=HK3.out;omega) (by have a0:=HK.out;have b1:=HK1.out;have b2:=HK2.out;have b3:=HK3.out;omega)).mono ?_;rintro e w4⟨k4,rfl,h1,h2,hM⟩;have HK4:Hid (k3<=k4/\k4<=k3+10000000):=⟨h1,by have:=HL.out;have c1:=HL.out.ps;omega⟩
 have HM4:=hid (HM3.out.trans hM);have hX4:=hM.box hX3 hz3 (Or.inr hhi);have hz4:=nLt hz3 hM.size;clear h1 h2 hM hX3 hz3;go_wp2_with fail
 go_ret;exact⟨k4,rfl,by have a0:=HK.out;have b1:=HK1.out;have b2:=HK2.out;have b3:=HK3.out;have b4:=HK4.out;omega,by have a0:=HK.out;have b1:=HK1.out;have b2:=HK2.out;have b3:=HK3.out;have b4:=HK4.out;omega,HM4.out⟩
end Go.Proofs.YtnapmdofidgliaaGreat
