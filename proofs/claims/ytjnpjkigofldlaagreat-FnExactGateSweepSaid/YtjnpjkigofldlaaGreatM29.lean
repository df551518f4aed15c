import Derived.Test.YtjnpjkigofldlaaGreatM24
import Derived.Test.YtjnpjkigofldlaaGreatM23
import Derived.Test.YtjnpjkigofldlaaGreatM22
set_option maxRecDepth 20000
set_option maxHeartbeats 8000000
namespace Go.Proofs.YtjnpjkigofldlaaGreat
open Go.RowKit
variable {fs:List Fld}{w w':World}{a b bo c g0 g1 g2 g3 hi lo:Nat}{ms:List Ob}{l:Lw}
theorem jX (fs:List Fld)(v:BA):(yh fs v=-1/\fs.find? (fun f=>decide (f.nm=v))=none) \/ ∃i,∃h:i<fs.length,yh fs v=(i:Int)/\fs[i].nm=v/\fs.find? (fun f=>decide (f.nm=v))=some fs[i]:=by
 cases hf:fs.findIdx? (fun f=>decide (f.nm=v)) with
 | none=>
  left
  refine⟨by unfold yh;rw[hf],?_⟩;rw[List.findIdx?_eq_none_iff]at hf;rw[List.find?_eq_none];intro x hx
  have:=hf x hx
  simpa using this
 | some i=>
  right
  rw[List.findIdx?_eq_some_iff_getElem]at hf;obtain⟨hi,h1,h2⟩:=hf;refine⟨i,hi,?_,by simpa using h1,?_⟩
  ·unfold yh
   have:fs.findIdx? (fun f=>decide (f.nm=v))=some i:=by rw[List.findIdx?_eq_some_iff_getElem];exact⟨hi,h1,h2⟩
   rw[this]
  ·rw[List.find?_eq_some_iff_append]
   refine⟨h1,fs.take i,fs.drop (i+1),?_,?_⟩
   ·conv=>lhs;rw[<- List.take_append_drop i fs,List.drop_eq_getElem_cons hi]
   ·intro a ha
    obtain⟨k,hk,rfl⟩:=List.mem_iff_getElem.1 ha;have hk':k<i:=by simp at hk;omega
    have:=h2 k hk'
    simpa using this
def plain (fs:List Fld)(v:BA):Bool:=match fs.find? (fun f=>decide (f.nm=v)) with|some f=>decide (f.kd≠4)|none=>false
def zeC (fs:List Fld)(v:BA):Fld:=(fs.find? fun f=>decide (f.nm=v)).getD zbz
theorem zbm {v:BA}(h:fs.find? (fun f=>decide (f.nm=v))=none):plain fs v=false:=by unfold plain;rw[h]
theorem zlB {v:BA}{f:Fld}(h:fs.find? (fun f=>decide (f.nm=v))=some f):plain fs v=decide (f.kd≠4):=by unfold plain;rw[h]
theorem zt5 (k:Int):Ending.returned (.bool (k != 4))=Ending.returned (.bool (decide (k≠4))):=by
 by_cases h:k=4
 ·subst h;rfl
 ·have h1:(k != 4)=true:=by rw[bne_iff_ne];exact h
  rw[h1,decide_eq_true h]
theorem zcU (a:OA)(cap:Nat)(fs:List Fld)(v:BA)(w:World)(hw:yw w a fs) :
 Calls Tryz.prog 213 #[.l a fs.length cap,.s v] w fun e w'=>e=.returned (.bool (plain fs v))/\Bw w w':=by
 have hl:=hw.len;unfold maxLen at hl
 rcases jX fs v with⟨h1,h2⟩|⟨i,hi,h1,h2,h3⟩
 ·have HP:Hid (plain fs v=false):=zbm h2
  go_in;go_wp2_with fail
  have h:=jd a cap fs v w hw;rw[h1]at h;refine h.mono ?_;rintro e w1⟨rfl,hb1⟩;clear h;go_wp2
  go_ret;exact⟨by rw[HP.o];rfl,hb1⟩
 ·have HP:Hid (plain fs v=decide (fs[i].kd≠4)):=zlB h3
  obtain⟨b,off,rfl,hb,hr⟩:=hw.rows (by rintro rfl;simp at hi);obtain⟨wa,wcap,hf0⟩:=hr i hi;go_in;go_wp2_with fail
  have h:=jd (some (aD b off)) cap fs v w hw;rw[h1]at h;refine h.mono ?_;rintro e w1⟨rfl,hb1⟩;obtain⟨c0,c1,c2,c3,c4,c5,c6,c7,c8,c9,c10⟩:=(hf0.mono hb hb1).load;have hiI:(i:Int)<(fs.length:Int):=by omega
  have hge:decide ((i:Int)≥0)=true:=by simp
  have hb1w:b<w1.heap.size:=nLt hb hb1.size;clear h hw hr hf0 h3 h2 h1;go_wp2
  go_ret;exact⟨by rw[HP.o];exact zt5 fs[i].kd,hb1⟩
def jV (fs:List Fld)(m:Mnd)(v:BA):Bool:=!decide (v=m.fd)&&plain fs v
def za5 (fs:List Fld)(m:Mnd):Bool:=!((!isSet m.wh&&isSet m.wi)||(isSet m.pt == isSet m.fr))&&(!isSet m.pt||zgt (zeC fs m.fd) m.pt)
def za2 (fs:List Fld)(m:Mnd):Bool:=plain fs m.fd&&(zT m).all (jV fs m)&&za5 fs m
theorem zqO (r:Nat)(a:OA)(cap:Nat)(fs:List Fld)(m:Mnd)(w:World)(hr:w.heap[r]?=some (.map jg 4))(hw:yw w a fs)(hm:m.Small) :
 Calls Tryz.prog 173 #[.map (some r),.l a fs.length cap,.agg m.cells] w fun e w'=>e=.returned (.bool (za2 fs m))/\Bw w w':=by
 have hcells:m.cells=#[.s m.kd,.s m.fd,.s m.wh,.s m.wi,.s m.pt,.s m.fr]:=rfl;have HW:=hid hw;have HR:=hid hr;have hl:=hw.len;unfold maxLen at hl;clear hw hr;rw[hcells];have hba:=(bRf w.heap.size w).alloc (Nat.le_refl _) (.cells #[.s m.kd,.s m.fd,.s m.wh,.s m.wi,.s m.pt,.s m.fr] 132)
 by_cases hp:plain fs m.fd=true
 rotate_left
 ·have hpf:plain fs m.fd=false:=by simpa using hp
  have HF:Hid (za2 fs m=false):=by unfold Hid za2;rw[hpf];rfl
  go_in;go_wp2_with fail
  have h:=zcU a cap fs m.fd _ (HW.o.mono hba);rw[hpf]at h;refine h.mono ?_;rintro e w1⟨rfl,hb1⟩;have HB1:=hid (hba.trans (hb1.mono hba.size));clear h hba hb1;go_wp2
  go_ret;exact⟨by rw[HF.o];rfl,HB1.o⟩
 have HP:=hid hp;go_in;go_wp2_with fail
 have h:=zcU a cap fs m.fd _ (HW.o.mono hba);rw[hp]at h;refine h.mono ?_;rintro e w1⟨rfl,hb1⟩;have HB1:=hid (hba.trans (hb1.mono hba.size));have hX1:=za (zI w _ _) (by simp) hb1;have hz1:w.heap.size<w1.heap.size:=by have:=hb1.size;simp at this;omega
 clear h hba hb1 hp;go_wp2_with fail
 refine(zgi m w1).mono ?_;rintro e w2⟨nv,rfl,hn,hb2⟩;obtain⟨na,ncap,rfl⟩:=yY hn;have HN2:=hid hn;have HB2:=hid (HB1.o.trans (hb2.mono HB1.o.size));have hX2:=za hX1 hz1 hb2;have HX2:=hid hX2;have hz2:w.heap.size<w2.heap.size:=nLt hz1 hb2.size;have HNL:Hid ((zT m).length<=2):=zel _;clear hn hb2 hX1 hX2;go_wp2
 go_loopw [17] (fun iv wr=>∃k:Nat,k<=(zT m).length/\iv=.i k/\((zT m).take k).all (jV fs m)=true/\Bw w2 wr) (fun iv _=>(zT m).length-(intOf iv).toNat)
 case atStart=>exact⟨0,Nat.zero_le _,rfl,rfl,bRf _ _⟩
 case round=>
  obtain⟨k,hk,rfl,hall,hB⟩:=hrel;have HB:=yB hB (HB2.o.trans (hB.mono HB2.o.size));have HA:=hid hall;have hXr:=za HX2.o hz2 hB;have hzr:=nLt hz2 hB.size;clear hall hB
  by_cases hlt:k<(zT m).length
  ·have hltI:(k:Int)<((zT m).length:Int):=by omega
   obtain⟨g,rfl,hcell⟩:∃g,na=some (aD g 0)/\wr.cell? (aD g k)=some (.s (zT m)[k]):=by
    have hrow:=yc HN2.o HB.o.1;obtain⟨_,⟨h0,h1⟩|⟨g,cap,cur,h0,h1⟩⟩:=id hrow
    ·rw[h1]at hlt;exact absurd hlt (by omega)
    ·cases h0
     refine⟨g,rfl,?_⟩;rw[hrow.cellAt k (by omega)]
     simp[hlt]
   have HTK:Hid (((zT m).take (k+1)).all (jV fs m)=jV fs m (zT m)[k]):=by
    unfold Hid;rw[tSe hlt,List.all_append,HA.o];simp
   have HNO:Hid (jV fs m (zT m)[k]=false->za2 fs m=false):=by
    intro h
    have:(zT m).all (jV fs m)=false:=by
     rw[List.all_eq_false];exact⟨_,List.getElem_mem hlt,by rw[h];simp⟩
    unfold za2;rw[this];simp
   revert HTK HNO hcell
   generalize (zT m)[k]=x
   intro hcell HTK HNO
   by_cases hx:x=m.fd
   ·have hbe:(x.toList == m.fd.toList)=true:=by rw[beq_toList];simpa using hx
    have HF:Hid (za2 fs m=false):=HNO.o (by unfold jV;simp[hx]);clear hx;go_wp2
    go_ret;exact⟨by rw[HF.o];rfl,HB.o.2⟩
   ·have hbe:(x.toList == m.fd.toList)=false:=by rw[beq_toList];simpa using hx
    have HNX:Hid (jV fs m x=plain fs x):=by unfold Hid jV;simp[hx]
    clear hx;go_wp2_with fail
    have h:=zcU a cap fs x wr (HW.o.mono HB.o.2)
    by_cases hp:plain fs x=true
    ·rw[hp]at h
     refine h.mono ?_;rintro e w3⟨rfl,hb3⟩;have HP3:Hid (((zT m).take (k+1)).all (jV fs m)=true/\Bw w2 w3):=⟨by rw[HTK.o,HNX.o];exact hp,HB.o.1.trans (hb3.mono HB.o.1.size)⟩
     clear h hp hb3;go_wp2
     exact⟨⟨k+1,by omega,by rw[wrap_one (by have:=HNL.o;omega)],HP3.o.1,HP3.o.2⟩,yO hlt (by have:=HNL.o;omega)⟩
    ·have hpf:plain fs x=false:=by simpa using hp
     rw[hpf]at h;refine h.mono ?_;rintro e w3⟨rfl,hb3⟩;have HF:Hid (za2 fs m=false/\Bw w w3):=⟨HNO.o (by rw[HNX.o];exact hpf),HB.o.2.trans (hb3.mono HB.o.2.size)⟩
     clear h hp hb3;go_wp2
     go_ret;exact⟨by rw[HF.o.1];rfl,HF.o.2⟩
  ·have e:k=(zT m).length:=by omega
   have hall:=HA.o;rw[e,tOl (Nat.le_refl _)]at hall;have HM:Hid (za2 fs m=za5 fs m):=by unfold Hid za2;rw[HP.o,hall];simp
   subst e;clear hall HA;have HD:Hid (decide ((((zT m).length:Nat):Int)<((zT m).length:Int))=false):=by unfold Hid;simp
   obtain⟨fi,hfi,hix,hfind⟩:∃fi,∃h:fi<fs.length,yh fs m.fd=(fi:Int)/\fs.find? (fun f=>decide (f.nm=m.fd))=some fs[fi]:=by
    rcases jX fs m.fd with⟨_,h2⟩|⟨fi,hfi,h1,_,h3⟩
    ·have:=HP.o;rw[zbm h2]at this;cases this
    ·exact⟨fi,hfi,h1,h3⟩
   have HFO:Hid (zeC fs m.fd=fs[fi]):=by unfold Hid zeC;rw[hfind];rfl
   have HFP:Hid (∀W,Bw w W->Calls Tryz.prog 216 #[.l a fs.length cap,.s m.fd] W fun e w'=>e=.returned (.i (fi:Int))/\Bw W w'):=by
    intro W hb;have h:=jd a cap fs m.fd W (HW.o.mono hb);rw[hix]at h;exact h
   have hfiI:(fi:Int)<(fs.length:Int):=by omega
   have HSM:=hid hm.pt;have hrl:=(gES HR.o).1;clear hfind hix
   rcases hwh:m.wh.toList.isEmpty with _|_ <;> rcases hwi:m.wi.toList.isEmpty with _|_ <;> rcases hpt:m.pt.toList.isEmpty with _|_ <;> rcases hfr:m.fr.toList.isEmpty with _|_
   all_goals first
    | (have HT:Hid (za5 fs m=false):=(by unfold Hid za5 isSet;simp[hwh,hwi,hpt,hfr]);go_wp2;go_ret;exact⟨by rw[HM.o,HT.o];rfl,HB.o.2⟩)
    | (have HT:Hid (za5 fs m=true):=(by unfold Hid za5 isSet;simp[hwh,hwi,hpt,hfr]);go_wp2_with fail;go_quiet (fail);go_wp2;go_ret;exact⟨by rw[HM.o,HT.o];rfl,below_drewN HB.o.2 _⟩)
    | skip
   all_goals
    have HT:Hid (za5 fs m=zgt fs[fi] m.pt):=by unfold Hid za5;rw[HFO.o];unfold isSet;simp[hwh,hwi,hpt,hfr]
    obtain⟨fb,foff,rfl,hfb,hrows⟩:=HW.o.rows (by rintro rfl;simp at hfi);obtain⟨wa,wcap,hf0⟩:=hrows fi hfi;have HFI:Hid (∀W,Bw w W->zf7 W fb (foff+fi*11) fs[fi] wa wcap):=fun W hb=>hf0.mono hfb hb
    have HBD:=hid HB.o.2.drew;have hbc:=HBD.o;have hXc:=za HX2.o hz2 (HB.o.1.drew);have hL:=(HFI.o _ hbc).load;have hbW:=HB.o.1.drew;clear hrows hf0;go_wp2_with fail
    go_region_held3 (fun w'=>(∀j,w'.cell? (aD w.heap.size j)=(#[.s m.kd,.s m.fd,.s m.wh,.s m.wi,.s m.pt,.s m.fr]:AV)[j]?)/\w'.cell? (aD fb (foff+fi*11))=some (.s fs[fi].nm)/\w'.cell? (aD fb (foff+fi*11+1))=some (.i fs[fi].kd)/\w'.cell? (aD fb (foff+fi*11+2))=some (.i fs[fi].ls)/\w'.cell? (aD fb (foff+fi*11+3))=some (.i fs[fi].ms)/\w'.cell? (aD fb (foff+fi*11+4))=some (.l wa fs[fi].ws.length wcap)/\w'.cell? (aD fb (foff+fi*11+5))=some (.s fs[fi].to)/\w'.cell? (aD fb (foff+fi*11+6))=some (.i fs[fi].rl)/\w'.cell? (aD fb (foff+fi*11+7))=some (.bool fs[fi].mu)/\w'.cell? (aD fb (foff+fi*11+8))=some (.bool fs[fi].fx)/\w'.cell? (aD fb (foff+fi*11+9))=some (.s fs[fi].df)/\w'.cell? (aD fb (foff+fi*11+10))=some (.s fs[fi].wg)) (exact⟨hXc,hL⟩) (first
     | (go_at_call 216;refine(HFP.o _ hbc).mono ?_;rintro e w5⟨rfl,hb5⟩;have hbW:=hbW.trans (hb5.mono hbW.size);have hbc:=hbc.trans (hb5.mono hbc.size);have hXc:=za HX2.o hz2 hbW;have hL:=(HFI.o _ hbc).load;clear hb5)
     | (go_at_call 215;refine(zf9 r _ _ _ _ _ _ _ _ _ _ _ _ _ _ _ (by exact(hbc.block r hrl).trans HR.o) HSM.o (by exact(HFI.o _ hbc).strs)).mono ?_;rintro e w5⟨rfl,hb5⟩;have hbW:=hbW.trans (hb5.mono hbW.size);have hbc:=hbc.trans (hb5.mono hbc.size);have hXc:=za HX2.o hz2 hbW;have hL:=(HFI.o _ hbc).load;clear hb5))
    go_wp2
    go_ret;exact⟨by rw[HM.o,HT.o];rfl,hbc⟩
theorem zc9 (b:Bk)(a0 a1 a2 a3:OA)(c0 c1 c2 c3:Nat)(w:World)(hl:qj w b a0 a1 a2 a3)(hf:b.Few) :
 Calls Tryz.prog 8 #[.agg (b.cells a0 a1 a2 a3 c0 c1 c2 c3)] w fun e w'=>∃lo g0 g1 g2 g3,e=.returned (.agg (b.cells (some (aD g0 0)) (some (aD g1 0)) (some (aD g2 0)) (some (aD g3 0)) b.os.length b.gs.length b.ls.length b.ps.length))/\w.heap.size<=lo/\zoC lo w' b g0 g1 g2 g3/\Bw w w':=by
 have HL:Hid (qj w b a0 a1 a2 a3):=hl;have HF:Hid b.Few:=hf;clear hl hf;unfold Bk.cells;go_in;go_wp2_with fail
 have k0:=zmi w (.cells (bC b a0 a1 a2 a3 c0 c1 c2 c3) 32) (.cells bZ 40) (.cells #[.i b.now,.i b.tick,.i b.given,.l none 0 0,.l none 0 0,.l none 0 0,.l none 0 0] 40);have hB0:=below3' w (.cells (bC b a0 a1 a2 a3 c0 c1 c2 c3) 32) (.cells bZ 40) (.cells #[.i b.now,.i b.tick,.i b.given,.l none 0 0,.l none 0 0,.l none 0 0,.l none 0 0] 40);obtain⟨W0,hW0⟩:=xN (((w.alloc (.cells (bC b a0 a1 a2 a3 c0 c1 c2 c3) 32)).alloc (.cells bZ 40)).alloc (.cells #[.i b.now,.i b.tick,.i b.given,.l none 0 0,.l none 0 0,.l none 0 0,.l none 0 0] 40));have hz0:w.heap.size+1+1<W0.heap.size:=by rw[hW0];simp
 rw[<- hW0]at k0 hB0 ⊢;clear hW0;have HLO:Hid (w.heap.size+1+1<W0.heap.size):=hz0;refine(zhR _ _ b.os _ (HL.o.os.mono hB0) HF.o.os.1 HF.o.os.2).mono ?_;rintro e w1⟨rfl,hown,hb⟩;obtain⟨g0,hp'⟩:∃g0,g0=W0.heap.size:=⟨_,rfl⟩
 have HN1:Hid (zaf W0.heap.size w1 g0 b.os b.os.length):=by rw[hp'];exact hown
 have hX1:=(hb.block _ (by omega)).trans k0.1;have hR1:=(hb.block _ (by omega)).trans k0.2.1;have hO1:=(hb.block _ hz0).trans k0.2.2;have HZ1:Hid (W0.heap.size<=w1.heap.size):=hb.size;have HB1:Hid (Bw w w1):=hB0.trans (hb.mono hB0.size);rw[<- hp'];clear hown hb k0 hB0 hz0 hp';have cO1:=fun j=>cell_of_block (o:=j) hO1
 have fO1:=fun j=>zf (o:=j) hO1
 have HX1':Hid ((w1.setCell (aD (w.heap.size+1+1) 3) (.l (some (aD g0 0)) b.os.length b.os.length)).heap[w.heap.size]?=some (.cells (bC b a0 a1 a2 a3 c0 c1 c2 c3) 32)):=(zA (by omega)).trans hX1;have HR1':Hid ((w1.setCell (aD (w.heap.size+1+1) 3) (.l (some (aD g0 0)) b.os.length b.os.length)).heap[w.heap.size+1]?=some (.cells bZ 40)):=(zA (by omega)).trans hR1;have HO1':Hid ((w1.setCell (aD (w.heap.size+1+1) 3) (.l (some (aD g0 0)) b.os.length b.os.length)).heap[w.heap.size+1+1]?=some (.cells #[.i b.now,.i b.tick,.i b.given,.l (some (aD g0 0)) b.os.length b.os.length,.l none 0 0,.l none 0 0,.l none 0 0] 40)):=zh hO1 _;have HAB1:Hid (yM W0.heap.size w1 (w1.setCell (aD (w.heap.size+1+1) 3) (.l (some (aD g0 0)) b.os.length b.os.length))):=yM.setCell HLO.o _;have HBB1:Hid (Bw w (w1.setCell (aD (w.heap.size+1+1) 3) (.l (some (aD g0 0)) b.os.length b.os.length))):=HB1.o.setCell (by show w.heap.size<=w.heap.size+1+1;omega) _;have HZZ1:Hid (W0.heap.size<=(w1.setCell (aD (w.heap.size+1+1) 3) (.l (some (aD g0 0)) b.os.length b.os.length)).heap.size):=by unfold Hid;rw[World.size_setCell];exact HZ1.o
 clear hX1 hR1 hO1;have cX1:=fun j=>cell_of_block (o:=j) HX1'.out
 have cR1:=fun j=>cell_of_block (o:=j) HR1'.out
 have fR1:=fun j=>zf (o:=j) HR1'.out
 have cOO1:=fun j=>cell_of_block (o:=j) HO1'.out
 go_wp2_with fail
 refine(zhV _ _ b.gs _ (HL.o.gs.mono HBB1.o) HF.o.gs.1 HF.o.gs.2).mono ?_;rintro e w2⟨rfl,hown,hb⟩;obtain⟨g1,hp'⟩:∃g1,g1=(w1.setCell (aD (w.heap.size+1+1) 3) (.l (some (aD g0 0)) b.os.length b.os.length)).heap.size:=⟨_,rfl⟩
 have HN2:Hid (j6 W0.heap.size w2 g1 b.gs b.gs.length):=by rw[hp'];exact hown.weaken HZZ1.o
 have HAA2:Hid (yM W0.heap.size w1 w2):=HAB1.o.trans (yM.below hb);have hX2:=(hb.block _ (lt_of_some HX1'.out)).trans HX1'.out;have hR2:=(hb.block _ (lt_of_some HR1'.out)).trans HR1'.out;have hO2:=(hb.block _ (lt_of_some HO1'.out)).trans HO1'.out;have HZ2:Hid (W0.heap.size<=w2.heap.size):=Nat.le_trans HZZ1.o hb.size;have HB2:Hid (Bw w w2):=HBB1.o.trans (hb.mono HBB1.o.size);rw[<- hp'];clear hown hb hp' cX1 cR1 fR1 cOO1;have cO2:=fun j=>cell_of_block (o:=j) hO2
 have fO2:=fun j=>zf (o:=j) hO2
 have HX2':Hid ((w2.setCell (aD (w.heap.size+1+1) 4) (.l (some (aD g1 0)) b.gs.length b.gs.length)).heap[w.heap.size]?=some (.cells (bC b a0 a1 a2 a3 c0 c1 c2 c3) 32)):=(zA (by omega)).trans hX2;have HR2':Hid ((w2.setCell (aD (w.heap.size+1+1) 4) (.l (some (aD g1 0)) b.gs.length b.gs.length)).heap[w.heap.size+1]?=some (.cells bZ 40)):=(zA (by omega)).trans hR2;have HO2':Hid ((w2.setCell (aD (w.heap.size+1+1) 4) (.l (some (aD g1 0)) b.gs.length b.gs.length)).heap[w.heap.size+1+1]?=some (.cells #[.i b.now,.i b.tick,.i b.given,.l (some (aD g0 0)) b.os.length b.os.length,.l (some (aD g1 0)) b.gs.length b.gs.length,.l none 0 0,.l none 0 0] 40)):=zh hO2 _;have HAB2:Hid (yM W0.heap.size w2 (w2.setCell (aD (w.heap.size+1+1) 4) (.l (some (aD g1 0)) b.gs.length b.gs.length))):=yM.setCell HLO.o _;have HBB2:Hid (Bw w (w2.setCell (aD (w.heap.size+1+1) 4) (.l (some (aD g1 0)) b.gs.length b.gs.length))):=HB2.o.setCell (by show w.heap.size<=w.heap.size+1+1;omega) _;have HZZ2:Hid (W0.heap.size<=(w2.setCell (aD (w.heap.size+1+1) 4) (.l (some (aD g1 0)) b.gs.length b.gs.length)).heap.size):=by unfold Hid;rw[World.size_setCell];exact HZ2.o
 clear hX2 hR2 hO2;have cX2:=fun j=>cell_of_block (o:=j) HX2'.out
 have cR2:=fun j=>cell_of_block (o:=j) HR2'.out
 have fR2:=fun j=>zf (o:=j) HR2'.out
 have cOO2:=fun j=>cell_of_block (o:=j) HO2'.out
 go_wp2_with fail
 refine(zhE _ _ b.ls _ (HL.o.ls.mono HBB2.o) HF.o.ls).mono ?_;rintro e w3⟨rfl,hown,hb⟩;obtain⟨g2,hp'⟩:∃g2,g2=(w2.setCell (aD (w.heap.size+1+1) 4) (.l (some (aD g1 0)) b.gs.length b.gs.length)).heap.size:=⟨_,rfl⟩
 have HN3:Hid (j4 W0.heap.size w3 g2 b.ls b.ls.length):=by rw[hp'];exact hown.weaken HZZ2.o
 have HAA3:Hid (yM W0.heap.size w2 w3):=HAB2.o.trans (yM.below hb);have hX3:=(hb.block _ (lt_of_some HX2'.out)).trans HX2'.out;have hR3:=(hb.block _ (lt_of_some HR2'.out)).trans HR2'.out;have hO3:=(hb.block _ (lt_of_some HO2'.out)).trans HO2'.out;have HZ3:Hid (W0.heap.size<=w3.heap.size):=Nat.le_trans HZZ2.o hb.size;have HB3:Hid (Bw w w3):=HBB2.o.trans (hb.mono HBB2.o.size);rw[<- hp'];clear hown hb hp' cX2 cR2 fR2 cOO2;have cO3:=fun j=>cell_of_block (o:=j) hO3
 have fO3:=fun j=>zf (o:=j) hO3
 have HX3':Hid ((w3.setCell (aD (w.heap.size+1+1) 5) (.l (some (aD g2 0)) b.ls.length b.ls.length)).heap[w.heap.size]?=some (.cells (bC b a0 a1 a2 a3 c0 c1 c2 c3) 32)):=(zA (by omega)).trans hX3;have HR3':Hid ((w3.setCell (aD (w.heap.size+1+1) 5) (.l (some (aD g2 0)) b.ls.length b.ls.length)).heap[w.heap.size+1]?=some (.cells bZ 40)):=(zA (by omega)).trans hR3;have HO3':Hid ((w3.setCell (aD (w.heap.size+1+1) 5) (.l (some (aD g2 0)) b.ls.length b.ls.length)).heap[w.heap.size+1+1]?=some (.cells #[.i b.now,.i b.tick,.i b.given,.l (some (aD g0 0)) b.os.length b.os.length,.l (some (aD g1 0)) b.gs.length b.gs.length,.l (some (aD g2 0)) b.ls.length b.ls.length,.l none 0 0] 40)):=zh hO3 _;have HAB3:Hid (yM W0.heap.size w3 (w3.setCell (aD (w.heap.size+1+1) 5) (.l (some (aD g2 0)) b.ls.length b.ls.length))):=yM.setCell HLO.o _;have HBB3:Hid (Bw w (w3.setCell (aD (w.heap.size+1+1) 5) (.l (some (aD g2 0)) b.ls.length b.ls.length))):=HB3.o.setCell (by show w.heap.size<=w.heap.size+1+1;omega) _;have HZZ3:Hid (W0.heap.size<=(w3.setCell (aD (w.heap.size+1+1) 5) (.l (some (aD g2 0)) b.ls.length b.ls.length)).heap.size):=by unfold Hid;rw[World.size_setCell];exact HZ3.o
 clear hX3 hR3 hO3;have cX3:=fun j=>cell_of_block (o:=j) HX3'.out
 have cR3:=fun j=>cell_of_block (o:=j) HR3'.out
 have fR3:=fun j=>zf (o:=j) HR3'.out
 have cOO3:=fun j=>cell_of_block (o:=j) HO3'.out
 go_wp2_with fail
 refine(zia _ _ b.ps _ (HL.o.ps.mono HBB3.o) HF.o.ps).mono ?_;rintro e w4⟨rfl,hown,hb⟩;obtain⟨g3,hp'⟩:∃g3,g3=(w3.setCell (aD (w.heap.size+1+1) 5) (.l (some (aD g2 0)) b.ls.length b.ls.length)).heap.size:=⟨_,rfl⟩
 have HN4:Hid (jZ W0.heap.size w4 g3 b.ps b.ps.length):=by rw[hp'];exact hown.weaken HZZ3.o
 have HAA4:Hid (yM W0.heap.size w3 w4):=HAB3.o.trans (yM.below hb);have hX4:=(hb.block _ (lt_of_some HX3'.out)).trans HX3'.out;have hR4:=(hb.block _ (lt_of_some HR3'.out)).trans HR3'.out;have hO4:=(hb.block _ (lt_of_some HO3'.out)).trans HO3'.out;have HZ4:Hid (W0.heap.size<=w4.heap.size):=Nat.le_trans HZZ3.o hb.size;have HB4:Hid (Bw w w4):=HBB3.o.trans (hb.mono HBB3.o.size);rw[<- hp'];clear hown hb hp' cX3 cR3 fR3 cOO3;have cO4:=fun j=>cell_of_block (o:=j) hO4
 have fO4:=fun j=>zf (o:=j) hO4
 have HX4':Hid ((w4.setCell (aD (w.heap.size+1+1) 6) (.l (some (aD g3 0)) b.ps.length b.ps.length)).heap[w.heap.size]?=some (.cells (bC b a0 a1 a2 a3 c0 c1 c2 c3) 32)):=(zA (by omega)).trans hX4;have HR4':Hid ((w4.setCell (aD (w.heap.size+1+1) 6) (.l (some (aD g3 0)) b.ps.length b.ps.length)).heap[w.heap.size+1]?=some (.cells bZ 40)):=(zA (by omega)).trans hR4;have HO4':Hid ((w4.setCell (aD (w.heap.size+1+1) 6) (.l (some (aD g3 0)) b.ps.length b.ps.length)).heap[w.heap.size+1+1]?=some (.cells (bC b (some (aD g0 0)) (some (aD g1 0)) (some (aD g2 0)) (some (aD g3 0)) (b.os.length) (b.gs.length) (b.ls.length) (b.ps.length)) 40)):=zh hO4 _;have HAB4:Hid (yM W0.heap.size w4 (w4.setCell (aD (w.heap.size+1+1) 6) (.l (some (aD g3 0)) b.ps.length b.ps.length))):=yM.setCell HLO.o _;have HBB4:Hid (Bw w (w4.setCell (aD (w.heap.size+1+1) 6) (.l (some (aD g3 0)) b.ps.length b.ps.length))):=HB4.o.setCell (by show w.heap.size<=w.heap.size+1+1;omega) _;have HZZ4:Hid (W0.heap.size<=(w4.setCell (aD (w.heap.size+1+1) 6) (.l (some (aD g3 0)) b.ps.length b.ps.length)).heap.size):=by unfold Hid;rw[World.size_setCell];exact HZ4.o
 clear hX4 hR4 hO4;have cX4:=fun j=>cell_of_block (o:=j) HX4'.out
 have cR4:=fun j=>cell_of_block (o:=j) HR4'.out
 have fR4:=fun j=>zf (o:=j) HR4'.out
 have cOO4:=fun j=>cell_of_block (o:=j) HO4'.out
 go_wp2
 refine bodyPost_ret (v:=.agg #[.i b.now,.i b.tick,.i b.given,.l (some (aD g0 0)) b.os.length b.os.length,.l (some (aD g1 0)) b.gs.length b.gs.length,.l (some (aD g2 0)) b.ls.length b.ls.length,.l (some (aD g3 0)) b.ps.length b.ps.length]) (by simp[results,Tryz.results8,go_sem,cR4]) rfl ⟨W0.heap.size,g0,g1,g2,g3,rfl,by have:=HLO.o;omega,?_,?_⟩
 ·have hlt1:w.heap.size+1<W0.heap.size:=by have:=HLO.o;omega
  have hA4:∀v0 v1 v2 v3 v4 v5 v6,yM W0.heap.size w4 ((((((((w4.setCell (aD (w.heap.size+1+1) 6) (.l (some (aD g3 0)) b.ps.length b.ps.length)).setCell (aD (w.heap.size+1) 0) v0).setCell (aD (w.heap.size+1) 1) v1).setCell (aD (w.heap.size+1) 2) v2).setCell (aD (w.heap.size+1) 3) v3).setCell (aD (w.heap.size+1) 4) v4).setCell (aD (w.heap.size+1) 5) v5).setCell (aD (w.heap.size+1) 6) v6):=fun v0 v1 v2 v3 v4 v5 v6=>(((((((HAB4.o.trans (yM.setCell (p:=(aD (w.heap.size+1) 0)) hlt1 v0)).trans (yM.setCell (p:=(aD (w.heap.size+1) 1)) hlt1 v1)).trans (yM.setCell (p:=(aD (w.heap.size+1) 2)) hlt1 v2)).trans (yM.setCell (p:=(aD (w.heap.size+1) 3)) hlt1 v3)).trans (yM.setCell (p:=(aD (w.heap.size+1) 4)) hlt1 v4)).trans (yM.setCell (p:=(aD (w.heap.size+1) 5)) hlt1 v5)).trans (yM.setCell (p:=(aD (w.heap.size+1) 6)) hlt1 v6))
  exact⟨HN1.o.above (((HAA2.o.trans HAA3.o).trans HAA4.o).trans (hA4 _ _ _ _ _ _ _)),HN2.o.above ((HAA3.o.trans HAA4.o).trans (hA4 _ _ _ _ _ _ _)),HN3.o.above (HAA4.o.trans (hA4 _ _ _ _ _ _ _)),HN4.o.above (hA4 _ _ _ _ _ _ _)⟩
 ·exact((((((HBB4.o.setCell (Nat.le_succ _) _).setCell (Nat.le_succ _) _).setCell (Nat.le_succ _) _).setCell (Nat.le_succ _) _).setCell (Nat.le_succ _) _).setCell (Nat.le_succ _) _).setCell (Nat.le_succ _) _
theorem zkn (b:Bk)(a0 a1 a2 a3:OA)(c0 c1 c2 c3:Nat)(w:World)(hl:qj w b a0 a1 a2 a3)(hf:b.Few) :
 Calls Tryz.prog 8 #[.agg (b.cells a0 a1 a2 a3 c0 c1 c2 c3)] w fun e w'=>∃a0' a1' a2' a3',e=.returned (.agg (b.cells a0' a1' a2' a3' b.os.length b.gs.length b.ls.length b.ps.length))/\qj w' b a0' a1' a2' a3'/\Bw w w':=by
 refine(zc9 b a0 a1 a2 a3 c0 c1 c2 c3 w hl hf).mono ?_;rintro e w'⟨lo,g0,g1,g2,g3,he,_,ho,hb⟩;exact⟨_,_,_,_,he,ho.at hl.small,hb⟩
structure zb1 (w:World)(a:OA)(ms:List Ob):Prop where
 len:ms.length<=maxLen
 rows:ms≠[]->∃b off,a=some (aD b off)/\b<w.heap.size/\∀i (h:i<ms.length),∃g0 g1 c0 c1,zsi w b (off+i*7) ms[i] (some (aD g0 0)) (some (aD g1 0)) c0 c1
theorem zb1.mono {a:OA}(h:zb1 w a ms)(hl:Bw w w'):zb1 w' a ms:=
 ⟨h.len,fun hne=>by
  obtain⟨b,off,ha,hb,hr⟩:=h.rows hne;refine⟨b,off,ha,nLt hb hl.size,fun i hi=>?_⟩;obtain⟨g0,g1,c0,c1,hf⟩:=hr i hi;exact⟨g0,g1,c0,c1,hf.mono hb hl⟩⟩
theorem zb1.load {a:OA}(h:zb1 w a ms)(hl:Bw w w')(i:Nat)(hi:i<ms.length):∃b off g0 g1 c0 c1,a=some (aD b off)/\b<w.heap.size/\ms[i].Small/\zD w' (some (aD g0 0)) ms[i].vs/\zD w' (some (aD g1 0)) ms[i].hs /\
 w'.cell? (aD b (off+i*7))=some (.s ms[i].kd)/\w'.cell? (aD b (off+i*7+1))=some (.s ms[i].nm)/\w'.cell? (aD b (off+i*7+2))=some (.s ms[i].tm)/\w'.cell? (aD b (off+i*7+3))=some (.l (some (aD g0 0)) ms[i].vs.length c0)/\w'.cell? (aD b (off+i*7+4))=some (.bool ms[i].en)/\w'.cell? (aD b (off+i*7+5))=some (.l (some (aD g1 0)) ms[i].hs.length c1)/\w'.cell? (aD b (off+i*7+6))=some (.i ms[i].vr):=by
 obtain⟨b,off,ha,hb,hr⟩:=h.rows (by rintro rfl;simp at hi);obtain⟨g0,g1,c0,c1,hf0⟩:=hr i hi;have hf:=hf0.mono hb hl;exact⟨b,off,g0,g1,c0,c1,ha,hb,hf.small,hf.l0,hf.l1,hf.cell 0 (by omega),hf.cell 1 (by omega),hf.cell 2 (by omega),hf.cell 3 (by omega),hf.cell 4 (by omega),hf.cell 5 (by omega),hf.cell 6 (by omega)⟩
theorem zaf.has (h:zaf lo w bo ms ms.length)(hs:zbJ ms)(hl:ms.length<=maxLen):zb1 w (some (aD bo 0)) ms:=by
 obtain⟨C,hC,hsz,hr⟩:=h.rows;refine⟨hl,fun _=>⟨bo,0,rfl,(gES hC).1,fun i hi=>?_⟩⟩;obtain⟨g0,g1,_,_,hk0,_,_,hk1,hc⟩:=hr i hi hi;obtain⟨s0,s1,s2⟩:=hs.small i hi;refine⟨g0,g1,ms[i].vs.length,ms[i].hs.length,s0,zdX hk0 s1.1 s1.2,zdX hk1 s2.1 s2.2,fun j hj=>?_⟩;rw[cell_of_block hC,Nat.zero_add];exact hc j hj
theorem zlw (b:Bk)(a0 a1 a2 a3:OA)(c0 c1 c2 c3:Nat)(w:World)(hl:qj w b a0 a1 a2 a3)(hf:b.Few) :
 Calls Tryz.prog 8 #[.agg (b.cells a0 a1 a2 a3 c0 c1 c2 c3)] w fun e w'=>∃a0' a1' a2' a3',e=.returned (.agg (b.cells a0' a1' a2' a3' b.os.length b.gs.length b.ls.length b.ps.length))/\qj w' b a0' a1' a2' a3'/\zb1 w' a0' b.os/\Bw w w':=by
 refine(zc9 b a0 a1 a2 a3 c0 c1 c2 c3 w hl hf).mono ?_;rintro e w'⟨lo,g0,g1,g2,g3,he,_,ho,hb⟩;exact⟨_,_,_,_,he,ho.at hl.small,ho.os.has hl.os.smalls hl.os.len,hb⟩
structure jN (lo hi:Nat)(w:World)(bo:Nat)(ms:List Ob):Prop where
 low:lo<=bo
 high:bo<hi
 rows:∃C,w.heap[bo]?=some (.cells C 116)/\C.size=ms.length*7/\∀i (h:i<ms.length),(∀j,j<7->j≠3->j≠5->zaZ C (i*7+j))/\(∃bk cap,jL lo hi w bk ms[i].vs.length/\C[i*7+3]?=some (.l (some (aD bk 0)) ms[i].vs.length cap))/\(∃bk cap,jL lo hi w bk ms[i].hs.length/\C[i*7+5]?=some (.l (some (aD bk 0)) ms[i].hs.length cap))
theorem jN.mono (h:jN lo hi w b ms)(hM:Marked lo hi w w'):jN lo hi w' b ms:=by
 obtain⟨C,hC,hs,hn⟩:=h.rows;obtain⟨C',hC',hs',hk⟩:=hM.inn b C _ h.low h.high hC;refine⟨h.low,h.high,C',hC',by omega,fun i hi=>?_⟩;obtain⟨h0,⟨bk3,cap3,f3,g3⟩,⟨bk5,cap5,f5,g5⟩⟩:=hn i hi;exact⟨fun j hj n3 n5 a m c he=>h0 j hj n3 n5 a m c ((hk _ a m c).1 he),⟨bk3,cap3,f3.mono hM,(hk _ _ _ _).2 g3⟩,⟨bk5,cap5,f5.mono hM,(hk _ _ _ _).2 g5⟩⟩
theorem zaf.form (h:zaf lo w bo ms ms.length):jN lo w.heap.size w bo ms:=by
 obtain⟨C,hC,hsz,hr⟩:=h.rows;refine⟨h.low,(gES hC).1,C,hC,hsz,fun i hi=>?_⟩;obtain⟨g0,g1,hl0,hn0,hg0,hl1,hn1,hg1,hc⟩:=hr i hi hi;refine⟨fun j hj n3 n5 a n c he=>?_,⟨g0,_,⟨hl0,(gES hg0).1,_,hg0,by simp[jS],fun j _=>zdf _ j⟩,hc 3 (by omega)⟩,⟨g1,_,⟨hl1,(gES hg1).1,_,hg1,by simp[jS],fun j _=>zdf _ j⟩,hc 5 (by omega)⟩⟩;rw[hc j hj]at he
 rcases j with _|_|_|_|_|_|_|j <;> first|omega|(simp[Ob.row]at he)
theorem jN.ready {W:World}(h:jN lo hi w bo ms)(hM:Marked lo hi w W)(i:Nat)(hi':i<ms.length) :
 (∀j,j<7->∃v,W.cell? (aD bo (i*7+j))=some v)/\(∀o,W.frozen? (aD bo o)=false):=by
 have h':=h.mono hM;obtain⟨C,hC,hs,hn⟩:=h'.rows;exact⟨fun j hj=>⟨C[i*7+j]'(by omega),by rw[cell_of_block hC];exact Array.getElem?_eq_getElem (by omega)⟩,fun o=>zf hC⟩
theorem jN.put {W:World}(h:jN lo hi w bo ms)(hM:Marked lo hi w W)(i j:Nat)(hi':i<ms.length)(hj:j<7)(n3:j≠3)(n5:j≠5)(v:Value)(hv:∀a n c,v≠Value.slice a n c):Marked lo hi w (W.setCell (aD bo (i*7+j)) v):=by
 obtain⟨C,hC,hs,hn⟩:=h.rows;exact hM.put h.low h.high hC ((hn i hi').1 j hj n3 n5) v hv
theorem jN.zsS (h:jN lo hi w bo ms)(i:Nat)(hi':i<ms.length) :
 ∃bk cap,jL lo hi w bk ms[i].vs.length/\∀W,Marked lo hi w W->W.cell? (aD bo (i*7+3))=some (.l (some (aD bk 0)) ms[i].vs.length cap):=by
 obtain⟨C,hC,hs,hn⟩:=h.rows;obtain⟨bk,cap,h1,h2⟩:=(hn i hi').2.1;refine⟨bk,cap,h1,fun W hM=>?_⟩;obtain⟨C',hC',_,hk⟩:=hM.inn bo C _ h.low h.high hC;rw[cell_of_block hC'];exact(hk _ _ _ _).2 h2
theorem jN.zuj (h:jN lo hi w bo ms)(i:Nat)(hi':i<ms.length) :
 ∃bk cap,jL lo hi w bk ms[i].hs.length/\∀W,Marked lo hi w W->W.cell? (aD bo (i*7+5))=some (.l (some (aD bk 0)) ms[i].hs.length cap):=by
 obtain⟨C,hC,hs,hn⟩:=h.rows;obtain⟨bk,cap,h1,h2⟩:=(hn i hi').2.2;refine⟨bk,cap,h1,fun W hM=>?_⟩;obtain⟨C',hC',_,hk⟩:=hM.inn bo C _ h.low h.high hC;rw[cell_of_block hC'];exact(hk _ _ _ _).2 h2
theorem zf3 (lo hi bo cap:Nat)(ms:List Ob)(k:Int)(w:World)(h:jN lo hi w bo ms)(hl:ms.length<=1048576)(hls:∀i (h:i<ms.length),ms[i].vs.length<=1048576/\ms[i].hs.length<=1048576)(hk:0<k)(hk2:k<5000000000000000000) :
 Calls Tryz.prog 47 #[.l (some (aD bo 0)) ms.length cap,.i k] w fun e w'=>∃k',e=.returned (.i k')/\k<=k'/\k'<=k+ms.length*2097159/\Marked lo hi w w':=by
 have HF:Hid (jN lo hi w bo ms):=h;have HL:Hid (ms.length<=1048576/\∀i (h:i<ms.length),ms[i].vs.length<=1048576/\ms[i].hs.length<=1048576):=⟨hl,hls⟩
 have HK:Hid (0<k/\k<5000000000000000000):=⟨hk,hk2⟩
 clear h hl hk hk2 hls;go_in;go_wp2
 go_loopw [1,5] (fun kv iv wr=>∃(i:Nat) (kk:Int),i<=ms.length/\kv=.i kk/\iv=.i i/\k<=kk/\kk<=k+i*2097159/\Marked lo hi w wr) (fun _ iv _=>ms.length-(intOf iv).toNat)
 case atStart=>exact⟨0,k,Nat.zero_le _,rfl,rfl,Int.le_refl _,by simp,Marked.refl _ _ _⟩
 case round=>
  obtain⟨i,kk,hile,rfl,rfl,h1,h2,hM⟩:=hrel
  by_cases hlt:i<ms.length
  ·have hltI:(i:Int)<(ms.length:Int):=by omega
   have HB:Hid (0<kk/\kk<7000000000000000000/\kk<=k+i*2097159/\k<=kk):=by have a:=HK.o;have b:=HL.o.1;exact⟨by omega,by omega,h2,h1⟩
   have HM:Hid (Marked lo hi w wr):=hM;clear h1 h2 hM;obtain⟨bk3,bc3,hT,hsl⟩:=HF.o.zsS i hlt;have HT3:Hid (jL lo hi w bk3 ms[i].vs.length/\∀W,Marked lo hi w W->W.cell? (aD bo (i*7+3))=some (.l (some (aD bk3 0)) ms[i].vs.length bc3)):=⟨hT,hsl⟩
   clear hT hsl;obtain⟨bk5,bc5,hT,hsl⟩:=HF.o.zuj i hlt;have HT5:Hid (jL lo hi w bk5 ms[i].hs.length/\∀W,Marked lo hi w W->W.cell? (aD bo (i*7+5))=some (.l (some (aD bk5 0)) ms[i].hs.length bc5)):=⟨hT,hsl⟩
   clear hT hsl;go_wp2_with fail
   refine(zP _ _ (by have a0:=HB.o;omega) (by have a0:=HB.o;omega)).mono ?_;rintro e wm1⟨s1,rfl,hb⟩;have HM1:Hid (Marked lo hi w wm1):=(HM.o).trans (Marked.of_below hb);clear hb;obtain⟨hex,hfz1⟩:=HF.o.ready (HM1.o) i hlt;obtain⟨v1,hv1⟩:=hex 0 (by omega);rw[Nat.add_zero]at hv1;clear hex;have HP1_0:Hid (Marked lo hi w (wm1.setCell (aD bo (i*7)) (.s s1))):=HF.o.put (HM1.o) i 0 hlt (by omega) (by omega) (by omega) (.s s1) (fun _ _ _ h=>by cases h);have hw1:wrap64 (kk+1)=kk+1:=zx _ ⟨by have a0:=HB.o;omega,by have a0:=HB.o;omega⟩;go_wp2_with fail
   clear hfz1 hv1;refine(zP _ _ (by have a0:=HB.o;omega) (by have a0:=HB.o;omega)).mono ?_;rintro e wm2⟨s2,rfl,hb⟩;have HM2:Hid (Marked lo hi w wm2):=(HP1_0.o).trans (Marked.of_below hb);clear hb;obtain⟨hex,hfz2⟩:=HF.o.ready (HM2.o) i hlt;obtain⟨v2,hv2⟩:=hex 1 (by omega);clear hex;have HP2_1:Hid (Marked lo hi w (wm2.setCell (aD bo (i*7+1)) (.s s2))):=HF.o.put (HM2.o) i 1 hlt (by omega) (by omega) (by omega) (.s s2) (fun _ _ _ h=>by cases h);have hw2:wrap64 (kk+1+1)=kk+1+1:=zx _ ⟨by have a0:=HB.o;omega,by have a0:=HB.o;omega⟩;go_wp2_with fail
   clear hfz2 hv2;refine(zP _ _ (by have a0:=HB.o;omega) (by have a0:=HB.o;omega)).mono ?_;rintro e wm3⟨s3,rfl,hb⟩;have HM3:Hid (Marked lo hi w wm3):=(HP2_1.o).trans (Marked.of_below hb);clear hb;obtain⟨hex,hfz3⟩:=HF.o.ready (HM3.o) i hlt;obtain⟨v3,hv3⟩:=hex 2 (by omega);clear hex;have HP3_2:Hid (Marked lo hi w (wm3.setCell (aD bo (i*7+2)) (.s s3))):=HF.o.put (HM3.o) i 2 hlt (by omega) (by omega) (by omega) (.s s3) (fun _ _ _ h=>by cases h);have hw3:wrap64 (kk+1+1+1)=kk+1+1+1:=zx _ ⟨by have a0:=HB.o;omega,by have a0:=HB.o;omega⟩;have hsl3:=HT3.o.2 _ (HP3_2.o);go_wp2_with fail
   clear hfz3 hv3 hsl3;refine(zb7 lo hi bk3 _ bc3 _ _ (HT3.o.1.mono (HP3_2.o)) ((HL.o.2 i hlt).1) (by have a0:=HB.o;omega) (by have a0:=HB.o;omega)).mono ?_;rintro e wm4⟨k4,rfl,hke,hMn⟩;have HM4:Hid (Marked lo hi w wm4):=(HP3_2.o).trans hMn;have HK4:Hid (k4=kk+1+1+1+ms[i].vs.length/\ms[i].vs.length<=1048576):=⟨by omega,(HL.o.2 i hlt).1⟩
   clear hMn hke;obtain⟨hex,hfz4⟩:=HF.o.ready (HM4.o) i hlt;obtain⟨v4,hv4⟩:=hex 4 (by omega);clear hex;have HP4_4:Hid (Marked lo hi w (wm4.setCell (aD bo (i*7+4)) (.bool (k4 % 3 == 0)))):=HF.o.put (HM4.o) i 4 hlt (by omega) (by omega) (by omega) (.bool (k4 % 3 == 0)) (fun _ _ _ h=>by cases h);have htm:(k4).tmod 3=k4 % 3:=Int.tmod_eq_emod_of_nonneg (by have a0:=HB.o;have a1:=HK4.o;omega);have hwm:wrap64 (k4 % 3)=k4 % 3:=zx _ ⟨by omega,by omega⟩;have hw4:wrap64 (k4+1)=k4+1:=zx _ ⟨by have a0:=HB.o;have a1:=HK4.o;omega,by have a0:=HB.o;have a1:=HK4.o;omega⟩;have hsl5:=HT5.o.2 _ (HP4_4.o);go_wp2_with fail
   clear hfz4 hv4 htm hwm hsl5;refine(zb7 lo hi bk5 _ bc5 _ _ (HT5.o.1.mono (HP4_4.o)) ((HL.o.2 i hlt).2) (by have a0:=HB.o;have a1:=HK4.o;omega) (by have a0:=HB.o;have a1:=HK4.o;omega)).mono ?_;rintro e wm5⟨k5,rfl,hke,hMn⟩;have HM5:Hid (Marked lo hi w wm5):=(HP4_4.o).trans hMn;have HK5:Hid (k5=k4+1+ms[i].hs.length/\ms[i].hs.length<=1048576):=⟨by omega,(HL.o.2 i hlt).2⟩
   clear hMn hke;obtain⟨hex,hfz5⟩:=HF.o.ready (HM5.o) i hlt;obtain⟨v5,hv5⟩:=hex 6 (by omega);clear hex;have HP5_6:Hid (Marked lo hi w (wm5.setCell (aD bo (i*7+6)) (.i (k5)))):=HF.o.put (HM5.o) i 6 hlt (by omega) (by omega) (by omega) (.i (k5)) (fun _ _ _ h=>by cases h);have hw5:wrap64 (k5+1)=k5+1:=zx _ ⟨by have a0:=HB.o;have a1:=HK4.o;have a2:=HK5.o;omega,by have a0:=HB.o;have a1:=HK4.o;have a2:=HK5.o;omega⟩;go_wp2
   go_roundw
   case rel=>exact⟨i+1,k5+1,by omega,by first|rfl|rw[hw5],by rw[wrap_one (by have:=HL.o.1;omega)],by have a0:=HB.o;have a1:=HK4.o;have a2:=HK5.o;omega,by have a0:=HB.o;have a1:=HK4.o;have a2:=HK5.o;omega,HP5_6.o⟩
   case measure=>exact yO hlt (by have:=HL.o.1;omega)
  ·have e:i=ms.length:=by omega
   subst e;go_wp2
   go_ret;exact⟨kk,rfl,h1,h2,hM⟩
def Kept (lo hi:Nat)(w w':World):Prop:=∀(k:Nat) (C:AV) (t:TypeId),lo<=k->k<hi->w.heap[k]?=some (.cells C t)->∃C':AV,w'.heap[k]?=some (.cells C' t)/\C'.size=C.size/\∀(j:Nat) a n c,C'[j]?=some (Value.slice a n c)↔C[j]?=some (Value.slice a n c)
theorem Marked.kept (h:Marked lo hi w w'):Kept lo hi w w':=h.inn
theorem Kept.of_below (h:Bw w w'):Kept lo hi w w':=(Marked.of_below h).kept
theorem Kept.apart {lo' hi':Nat}(h:Marked lo hi w w')(ha:hi<=lo' \/ hi'<=lo):Kept lo' hi' w w':=fun k C _ h1 h2 hC=>⟨C,(h.out k (gES hC).1 (by omega)).trans hC,rfl,fun _ _ _ _=>Iff.rfl⟩
theorem jL.kept {n:Nat}(h:jL lo hi w b n)(hM:Kept lo hi w w'):jL lo hi w' b n:=by
 obtain⟨C,hC,hs,hn⟩:=h.rows;obtain⟨C',hC',hs',hk⟩:=hM b C _ h.low h.high hC;exact⟨h.low,h.high,C',hC',by omega,fun j hj a m c he=>hn j hj a m c ((hk j a m c).1 he)⟩
theorem jm.kept (h:jm lo hi w b fs)(hM:Kept lo hi w w'):jm lo hi w' b fs:=by
 obtain⟨C,hC,hs,hn⟩:=h.rows;obtain⟨C',hC',hs',hk⟩:=hM b C _ h.low h.high hC;refine⟨h.low,h.high,C',hC',by omega,fun i hi=>?_⟩;obtain⟨bk,cap,h1,h2,h3⟩:=hn i hi;exact⟨bk,cap,h1.kept hM,(hk _ _ _ _).2 h2,fun j hj hj4 a m c he=>h3 j hj hj4 a m c ((hk _ a m c).1 he)⟩
theorem jI.kept {ss:List Shp}(h:jI lo hi w b ss)(hM:Kept lo hi w w'):jI lo hi w' b ss:=by
 obtain⟨C,hC,hs,hn⟩:=h.rows;obtain⟨C',hC',hs',hk⟩:=hM b C _ h.low h.high hC;refine⟨h.low,h.high,C',hC',by omega,fun i hi=>?_⟩;obtain⟨bk,cap,h1,h2,h3⟩:=hn i hi;exact⟨bk,cap,h1.kept hM,(hk _ _ _ _).2 h2,fun a m c he=>h3 a m c ((hk _ a m c).1 he)⟩
theorem jW.kept {ms:List Mnd}(h:jW lo hi w b ms)(hM:Kept lo hi w w'):jW lo hi w' b ms:=by
 obtain⟨C,hC,hs,hn⟩:=h.rows;obtain⟨C',hC',hs',hk⟩:=hM b C _ h.low h.high hC;exact⟨h.low,h.high,C',hC',by omega,fun j hj a m c he=>hn j hj a m c ((hk j a m c).1 he)⟩
theorem zaO.kept {ms:List Tm}(h:zaO lo hi w b ms)(hM:Kept lo hi w w'):zaO lo hi w' b ms:=by
 obtain⟨C,hC,hs,hn⟩:=h.rows;obtain⟨C',hC',hs',hk⟩:=hM b C _ h.low h.high hC;refine⟨h.low,h.high,C',hC',by omega,fun i hi=>?_⟩;have h0:=hn i hi;exact fun j hj a m c he=>h0 j hj a m c ((hk _ a m c).1 he)
theorem zaN.kept {ms:List Lg}(h:zaN lo hi w b ms)(hM:Kept lo hi w w'):zaN lo hi w' b ms:=by
 obtain⟨C,hC,hs,hn⟩:=h.rows;obtain⟨C',hC',hs',hk⟩:=hM b C _ h.low h.high hC;refine⟨h.low,h.high,C',hC',by omega,fun i hi=>?_⟩;have h0:=hn i hi;exact fun j hj a m c he=>h0 j hj a m c ((hk _ a m c).1 he)
theorem zaL.kept {ms:List Pu}(h:zaL lo hi w b ms)(hM:Kept lo hi w w'):zaL lo hi w' b ms:=by
 obtain⟨C,hC,hs,hn⟩:=h.rows;obtain⟨C',hC',hs',hk⟩:=hM b C _ h.low h.high hC;refine⟨h.low,h.high,C',hC',by omega,fun i hi=>?_⟩;have h0:=hn i hi;exact fun j hj a m c he=>h0 j hj a m c ((hk _ a m c).1 he)
theorem za4.kept {n:Nat}(h:za4 lo hi w b n)(hM:Kept lo hi w w'):za4 lo hi w' b n:=by
 obtain⟨C,hC,hs,hn⟩:=h.rows;obtain⟨C',hC',hs',hk⟩:=hM b C _ h.low h.high hC;exact⟨h.low,h.high,C',hC',by omega,fun j hj a m c he=>hn j hj a m c ((hk j a m c).1 he)⟩
theorem zac.kept {ms:List Gr}(h:zac lo hi w b ms)(hM:Kept lo hi w w'):zac lo hi w' b ms:=by
 obtain⟨C,hC,hs,hn⟩:=h.rows;obtain⟨C',hC',hs',hk⟩:=hM b C _ h.low h.high hC;refine⟨h.low,h.high,C',hC',by omega,fun i hi=>?_⟩;obtain⟨h0,bk,cap,f1,g1⟩:=hn i hi;exact⟨fun j hj n3 a m c he=>h0 j hj n3 a m c ((hk _ a m c).1 he),bk,cap,f1.kept hM,(hk _ _ _ _).2 g1⟩
theorem jN.kept (h:jN lo hi w b ms)(hM:Kept lo hi w w'):jN lo hi w' b ms:=by
 obtain⟨C,hC,hs,hn⟩:=h.rows;obtain⟨C',hC',hs',hk⟩:=hM b C _ h.low h.high hC;refine⟨h.low,h.high,C',hC',by omega,fun i hi=>?_⟩;obtain⟨h0,⟨bk,cap,f1,g1⟩,⟨bk2,cap2,f2,g2⟩⟩:=hn i hi;exact⟨fun j hj n3 n5 a m c he=>h0 j hj n3 n5 a m c ((hk _ a m c).1 he),⟨bk,cap,f1.kept hM,(hk _ _ _ _).2 g1⟩,⟨bk2,cap2,f2.kept hM,(hk _ _ _ _).2 g2⟩⟩
structure zff (lo hi:Nat)(w:World)(l:Lw)(a b c:Nat):Prop where
 ss:jI lo hi w a l.ss
 ms:jW lo hi w b l.ms
 ts:zaO lo hi w c l.ts
structure zfm (lo hi:Nat)(w:World)(b:Bk)(g0 g1 g2 g3:Nat):Prop where
 os:jN lo hi w g0 b.os
 gs:zac lo hi w g1 b.gs
 ls:zaN lo hi w g2 b.ls
 ps:zaL lo hi w g3 b.ps
theorem zff.kept (h:zff lo hi w l a b c)(hM:Kept lo hi w w'):zff lo hi w' l a b c:=⟨h.ss.kept hM,h.ms.kept hM,h.ts.kept hM⟩
theorem zfm.kept {b:Bk}(h:zfm lo hi w b g0 g1 g2 g3)(hM:Kept lo hi w w'):zfm lo hi w' b g0 g1 g2 g3:=⟨h.os.kept hM,h.gs.kept hM,h.ls.kept hM,h.ps.kept hM⟩
theorem zff.mono (h:zff lo hi w l a b c)(hb:Bw w w'):zff lo hi w' l a b c:=h.kept (Kept.of_below hb)
theorem zfm.mono {b:Bk}(h:zfm lo hi w b g0 g1 g2 g3)(hb:Bw w w'):zfm lo hi w' b g0 g1 g2 g3:=h.kept (Kept.of_below hb)
theorem zpo.form (h:zpo lo w l a b c):zff lo w.heap.size w l a b c:=⟨h.ss.form,h.ms.form,h.ts.form⟩
theorem zoC.form {b:Bk}(h:zoC lo w b g0 g1 g2 g3):zfm lo w.heap.size w b g0 g1 g2 g3:=⟨h.os.form,h.gs.form,h.ls.form,h.ps.form⟩
theorem zit (l:Lw)(a b c ca cb cc:Nat)(lo hi:Nat)(k:Int)(w:World)(h:zff lo hi w l a b c)(hf:l.Few)(hhi:hi<=w.heap.size)(hk:0<k)(hk2:k<1000000000000000000) :
 Calls Tryz.prog 12 #[.agg (lC l (some (aD a 0)) (some (aD b 0)) (some (aD c 0)) ca cb cc),.i k] w fun e w'=>∃k',e=.returned (.i k')/\0<k'/\k'<3000000000000000000/\Marked lo hi w w':=by
 have HF:=hid h;have HL:=hid hf;have HK:Hid (0<k/\k<1000000000000000000):=⟨hk,hk2⟩
 clear h hf hk hk2;go_in;go_wp2_with fail
 have hX0:=zI w (lC l (some (aD a 0)) (some (aD b 0)) (some (aD c 0)) ca cb cc) 47;have HM0:Hid (Marked lo hi w (w.alloc (.cells (lC l (some (aD a 0)) (some (aD b 0)) (some (aD c 0)) ca cb cc) 47))):=Marked.of_below (bAl _ _);obtain⟨W0,hW0⟩:=xN (w.alloc (.cells (lC l (some (aD a 0)) (some (aD b 0)) (some (aD c 0)) ca cb cc) 47));have hz0:w.heap.size<W0.heap.size:=by rw[hW0];simp
 rw[<- hW0]at hX0 HM0 ⊢;clear hW0;refine(zgI lo hi _ _ _ _ _ (HF.o.ss.mono HM0.o) HL.o.ss.1 HL.o.ss.2 (by have a0:=HK.o;omega) (by have a0:=HK.o;omega)).mono ?_;rintro e w1⟨k1,rfl,h1,h2,hM⟩;have HK1:Hid (k<=k1/\k1<=k+1200000000000000000):=⟨h1,by have:=HL.o;have c1:=HL.o.ss.1;omega⟩
 have HM1:=hid (HM0.o.trans hM);have hX1:=hM.box hX0 hz0 (Or.inr hhi);have hz1:=nLt hz0 hM.size;clear h1 h2 hM hX0 hz0;go_wp2_with fail
 refine(zhe lo hi _ _ _ _ _ (HF.o.ms.mono HM1.o) HL.o.ms (by have a0:=HK.o;have b1:=HK1.o;omega) (by have a0:=HK.o;have b1:=HK1.o;omega)).mono ?_;rintro e w2⟨k2,rfl,h1,h2,hM⟩;have HK2:Hid (k1<=k2/\k2<=k1+10000000):=⟨h1,by have:=HL.o;have c1:=HL.o.ms;omega⟩
 have HM2:=hid (HM1.o.trans hM);have hX2:=hM.box hX1 hz1 (Or.inr hhi);have hz2:=nLt hz1 hM.size;clear h1 h2 hM hX1 hz1;go_wp2_with fail
 refine(zhw lo hi _ _ _ _ _ (HF.o.ts.mono HM2.o) HL.o.ts (by have a0:=HK.o;have b1:=HK1.o;have b2:=HK2.o;omega) (by have a0:=HK.o;have b1:=HK1.o;have b2:=HK2.o;omega)).mono ?_;rintro e w3⟨k3,rfl,h1,h2,hM⟩;have HK3:Hid (k2<=k3/\k3<=k2+10000000):=⟨h1,by have:=HL.o;have c1:=HL.o.ts;omega⟩
 have HM3:=hid (HM2.o.trans hM);have hX3:=hM.box hX2 hz2 (Or.inr hhi);have hz3:=nLt hz2 hM.size;clear h1 h2 hM hX2 hz2;go_wp2
 go_ret;exact⟨k3,rfl,by have a0:=HK.o;have b1:=HK1.o;have b2:=HK2.o;have b3:=HK3.o;omega,by have a0:=HK.o;have b1:=HK1.o;have b2:=HK2.o;have b3:=HK3.o;omega,HM3.o⟩
theorem zhN (b:Bk)(g0 g1 g2 g3 c0 c1 c2 c3:Nat)(lo hi:Nat)(k:Int)(w:World)(h:zfm lo hi w b g0 g1 g2 g3)(hf:b.Few)(hhi:hi<=w.heap.size)(hk:0<k)(hk2:k<3000000000000000000) :
 Calls Tryz.prog 13 #[.agg (bC b (some (aD g0 0)) (some (aD g1 0)) (some (aD g2 0)) (some (aD g3 0)) c0 c1 c2 c3),.i k] w fun e w'=>∃k',e=.returned (.i k')/\0<k'/\k'<4000000000000000000/\Marked lo hi w w':=by
 have HF:=hid h;have HL:=hid hf;have HK:Hid (0<k/\k<3000000000000000000):=⟨hk,hk2⟩
 clear h hf hk hk2;go_in;go_wp2_with fail
 have hX0:=zI w (bC b (some (aD g0 0)) (some (aD g1 0)) (some (aD g2 0)) (some (aD g3 0)) c0 c1 c2 c3) 40;have HM0:Hid (Marked lo hi w (w.alloc (.cells (bC b (some (aD g0 0)) (some (aD g1 0)) (some (aD g2 0)) (some (aD g3 0)) c0 c1 c2 c3) 40))):=Marked.of_below (bAl _ _);obtain⟨W0,hW0⟩:=xN (w.alloc (.cells (bC b (some (aD g0 0)) (some (aD g1 0)) (some (aD g2 0)) (some (aD g3 0)) c0 c1 c2 c3) 40));have hz0:w.heap.size<W0.heap.size:=by rw[hW0];simp
 rw[<- hW0]at hX0 HM0 ⊢;clear hW0;refine(zf3 lo hi _ _ _ _ _ (HF.o.os.mono HM0.o) HL.o.os.1 HL.o.os.2 (by have a0:=HK.o;omega) (by have a0:=HK.o;omega)).mono ?_;rintro e w1⟨k1,rfl,h1,h2,hM⟩;have HK1:Hid (k<=k1/\k1<=k+3000000000000):=⟨h1,by have:=HL.o;have c1:=HL.o.os.1;omega⟩
 have HM1:=hid (HM0.o.trans hM);have hX1:=hM.box hX0 hz0 (Or.inr hhi);have hz1:=nLt hz0 hM.size;clear h1 h2 hM hX0 hz0;go_wp2_with fail
 refine(zgO lo hi _ _ _ _ _ (HF.o.gs.mono HM1.o) HL.o.gs.1 HL.o.gs.2 (by have a0:=HK.o;have b1:=HK1.o;omega) (by have a0:=HK.o;have b1:=HK1.o;omega)).mono ?_;rintro e w2⟨k2,rfl,h1,h2,hM⟩;have HK2:Hid (k1<=k2/\k2<=k1+3000000000000):=⟨h1,by have:=HL.o;have c1:=HL.o.gs.1;omega⟩
 have HM2:=hid (HM1.o.trans hM);have hX2:=hM.box hX1 hz1 (Or.inr hhi);have hz2:=nLt hz1 hM.size;clear h1 h2 hM hX1 hz1;go_wp2_with fail
 refine(zf4 lo hi _ _ _ _ _ (HF.o.ls.mono HM2.o) HL.o.ls (by have a0:=HK.o;have b1:=HK1.o;have b2:=HK2.o;omega) (by have a0:=HK.o;have b1:=HK1.o;have b2:=HK2.o;omega)).mono ?_;rintro e w3⟨k3,rfl,h1,h2,hM⟩;have HK3:Hid (k2<=k3/\k3<=k2+10000000):=⟨h1,by have:=HL.o;have c1:=HL.o.ls;omega⟩
 have HM3:=hid (HM2.o.trans hM);have hX3:=hM.box hX2 hz2 (Or.inr hhi);have hz3:=nLt hz2 hM.size;clear h1 h2 hM hX2 hz2;go_wp2_with fail
 refine(zgM lo hi _ _ _ _ _ (HF.o.ps.mono HM3.o) HL.o.ps (by have a0:=HK.o;have b1:=HK1.o;have b2:=HK2.o;have b3:=HK3.o;omega) (by have a0:=HK.o;have b1:=HK1.o;have b2:=HK2.o;have b3:=HK3.o;omega)).mono ?_;rintro e w4⟨k4,rfl,h1,h2,hM⟩;have HK4:Hid (k3<=k4/\k4<=k3+10000000):=⟨h1,by have:=HL.o;have c1:=HL.o.ps;omega⟩
 have HM4:=hid (HM3.o.trans hM);have hX4:=hM.box hX3 hz3 (Or.inr hhi);have hz4:=nLt hz3 hM.size;clear h1 h2 hM hX3 hz3;go_wp2
 go_ret;exact⟨k4,rfl,by have a0:=HK.o;have b1:=HK1.o;have b2:=HK2.o;have b3:=HK3.o;have b4:=HK4.o;omega,by have a0:=HK.o;have b1:=HK1.o;have b2:=HK2.o;have b3:=HK3.o;have b4:=HK4.o;omega,HM4.o⟩
end Go.Proofs.YtjnpjkigofldlaaGreat
