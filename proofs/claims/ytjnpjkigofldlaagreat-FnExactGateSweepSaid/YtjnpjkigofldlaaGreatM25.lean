import Derived.Test.YtjnpjkigofldlaaGreatM19
set_option maxHeartbeats 4000000
namespace Go.Proofs.YtjnpjkigofldlaaGreat
open Go.RowKit
theorem zb9 (a:OA)(cap:Nat)(ss:List Shp)(w:World)(hw:yU w a ss) :
 Calls Tryz.prog 156 #[.l a ss.length cap] w fun e w'=>e=.returned (.bool (zQ ss))/\Bw w w':=by
 have hl:=hw.len;unfold maxLen at hl
 by_cases h6:ss.length<=6
 rotate_left
 ·have HF:Hid (zQ ss=false):=by simp[Hid,zQ,h6]
  clear hw;go_in
  go_wp2
  go_ret;exact⟨ze HF.o.symm,bRf _ _⟩
 have HG:Hid (zQ ss=up (yR ss) ss.length):=by simp[Hid,zQ,h6]
 have h6I:(ss.length:Int)<=6:=by omega
 go_in;go_wp2
 go_loopw [3] (fun i wr=>∃k:Nat,k<=ss.length/\i=.i k/\up (yR ss) k=true/\Bw w wr) (fun i _=>ss.length-(intOf i).toNat)
 case atStart=>exact⟨0,Nat.zero_le _,rfl,rfl,bRf _ _⟩
 case round=>
  obtain⟨k,hk,rfl,hup,hB⟩:=hrel;obtain⟨W0,rfl⟩:∃W0,W0=wr:=⟨wr,rfl⟩
  have hsz:=hB.size
  by_cases hlt:k<ss.length
  ·obtain⟨b,off,rfl,hb,hrw⟩:=hw.rows (by rintro rfl;simp at hlt)
   have hbr:b<W0.heap.size:=by omega
   have hall:=hw.mono hB;obtain⟨fa,fcap,hs⟩:=hrw k hlt;have hs':=hs.mono hb hB;have hck:=hs'.kind;have hcl:=hs'.list;have hfl:=hs'.zdE;have hsm:=hs.small;have HS:Hid (yR ss k=true->up (yR ss) (k+1)=true):=fun h=>by rw[zab,hup,h];rfl
   have HN:Hid (yR ss k=false->zQ ss=false):=fun h=>by rw[HG.o];exact zbL hlt h
   have hltI:(k:Int)<(ss.length:Int):=by omega
   by_cases hn:zC ss[k].kd=true
   rotate_left
   ·have HNm:Hid (zC ss[k].kd=false):=by simpa[Hid] using hn
    have HF:Hid (yR ss k=false):=by
     unfold Hid yR;rw[getD_at ss k _ hlt,HNm.o];rfl
    clear hn hup hw hrw hs hs';go_wp2_with fail
    go_quiet ((go_at_call 122;exact Calls.quiet_of_same (zw HNm.o (yg _ _ hsm))))
    go_wp2
    go_ret;exact⟨ze (HN.o HF.o).symm,below_drewN (hB.alloc hsz _) _⟩
   have HNm:Hid (zC ss[k].kd=true):=hn;clear hn;have hcl6:=hfl.len;unfold maxLen at hcl6
   by_cases hbad:0<k/\less (ss.getD (k-1) zbg).kd ss[k].kd=false
   ·obtain⟨hkpos,hls⟩:=hbad
    rw[getD_at ss (k-1) _ (by omega)]at hls;obtain⟨fam,fcapm,hsm0⟩:=hrw (k-1) (by omega);have hcm:=(hsm0.mono hb hB).kind;have hls':Op.bytesLess ss[k-1].kd.toList ss[k].kd.toList=false:=hls;have hg:decide (0<k)=true:=by simp;omega
    have hk1:(0:Int)<=(k:Int)-1:=by omega
    have hk2:(k:Int)-1<(ss.length:Int):=by omega
    have HF:Hid (yR ss k=false):=by
     unfold Hid yR;rw[getD_at ss k _ hlt,getD_at ss (k-1) _ (by omega),hls,decide_eq_false (show ¬k=0 by omega)];simp
    clear hup hw hrw hs hs' hls hsm0;go_wp2_with fail
    go_quiet ((go_at_call 122;exact Calls.quiet_of_same (zw HNm.o (yg _ _ hsm))))
    go_wp2
    go_ret;exact⟨ze (HN.o HF.o).symm,below_drewN (hB.alloc hsz _) _⟩
   have hgood:(decide (0<k)=false/\yR ss k=yS ss ss[k].fs) \/ (decide (0<k)=true/\yR ss k=yS ss ss[k].fs/\(0:Int)<=(k:Int)-1/\(k:Int)-1<(ss.length:Int)/\∃h:k-1<ss.length,Op.bytesLess ss[k-1].kd.toList ss[k].kd.toList=true/\W0.cell? (aD b (off+(k-1)*2))=some (.s ss[k-1].kd)):=by
    by_cases hk0:k=0
    ·refine Or.inl ⟨by simp;omega,?_⟩
     subst hk0;rw[zgu ss hlt,HNm.o];rfl
    ·obtain⟨fam,fcapm,hsm0⟩:=hrw (k-1) (by omega)
     have hls:less ss[k-1].kd ss[k].kd=true:=by
      rw[getD_at ss (k-1) _ (by omega)]at hbad
      cases h:less ss[k-1].kd ss[k].kd with
      | true=>rfl
      | false=>exact absurd ⟨by omega,h⟩ hbad
     refine Or.inr ⟨by simp;omega,?_,by omega,by omega,by omega,hls,(hsm0.mono hb hB).kind⟩;unfold yR;rw[getD_at ss k _ hlt,getD_at ss (k-1) _ (by omega),hls,HNm.o];simp
   clear hup hw hrw hs hs' hbad
   rcases hgood with⟨hg,hAA⟩|⟨hg,hAA,hk1,hk2,hkm,hls',hcm⟩
   all_goals
    have HA:=hid hAA;clear hAA
    by_cases h6f:ss[k].fs.length<=6
    rotate_left
    ·have HF:Hid (yR ss k=false):=by rw[HA.o];simp[Hid,yS,h6f]
     have h6fI:(6:Int)<(ss[k].fs.length:Int):=by omega
     go_wp2_with fail
     go_quiet ((go_at_call 122;exact Calls.quiet_of_same (zw HNm.o (yg _ _ hsm))))
     go_wp2
     go_ret;exact⟨ze (HN.o HF.o).symm,below_drewN (hB.alloc hsz _) _⟩
    have h6fI:(ss[k].fs.length:Int)<=6:=by omega
    have HFG:Hid (yS ss ss[k].fs=up (zfw ss ss[k].fs) ss[k].fs.length):=by simp[Hid,yS,h6f]
    go_wp2_with fail
    go_quiet ((go_at_call 122;exact Calls.quiet_of_same (zw HNm.o (yg _ _ hsm))))
    go_wp2
    go_loopw [5] (fun i wr2=>∃k2:Nat,k2<=ss[k].fs.length/\i=.i k2/\up (zfw ss ss[k].fs) k2=true/\Below (W0.heap.size+1) (W0.alloc (.cells #[.s ss[k].kd,.l fa ss[k].fs.length fcap] 130)) wr2) (fun i _=>ss[k].fs.length-(intOf i).toNat)
    case atStart=>exact⟨0,Nat.zero_le _,rfl,rfl,below_drewN (bRf _ _) _⟩
    case round=>
     obtain⟨k2,hk2',rfl,hup2,hBl⟩:=hrel;obtain⟨W2,rfl⟩:∃W2,W2=wr:=⟨wr,rfl⟩
     have hsz2:W0.heap.size<W2.heap.size:=by have:=hBl.size;simp at this;omega
     have hB02:Bw W0 W2:=(bAl _ _).trans (hBl.mono (by omega));have hB2:=hB.trans (hB02.mono hsz);have hY1:W2.cell? (aD W0.heap.size 1)=some (.l fa ss[k].fs.length fcap):=(hBl.cell (p:=(aD W0.heap.size 1)) (by simp)).trans (by rw[World.cell?_alloc_at _ _ _ _ rfl];rfl)
     by_cases hlt2:k2<ss[k].fs.length
     ·obtain⟨fb,foff,rfl,hfb,hfr⟩:=hfl.rows (by intro h;rw[h]at hlt2;simp at hlt2)
      obtain⟨wa,wcap,hf0⟩:=hfr k2 hlt2;have hf:=hf0.mono hfb hB02;obtain⟨c0,c1,c2,c3,c4,c5,c6,c7,c8,c9,c10⟩:=hf.load;have hsmf:=hf.small;have hstf:=hf.strs;have hall2:=hall.mono hB02;have HO:=hid (zhn ss ss[k].fs k2 hlt2);have HS2:Hid (zfw ss ss[k].fs k2=true->up (zfw ss ss[k].fs) (k2+1)=true):=fun h=>by rw[zab,hup2,h];rfl
      have HN2:Hid (zfw ss ss[k].fs k2=false->zQ ss=false):=fun h=>HN.o (by rw[HA.o,HFG.o];exact zbL hlt2 h)
      have hltI2:(k2:Int)<(ss[k].fs.length:Int):=by omega
      by_cases hfo:(zC ss[k].fs[k2].nm&&zau ss ss[k].fs[k2])=true
      ·have HFO:=hid hfo
       clear hfo hup2;go_wp2_with fail
       refine(zw HFO.o (zgp _ _ _ _ _ _ _ _ _ _ _ _ _ _ _ _ _ hsmf.nm hsmf.df hsmf.wg hstf hall2)).mono ?_;rintro e W3⟨rfl,hb3⟩;go_wp2_with fail
       have hB23:Bw W0 W3:=hB02.trans (hb3.mono (by omega));have hB3:Bw w W3:=hB2.trans (hb3.mono (by omega));have hY3:=(hb3.cell (p:=(aD W0.heap.size 1)) hsz2).trans hY1;have hsz3:W0.heap.size<W3.heap.size:=by have:=hb3.size;omega
       have hnames:∀i (h:i<ss[k].fs.length),W3.cell? (aD fb (foff+i*11))=some (.s ss[k].fs[i].nm):=fun i h=>by
        obtain⟨wa',wcap',hfi⟩:=hfr i h;exact(hfi.mono hfb hB23).load.1
       have hBl3:Below (W0.heap.size+1) (W0.alloc (.cells #[.s ss[k].kd,.l (some (aD fb foff)) ss[k].fs.length fcap] 130)) W3:=hBl.trans (hb3.mono (by omega));clear hY1 c0 c1 c2 c3 c4 c5 c6 c7 c8 c9 c10 hb3 hf hf0 hfr hstf hall2
       go_loopw [6] (fun i wr3=>∃j:Nat,j<=k2/\i=.i j/\hasName (ss[k].fs.take j) ss[k].fs[k2].nm=false/\∃n,wr3=W3.drewN n) (fun i _=>k2-(intOf i).toNat)
       case atStart=>exact⟨0,Nat.zero_le _,rfl,rfl,0,rfl⟩
       case round=>
        obtain⟨jj,hjj,rfl,hno,hwr3⟩:=hrel;have HW:=hid hwr3;have hY4:wr.cell? (aD W0.heap.size 1)=some (.l (some (aD fb foff)) ss[k].fs.length fcap):=by obtain⟨n,rfl⟩:=hwr3;exact hY3
        have hck2:wr.cell? (aD fb (foff+k2*11))=some (.s ss[k].fs[k2].nm):=by obtain⟨n,rfl⟩:=hwr3;exact hnames k2 hlt2
        by_cases hltj:jj<k2
        ·have hjl:jj<ss[k].fs.length:=by omega
         have hcj:wr.cell? (aD fb (foff+jj*11))=some (.s ss[k].fs[jj].nm):=by obtain⟨n,rfl⟩:=hwr3;exact hnames jj hjl
         have hjI:(jj:Int)<(ss[k].fs.length:Int):=by omega
         have hjK:(jj:Int)<(k2:Int):=by omega
         clear hwr3
         by_cases he:ss[k].fs[jj].nm=ss[k].fs[k2].nm
         ·have hbe:(ss[k].fs[jj].nm.toList == ss[k].fs[k2].nm.toList)=true:=by rw[beq_toList];simpa using he
          have HF:Hid (zfw ss ss[k].fs k2=false):=by
           rw[HO.o];unfold Hid
           have hh:hasName (ss[k].fs.take k2) ss[k].fs[k2].nm=true:=by
            unfold hasName;rw[List.any_eq_true];exact⟨ss[k].fs[jj],List.mem_take_iff_getElem.2 ⟨jj,by omega,rfl⟩,by simpa using he⟩
           rw[hh];simp
          clear he hno;go_wp2_with fail
          go_quiet (fail)
          go_wp2
          go_ret;refine⟨ze (HN2.o HF.o).symm,?_⟩;obtain⟨n,rfl⟩:=HW.o;exact below_drewN (below_drewN hB3 _) _
         ·have hbe:(ss[k].fs[jj].nm.toList == ss[k].fs[k2].nm.toList)=false:=by rw[beq_toList];simpa using he
          have HSn:Hid (hasName (ss[k].fs.take (jj+1)) ss[k].fs[k2].nm=false):=by unfold Hid;rw[zeM _ _ jj hjl,hno,decide_eq_false he];rfl
          clear he hno;go_wp2_with fail
          go_quiet (fail)
          go_wp2_with fail
          obtain⟨n,rfl⟩:=HW.o;exact⟨⟨jj+1,by omega,by go_num,HSn.o,n+nq,by simp⟩,by simp[intOf];omega⟩
        ·have HF:Hid (zfw ss ss[k].fs k2=true):=by
          have e:jj=k2:=by omega
          subst e;rw[HO.o,hno];unfold Hid
          have:=HFO.o
          rw[Bool.and_eq_true]at this;rw[this.1,this.2];rfl
         have hBlw:Below (W0.heap.size+1) (W0.alloc (.cells #[.s ss[k].kd,.l (some (aD fb foff)) ss[k].fs.length fcap] 130)) wr:=by obtain⟨n,rfl⟩:=hwr3;exact below_drewN hBl3 _
         clear hno hwr3 hY4 hck2;go_wp2
         exact⟨⟨k2+1,by omega,by go_num,HS2.o HF.o,hBlw⟩,by simp[intOf];omega⟩
      ·have HFO:Hid ((zC ss[k].fs[k2].nm&&zau ss ss[k].fs[k2])=false):=by simpa[Hid] using hfo
       have HF:Hid (zfw ss ss[k].fs k2=false):=by
        rw[HO.o];unfold Hid
        have:=HFO.o
        cases h1:zC ss[k].fs[k2].nm <;> cases h2:zau ss ss[k].fs[k2] <;> simp_all
       clear hfo hup2;go_wp2_with fail
       refine(zw HFO.o (zgp _ _ _ _ _ _ _ _ _ _ _ _ _ _ _ _ _ hsmf.nm hsmf.df hsmf.wg hstf hall2)).mono ?_;rintro e W3⟨rfl,hb3⟩;have hB3:Bw w W3:=hB2.trans (hb3.mono (by omega));go_wp2
       go_ret;exact⟨ze (HN2.o HF.o).symm,hB3⟩
     ·have HF:Hid (yR ss k=true):=by
       have e:k2=ss[k].fs.length:=by omega
       subst e;rw[HA.o,HFG.o];exact hup2
      clear hup2;go_wp2
      exact⟨⟨k+1,by omega,by go_num,HS.o HF.o,hB2⟩,by simp[intOf];omega⟩
  ·have HF:Hid (zQ ss=true):=by
    have e:k=ss.length:=by omega
    subst e;rw[HG.o];exact hup
   clear hup hw
   go_wp2
   go_ret;exact⟨ze HF.o.symm,hB⟩
theorem zoH (a0:OA)(cap0:Nat)(ss:List Shp)(o:Ob)(a a':OA)(cap cap':Nat)(w:World)(hw:yU w a0 ss)(ho:qY w o a a') :
 Calls Tryz.prog 115 #[.l a0 ss.length cap0,.agg (oC o a a' cap cap')] w fun e w'=>e=.returned (.tuple #[.i (yI ss o).1,.i (yI ss o).2])/\Bw w w':=by
 have hlh:=ho.holds.len;unfold maxLen at hlh;have HNo:Hid (whole ss o=false->yI ss o=(1,0)):=fun h=>by unfold yI;rw[if_neg];simp[h]
 have hAl:=(bRf w.heap.size w).alloc (Nat.le_refl _);go_in;go_wp2_with fail
 by_cases hc:zq ss o=true
 rotate_left
 ·refine(zdz _ _ _ _ _ _ _ _ _ (hw.mono (hAl _)) (ho.mono (hAl _)) (by simpa using hc)).mono ?_
  rintro e w1⟨v,rfl,hb1⟩;have hB1:=(hAl _).trans (hb1.mono (by simp));have HR:Hid (yI ss o=(1,0)):=HNo.o (by unfold whole;simp[hc]);clear hb1 hAl hc;go_wp2
  go_ret2
  exact⟨by rw[HR.o];rfl,hB1⟩
 refine(zbI _ _ _ _ _ _ _ _ _ (hw.mono (hAl _)) (ho.mono (hAl _)) hc).mono ?_;rintro e w1⟨fa,fcap,rfl,hfl0,hb1⟩;have hX1:=za (zI w _ _) (by simp) hb1;have hz1:w.heap.size<w1.heap.size:=by have:=hb1.size;simp at this;omega
 have hB1:Bw w w1:=(hAl _).trans (hb1.mono (by simp));have hfl1:=hfl0.mono hb1;have HCt:=hid hc;clear hb1 hfl0 hAl hc;go_wp2_with fail
 refine(yg _ _ ho.small.nm).mono ?_;rintro e w2⟨rfl,rfl⟩
 cases hn:zC o.nm with
 | false=>
  have HR:Hid (yI ss o=(1,0)):=HNo.o (by unfold whole qH;simp[hn]);go_wp2
  go_ret2
  exact⟨by rw[HR.o];rfl,hB1⟩
 | true=>
 go_wp2_with fail
 refine(yg _ _ ho.small.tm).mono ?_;rintro e w3⟨rfl,rfl⟩
 cases ht:zC o.tm with
 | false=>
  have HR:Hid (yI ss o=(1,0)):=HNo.o (by unfold whole qH;simp[ht]);go_wp2
  go_ret2
  exact⟨by rw[HR.o];rfl,hB1⟩
 | true=>
 by_cases h3:o.hs.length<=3
 rotate_left
 ·have h3I:(3:Int)<(o.hs.length:Int):=by omega
  have HR:Hid (yI ss o=(1,0)):=HNo.o (by unfold whole qP;simp[h3]);go_wp2
  go_ret2
  exact⟨by rw[HR.o];rfl,hB1⟩
 have h3I:(o.hs.length:Int)<=3:=by omega
 go_wp2_with fail
 refine(ze5 _ _ _ _ (ho.holds.mono hB1)).mono ?_;rintro e w4⟨rfl,nd,rfl⟩
 cases ha:asc o.hs with
 | false=>
  have HR:Hid (yI ss o=(1,0)):=HNo.o (by unfold whole qP;simp[ha]);go_wp2
  go_ret2
  exact⟨by rw[HR.o];rfl,below_drewN hB1 _⟩
 | true=>
 go_wp2_with fail
 by_cases hv:0<=o.vr/\o.vr<=1000000
 rotate_left
 ·have HR:Hid (yI ss o=(1,0)):=HNo.o (by unfold whole qw;rw[Bool.eq_false_iff];intro h;simp only[Bool.and_eq_true,decide_eq_true_eq]at h;exact hv h.1.2)
  refine(zfU _ _ _ _ hv).mono ?_;rintro e w5⟨rfl,rfl⟩;clear hv;go_wp2
  go_ret2
  exact⟨by rw[HR.o];rfl,below_drewN hB1 _⟩
 obtain⟨hv0,hv1⟩:=hv
 have HR:Hid (yI ss o=jJ (shapeOf ss o.kd).fs o.vs):=by
  unfold Hid yI;rw[if_pos];unfold whole qH qP qw;simp[HCt.o,hn,ht,h3,ha,hv0,hv1]
 have HLn:Hid (o.vs.length=(shapeOf ss o.kd).fs.length):=by
  have hc:=HCt.o;unfold zq at hc;simp only[Bool.and_eq_true,decide_eq_true_eq]at hc;exact hc.2
 refine(zdb _ _ _ _ hv0 hv1).mono ?_;rintro e w5⟨rfl,rfl⟩;clear hn ht ha HNo HCt
 generalize hfs:(shapeOf ss o.kd).fs=fs at *
 have hlen:=hfl1.len;unfold maxLen at hlen;go_wp2
 go_loopw [8] (fun i wr=>∃k:Nat,k<=fs.length/\i=.i k/\up (zbc fs o.vs) k=true/\Bw w3 wr) (fun i _=>fs.length-(intOf i).toNat)
 case atStart=>exact⟨0,Nat.zero_le _,rfl,rfl,below_drewN (bRf _ _) _⟩
 case round=>
  obtain⟨k,hk,rfl,hup,hBr⟩:=hrel;have hszr:=hBr.size;have hB:Bw w wr:=hB1.trans (hBr.mono (by omega))
  by_cases hlt:k<fs.length
  ·have hXr:=za hX1 hz1 hBr
   obtain⟨b,off,rfl,hb,hr⟩:=hfl1.rows (by rintro rfl;simp at hlt);obtain⟨wa,wcap,hf0⟩:=hr k hlt;have hf:=hf0.mono hb hBr;obtain⟨c0,c1,c2,c3,c4,c5,c6,c7,c8,c9,c10⟩:=hf.load;have hst:=hf.strs;have hltv:k<o.vs.length:=by rw[HLn.o];exact hlt
   obtain⟨vb,voff,rfl,hvb,hvc⟩:=ho.vals.cells (by intro h;rw[h]at hltv;simp at hltv);have hcv:=(hB.cell (p:=(aD vb (voff+k))) hvb).trans (hvc k hltv);have hvs:=ho.vals.small _ (List.getElem_mem hltv);have hltI:(k:Int)<(fs.length:Int):=by omega
   have hltV:(k:Int)<(o.vs.length:Int):=by omega
   have HFX:=hid (zlq hlt hltv)
   have HS:Hid (zaM fs[k] o.vs[k]=0->up (zbc fs o.vs) (k+1)=true):=fun h=>by
    rw[zab,hup];unfold zbc;rw[HFX.o,h];rfl
   have HN:Hid (∀n:Int,n≠0->zaM fs[k] o.vs[k]=n->yI ss o=(n,(k:Int))):=fun n hn0 h=>by
    rw[HR.o,zmB hlt hup (by unfold zbc;rw[HFX.o,h];simp[hn0]),HFX.o,h]
   clear hX1 hr hf0 hf hup
   by_cases he:o.vs[k].size=0
   ·have hne:o.vs[k].toList.isEmpty=true:=by rw[zu];simp[he]
    have HE:=hid he;clear he
    by_cases hmu:fs[k].mu=true
    ·have HM:=hid hmu
     go_wp2
     go_ret2
     have hv:=HN.o 2 (by decide) (by unfold zaM;rw[if_pos HE.o,if_pos HM.o]);exact⟨by rw[hv];rfl,hB⟩
    ·have hmu':fs[k].mu=false:=by simpa using hmu
     have HM:=hid hmu';clear hmu;go_wp2
     exact⟨⟨k+1,by omega,by go_num,HS.o (by unfold zaM;rw[if_pos HE.o,HM.o];rfl),hBr⟩,by simp[intOf];omega⟩
   ·have hne:o.vs[k].toList.isEmpty=false:=by rw[zu];simp[he]
    have HE:Hid (¬o.vs[k].size=0):=he;clear he
    by_cases hfit:fits fs[k].kd fs[k].ls fs[k].ms fs[k].ws o.vs[k]=true
    all_goals
     first
      | (have HFT:Hid (fits fs[k].kd fs[k].ls fs[k].ms fs[k].ws o.vs[k]=true):=hfit)
      | (have HFT:Hid (fits fs[k].kd fs[k].ls fs[k].ms fs[k].ws o.vs[k]=false):=by simpa[Hid] using hfit)
     clear hfit;go_wp2_with fail
     have hbx:Bw wr wr.drew:=(bRf _ _).drew
     go_region_with (go_at_call 161;refine(zw HFT.o (zeL _ _ _ _ _ _ _ _ _ _ _ _ _ _ _ hvs (by exact hst.mono hbx))).mono ?_;rintro e w3⟨rfl,hb3⟩)
     all_goals go_wp2_with fail
    all_goals have hB3:Bw wr w3:=hbx.trans hb3
    all_goals first
     | (have hft:fits fs[k].kd fs[k].ls fs[k].ms fs[k].ws o.vs[k]=true:=HFT.o
        exact⟨⟨k+1,by omega,by go_num,HS.o (by unfold zaM;rw[if_neg HE.o];unfold zgt;rw[hft];rfl),hBr.trans (hB3.mono hszr)⟩,by simp[intOf];omega⟩)
     | (have hft:fits fs[k].kd fs[k].ls fs[k].ms fs[k].ws o.vs[k]=false:=HFT.o
        go_ret2
        have hv:=HN.o 3 (by decide) (by unfold zaM;rw[if_neg HE.o];unfold zgt;rw[hft];rfl);exact⟨by rw[hv];rfl,hB.trans (hB3.mono (by omega))⟩)
  ·have HF:Hid (yI ss o=(0,0)):=by
    have e:k=fs.length:=by omega
    subst e;rw[HR.o];exact zjf hup
   clear hup;go_wp2
   go_ret2
   exact⟨by rw[HF.o];rfl,hB⟩
end Go.Proofs.YtjnpjkigofldlaaGreat
