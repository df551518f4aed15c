import Derived.Test.YtkficnallnpjnaaGreatM23
import Derived.Test.YtkficnallnpjnaaGreatM24
set_option maxHeartbeats 4000000
namespace Go.Proofs.YtkficnallnpjnaaGreat
open Go.RowKit
theorem zbY (a:Option Addr)(cap:Nat)(ss:List Shp)(w:World)(hw:yT w a ss) :
 Calls Tryz.prog 134 #[.slice a ss.length cap] w fun e w'=>e=.returned (.bool (zZ ss))/\Below w.heap.size w w':=by
 have hl:=hw.len;unfold maxLen at hl
 by_cases h6:ss.length<=6
 rotate_left
 ·have HF:Hid (zZ ss=false):=by simp[Hid,zZ,h6]
  clear hw;go_enter Tryz.func134,Tryz.ntmps134
  go_wp2
  go_ret;exact⟨ze HF.out.symm,bRf _ _⟩
 have HG:Hid (zZ ss=up (yX ss) ss.length):=by simp[Hid,zZ,h6]
 have h6I:(ss.length:Int)<=6:=by omega
 go_enter Tryz.func134,Tryz.ntmps134;go_wp2_with fail
 go_loopw [3] (fun i wr=>∃k:Nat,k<=ss.length/\i=.int .i64 k/\up (yX ss) k=true/\Below w.heap.size w wr) (fun i _=>ss.length-(intOf i).toNat)
 case atStart=>exact⟨0,Nat.zero_le _,rfl,rfl,bRf _ _⟩
 case round=>
  obtain⟨k,hk,rfl,hup,hB⟩:=hrel;obtain⟨W0,rfl⟩:∃W0,W0=wr:=⟨wr,rfl⟩
  have hsz:=hB.size
  by_cases hlt:k<ss.length
  ·obtain⟨b,off,rfl,hb,hrw⟩:=hw.rows (by rintro rfl;simp at hlt)
   have hbr:b<W0.heap.size:=by omega
   have hall:=hw.mono hB;obtain⟨fa,fcap,hs⟩:=hrw k hlt;have hs':=hs.mono hb hB;have hck:=hs'.kind;have hcl:=hs'.list;have hfl:=hs'.zdy;have hsm:=hs.small;have HS:Hid (yX ss k=true->up (yX ss) (k+1)=true):=fun h=>by rw[qZ,hup,h];rfl
   have HN:Hid (yX ss k=false->zZ ss=false):=fun h=>by rw[HG.out];exact zaG hlt h
   have hltI:(k:Int)<(ss.length:Int):=by omega
   by_cases hn:zA ss[k].kd=true
   rotate_left
   ·have HNm:Hid (zA ss[k].kd=false):=by simpa[Hid] using hn
    have HF:Hid (yX ss k=false):=by
     unfold Hid yX;rw[getD_at ss k _ hlt,HNm.out];rfl
    clear hn hup hw hrw hs hs';go_wp2_with fail
    go_quiet ((go_at_call 109;exact Calls.quiet_of_same (zf HNm.out (zk _ _ hsm))))
    go_wp2_with fail
    go_ret;exact⟨ze (HN.out HF.out).symm,below_drewN (hB.alloc hsz _) _⟩
   have HNm:Hid (zA ss[k].kd=true):=hn;clear hn;have hcl6:=hfl.len;unfold maxLen at hcl6
   by_cases hbad:0<k/\less (ss.getD (k-1) zct).kd ss[k].kd=false
   ·obtain⟨hkpos,hls⟩:=hbad
    rw[getD_at ss (k-1) _ (by omega)]at hls;obtain⟨fam,fcapm,hsm0⟩:=hrw (k-1) (by omega);have hcm:=(hsm0.mono hb hB).kind;have hls':Op.bytesLess ss[k-1].kd.toList ss[k].kd.toList=false:=hls;have hg:decide (0<k)=true:=by simp;omega
    have hk1:(0:Int)<=(k:Int)-1:=by omega
    have hk2:(k:Int)-1<(ss.length:Int):=by omega
    have HF:Hid (yX ss k=false):=by
     unfold Hid yX;rw[getD_at ss k _ hlt,getD_at ss (k-1) _ (by omega),hls,decide_eq_false (show ¬k=0 by omega)];simp
    clear hup hw hrw hs hs' hls hsm0;go_wp2_with fail
    go_quiet ((go_at_call 109;exact Calls.quiet_of_same (zf HNm.out (zk _ _ hsm))))
    go_wp2_with fail
    go_ret;exact⟨ze (HN.out HF.out).symm,below_drewN (hB.alloc hsz _) _⟩
   have hgood:(decide (0<k)=false/\yX ss k=y8 ss ss[k].fs) \/ (decide (0<k)=true/\yX ss k=y8 ss ss[k].fs/\(0:Int)<=(k:Int)-1/\(k:Int)-1<(ss.length:Int)/\∃h:k-1<ss.length,Op.bytesLess ss[k-1].kd.toList ss[k].kd.toList=true/\W0.cell? ⟨b,off+(k-1)*2,none⟩=some (.string ss[k-1].kd)):=by
    by_cases hk0:k=0
    ·refine Or.inl ⟨by simp;omega,?_⟩
     subst hk0;rw[zfw ss hlt,HNm.out];rfl
    ·obtain⟨fam,fcapm,hsm0⟩:=hrw (k-1) (by omega)
     have hls:less ss[k-1].kd ss[k].kd=true:=by
      rw[getD_at ss (k-1) _ (by omega)]at hbad
      cases h:less ss[k-1].kd ss[k].kd with
      | true=>rfl
      | false=>exact absurd ⟨by omega,h⟩ hbad
     refine Or.inr ⟨by simp;omega,?_,by omega,by omega,by omega,hls,(hsm0.mono hb hB).kind⟩;unfold yX;rw[getD_at ss k _ hlt,getD_at ss (k-1) _ (by omega),hls,HNm.out];simp
   clear hup hw hrw hs hs' hbad
   rcases hgood with⟨hg,hAA⟩|⟨hg,hAA,hk1,hk2,hkm,hls',hcm⟩
   all_goals
    have HA:=hid hAA;clear hAA
    by_cases h6f:ss[k].fs.length<=6
    rotate_left
    ·have HF:Hid (yX ss k=false):=by rw[HA.out];simp[Hid,y8,h6f]
     have h6fI:(6:Int)<(ss[k].fs.length:Int):=by omega
     go_wp2_with fail
     go_quiet ((go_at_call 109;exact Calls.quiet_of_same (zf HNm.out (zk _ _ hsm))))
     go_wp2_with fail
     go_ret;exact⟨ze (HN.out HF.out).symm,below_drewN (hB.alloc hsz _) _⟩
    have h6fI:(ss[k].fs.length:Int)<=6:=by omega
    have HFG:Hid (y8 ss ss[k].fs=up (ze5 ss ss[k].fs) ss[k].fs.length):=by simp[Hid,y8,h6f]
    go_wp2_with fail
    go_quiet ((go_at_call 109;exact Calls.quiet_of_same (zf HNm.out (zk _ _ hsm))))
    go_wp2_with fail
    go_loopw [5] (fun i wr2=>∃k2:Nat,k2<=ss[k].fs.length/\i=.int .i64 k2/\up (ze5 ss ss[k].fs) k2=true/\Below (W0.heap.size+1) (W0.alloc (.cells #[.string ss[k].kd,.slice fa ss[k].fs.length fcap] 128)) wr2) (fun i _=>ss[k].fs.length-(intOf i).toNat)
    case atStart=>exact⟨0,Nat.zero_le _,rfl,rfl,below_drewN (bRf _ _) _⟩
    case round=>
     obtain⟨k2,hk2',rfl,hup2,hBl⟩:=hrel;obtain⟨W2,rfl⟩:∃W2,W2=wr:=⟨wr,rfl⟩
     have hsz2:W0.heap.size<W2.heap.size:=by have:=hBl.size;simp at this;omega
     have hB02:Below W0.heap.size W0 W2:=(bAl _ _).trans (hBl.mono (by omega));have hB2:=hB.trans (hB02.mono hsz);have hY1:W2.cell? ⟨W0.heap.size,1,none⟩=some (.slice fa ss[k].fs.length fcap):=(hBl.cell (p:=⟨W0.heap.size,1,none⟩) (by simp)).trans (by rw[World.cell?_alloc_at _ _ _ _ rfl];rfl)
     by_cases hlt2:k2<ss[k].fs.length
     ·obtain⟨fb,foff,rfl,hfb,hfr⟩:=hfl.rows (by intro h;rw[h]at hlt2;simp at hlt2)
      obtain⟨wa,wcap,hf0⟩:=hfr k2 hlt2;have hf:=hf0.mono hfb hB02;obtain⟨c0,c1,c2,c3,c4,c5,c6,c7,c8,c9,c10⟩:=hf.load;have hsmf:=hf.small;have hstf:=hf.strs;have hall2:=hall.mono hB02;have HO:=hid (zi2 ss ss[k].fs k2 hlt2);have HS2:Hid (ze5 ss ss[k].fs k2=true->up (ze5 ss ss[k].fs) (k2+1)=true):=fun h=>by rw[qZ,hup2,h];rfl
      have HN2:Hid (ze5 ss ss[k].fs k2=false->zZ ss=false):=fun h=>HN.out (by rw[HA.out,HFG.out];exact zaG hlt2 h)
      have hltI2:(k2:Int)<(ss[k].fs.length:Int):=by omega
      by_cases hfo:(zA ss[k].fs[k2].nm&&yF ss ss[k].fs[k2])=true
      ·have HFO:=hid hfo
       clear hfo hup2;go_wp2_with fail
       refine(zf HFO.out (zfq _ _ _ _ _ _ _ _ _ _ _ _ _ _ _ _ _ hsmf.nm hsmf.df hsmf.wg hstf hall2)).mono ?_;rintro e W3⟨rfl,hb3⟩;go_wp2_with fail
       have hB23:Below W0.heap.size W0 W3:=hB02.trans (hb3.mono (by omega));have hB3:Below w.heap.size w W3:=hB2.trans (hb3.mono (by omega));have hY3:=(hb3.cell (p:=⟨W0.heap.size,1,none⟩) hsz2).trans hY1;have hsz3:W0.heap.size<W3.heap.size:=by have:=hb3.size;omega
       have hnames:∀i (h:i<ss[k].fs.length),W3.cell? ⟨fb,foff+i*11,none⟩=some (.string ss[k].fs[i].nm):=fun i h=>by
        obtain⟨wa',wcap',hfi⟩:=hfr i h;exact(hfi.mono hfb hB23).load.1
       have hBl3:Below (W0.heap.size+1) (W0.alloc (.cells #[.string ss[k].kd,.slice (some ⟨fb,foff,none⟩) ss[k].fs.length fcap] 128)) W3:=hBl.trans (hb3.mono (by omega));clear hY1 c0 c1 c2 c3 c4 c5 c6 c7 c8 c9 c10 hb3 hf hf0 hfr hstf hall2
       go_loopw [6] (fun i wr3=>∃j:Nat,j<=k2/\i=.int .i64 j/\hasName (ss[k].fs.take j) ss[k].fs[k2].nm=false/\∃n,wr3=W3.drewN n) (fun i _=>k2-(intOf i).toNat)
       case atStart=>exact⟨0,Nat.zero_le _,rfl,rfl,0,rfl⟩
       case round=>
        obtain⟨jj,hjj,rfl,hno,hwr3⟩:=hrel;have HW:=hid hwr3;have hY4:wr.cell? ⟨W0.heap.size,1,none⟩=some (.slice (some ⟨fb,foff,none⟩) ss[k].fs.length fcap):=by obtain⟨n,rfl⟩:=hwr3;exact hY3
        have hck2:wr.cell? ⟨fb,foff+k2*11,none⟩=some (.string ss[k].fs[k2].nm):=by obtain⟨n,rfl⟩:=hwr3;exact hnames k2 hlt2
        by_cases hltj:jj<k2
        ·have hjl:jj<ss[k].fs.length:=by omega
         have hcj:wr.cell? ⟨fb,foff+jj*11,none⟩=some (.string ss[k].fs[jj].nm):=by obtain⟨n,rfl⟩:=hwr3;exact hnames jj hjl
         have hjI:(jj:Int)<(ss[k].fs.length:Int):=by omega
         have hjK:(jj:Int)<(k2:Int):=by omega
         clear hwr3
         by_cases he:ss[k].fs[jj].nm=ss[k].fs[k2].nm
         ·have hbe:(ss[k].fs[jj].nm.toList == ss[k].fs[k2].nm.toList)=true:=by rw[beq_toList];simpa using he
          have HF:Hid (ze5 ss ss[k].fs k2=false):=by
           rw[HO.out];unfold Hid
           have hh:hasName (ss[k].fs.take k2) ss[k].fs[k2].nm=true:=by
            unfold hasName;rw[List.any_eq_true];exact⟨ss[k].fs[jj],List.mem_take_iff_getElem.2 ⟨jj,by omega,rfl⟩,by simpa using he⟩
           rw[hh];simp
          clear he hno;go_wp2_with fail
          go_quiet (fail)
          go_wp2_with fail
          go_ret;refine⟨ze (HN2.out HF.out).symm,?_⟩;obtain⟨n,rfl⟩:=HW.out;exact below_drewN (below_drewN hB3 _) _
         ·have hbe:(ss[k].fs[jj].nm.toList == ss[k].fs[k2].nm.toList)=false:=by rw[beq_toList];simpa using he
          have HSn:Hid (hasName (ss[k].fs.take (jj+1)) ss[k].fs[k2].nm=false):=by unfold Hid;rw[zd4 _ _ jj hjl,hno,decide_eq_false he];rfl
          clear he hno;go_wp2_with fail
          go_quiet (fail)
          go_wp2_with fail
          obtain⟨n,rfl⟩:=HW.out;exact⟨⟨jj+1,by omega,by go_num,HSn.out,n+nq,by simp⟩,by simp[intOf];omega⟩
        ·have HF:Hid (ze5 ss ss[k].fs k2=true):=by
          have e:jj=k2:=by omega
          subst e;rw[HO.out,hno];unfold Hid
          have:=HFO.out
          rw[Bool.and_eq_true]at this;rw[this.1,this.2];rfl
         have hBlw:Below (W0.heap.size+1) (W0.alloc (.cells #[.string ss[k].kd,.slice (some ⟨fb,foff,none⟩) ss[k].fs.length fcap] 128)) wr:=by obtain⟨n,rfl⟩:=hwr3;exact below_drewN hBl3 _
         clear hno hwr3 hY4 hck2;go_wp2_with fail
         exact⟨⟨k2+1,by omega,by go_num,HS2.out HF.out,hBlw⟩,by simp[intOf];omega⟩
      ·have HFO:Hid ((zA ss[k].fs[k2].nm&&yF ss ss[k].fs[k2])=false):=by simpa[Hid] using hfo
       have HF:Hid (ze5 ss ss[k].fs k2=false):=by
        rw[HO.out];unfold Hid
        have:=HFO.out
        cases h1:zA ss[k].fs[k2].nm <;> cases h2:yF ss ss[k].fs[k2] <;> simp_all
       clear hfo hup2;go_wp2_with fail
       refine(zf HFO.out (zfq _ _ _ _ _ _ _ _ _ _ _ _ _ _ _ _ _ hsmf.nm hsmf.df hsmf.wg hstf hall2)).mono ?_;rintro e W3⟨rfl,hb3⟩;have hB3:Below w.heap.size w W3:=hB2.trans (hb3.mono (by omega));go_wp2_with fail
       go_ret;exact⟨ze (HN2.out HF.out).symm,hB3⟩
     ·have HF:Hid (yX ss k=true):=by
       have e:k2=ss[k].fs.length:=by omega
       subst e;rw[HA.out,HFG.out];exact hup2
      clear hup2;go_wp2_with fail
      exact⟨⟨k+1,by omega,by go_num,HS.out HF.out,hB2⟩,by simp[intOf];omega⟩
  ·have HF:Hid (zZ ss=true):=by
    have e:k=ss.length:=by omega
    subst e;rw[HG.out];exact hup
   clear hup hw
   go_wp2
   go_ret;exact⟨ze HF.out.symm,hB⟩
theorem zlw (W:World)(k1 k2:Int):Calls Tryz.prog 174 #[.slice (some ⟨W.heap.size,0,none⟩) 2 2] (W.alloc (.cells #[.int .i64 k1,.int .i64 k2] 3)).drew fun e w'=>e=.returned (.int .i64 (zc3 [k1,k2]))/\w'=(W.alloc (.cells #[.int .i64 k1,.int .i64 k2] 3)).drew:=
 zlr (some ⟨W.heap.size,0,none⟩) 2 [k1,k2] _ ((zhI (alloc_at _ _) (by simp[maxLen])).mono (bRf _ _).drew) (by simp)
theorem zmN (W:World)(k1 k2 k3:Int):Calls Tryz.prog 174 #[.slice (some ⟨W.heap.size,0,none⟩) 3 3] (W.alloc (.cells #[.int .i64 k1,.int .i64 k2,.int .i64 k3] 3)).drew fun e w'=>e=.returned (.int .i64 (zc3 [k1,k2,k3]))/\w'=(W.alloc (.cells #[.int .i64 k1,.int .i64 k2,.int .i64 k3] 3)).drew:=
 zlr (some ⟨W.heap.size,0,none⟩) 3 [k1,k2,k3] _ ((zhI (alloc_at _ _) (by simp[maxLen])).mono (bRf _ _).drew) (by simp)
theorem ziz (o p:Ob)(a0 a1 b0 b1:Option Addr)(c0 c1 d0 d1:Nat)(w:World) :
 Calls Tryz.prog 161 #[.agg (o.row a0 a1 c0 c1),.agg (p.row b0 b1 d0 d1)] w fun e w'=>e=.returned (.int .i64 (zb9 o p))/\Below w.heap.size w w':=by
 have HR:Hid (zc3 [key o.kd p.kd,key o.nm p.nm]=zb9 o p):=by unfold Hid;rw[zk3];rfl
 unfold Ob.row;go_enter Tryz.func161,Tryz.ntmps161;go_wp2_with fail
 obtain⟨hX0,hY0⟩:=qX w (oC o a0 a1 c0 c1) (oC p b0 b1 d0 d1) 117 117;have HB0:Hid (Below w.heap.size w ((w.alloc (.cells (oC o a0 a1 c0 c1) 117)).alloc (.cells (oC p b0 b1 d0 d1) 117))):=zw w _ _;obtain⟨W0,hW0⟩:∃W0,W0=(w.alloc (.cells (oC o a0 a1 c0 c1) 117)).alloc (.cells (oC p b0 b1 d0 d1) 117):=⟨_,rfl⟩
 have hz0:w.heap.size+1<W0.heap.size:=by rw[hW0];simp
 rw[<- hW0]at HB0 hX0 hY0 ⊢;clear hW0;have hS:(∀j,W0.drew.cell? ⟨w.heap.size,j,none⟩=((oC o a0 a1 c0 c1):Array Value)[j]?)/\(∀j,W0.drew.cell? ⟨w.heap.size+1,j,none⟩=((oC p b0 b1 d0 d1):Array Value)[j]?):=⟨hX0,hY0⟩
 have hSa:∀ob,(∀j,(W0.alloc ob).drew.cell? ⟨w.heap.size,j,none⟩=((oC o a0 a1 c0 c1):Array Value)[j]?)/\(∀j,(W0.alloc ob).drew.cell? ⟨w.heap.size+1,j,none⟩=((oC p b0 b1 d0 d1):Array Value)[j]?):=fun ob=>⟨za (b:=w.heap.size) (wk:=W0) hX0 (nSl hz0) ((bAl _ _).drew),za (b:=w.heap.size+1) (wk:=W0) hY0 hz0 ((bAl _ _).drew)⟩
 clear hX0 hY0
 go_region_held3 (fun w'=>(∀j,w'.cell? ⟨w.heap.size,j,none⟩=(#[.string o.kd,.string o.nm,.string o.tm,.slice a0 o.vs.length c0,.bool o.en,.slice a1 o.hs.length c1,.int .i64 o.vr]:Array Value)[j]?)/\(∀j,w'.cell? ⟨w.heap.size+1,j,none⟩=(#[.string p.kd,.string p.nm,.string p.tm,.slice b0 p.vs.length d0,.bool p.en,.slice b1 p.hs.length d1,.int .i64 p.vr]:Array Value)[j]?)) (first|exact hS|exact hSa _) (first
  | (go_at_call 175;refine(zeH _ _ _).mono ?_;rintro e w3⟨rfl,rfl⟩)
  | (go_at_call 174;refine(zlw _ _ _).mono ?_;rintro e w3⟨rfl,rfl⟩))
 go_wp2_with fail
 go_ret;exact⟨zo HR.out,(HB0.out.alloc HB0.out.size _).drew⟩
theorem zck (o p:Lg)(w:World) :
 Calls Tryz.prog 128 #[.agg o.cells,.agg p.cells] w fun e w'=>e=.returned (.int .i64 (qj o p))/\Below w.heap.size w w':=by
 have HR:Hid (zc3 [key o.tm p.tm,key o.rs p.rs]=qj o p):=by unfold Hid;rw[zk3];rfl
 unfold Lg.cells;go_enter Tryz.func128,Tryz.ntmps128;go_wp2_with fail
 obtain⟨hX0,hY0⟩:=qX w #[.string o.tm,.string o.rs,.int .i64 o.mo,.int .i64 o.fr] #[.string p.tm,.string p.rs,.int .i64 p.mo,.int .i64 p.fr] 124 124;have HB0:Hid (Below w.heap.size w ((w.alloc (.cells #[.string o.tm,.string o.rs,.int .i64 o.mo,.int .i64 o.fr] 124)).alloc (.cells #[.string p.tm,.string p.rs,.int .i64 p.mo,.int .i64 p.fr] 124))):=zw w _ _;obtain⟨W0,hW0⟩:∃W0,W0=(w.alloc (.cells #[.string o.tm,.string o.rs,.int .i64 o.mo,.int .i64 o.fr] 124)).alloc (.cells #[.string p.tm,.string p.rs,.int .i64 p.mo,.int .i64 p.fr] 124):=⟨_,rfl⟩
 have hz0:w.heap.size+1<W0.heap.size:=by rw[hW0];simp
 rw[<- hW0]at HB0 hX0 hY0 ⊢;clear hW0;have hS:(∀j,W0.drew.cell? ⟨w.heap.size,j,none⟩=(#[.string o.tm,.string o.rs,.int .i64 o.mo,.int .i64 o.fr]:Array Value)[j]?)/\(∀j,W0.drew.cell? ⟨w.heap.size+1,j,none⟩=(#[.string p.tm,.string p.rs,.int .i64 p.mo,.int .i64 p.fr]:Array Value)[j]?):=⟨hX0,hY0⟩
 have hSa:∀ob,(∀j,(W0.alloc ob).drew.cell? ⟨w.heap.size,j,none⟩=(#[.string o.tm,.string o.rs,.int .i64 o.mo,.int .i64 o.fr]:Array Value)[j]?)/\(∀j,(W0.alloc ob).drew.cell? ⟨w.heap.size+1,j,none⟩=(#[.string p.tm,.string p.rs,.int .i64 p.mo,.int .i64 p.fr]:Array Value)[j]?):=fun ob=>⟨za (b:=w.heap.size) (wk:=W0) hX0 (nSl hz0) ((bAl _ _).drew),za (b:=w.heap.size+1) (wk:=W0) hY0 hz0 ((bAl _ _).drew)⟩
 clear hX0 hY0
 go_region_held3 (fun w'=>(∀j,w'.cell? ⟨w.heap.size,j,none⟩=(#[.string o.tm,.string o.rs,.int .i64 o.mo,.int .i64 o.fr]:Array Value)[j]?)/\(∀j,w'.cell? ⟨w.heap.size+1,j,none⟩=(#[.string p.tm,.string p.rs,.int .i64 p.mo,.int .i64 p.fr]:Array Value)[j]?)) (first|exact hS|exact hSa _) (first
  | (go_at_call 175;refine(zeH _ _ _).mono ?_;rintro e w3⟨rfl,rfl⟩)
  | (go_at_call 174;refine(zlw _ _ _).mono ?_;rintro e w3⟨rfl,rfl⟩))
 go_wp2_with fail
 go_ret;exact⟨zo HR.out,(HB0.out.alloc HB0.out.size _).drew⟩
theorem zjv (o p:Pu)(w:World) :
 Calls Tryz.prog 171 #[.agg o.cells,.agg p.cells] w fun e w'=>e=.returned (.int .i64 (zas o p))/\Below w.heap.size w w':=by
 have HR:Hid (zc3 [key o.dr p.dr,key o.tm p.tm,key o.rs p.rs]=zas o p):=by unfold Hid;rw[znK];rfl
 unfold Pu.cells;go_enter Tryz.func171,Tryz.ntmps171;go_wp2_with fail
 obtain⟨hX0,hY0⟩:=qX w #[.string o.dr,.string o.tm,.string o.rs,.int .i64 o.am,.int .i64 o.un] #[.string p.dr,.string p.tm,.string p.rs,.int .i64 p.am,.int .i64 p.un] 65 65;have HB0:Hid (Below w.heap.size w ((w.alloc (.cells #[.string o.dr,.string o.tm,.string o.rs,.int .i64 o.am,.int .i64 o.un] 65)).alloc (.cells #[.string p.dr,.string p.tm,.string p.rs,.int .i64 p.am,.int .i64 p.un] 65))):=zw w _ _;obtain⟨W0,hW0⟩:∃W0,W0=(w.alloc (.cells #[.string o.dr,.string o.tm,.string o.rs,.int .i64 o.am,.int .i64 o.un] 65)).alloc (.cells #[.string p.dr,.string p.tm,.string p.rs,.int .i64 p.am,.int .i64 p.un] 65):=⟨_,rfl⟩
 have hz0:w.heap.size+1<W0.heap.size:=by rw[hW0];simp
 rw[<- hW0]at HB0 hX0 hY0 ⊢;clear hW0;have hS:(∀j,W0.drew.cell? ⟨w.heap.size,j,none⟩=(#[.string o.dr,.string o.tm,.string o.rs,.int .i64 o.am,.int .i64 o.un]:Array Value)[j]?)/\(∀j,W0.drew.cell? ⟨w.heap.size+1,j,none⟩=(#[.string p.dr,.string p.tm,.string p.rs,.int .i64 p.am,.int .i64 p.un]:Array Value)[j]?):=⟨hX0,hY0⟩
 have hSa:∀ob,(∀j,(W0.alloc ob).drew.cell? ⟨w.heap.size,j,none⟩=(#[.string o.dr,.string o.tm,.string o.rs,.int .i64 o.am,.int .i64 o.un]:Array Value)[j]?)/\(∀j,(W0.alloc ob).drew.cell? ⟨w.heap.size+1,j,none⟩=(#[.string p.dr,.string p.tm,.string p.rs,.int .i64 p.am,.int .i64 p.un]:Array Value)[j]?):=fun ob=>⟨za (b:=w.heap.size) (wk:=W0) hX0 (nSl hz0) ((bAl _ _).drew),za (b:=w.heap.size+1) (wk:=W0) hY0 hz0 ((bAl _ _).drew)⟩
 clear hX0 hY0
 go_region_held3 (fun w'=>(∀j,w'.cell? ⟨w.heap.size,j,none⟩=(#[.string o.dr,.string o.tm,.string o.rs,.int .i64 o.am,.int .i64 o.un]:Array Value)[j]?)/\(∀j,w'.cell? ⟨w.heap.size+1,j,none⟩=(#[.string p.dr,.string p.tm,.string p.rs,.int .i64 p.am,.int .i64 p.un]:Array Value)[j]?)) (first|exact hS|exact hSa _) (first
  | (go_at_call 175;refine(zeH _ _ _).mono ?_;rintro e w3⟨rfl,rfl⟩)
  | (go_at_call 174;refine(zmN _ _ _ _).mono ?_;rintro e w3⟨rfl,rfl⟩))
 go_wp2_with fail
 go_ret;exact⟨zo HR.out,(HB0.out.alloc HB0.out.size _).drew⟩
def zrq:Ob:=⟨ByteArray.empty,ByteArray.empty,ByteArray.empty,[],false,[],0⟩
def zbK (l:Lw)(team res:ByteArray)(o:Ob):Int:=if under l.ts 4 o.tm team=true then qQ l.ss o res else 0
def zaD (l:Lw)(os:List Ob)(team res:ByteArray):Nat->Int
 | 0=>0
 | k+1=>zaD l os team res k+zbK l team res (os.getD k zrq)
def used (l:Lw)(os:List Ob)(team res:ByteArray):Int:=zaD l os team res os.length
theorem zpl (ss:List Shp)(o:Ob)(res:ByteArray):0<=qQ ss o res/\qQ ss o res<=1+o.sz*10000000:=by
 have h0:o.vs.length<=o.sz:=by unfold Ob.sz zdv qU;omega
 unfold qQ
 split
 ·rename_i hc
  have hc1:=hc.1;unfold zB at hc1;simp only[Bool.and_eq_true,decide_eq_true_eq]at hc1
  have:=zcI (shapeOf ss o.kd).fs o.vs res (shapeOf ss o.kd).fs.length
  have h3:=hc1.2
  split <;> omega
 ·omega
theorem zk9 (l:Lw)(team res:ByteArray)(o:Ob):0<=zbK l team res o/\zbK l team res o<=1+o.sz*10000000:=by
 unfold zbK
 split
 ·exact zpl _ _ _
 ·omega
theorem zfK (l:Lw)(os:List Ob)(team res:ByteArray)(k:Nat)(h:k<os.length):zaD l os team res (k+1)=zaD l os team res k+zbK l team res os[k]:=by
 have e1:os.getD k zrq=os[k]:=by simp[List.getD,h]
 simp only[zaD];rw[e1]
theorem zb1 (l:Lw)(os:List Ob)(team res:ByteArray):∀k,k<=os.length->0<=zaD l os team res k/\zaD l os team res k<=k+za7 (os.take k)*10000000
 | 0,_=>by simp[zaD,za7]
 | k+1,h=>by
  have h1:=zb1 l os team res k (by omega);have h2:=zk9 l team res os[k];have h3:za7 (os.take (k+1))=za7 (os.take k)+os[k].sz:=za8 Ob.sz os k h;rw[zfK l os team res k h,h3];omega
theorem zlD (l:Lw)(la lb lc:Option Addr)(lca lcb lcc:Nat)(b:Bk)(a0 a1 a2 a3:Option Addr)(c0 c1 c2 c3:Nat)(team res:ByteArray)(w:World)(hl:jr w l la lb lc)(hb:q8 w b a0 a1 a2 a3)(hz:qL b.os<=1048576) :
 Calls Tryz.prog 208 #[.agg (l.cells la lb lc lca lcb lcc),.agg (b.cells a0 a1 a2 a3 c0 c1 c2 c3),.string team,.string res] w fun e w'=>e=.returned (.int .i64 (used l b.os team res))/\Below w.heap.size w w':=by
 have HL:Hid (jr w l la lb lc):=hl;have HK:Hid (q8 w b a0 a1 a2 a3):=hb;have HZ:Hid (qL b.os<=1048576/\b.os.length<=1048576):=⟨hz,by unfold qL at hz;omega⟩
 clear hl hb hz;unfold Lw.cells Bk.cells;go_enter Tryz.func208,Tryz.ntmps208;go_wp2_with fail
 obtain⟨hX0,hY0⟩:=qX w #[.slice la l.ss.length lca,.slice lb l.ms.length lcb,.slice lc l.ts.length lcc] (bC b a0 a1 a2 a3 c0 c1 c2 c3) 47 40;have HB0:Hid (Below w.heap.size w ((w.alloc (.cells #[.slice la l.ss.length lca,.slice lb l.ms.length lcb,.slice lc l.ts.length lcc] 47)).alloc (.cells (bC b a0 a1 a2 a3 c0 c1 c2 c3) 40))):=zw w _ _;obtain⟨W0,hW0⟩:∃W0,W0=(w.alloc (.cells #[.slice la l.ss.length lca,.slice lb l.ms.length lcb,.slice lc l.ts.length lcc] 47)).alloc (.cells (bC b a0 a1 a2 a3 c0 c1 c2 c3) 40):=⟨_,rfl⟩
 have hz0:w.heap.size+1<W0.heap.size:=by rw[hW0];simp
 rw[<- hW0]at HB0 hX0 hY0 ⊢;clear hW0
 go_loopw [9,15] (fun nv iv wr=>∃(k:Nat) (s:Int),k<=b.os.length/\iv=.int .i64 k/\nv=.int .i64 s/\Hid (s=zaD l b.os team res k/\Below W0.heap.size W0 wr)) (fun _ iv _=>b.os.length-(intOf iv).toNat)
 case atStart=>exact⟨0,0,Nat.zero_le _,rfl,rfl,by simp[zaD],bRf _ _⟩
 case round=>
  obtain⟨k,s,hk,rfl,rfl,HQ⟩:=hrel
  have hsb:0<=s/\s<=20000000000000:=by
   have h1:=HQ.out.1;have h2:=zb1 l b.os team res k hk;have h3:=HZ.out;have h4:za7 (b.os.take k)<=za7 b.os:=zcW Ob.sz b.os k;unfold qL at h3;omega
  have hkn:k<=1048576:=by have:=HZ.out.2;omega
  by_cases hlt:k<b.os.length
  ·obtain⟨ob,off,v0,v1,q0,q1,rfl,hob,hsm,hl0,hl1,d0,d1,d2,d3,d4,d5,d6⟩:=HK.out.os.load (HB0.out.trans (HQ.out.2.mono HB0.out.size)) k hlt
   have hob':=nLt hob (HB0.out.trans (HQ.out.2.mono HB0.out.size)).size;have hltI:(k:Int)<(b.os.length:Int):=by omega
   have hX:=za hX0 (nSl hz0) HQ.out.2;have hz:=nLt hz0 HQ.out.2.size;have hzX:=nSl hz;have HSt:=hid (zfK l b.os team res k hlt);have HOo:Hid (jP wr b.os[k] v0 v1):=⟨hsm,hl0,hl1⟩
   have HOl:Hid (b.os[k].vs.length<=1048576):=by
    have h3:=HZ.out.1
    have:=(zlY (left:=1048576) (ms:=b.os) (by omega) (by omega)).2 k hlt
    exact this.1
   have hub:=zk9 l team res b.os[k];have hwb:=zgv l.ss b.os[k] res HOl.out;clear hsm hl0 hl1 hub;go_wp2_with fail
   have hb1:Below wr.heap.size wr (wr.alloc (.cells #[.string b.os[k].kd,.string b.os[k].nm,.string b.os[k].tm,.slice v0 b.os[k].vs.length q0,.bool b.os[k].en,.slice v1 b.os[k].hs.length q1,.int .i64 b.os[k].vr] 117)):=bAl _ _;have hN:=zl wr #[.string b.os[k].kd,.string b.os[k].nm,.string b.os[k].tm,.slice v0 b.os[k].vs.length q0,.bool b.os[k].en,.slice v1 b.os[k].hs.length q1,.int .i64 b.os[k].vr] 117;obtain⟨w1,hw1⟩:∃w1,w1=wr.alloc (.cells #[.string b.os[k].kd,.string b.os[k].nm,.string b.os[k].tm,.slice v0 b.os[k].vs.length q0,.bool b.os[k].en,.slice v1 b.os[k].hs.length q1,.int .i64 b.os[k].vr] 117):=⟨_,rfl⟩
   have hn1:wr.heap.size<w1.heap.size:=by rw[hw1];simp
   rw[<- hw1]at hb1 hN ⊢;clear hw1 d0 d1 d2 d3 d4 d5 d6;have HB1:=hid (HQ.out.2.trans (hb1.mono HQ.out.2.size));have hX1:=za hX (nSl hz) hb1;have HO1:=hid (HOo.out.mono hb1);have hz1:=Nat.lt_trans hz hn1;clear hb1 hX;refine(zkH _ _ l.ts b.os[k].tm team _ (HL.out.ts.mono (HB0.out.trans (HB1.out.mono HB0.out.size)))).mono ?_;rintro e w2⟨rfl,hb2⟩;have HB2:=hid (HB1.out.trans (hb2.mono HB1.out.size));have hX2:=za hX1 (nSl hz1) hb2;have hN2:=za hN hn1 hb2;have HO2:=hid (HO1.out.mono hb2);have hz2:=nLt hz1 hb2.size;have hn2:=nLt hn1 hb2.size;clear hb2 hX1 hN
   by_cases hu:under l.ts 4 b.os[k].tm team=true
   ·have HU:Hid (zbK l team res b.os[k]=qQ l.ss b.os[k] res):=by unfold Hid zbK;rw[if_pos hu]
    rw[hu];clear hu;go_wp2_with fail
    refine(zj8 l _ _ _ _ _ _ b.os[k] _ _ _ _ res _ (HL.out.mono (HB0.out.trans (HB2.out.mono HB0.out.size))) HO2.out HOl.out).mono ?_;rintro e w3⟨rfl,hb3⟩;have HB3:=hid (HB2.out.trans (hb3.mono HB2.out.size));clear hb3;go_wp2_with fail
    exact⟨⟨k+1,s+qQ l.ss b.os[k] res,by omega,by go_num,by go_num,by rw[HSt.out,HU.out,HQ.out.1],HB3.out⟩,zq hlt⟩
   ·have hu':under l.ts 4 b.os[k].tm team=false:=by simpa using hu
    have HU:Hid (zbK l team res b.os[k]=0):=by unfold Hid zbK;rw[if_neg hu]
    rw[hu'];clear hu hu';go_wp2_with fail
    exact⟨⟨k+1,s,by omega,by go_num,rfl,by rw[HSt.out,HU.out,HQ.out.1];omega,HB2.out⟩,zq hlt⟩
  ·have e:k=b.os.length:=by omega
   subst e;have HE:Hid (used l b.os team res=s):=by unfold Hid used;rw[HQ.out.1]
   clear hlt hk;go_wp2_with fail
   go_ret;exact⟨zo HE.out.symm,HB0.out.trans (HQ.out.2.mono HB0.out.size)⟩
end Go.Proofs.YtkficnallnpjnaaGreat
