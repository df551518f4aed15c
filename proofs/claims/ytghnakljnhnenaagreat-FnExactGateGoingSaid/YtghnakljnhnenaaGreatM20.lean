import Derived.Test.YtghnakljnhnenaaGreatM19
import Derived.Test.YtghnakljnhnenaaGreatM18
set_option maxHeartbeats 4000000
namespace Go.Proofs.YtghnakljnhnenaaGreat
open Go.RowKit
theorem zhZ (a0:Option Addr) (cap0:Nat) (ss:List Shp) (nm:ByteArray) (kd ls ms:Int) (a:Option Addr) (cap:Nat) (ws:List ByteArray) (to:ByteArray) (rl:Int) (mu fx:Bool) (df wg:ByteArray) (w:World) (hnm:nm.size<=maxLen) (hdf:df.size<=maxLen) (hws:zD w a ws) (h1:kd ≠ 1) (h2:kd ≠ 2) (h3:kd ≠ 3) (h4:kd ≠ 4) :
 Calls Tryz.prog 169 #[.slice a0 ss.length cap0,.agg #[.string nm,.int .i64 kd,.int .i64 ls,.int .i64 ms,.slice a ws.length cap,.string to,.int .i64 rl,.bool mu,.bool fx,.string df,.string wg]] w
  fun e w'=>e = .returned (.bool (Gate.zy nm && Gate.yF ss ⟨nm,kd,ls,ms,ws,to,rl,mu,fx,df,wg⟩))/\Below w.heap.size w w':=by
 have HO:Hid ((Gate.zy nm && Gate.yF ss ⟨nm,kd,ls,ms,ws,to,rl,mu,fx,df,wg⟩)=false):=by simp [Hid,Gate.yF,Gate.bare,Gate.yG,h1,h2,h3,h4]
 generalize (Gate.zy nm && Gate.yF ss ⟨nm,kd,ls,ms,ws,to,rl,mu,fx,df,wg⟩)=res at HO
 have HFit:Hid (Gate.fits kd ls ms ws df=false):=Gate.zfB kd ls ms ws df h1 h2 h3 h4;have HH:Hid (kd ≠ 1/\kd ≠ 2/\kd ≠ 3/\kd ≠ 4):=⟨h1,h2,h3,h4⟩
 have e1:(kd == 1)=false:=by simpa using h1
 have e2:(kd == 2)=false:=by simpa using h2
 have e3:(kd == 3)=false:=by simpa using h3
 have e4:(kd == 4)=false:=by simpa using h4
 clear h1 h2 h3 h4
 by_cases hn:Gate.zy nm=true
 rotate_left
 ·have HNm:Hid (Gate.zy nm=false):=by simpa [Hid] using hn
  clear hn;go_enter Tryz.func169,Tryz.ntmps169;go_wp2_with fail
  refine (zf HNm.out (zh _ _ hnm)).mono ?_;rintro e w1 ⟨rfl,rfl⟩;go_wp2_with fail
  go_ret;exact ⟨ze HO.out.symm,bAl _ _⟩
 have HNm:Hid (Gate.zy nm=true):=hn;clear hn
 by_cases hd:df.toList.isEmpty=true
 all_goals
  first
   | (have hd1:df.toList.isEmpty=true:=hd)
   | (have hd1:df.toList.isEmpty=false:=by simpa using hd)
  clear hd;go_enter Tryz.func169,Tryz.ntmps169;go_wp2_with fail
  refine (zf HNm.out (zh _ _ hnm)).mono ?_;rintro e w1 ⟨rfl,rfl⟩;go_wp2_with fail
  refine (ziz _ _ _ _ _ _ _ _ _ _ _ _ _ _ HH.out.1 HH.out.2.1 HH.out.2.2.1 HH.out.2.2.2).mono ?_;rintro e w2 ⟨bb,rfl,hb2⟩;have hX2:=za (zm w _ _) (by simp) hb2;have hz2:w.heap.size < w2.heap.size:=by have:=hb2.size;simp at this;omega
  have hB2:Below w.heap.size w w2:=(bAl _ _).trans (hb2.mono (by simp));clear hb2
  cases bb
  ·go_wp2_with fail
   go_ret;exact ⟨ze HO.out.symm,hB2⟩
 ·go_wp2_with fail
  go_ret;exact ⟨ze HO.out.symm,hB2⟩
 ·go_wp2_with fail
  refine (zf HFit.out (yS _ _ _ _ _ _ _ _ _ _ _ _ _ _ _ hdf (hws.mono hB2))).mono ?_;rintro e w3 ⟨rfl,hb3⟩;have hB3:Below w.heap.size w w3:=hB2.trans (hb3.mono (by omega));go_wp2_with fail
  go_ret;exact ⟨ze HO.out.symm,hB3⟩
theorem zfh (a0:Option Addr) (cap0:Nat) (ss:List Shp) (nm:ByteArray) (kd ls ms:Int) (a:Option Addr) (cap:Nat) (ws:List ByteArray) (to:ByteArray) (rl:Int) (mu fx:Bool) (df wg:ByteArray) (w:World) (hnm:nm.size<=maxLen) (hdf:df.size<=maxLen) (hwg:wg.size<=maxLen) (hws:zD w a ws) (hss:yI w a0 ss) :
 Calls Tryz.prog 169 #[.slice a0 ss.length cap0,.agg #[.string nm,.int .i64 kd,.int .i64 ls,.int .i64 ms,.slice a ws.length cap,.string to,.int .i64 rl,.bool mu,.bool fx,.string df,.string wg]] w
  fun e w'=>e = .returned (.bool (Gate.zy nm && Gate.yF ss ⟨nm,kd,ls,ms,ws,to,rl,mu,fx,df,wg⟩))/\Below w.heap.size w w':=by
 by_cases h1:kd=1
 ·subst h1;exact zmZ a0 cap0 ss nm ls ms a cap ws to rl mu fx df wg w hnm hdf hwg hws
 by_cases h2:kd=2
 ·subst h2;exact zl0 a0 cap0 ss nm ls ms a cap ws to rl mu fx df wg w hnm hdf hws
 by_cases h3:kd=3
 ·subst h3;exact zms a0 cap0 ss nm ls ms a cap ws to rl mu fx df wg w hnm hdf hws
 by_cases h4:kd=4
 ·subst h4;exact zl7 a0 cap0 ss nm ls ms a cap ws to rl mu fx df wg w hnm hdf hws hss
 exact zhZ a0 cap0 ss nm kd ls ms a cap ws to rl mu fx df wg w hnm hdf hws h1 h2 h3 h4
theorem zbQ (a:Option Addr) (cap:Nat) (ss:List Shp) (w:World) (hw:yI w a ss) :
 Calls Tryz.prog 125 #[.slice a ss.length cap] w fun e w'=>e = .returned (.bool (Gate.zQ ss))/\Below w.heap.size w w':=by
 have hl:=hw.len;unfold maxLen at hl
 by_cases h6:ss.length<=6
 rotate_left
 ·have HF:Hid (Gate.zQ ss=false):=by simp [Hid,Gate.zQ,h6]
  clear hw;go_enter Tryz.func125,Tryz.ntmps125
  go_wp2
  go_ret;exact ⟨ze HF.out.symm,bRf _ _⟩
 have HG:Hid (Gate.zQ ss=Gate.up (Gate.yR ss) ss.length):=by simp [Hid,Gate.zQ,h6]
 have h6I:(ss.length:Int)<=6:=by omega
 go_enter Tryz.func125,Tryz.ntmps125;go_wp2_with fail
 go_loopw [3] (fun i wr=>∃ k:Nat,k<=ss.length/\i = .int .i64 k/\Gate.up (Gate.yR ss) k=true/\Below w.heap.size w wr) (fun i _=>ss.length - (intOf i).toNat)
 case atStart=>exact ⟨0,Nat.zero_le _,rfl,rfl,bRf _ _⟩
 case round =>
  obtain ⟨k,hk,rfl,hup,hB⟩:=hrel;obtain ⟨W0,rfl⟩:∃ W0,W0=wr:=⟨wr,rfl⟩
  have hsz:=hB.size
  by_cases hlt:k < ss.length
  ·obtain ⟨b,off,rfl,hb,hrw⟩:=hw.rows (by rintro rfl;simp at hlt)
   have hbr:b < W0.heap.size:=by omega
   have hall:yI W0 (some ⟨b,off,none⟩) ss:=hw.mono hB;obtain ⟨fa,fcap,hs⟩:=hrw k hlt;have hs':=hs.mono hb hB;have hck:=hs'.kind;have hcl:=hs'.list;have hfl:=hs'.zdk;have hsm:=hs.small;have HS:Hid (Gate.yR ss k=true->Gate.up (Gate.yR ss) (k+1)=true):=fun h=>by rw [Gate.q9,hup,h];rfl
   have HN:Hid (Gate.yR ss k=false->Gate.zQ ss=false):=fun h=>by rw [HG.out];exact Gate.zaR hlt h
   have hltI:(k:Int) < (ss.length:Int):=by omega
   by_cases hn:Gate.zy ss[k].kd=true
   rotate_left
   ·have HNm:Hid (Gate.zy ss[k].kd=false):=by simpa [Hid] using hn
    have HF:Hid (Gate.yR ss k=false):=by
     unfold Hid Gate.yR;rw [Gate.getD_at ss k _ hlt,HNm.out];rfl
    clear hn hup hw hrw hs hs';go_wp2_with fail
    go_quiet ((go_at_call 97;exact Calls.quiet_of_same (zf HNm.out (zh _ _ hsm))))
    go_wp2_with fail
    go_ret;exact ⟨ze (HN.out HF.out).symm,below_drewN (hB.alloc hsz _) _⟩
   have HNm:Hid (Gate.zy ss[k].kd=true):=hn;clear hn;have hcl6:=hfl.len;unfold maxLen at hcl6
   by_cases hbad:0 < k/\Gate.less (ss.getD (k - 1) Gate.zb2).kd ss[k].kd=false
   ·obtain ⟨hkpos,hls⟩:=hbad
    rw [Gate.getD_at ss (k - 1) _ (by omega)] at hls;obtain ⟨fam,fcapm,hsm0⟩:=hrw (k - 1) (by omega);have hcm:=(hsm0.mono hb hB).kind;have hls':Op.bytesLess ss[k - 1].kd.toList ss[k].kd.toList=false:=hls;have hg:decide (0 < k)=true:=by simp;omega
    have hk1:(0:Int)<=(k:Int) - 1:=by omega
    have hk2:(k:Int) - 1 < (ss.length:Int):=by omega
    have HF:Hid (Gate.yR ss k=false):=by
     unfold Hid Gate.yR;rw [Gate.getD_at ss k _ hlt,Gate.getD_at ss (k - 1) _ (by omega),hls,decide_eq_false (show ¬ k=0 by omega)];simp
    clear hup hw hrw hs hs' hls hsm0;go_wp2_with fail
    go_quiet ((go_at_call 97;exact Calls.quiet_of_same (zf HNm.out (zh _ _ hsm))))
    go_wp2_with fail
    go_ret;exact ⟨ze (HN.out HF.out).symm,below_drewN (hB.alloc hsz _) _⟩
   have hgood:(decide (0 < k)=false/\Gate.yR ss k=Gate.yU ss ss[k].fs) \/ (decide (0 < k)=true/\Gate.yR ss k=Gate.yU ss ss[k].fs/\(0:Int)<=(k:Int) - 1/\(k:Int) - 1 < (ss.length:Int)/\∃ h:k - 1 < ss.length,Op.bytesLess ss[k - 1].kd.toList ss[k].kd.toList=true/\W0.cell? ⟨b,off+(k - 1) * 2,none⟩=some (.string ss[k - 1].kd)):=by
    by_cases hk0:k=0
    ·refine Or.inl ⟨by simp;omega,?_⟩
     subst hk0;rw [Gate.zfb ss hlt,HNm.out];rfl
    ·obtain ⟨fam,fcapm,hsm0⟩:=hrw (k - 1) (by omega)
     have hls:Gate.less ss[k - 1].kd ss[k].kd=true:=by
      rw [Gate.getD_at ss (k - 1) _ (by omega)] at hbad
      cases h:Gate.less ss[k - 1].kd ss[k].kd with
      | true=>rfl
      | false=>exact absurd ⟨by omega,h⟩ hbad
     refine Or.inr ⟨by simp;omega,?_,by omega,by omega,by omega,hls,(hsm0.mono hb hB).kind⟩;unfold Gate.yR;rw [Gate.getD_at ss k _ hlt,Gate.getD_at ss (k - 1) _ (by omega),hls,HNm.out];simp
   clear hup hw hrw hs hs' hbad
   rcases hgood with ⟨hg,hAA⟩ | ⟨hg,hAA,hk1,hk2,hkm,hls',hcm⟩
   all_goals
    have HA:Hid (Gate.yR ss k=Gate.yU ss ss[k].fs):=hAA;clear hAA
    by_cases h6f:ss[k].fs.length<=6
    rotate_left
    ·have HF:Hid (Gate.yR ss k=false):=by rw [HA.out];simp [Hid,Gate.yU,h6f]
     have h6fI:(6:Int) < (ss[k].fs.length:Int):=by omega
     go_wp2_with fail
     go_quiet ((go_at_call 97;exact Calls.quiet_of_same (zf HNm.out (zh _ _ hsm))))
     go_wp2_with fail
     go_ret;exact ⟨ze (HN.out HF.out).symm,below_drewN (hB.alloc hsz _) _⟩
    have h6fI:(ss[k].fs.length:Int)<=6:=by omega
    have HFG:Hid (Gate.yU ss ss[k].fs=Gate.up (Gate.zd0 ss ss[k].fs) ss[k].fs.length):=by simp [Hid,Gate.yU,h6f]
    go_wp2_with fail
    go_quiet ((go_at_call 97;exact Calls.quiet_of_same (zf HNm.out (zh _ _ hsm))))
    go_wp2_with fail
    go_loopw [5] (fun i wr2=>∃ k2:Nat,k2<=ss[k].fs.length/\i = .int .i64 k2/\Gate.up (Gate.zd0 ss ss[k].fs) k2=true/\Below (W0.heap.size+1) (W0.alloc (.cells #[.string ss[k].kd,.slice fa ss[k].fs.length fcap] 123)) wr2) (fun i _=>ss[k].fs.length - (intOf i).toNat)
    case atStart=>exact ⟨0,Nat.zero_le _,rfl,rfl,below_drewN (bRf _ _) _⟩
    case round =>
     obtain ⟨k2,hk2',rfl,hup2,hBl⟩:=hrel;obtain ⟨W2,rfl⟩:∃ W2,W2=wr:=⟨wr,rfl⟩
     have hsz2:W0.heap.size < W2.heap.size:=by have:=hBl.size;simp at this;omega
     have hB02:Below W0.heap.size W0 W2:=(bAl _ _).trans (hBl.mono (by omega));have hB2:Below w.heap.size w W2:=hB.trans (hB02.mono hsz);have hY1:W2.cell? ⟨W0.heap.size,1,none⟩=some (.slice fa ss[k].fs.length fcap):=(hBl.cell (p:=⟨W0.heap.size,1,none⟩) (by simp)).trans (by rw [World.cell?_alloc_at _ _ _ _ rfl];rfl)
     by_cases hlt2:k2 < ss[k].fs.length
     ·obtain ⟨fb,foff,rfl,hfb,hfr⟩:=hfl.rows (by intro h;rw [h] at hlt2;simp at hlt2)
      obtain ⟨wa,wcap,hf0⟩:=hfr k2 hlt2;have hf:=hf0.mono hfb hB02;obtain ⟨c0,c1,c2,c3,c4,c5,c6,c7,c8,c9,c10⟩:=hf.load;have hsmf:=hf.small;have hstf:=hf.strs;have hall2:yI W2 (some ⟨b,off,none⟩) ss:=hall.mono hB02;have HO:Hid (Gate.zd0 ss ss[k].fs k2=(Gate.zy ss[k].fs[k2].nm && !Gate.hasName (ss[k].fs.take k2) ss[k].fs[k2].nm && Gate.yF ss ss[k].fs[k2])):=Gate.zgB ss ss[k].fs k2 hlt2;have HS2:Hid (Gate.zd0 ss ss[k].fs k2=true->Gate.up (Gate.zd0 ss ss[k].fs) (k2+1)=true):=fun h=>by rw [Gate.q9,hup2,h];rfl
      have HN2:Hid (Gate.zd0 ss ss[k].fs k2=false->Gate.zQ ss=false):=fun h=>HN.out (by rw [HA.out,HFG.out];exact Gate.zaR hlt2 h)
      have hltI2:(k2:Int) < (ss[k].fs.length:Int):=by omega
      by_cases hfo:(Gate.zy ss[k].fs[k2].nm && Gate.yF ss ss[k].fs[k2])=true
      ·have HFO:Hid ((Gate.zy ss[k].fs[k2].nm && Gate.yF ss ss[k].fs[k2])=true):=hfo
       clear hfo hup2;go_wp2_with fail
       refine (zf HFO.out (zfh _ _ _ _ _ _ _ _ _ _ _ _ _ _ _ _ _ hsmf.nm hsmf.df hsmf.wg hstf hall2)).mono ?_;rintro e W3 ⟨rfl,hb3⟩;go_wp2_with fail
       have hB23:Below W0.heap.size W0 W3:=hB02.trans (hb3.mono (by omega));have hB3:Below w.heap.size w W3:=hB2.trans (hb3.mono (by omega));have hY3:W3.cell? ⟨W0.heap.size,1,none⟩=some (.slice (some ⟨fb,foff,none⟩) ss[k].fs.length fcap):=(hb3.cell (p:=⟨W0.heap.size,1,none⟩) hsz2).trans hY1;have hsz3:W0.heap.size < W3.heap.size:=by have:=hb3.size;omega
       have hnames:∀ i (h:i < ss[k].fs.length),W3.cell? ⟨fb,foff+i * 11,none⟩=some (.string ss[k].fs[i].nm):=fun i h=>by
        obtain ⟨wa',wcap',hfi⟩:=hfr i h;exact (hfi.mono hfb hB23).load.1
       have hBl3:Below (W0.heap.size+1) (W0.alloc (.cells #[.string ss[k].kd,.slice (some ⟨fb,foff,none⟩) ss[k].fs.length fcap] 123)) W3:=hBl.trans (hb3.mono (by omega));clear hY1 c0 c1 c2 c3 c4 c5 c6 c7 c8 c9 c10 hb3 hf hf0 hfr hstf hall2
       go_loopw [6] (fun i wr3=>∃ j:Nat,j<=k2/\i = .int .i64 j/\Gate.hasName (ss[k].fs.take j) ss[k].fs[k2].nm=false/\∃ n,wr3=W3.drewN n) (fun i _=>k2 - (intOf i).toNat)
       case atStart=>exact ⟨0,Nat.zero_le _,rfl,rfl,0,rfl⟩
       case round =>
        obtain ⟨jj,hjj,rfl,hno,hwr3⟩:=hrel;have HW:Hid (∃ n,wr=W3.drewN n):=hwr3;have hY4:wr.cell? ⟨W0.heap.size,1,none⟩=some (.slice (some ⟨fb,foff,none⟩) ss[k].fs.length fcap):=by obtain ⟨n,rfl⟩:=hwr3;exact hY3
        have hck2:wr.cell? ⟨fb,foff+k2 * 11,none⟩=some (.string ss[k].fs[k2].nm):=by obtain ⟨n,rfl⟩:=hwr3;exact hnames k2 hlt2
        by_cases hltj:jj < k2
        ·have hjl:jj < ss[k].fs.length:=by omega
         have hcj:wr.cell? ⟨fb,foff+jj * 11,none⟩=some (.string ss[k].fs[jj].nm):=by obtain ⟨n,rfl⟩:=hwr3;exact hnames jj hjl
         have hjI:(jj:Int) < (ss[k].fs.length:Int):=by omega
         have hjK:(jj:Int) < (k2:Int):=by omega
         clear hwr3
         by_cases he:ss[k].fs[jj].nm=ss[k].fs[k2].nm
         ·have hbe:(ss[k].fs[jj].nm.toList == ss[k].fs[k2].nm.toList)=true:=by rw [Gate.beq_toList];simpa using he
          have HF:Hid (Gate.zd0 ss ss[k].fs k2=false):=by
           rw [HO.out];unfold Hid
           have hh:Gate.hasName (ss[k].fs.take k2) ss[k].fs[k2].nm=true:=by
            unfold Gate.hasName;rw [List.any_eq_true];exact ⟨ss[k].fs[jj],List.mem_take_iff_getElem.2 ⟨jj,by omega,rfl⟩,by simpa using he⟩
           rw [hh];simp
          clear he hno;go_wp2_with fail
          go_quiet (fail)
          go_wp2_with fail
          go_ret;refine ⟨ze (HN2.out HF.out).symm,?_⟩;obtain ⟨n,rfl⟩:=HW.out;exact below_drewN (below_drewN hB3 _) _
         ·have hbe:(ss[k].fs[jj].nm.toList == ss[k].fs[k2].nm.toList)=false:=by rw [Gate.beq_toList];simpa using he
          have HSn:Hid (Gate.hasName (ss[k].fs.take (jj+1)) ss[k].fs[k2].nm=false):=by unfold Hid;rw [Gate.zdV _ _ jj hjl,hno,decide_eq_false he];rfl
          clear he hno;go_wp2_with fail
          go_quiet (fail)
          go_wp2_with fail
          obtain ⟨n,rfl⟩:=HW.out;exact ⟨⟨jj+1,by omega,by go_num,HSn.out,n+nq,by simp⟩,by simp [intOf];omega⟩
        ·have HF:Hid (Gate.zd0 ss ss[k].fs k2=true):=by
          have e:jj=k2:=by omega
          subst e;rw [HO.out,hno];unfold Hid
          have:=HFO.out
          rw [Bool.and_eq_true] at this;rw [this.1,this.2];rfl
         have hBlw:Below (W0.heap.size+1) (W0.alloc (.cells #[.string ss[k].kd,.slice (some ⟨fb,foff,none⟩) ss[k].fs.length fcap] 123)) wr:=by obtain ⟨n,rfl⟩:=hwr3;exact below_drewN hBl3 _
         clear hno hwr3 hY4 hck2;go_wp2_with fail
         exact ⟨⟨k2+1,by omega,by go_num,HS2.out HF.out,hBlw⟩,by simp [intOf];omega⟩
      ·have HFO:Hid ((Gate.zy ss[k].fs[k2].nm && Gate.yF ss ss[k].fs[k2])=false):=by simpa [Hid] using hfo
       have HF:Hid (Gate.zd0 ss ss[k].fs k2=false):=by
        rw [HO.out];unfold Hid
        have:=HFO.out
        cases h1:Gate.zy ss[k].fs[k2].nm <;> cases h2:Gate.yF ss ss[k].fs[k2] <;> simp_all
       clear hfo hup2;go_wp2_with fail
       refine (zf HFO.out (zfh _ _ _ _ _ _ _ _ _ _ _ _ _ _ _ _ _ hsmf.nm hsmf.df hsmf.wg hstf hall2)).mono ?_;rintro e W3 ⟨rfl,hb3⟩;have hB3:Below w.heap.size w W3:=hB2.trans (hb3.mono (by omega));go_wp2_with fail
       go_ret;exact ⟨ze (HN2.out HF.out).symm,hB3⟩
     ·have HF:Hid (Gate.yR ss k=true):=by
       have e:k2=ss[k].fs.length:=by omega
       subst e;rw [HA.out,HFG.out];exact hup2
      clear hup2;go_wp2_with fail
      exact ⟨⟨k+1,by omega,by go_num,HS.out HF.out,hB2⟩,by simp [intOf];omega⟩
  ·have HF:Hid (Gate.zQ ss=true):=by
    have e:k=ss.length:=by omega
    subst e;rw [HG.out];exact hup
   clear hup hw
   go_wp2
   go_ret;exact ⟨ze HF.out.symm,hB⟩
namespace Gate
def zaP (ss:List Shp) (m:Mnd):Bool:=zF ss m.kd && yx (shapeOf ss m.kd).fs m
def zbW (ms:List Mnd) (s:Shp):Bool:=decide ((zT s ms s.fs.length).length=s.fs.length)
def jo (ss:List Shp) (ms:List Mnd):Bool:=zQ ss && decide (ms.length<=12) && ms.all (zaP ss) && ss.all (zbW ms)
end Gate
theorem zkR (a:Option Addr) (cap:Nat) (ss:List Shp) (m:Mnd) (w:World) (hw:yI w a ss) (hm:m.Small) :
 Calls Tryz.prog 126 #[.slice a ss.length cap,.agg m.cells] w fun e w'=>e = .returned (.bool (Gate.zaP ss m))/\Below w.heap.size w w':=by
 by_cases hk:Gate.zF ss m.kd=true
 ·refine (zll a cap ss m w hw hm hk).mono ?_
  rintro e w' ⟨rfl,hb⟩;exact ⟨by unfold Gate.zaP;rw [hk];rfl,hb⟩
 ·have hkf:Gate.zF ss m.kd=false:=by simpa using hk
  have HF:Hid (Gate.zaP ss m=false):=by unfold Hid Gate.zaP;rw [hkf];rfl
  unfold Mnd.cells;have hba:=(bRf w.heap.size w).alloc (Nat.le_refl _) (.cells #[.string m.kd,.string m.fd,.string m.wh,.string m.wi,.string m.pt,.string m.fr] 125);go_enter Tryz.func126,Tryz.ntmps126;go_wp2_with fail
  refine (zdM _ _ _ _ _ (hw.mono hba) hkf).mono ?_;rintro e w1 ⟨rfl,rfl⟩;go_wp2_with fail
  go_ret;exact ⟨by rw [HF.out];rfl,hba⟩
set_option maxRecDepth 20000 in
theorem zek (a a':Option Addr) (cap cap':Nat) (ss:List Shp) (ms:List Mnd) (w:World) (hw:yI w a ss) (hm:yY w a' ms) :
 Calls Tryz.prog 88 #[.slice a ss.length cap,.slice a' ms.length cap'] w fun e w'=>e = .returned (.bool (Gate.jo ss ms))/\Below w.heap.size w w':=by
 have HW:Hid (yI w a ss/\yY w a' ms):=⟨hw,hm⟩
 have hl:=hw.len;have hml:=hm.len;unfold maxLen at hl hml;clear hw hm
 by_cases hok:Gate.zQ ss=true
 rotate_left
 ·have hokf:Gate.zQ ss=false:=by simpa using hok
  have HF:Hid (Gate.jo ss ms=false):=by unfold Hid Gate.jo;rw [hokf];simp
  go_enter Tryz.func88,Tryz.ntmps88;go_wp2_with fail
  have h:=zbQ a cap ss w HW.out.1;rw [hokf] at h;refine h.mono ?_;rintro e w1 ⟨rfl,hb1⟩;clear h;go_wp2_with fail
  go_ret;exact ⟨by rw [HF.out];rfl,hb1⟩
 have HOK:Hid (Gate.zQ ss=true):=hok
 by_cases h12:ms.length<=12
 rotate_left
 ·have HF:Hid (Gate.jo ss ms=false):=by unfold Hid Gate.jo;rw [decide_eq_false h12];simp
  go_enter Tryz.func88,Tryz.ntmps88;go_wp2_with fail
  have h:=zbQ a cap ss w HW.out.1;rw [hok] at h;refine h.mono ?_;rintro e w1 ⟨rfl,hb1⟩;clear h hok;go_wp2_with fail
  go_ret;exact ⟨by rw [HF.out];rfl,hb1⟩
 have h12I:(ms.length:Int)<=12:=by omega
 go_enter Tryz.func88,Tryz.ntmps88;go_wp2_with fail
 have h:=zbQ a cap ss w HW.out.1;rw [hok] at h;refine h.mono ?_;rintro e w1 ⟨rfl,hb1⟩;have HB1:Hid (Below w.heap.size w w1):=hb1;clear h hok hb1;go_wp2_with fail
 go_loopw [5] (fun iv wr=>∃ k:Nat,k<=ms.length/\iv = .int .i64 k/\(ms.take k).all (Gate.zaP ss)=true/\Below w.heap.size w wr) (fun iv _=>ms.length - (intOf iv).toNat)
 case atStart=>exact ⟨0,Nat.zero_le _,rfl,rfl,HB1.out⟩
 case round =>
  obtain ⟨k,hk,rfl,hall,hB⟩:=hrel;have HB:Hid (Below w.heap.size w wr):=hB;have HA:Hid ((ms.take k).all (Gate.zaP ss)=true):=hall;clear hall hB
  by_cases hlt:k < ms.length
  ·obtain ⟨b,off,rfl,hb,c0,c1,c2,c3,c4,c5⟩:=HW.out.2.load HB.out k hlt
   have hltI:(k:Int) < (ms.length:Int):=by omega
   have HSM:Hid (ms[k].Small):=HW.out.2.small k hlt
   have HTK:Hid ((ms.take (k+1)).all (Gate.zaP ss)=Gate.zaP ss ms[k]):=by
    unfold Hid;rw [tSe hlt,List.all_append,HA.out];simp
   have HNO:Hid (Gate.zaP ss ms[k]=false->Gate.jo ss ms=false):=by
    intro h
    have:ms.all (Gate.zaP ss)=false:=by rw [List.all_eq_false];exact ⟨_,List.getElem_mem hlt,by rw [h];simp⟩
    unfold Gate.jo;rw [this];simp
   go_wp2_with fail
   have h:=zkR a cap ss ms[k] wr (HW.out.1.mono HB.out) HSM.out
   rcases hh:Gate.zaP ss ms[k] with _ | _
   ·rw [hh] at h
    refine h.mono ?_;rintro e w3 ⟨rfl,hb3⟩;have HF:Hid (Gate.jo ss ms=false/\Below w.heap.size w w3):=⟨HNO.out hh,HB.out.trans (hb3.mono HB.out.size)⟩
    clear h hb3 hh c0 c1 c2 c3 c4 c5;go_wp2_with fail
    go_ret;exact ⟨by rw [HF.out.1];rfl,HF.out.2⟩
   ·rw [hh] at h
    refine h.mono ?_;rintro e w3 ⟨rfl,hb3⟩;have HY:Hid ((ms.take (k+1)).all (Gate.zaP ss)=true/\Below w.heap.size w w3):=⟨by rw [HTK.out];exact hh,HB.out.trans (hb3.mono HB.out.size)⟩
    clear h hb3 hh c0 c1 c2 c3 c4 c5;go_wp2_with fail
    exact ⟨⟨k+1,by omega,by go_num,HY.out.1,HY.out.2⟩,zn hlt⟩
  ·have e:k=ms.length:=by omega
   have hall:=HA.out;rw [e,tOl (Nat.le_refl _)] at hall;have HALL:Hid (ms.all (Gate.zaP ss)=true):=hall;subst e;clear hall HA;go_wp2_with fail
   have HBw:Hid (Below w.heap.size w wr):=HB.out;clear HB
   go_loopw [6] (fun iv wq=>∃ k:Nat,k<=ss.length/\iv = .int .i64 k/\(ss.take k).all (Gate.zbW ms)=true/\Below w.heap.size w wq) (fun iv _=>ss.length - (intOf iv).toNat)
   case atStart=>exact ⟨0,Nat.zero_le _,rfl,rfl,HBw.out⟩
   case round =>
    obtain ⟨k,hk,rfl,hall,hB⟩:=hrel;have HB:Hid (Below w.heap.size w wr):=hB;have HA:Hid ((ss.take k).all (Gate.zbW ms)=true):=hall;clear hall hB
    by_cases hlt:k < ss.length
    ·obtain ⟨b,off,rfl,hb,hr⟩:=HW.out.1.rows (by rintro rfl;simp at hlt)
     obtain ⟨fa,fcap,hs0⟩:=hr k hlt;have HSI:Hid (∀ W,Below w.heap.size w W->zkO W b (off+k * 2) ss[k] fa fcap):=fun W hbb=>hs0.mono hb hbb
     have hck:=(HSI.out _ HB.out).kind;have hcl:=(HSI.out _ HB.out).list;have hltI:(k:Int) < (ss.length:Int):=by omega
     have HTK:Hid ((ss.take (k+1)).all (Gate.zbW ms)=Gate.zbW ms ss[k]):=by
      unfold Hid;rw [tSe hlt,List.all_append,HA.out];simp
     have HNO:Hid (Gate.zbW ms ss[k]=false->Gate.jo ss ms=false):=by
      intro h
      have:ss.all (Gate.zbW ms)=false:=by rw [List.all_eq_false];exact ⟨_,List.getElem_mem hlt,by rw [h];simp⟩
      unfold Gate.jo;rw [this];simp
     have HFW:Hid (ss[k].fs.length<=6):=Gate.zft HOK.out k hlt;clear hr hs0;go_wp2_with fail
     have hbc:Below w.heap.size w wr.drew:=HB.out.drew;have hL:=(⟨(HSI.out _ hbc).kind,(HSI.out _ hbc).list⟩:_/\_)
     go_region_held3 (fun w'=>w'.cell? ⟨b,off+k * 2,none⟩=some (.string ss[k].kd)/\w'.cell? ⟨b,off+k * 2+1,none⟩=some (.slice fa ss[k].fs.length fcap)) (exact hL) (first
      | (go_at_call 127;refine (zkH fa a' fcap cap' ss[k] ms _ (by exact (HSI.out _ hbc).zdk) (by exact HW.out.2.mono hbc) h12 HFW.out).mono ?_;rintro e w5 ⟨v5,rfl,hrow,hb5⟩;obtain ⟨ra,rcap,rfl⟩:=yV hrow;have hbc:=hbc.trans (hb5.mono hbc.size);have hL:=(⟨(HSI.out _ hbc).kind,(HSI.out _ hbc).list⟩:_/\_);clear hb5 hrow))
     by_cases hrk:(Gate.zT ss[k] ms ss[k].fs.length).length=ss[k].fs.length
     ·have hrI:(((Gate.zT ss[k] ms ss[k].fs.length).length:Int) != (ss[k].fs.length:Int))=false:=by rw [hrk];simp
      have HY:Hid ((ss.take (k+1)).all (Gate.zbW ms)=true):=by unfold Hid;rw [HTK.out];unfold Gate.zbW;exact decide_eq_true hrk
      clear hrk;go_wp2_with fail
      exact ⟨⟨k+1,by omega,by go_num,HY.out,hbc⟩,zn hlt⟩
     ·have hrI:(((Gate.zT ss[k] ms ss[k].fs.length).length:Int) != (ss[k].fs.length:Int))=true:=by rw [bne_iff_ne];omega
      have HF:Hid (Gate.jo ss ms=false):=HNO.out (by unfold Gate.zbW;exact decide_eq_false hrk);clear hrk;go_wp2_with fail
      go_ret;exact ⟨by rw [HF.out];rfl,hbc⟩
    ·have e:k=ss.length:=by omega
     have hall:=HA.out;rw [e,tOl (Nat.le_refl _)] at hall;have HF:Hid (Gate.jo ss ms=true):=by unfold Hid Gate.jo;rw [HALL.out,HOK.out,hall,decide_eq_true h12];rfl
     subst e;clear hall HA;go_wp2_with fail
     go_ret;exact ⟨by rw [HF.out];rfl,HB.out⟩
end Go.Proofs.YtghnakljnhnenaaGreat
namespace Go.Proofs.YtghnakljnhnenaaGreat.Gate
theorem zpV (ws:List ByteArray) (v:ByteArray):has ws v=true ↔ v ∈ ws:=by
 unfold has;rw [List.any_eq_true]
 constructor
 ·rintro ⟨x,hx,he⟩
  have:x=v:=by simpa using he
  rw [<- this];exact hx
 ·intro h;exact ⟨v,h,by simp⟩
theorem zmg {ss:List Shp} (h:zQ ss=true) (i:Nat) (hi:i < ss.length) (j:Nat) (hj:j < ss[i].fs.length):zd0 ss ss[i].fs j=true:=by
 have h1:=zg4 h i hi;unfold yR at h1;rw [getD_at ss i _ hi] at h1;simp only [Bool.and_eq_true] at h1;have h2:=h1.2;unfold yU at h2;simp only [Bool.and_eq_true] at h2;exact ze6 hj h2.2
theorem zmV {ss:List Shp} (h:zQ ss=true) (i:Nat) (hi:i < ss.length) (j:Nat) (hj:j < ss[i].fs.length):isSet ss[i].fs[j].nm=true:=by
 have h1:=zmg h i hi j hj;rw [zgB _ _ _ hj] at h1;simp only [Bool.and_eq_true] at h1;have h2:=h1.1.1;rw [zo6];intro e;rw [e] at h2
 revert h2
 decide
theorem zeu {ss:List Shp} (h:zQ ss=true) (i:Nat) (hi:i < ss.length) (j k:Nat) (hj:j < k) (hk:k < ss[i].fs.length):(ss[i].fs[j]'(by omega)).nm ≠ ss[i].fs[k].nm:=by
 have h1:=zmg h i hi k hk;rw [zgB _ _ _ hk] at h1;simp only [Bool.and_eq_true,Bool.not_eq_true'] at h1;have h2:=h1.1.2;intro e;unfold hasName at h2;rw [List.any_eq_false] at h2
 have hm:ss[i].fs[j]'(by omega) ∈ ss[i].fs.take k:=by
  rw [List.mem_iff_getElem];exact ⟨j,by simp;omega,by simp⟩
 exact h2 _ hm (by simpa using e)
theorem zpO {ss:List Shp} (h:zQ ss=true) (i:Nat) (hi:i < ss.length) (j k:Nat) (hj:j < ss[i].fs.length) (hk:k < ss[i].fs.length) (e:zbc ss[i] j=zbc ss[i] k):j=k:=by
 unfold zbc at e;rw [getD_at _ _ _ hj,getD_at _ _ _ hk] at e
 rcases Nat.lt_trichotomy j k with h1 | h1 | h1
 ·exact absurd e (zeu h i hi j k h1 hk)
 ·exact h1
 ·exact absurd e.symm (zeu h i hi k j h1 hj)
theorem zoX {ss:List Shp} (h:zQ ss=true) (m:Mnd):jP ss m=zaP ss m:=by
 unfold jP zaP
 by_cases hk:zF ss m.kd=true
 ·rw [hk,Bool.true_and,Bool.true_and]
  unfold zF at hk;rw [List.any_eq_true] at hk;obtain ⟨x,hx,he⟩:=hk;obtain ⟨i,hi,rfl⟩:=List.mem_iff_getElem.1 hx;have hkd:ss[i].kd=m.kd:=by simpa using he
  rw [<- hkd,zec h i hi];unfold za2 yx
  by_cases hp:plain ss[i].fs m.fd=true
  ·have hfd:isSet m.fd=true:=by
    rcases jm ss[i].fs m.fd with ⟨_,h2⟩ | ⟨k,hk',_,h2,_⟩
    ·rw [zau h2] at hp;cases hp
    ·rw [<- h2];exact zmV h i hi k hk'
   have hne:∀ v,isSet v=false->v ≠ m.fd:=fun v hv e=>by rw [e,hfd] at hv;cases hv
   rw [hp,Bool.true_and,Bool.true_and]
   have e:(zK m).all (jM ss[i].fs m)=((!isSet m.wh || plain ss[i].fs m.wh) && (!isSet m.fr || plain ss[i].fs m.fr) && !decide (m.wh=m.fd) && !decide (m.fr=m.fd)):=by
    unfold zK;rw [List.all_filter];unfold jM
    rcases hw:isSet m.wh with _ | _ <;> rcases hf:isSet m.fr with _ | _
    ·simp [hw,hf,hne _ hw,hne _ hf]
    ·simp [hw,hf,hne _ hw]
     cases plain ss[i].fs m.fr <;> simp
    ·simp [hw,hf,hne _ hf]
     cases plain ss[i].fs m.wh <;> simp
    ·simp [hw,hf]
     cases plain ss[i].fs m.wh <;> cases plain ss[i].fs m.fr <;> simp
   rw [e]
  ·have hpf:plain ss[i].fs m.fd=false:=by simpa using hp
   rw [hpf];simp
 ·have hkf:zF ss m.kd=false:=by simpa using hk
  rw [hkf];rfl
theorem znF {ss:List Shp} {ms:List Mnd} (h:zQ ss=true) (hm:ms.all (jP ss)=true) (i:Nat) (hi:i < ss.length) (row:List Nat) (hrow:∀ q ∈ row,q < ss[i].fs.length) (j:Nat) (hj:j < ss[i].fs.length) :
 jy ss[i] ms (row.map (zbc ss[i])) j=ready (zl ss[i] ms) row j:=by
 have hmem:∀ q,q < ss[i].fs.length->(has (row.map (zbc ss[i])) (zbc ss[i] q)=true ↔ q ∈ row):=by
  intro q hq;rw [zpV,List.mem_map]
  constructor
  ·rintro ⟨p,hp,e⟩
   rw [<- zpO h i hi p q (hrow p hp) hq e];exact hp
  ·intro hp;exact ⟨q,hp,rfl⟩
 rw [Bool.eq_iff_iff,zgK];unfold jy;rw [Bool.and_eq_true,Bool.not_eq_true',<- Bool.not_eq_true,hmem j hj];refine and_congr Iff.rfl ?_;unfold zcj;rw [List.all_eq_true]
 -- what a mend that turns j reads
 have hread:∀ m ∈ ms,turns m ss[i] j=true->∀ v ∈ zK m,∃ q,q < ss[i].fs.length/\zR ss[i].fs v=(q:Int)/\zbc ss[i] q=v:=by
  intro m hmm ht v hv;unfold turns at ht;simp only [Bool.and_eq_true,decide_eq_true_eq] at ht;have h1:=List.all_eq_true.1 hm m hmm;unfold jP at h1;rw [ht.1,zec h i hi] at h1;simp only [Bool.and_eq_true] at h1;have h2:=h1.2;unfold za2 at h2;simp only [Bool.and_eq_true] at h2;have h3:=List.all_eq_true.1 h2.1.2 v hv;unfold jM at h3;simp only [Bool.and_eq_true] at h3
  rcases jm ss[i].fs v with ⟨_,h5⟩ | ⟨k,hk,h4,h5,_⟩
  ·rw [zau h5] at h3;exact absurd h3.2 (by simp)
  ·exact ⟨k,hk,h4,by unfold zbc;rw [getD_at _ _ _ hk];exact h5⟩
 have hR:∀ m,qE ss[i].kd (zbc ss[i] j) (row.map (zbc ss[i])) m=true ↔ (turns m ss[i] j=true->∀ v ∈ zK m,has (row.map (zbc ss[i])) v=true):=by
  intro m;have e1:turns m ss[i] j=(decide (m.kd=ss[i].kd) && decide (m.fd=zbc ss[i] j)):=rfl;unfold qE;rw [<- e1]
  rcases turns m ss[i] j with _ | _
  ·simp
  ·unfold zK
   rcases hw:isSet m.wh with _ | _ <;> rcases hf:isSet m.fr with _ | _ <;> simp [hw,hf]
 constructor
 ·intro hall q hq
  unfold zl at hq;obtain ⟨x,hx,rfl⟩:=List.mem_map.1 hq;unfold zY at hx;obtain ⟨m,hmm,hx⟩:=List.mem_flatMap.1 hx
  by_cases ht:turns m ss[i] j=true
  ·rw [if_pos ht] at hx
   obtain ⟨v,hv,rfl⟩:=List.mem_map.1 hx;obtain ⟨q,hq,e1,e2⟩:=hread m hmm ht v hv
   have:=(hR m).1 (hall m hmm) ht v hv
   rw [e1,Int.toNat_natCast];rw [<- e2] at this;exact (hmem q hq).1 this
  ·rw [if_neg ht] at hx;cases hx
 ·intro hall m hmm
  rw [hR];intro ht v hv;obtain ⟨q,hq,e1,e2⟩:=hread m hmm ht v hv;rw [<- e2,hmem q hq];refine hall q ?_;unfold zl;rw [List.mem_map];refine ⟨(q:Int),?_,Int.toNat_natCast _⟩;unfold zY;rw [List.mem_flatMap];refine ⟨m,hmm,?_⟩;rw [if_pos ht,List.mem_map];exact ⟨v,hv,e1⟩
theorem find_congr {α:Type} {f g:α->Bool}:∀ {l:List α},(∀ x ∈ l,f x=g x)->l.find? f=l.find? g
 | [],_=>rfl
 | a :: l,h=>by
  have h1:=h a (by simp);have h2:=find_congr (f:=f) (g:=g) (l:=l) (fun x hx=>h x (by simp [hx]));rw [List.find?_cons,List.find?_cons,h1,h2]
theorem zdP {ss:List Shp} {ms:List Mnd} (h:zQ ss=true) (hm:ms.all (jP ss)=true) (i:Nat) (hi:i < ss.length):∀ k,zT ss[i] ms k=(greedy (zl ss[i] ms) ss[i].fs.length k).map (zbc ss[i])
 | 0=>rfl
 | k+1=>by
  show zey ss[i] ms (zT ss[i] ms k)=(more (zl ss[i] ms) ss[i].fs.length (greedy (zl ss[i] ms) ss[i].fs.length k)).map (zbc ss[i])
  rw [zdP h hm i hi k];have hpart:=zce (zl ss[i] ms) ss[i].fs.length k
  have e:(List.range ss[i].fs.length).find? (jy ss[i] ms ((greedy (zl ss[i] ms) ss[i].fs.length k).map (zbc ss[i])))=pick (zl ss[i] ms) ss[i].fs.length (greedy (zl ss[i] ms) ss[i].fs.length k):=by
   unfold pick
   apply find_congr
   intro x hx;exact znF h hm i hi _ hpart.mem x (List.mem_range.1 hx)
  unfold zey more;rw [e]
  cases pick (zl ss[i] ms) ss[i].fs.length (greedy (zl ss[i] ms) ss[i].fs.length k) with
  | none=>rfl
  | some q=>simp
theorem znb {ss:List Shp} {ms:List Mnd} (h:zQ ss=true) (hm:ms.all (jP ss)=true) (i:Nat) (hi:i < ss.length):rowOk ms ss[i]=zbW ms ss[i]:=by
 unfold rowOk zbW;rw [zdP h hm i hi,List.length_map];refine zid (fun p hp q hq=>?_);unfold zl at hq;obtain ⟨x,hx,rfl⟩:=List.mem_map.1 hq
 have:=ziY h hm i hi p hp x hx
 omega
theorem zfF (ss:List Shp) (ms:List Mnd):yt ss ms=jo ss ms:=by
 unfold yt jo
 by_cases h:zQ ss=true
 ·have e1:ms.all (zaP ss)=ms.all (jP ss):=by congr 1;funext m;exact (zoX h m).symm
  rw [e1,h]
  by_cases hm:ms.all (jP ss)=true
  ·have e2:ss.all (rowOk ms)=ss.all (zbW ms):=by
    rw [Bool.eq_iff_iff,List.all_eq_true,List.all_eq_true]
    constructor
    ·intro ha x hx
     obtain ⟨i,hi,rfl⟩:=List.mem_iff_getElem.1 hx;rw [<- znb h hm i hi];exact ha _ hx
    ·intro ha x hx
     obtain ⟨i,hi,rfl⟩:=List.mem_iff_getElem.1 hx;rw [znb h hm i hi];exact ha _ hx
   rw [e2];cases decide (ms.length<=12) <;> simp
  ·have hmf:ms.all (jP ss)=false:=by simpa using hm
   rw [hmf];simp
 ·have hf:zQ ss=false:=by simpa using h
  rw [hf];simp
end Go.Proofs.YtghnakljnhnenaaGreat.Gate
