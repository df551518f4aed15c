import Derived.Test.YtnapmdofidgliaaGreatM16
set_option maxHeartbeats 4000000
namespace Go.Proofs.YtnapmdofidgliaaGreat
open Go.RowKit
theorem zcF (r:Rl)(a:Option Addr)(cap:Nat)(w:World)(hm:r.Small)(hw:qy w a r.vs) :
 Calls Tryz.prog 105 #[.agg (r.cells a cap)] w fun e w'=>e=.returned (.bool (zS r))/\Below w.heap.size w w':=by
 have hskd:=hm.kd;have hstm:=hm.tm;have hpx:=hm.px;have hvl:=hw.len;unfold maxLen at hpx hvl;unfold Rl.cells;have HB:Hid (∀ob,Below w.heap.size w (w.alloc ob)):=fun ob=>bAl _ _
 have HI:=hid hw;clear hw hm
 by_cases hv0:r.vs.length=0
 ·have HF:Hid (zS r=false):=by unfold Hid zS jc;rw[decide_eq_false (show ¬0<r.vs.length by omega)];simp
  have hvI:((r.vs.length:Int) == 0)=true:=by rw[hv0];rfl
  go_enter Tryz.func105,Tryz.ntmps105;go_wp2_with fail
  go_ret;exact⟨ze HF.out.symm,HB.out _⟩
 have hvI:((r.vs.length:Int) == 0)=false:=by rw[beq_eq_false_iff_ne];omega
 by_cases h16:r.px.size<=16
 rotate_left
 ·have HF:Hid (zS r=false):=by unfold Hid zS;rw[decide_eq_false h16];simp
  have h16I:decide (16<(r.px.size:Int))=true:=by simp;omega
  clear hv0;go_enter Tryz.func105,Tryz.ntmps105;go_wp2_with fail
  go_ret;exact⟨ze HF.out.symm,HB.out _⟩
 have h16I:decide (16<(r.px.size:Int))=false:=by simp;omega
 have HG:Hid (qL r=true->zS r=(up (ql r.vs) r.vs.length&&y5 r.px)):=fun h=>by
  unfold zS jc;rw[h,decide_eq_true h16,decide_eq_true (show 0<r.vs.length by omega)];simp
 clear hv0
 rcases zdQ r.kd with hk|⟨hk,HK⟩|⟨hk,HK⟩
 ·rcases zdQ r.tm with ht|⟨ht,HT⟩|⟨ht,HT⟩
  ·have HKD:Hid (qL r=true):=by unfold Hid qL;rw[hk,ht];simp
   go_enter Tryz.func105,Tryz.ntmps105;go_wp2_with fail
   obtain⟨W0,hW0⟩:∃W0,W0=w.alloc (.cells #[.slice a r.vs.length cap,.string r.kd,.string r.tm,.string r.px] 138):=⟨_,rfl⟩
   have HBW:Hid (Below w.heap.size w W0):=by unfold Hid;rw[hW0];exact HB.out _
   have hX0:∀o,W0.cell? ⟨w.heap.size,o,none⟩=(#[.slice a r.vs.length cap,.string r.kd,.string r.tm,.string r.px]:Array Value)[o]?:=by rw[hW0];exact zl w _ _
   have hz0:w.heap.size<W0.heap.size:=by rw[hW0];simp
   rw[<- hW0];clear hW0
   go_loopw [3] (fun i wr=>∃k:Nat,k<=r.vs.length/\i=.int .i64 k/\up (ql r.vs) k=true/\Below W0.heap.size W0 wr) (fun i _=>r.vs.length-(intOf i).toNat)
   case atStart=>exact⟨0,Nat.zero_le _,rfl,rfl,bRf _ _⟩
   case round=>
    obtain⟨k,hkl,rfl,hup,hB⟩:=hrel;obtain⟨W1,rfl⟩:∃W1,W1=wr:=⟨wr,rfl⟩
    have hsz:=hB.size;have hX:=za hX0 hz0 hB;have HB1:=hid hB;have HBW1:Hid (Below w.heap.size w W1):=HBW.out.trans (hB.mono (by omega));have hz1:w.heap.size<W1.heap.size:=by omega
    clear hX0 hB
    by_cases hlt:k<r.vs.length
    ·obtain⟨b,off,rfl,hb,c0⟩:=HI.out.load HBW1.out k hlt
     have hbr:b<W1.heap.size:=by omega
     have hltI:(k:Int)<(r.vs.length:Int):=by omega
     have HNN:Hid (ql r.vs k=false->zS r=false):=fun h=>by rw[HG.out HKD.out,zaP hlt h];rfl
     by_cases hn:za6 r.vs[k]=true
     rotate_left
     ·have HN:Hid ((decide (1<=r.vs[k])&&decide (r.vs[k]<=5))=false):=by simpa[Hid,za6] using hn
      have HF:Hid (zS r=false):=HNN.out (zdC hlt (by simpa using hn));clear hn hup;go_wp2_with fail
      go_quiet ((go_at_call 61;exact Calls.quiet_of_same (zf HN.out (yB _ _ _ _))))
      go_wp2_with fail
      go_ret;exact⟨ze HF.out.symm,below_drewN HBW1.out _⟩
     have HN:=hid hn
     by_cases hk0:k=0
     ·have HS:Hid (up (ql r.vs) (k+1)=true):=by subst hk0;unfold Hid;rw[q9,zbM hlt hn];rfl
      have hg:decide (0<k)=false:=by simp;omega
      clear hn hup hk0;go_wp2_with fail
      go_quiet ((go_at_call 61;exact Calls.quiet_of_same (zf HN.out (yB _ _ _ _))))
      go_wp2_with fail
      exact⟨⟨k+1,by omega,by go_num,HS.out,below_drewN HB1.out _⟩,by simp[intOf];omega⟩
     ·have hk1:(0:Int)<=(k:Int)-1:=by omega
      have hk2:(k:Int)-1<(r.vs.length:Int):=by omega
      have hg:decide (0<k)=true:=by simp;omega
      have hkm:k-1<r.vs.length:=by omega
      obtain⟨b',off',e',hb',d0⟩:=HI.out.load HBW1.out (k-1) hkm;simp only[Option.some.injEq,Addr.mk.injEq]at e';obtain⟨rfl,rfl,_⟩:=e';have hva:ql r.vs k=decide (r.vs[k-1]<r.vs[k]):=by unfold ql;rw[getD_at r.vs k _ hlt,getD_at r.vs (k-1) _ hkm,hn,decide_eq_false hk0];simp
      by_cases hls:r.vs[k-1]<r.vs[k]
      ·have hls':decide (r.vs[k]<=r.vs[k-1])=false:=by simp;omega
       have HS:Hid (up (ql r.vs) (k+1)=true):=by unfold Hid;rw[q9,hup,hva,decide_eq_true hls];rfl
       clear hls hn hup hk0 hva;go_wp2_with fail
       go_quiet ((go_at_call 61;exact Calls.quiet_of_same (zf HN.out (yB _ _ _ _))))
       go_wp2_with fail
       exact⟨⟨k+1,by omega,by go_num,HS.out,below_drewN HB1.out _⟩,by simp[intOf];omega⟩
      ·have hls':decide (r.vs[k]<=r.vs[k-1])=true:=by simp;omega
       have HF:Hid (zS r=false):=HNN.out (by rw[hva,decide_eq_false hls]);clear hls hn hup hk0 hva;go_wp2_with fail
       go_quiet ((go_at_call 61;exact Calls.quiet_of_same (zf HN.out (yB _ _ _ _))))
       go_wp2_with fail
       go_ret;exact⟨ze HF.out.symm,below_drewN HBW1.out _⟩
    ·have HF:Hid (zS r=y5 r.px):=by
      have e:k=r.vs.length:=by omega
      subst e;rw[Hid,HG.out HKD.out,hup];rfl
     have hltI:¬(k:Int)<(r.vs.length:Int):=by omega
     clear hup HG;go_wp2_with fail
     go_loopw [4] (fun i wi=>∃n:Nat,n<=r.px.size/\i=.int .i64 n/\(r.px.data.toList.take n).all zJ=true/\wi=W1) (fun i _=>r.px.size-(intOf i).toNat)
     case atStart=>exact⟨0,Nat.zero_le _,rfl,rfl,rfl⟩
     case round=>
      obtain⟨n,hn16,rfl,hall,rfl⟩:=hrel
      by_cases hn:n<r.px.size
      ·have hnI:(n:Int)<(r.px.size:Int):=by omega
       have HS:Hid ((r.px.data.toList.take (n+1)).all zJ=(true&&zJ r.px[n])):=by rw[zaR _ r.px n hn,hall];rfl
       have HNo:Hid (zJ r.px[n]=false->y5 r.px=false):=fun h=>zce zJ r.px n hn h
       clear hall
       by_cases hc:zJ r.px[n]=true
       ·have HC:=hid hc
        clear hc
        go_wp2_with (go_at_call 138;refine(zf HC.out (zaf _ _)).mono ?_;rintro e w'⟨rfl,rfl⟩)
        exact⟨⟨n+1,by omega,by go_num,by rw[HS.out,HC.out];rfl,trivial⟩,by simp[intOf];omega⟩
       ·have HC:Hid (zJ r.px[n]=false):=by simpa[Hid] using hc
        clear hc
        go_wp2_with (go_at_call 138;refine(zf HC.out (zaf _ _)).mono ?_;rintro e w'⟨rfl,rfl⟩)
        go_ret;exact⟨ze (HF.out.trans (HNo.out HC.out)).symm,HBW1.out⟩
      ·have HA:Hid (y5 r.px=true):=by unfold y5 Hid;rw[<- zaA r.px n (by omega)];exact hall
       have hnI:¬(n:Int)<(r.px.size:Int):=by omega
       clear hall;go_wp2_with fail
       go_ret;exact⟨ze (HF.out.trans HA.out).symm,HBW1.out⟩
  ·have HKD:Hid (qL r=true):=by unfold Hid qL;rw[hk,HT.out];simp
   go_enter Tryz.func105,Tryz.ntmps105
   go_wp2_with (first|(go_at_call_of 104 (Value.string r.tm);refine(zf HT.out (zi r.tm _ hstm)).mono ?_;rintro e w'⟨rfl,rfl⟩))
   obtain⟨W0,hW0⟩:∃W0,W0=w.alloc (.cells #[.slice a r.vs.length cap,.string r.kd,.string r.tm,.string r.px] 138):=⟨_,rfl⟩
   have HBW:Hid (Below w.heap.size w W0):=by unfold Hid;rw[hW0];exact HB.out _
   have hX0:∀o,W0.cell? ⟨w.heap.size,o,none⟩=(#[.slice a r.vs.length cap,.string r.kd,.string r.tm,.string r.px]:Array Value)[o]?:=by rw[hW0];exact zl w _ _
   have hz0:w.heap.size<W0.heap.size:=by rw[hW0];simp
   rw[<- hW0];clear hW0
   go_loopw [3] (fun i wr=>∃k:Nat,k<=r.vs.length/\i=.int .i64 k/\up (ql r.vs) k=true/\Below W0.heap.size W0 wr) (fun i _=>r.vs.length-(intOf i).toNat)
   case atStart=>exact⟨0,Nat.zero_le _,rfl,rfl,bRf _ _⟩
   case round=>
    obtain⟨k,hkl,rfl,hup,hB⟩:=hrel;obtain⟨W1,rfl⟩:∃W1,W1=wr:=⟨wr,rfl⟩
    have hsz:=hB.size;have hX:=za hX0 hz0 hB;have HB1:=hid hB;have HBW1:Hid (Below w.heap.size w W1):=HBW.out.trans (hB.mono (by omega));have hz1:w.heap.size<W1.heap.size:=by omega
    clear hX0 hB
    by_cases hlt:k<r.vs.length
    ·obtain⟨b,off,rfl,hb,c0⟩:=HI.out.load HBW1.out k hlt
     have hbr:b<W1.heap.size:=by omega
     have hltI:(k:Int)<(r.vs.length:Int):=by omega
     have HNN:Hid (ql r.vs k=false->zS r=false):=fun h=>by rw[HG.out HKD.out,zaP hlt h];rfl
     by_cases hn:za6 r.vs[k]=true
     rotate_left
     ·have HN:Hid ((decide (1<=r.vs[k])&&decide (r.vs[k]<=5))=false):=by simpa[Hid,za6] using hn
      have HF:Hid (zS r=false):=HNN.out (zdC hlt (by simpa using hn));clear hn hup;go_wp2_with fail
      go_quiet ((go_at_call 61;exact Calls.quiet_of_same (zf HN.out (yB _ _ _ _))))
      go_wp2_with fail
      go_ret;exact⟨ze HF.out.symm,below_drewN HBW1.out _⟩
     have HN:=hid hn
     by_cases hk0:k=0
     ·have HS:Hid (up (ql r.vs) (k+1)=true):=by subst hk0;unfold Hid;rw[q9,zbM hlt hn];rfl
      have hg:decide (0<k)=false:=by simp;omega
      clear hn hup hk0;go_wp2_with fail
      go_quiet ((go_at_call 61;exact Calls.quiet_of_same (zf HN.out (yB _ _ _ _))))
      go_wp2_with fail
      exact⟨⟨k+1,by omega,by go_num,HS.out,below_drewN HB1.out _⟩,by simp[intOf];omega⟩
     ·have hk1:(0:Int)<=(k:Int)-1:=by omega
      have hk2:(k:Int)-1<(r.vs.length:Int):=by omega
      have hg:decide (0<k)=true:=by simp;omega
      have hkm:k-1<r.vs.length:=by omega
      obtain⟨b',off',e',hb',d0⟩:=HI.out.load HBW1.out (k-1) hkm;simp only[Option.some.injEq,Addr.mk.injEq]at e';obtain⟨rfl,rfl,_⟩:=e';have hva:ql r.vs k=decide (r.vs[k-1]<r.vs[k]):=by unfold ql;rw[getD_at r.vs k _ hlt,getD_at r.vs (k-1) _ hkm,hn,decide_eq_false hk0];simp
      by_cases hls:r.vs[k-1]<r.vs[k]
      ·have hls':decide (r.vs[k]<=r.vs[k-1])=false:=by simp;omega
       have HS:Hid (up (ql r.vs) (k+1)=true):=by unfold Hid;rw[q9,hup,hva,decide_eq_true hls];rfl
       clear hls hn hup hk0 hva;go_wp2_with fail
       go_quiet ((go_at_call 61;exact Calls.quiet_of_same (zf HN.out (yB _ _ _ _))))
       go_wp2_with fail
       exact⟨⟨k+1,by omega,by go_num,HS.out,below_drewN HB1.out _⟩,by simp[intOf];omega⟩
      ·have hls':decide (r.vs[k]<=r.vs[k-1])=true:=by simp;omega
       have HF:Hid (zS r=false):=HNN.out (by rw[hva,decide_eq_false hls]);clear hls hn hup hk0 hva;go_wp2_with fail
       go_quiet ((go_at_call 61;exact Calls.quiet_of_same (zf HN.out (yB _ _ _ _))))
       go_wp2_with fail
       go_ret;exact⟨ze HF.out.symm,below_drewN HBW1.out _⟩
    ·have HF:Hid (zS r=y5 r.px):=by
      have e:k=r.vs.length:=by omega
      subst e;rw[Hid,HG.out HKD.out,hup];rfl
     have hltI:¬(k:Int)<(r.vs.length:Int):=by omega
     clear hup HG;go_wp2_with fail
     go_loopw [4] (fun i wi=>∃n:Nat,n<=r.px.size/\i=.int .i64 n/\(r.px.data.toList.take n).all zJ=true/\wi=W1) (fun i _=>r.px.size-(intOf i).toNat)
     case atStart=>exact⟨0,Nat.zero_le _,rfl,rfl,rfl⟩
     case round=>
      obtain⟨n,hn16,rfl,hall,rfl⟩:=hrel
      by_cases hn:n<r.px.size
      ·have hnI:(n:Int)<(r.px.size:Int):=by omega
       have HS:Hid ((r.px.data.toList.take (n+1)).all zJ=(true&&zJ r.px[n])):=by rw[zaR _ r.px n hn,hall];rfl
       have HNo:Hid (zJ r.px[n]=false->y5 r.px=false):=fun h=>zce zJ r.px n hn h
       clear hall
       by_cases hc:zJ r.px[n]=true
       ·have HC:=hid hc
        clear hc
        go_wp2_with (go_at_call 138;refine(zf HC.out (zaf _ _)).mono ?_;rintro e w'⟨rfl,rfl⟩)
        exact⟨⟨n+1,by omega,by go_num,by rw[HS.out,HC.out];rfl,trivial⟩,by simp[intOf];omega⟩
       ·have HC:Hid (zJ r.px[n]=false):=by simpa[Hid] using hc
        clear hc
        go_wp2_with (go_at_call 138;refine(zf HC.out (zaf _ _)).mono ?_;rintro e w'⟨rfl,rfl⟩)
        go_ret;exact⟨ze (HF.out.trans (HNo.out HC.out)).symm,HBW1.out⟩
      ·have HA:Hid (y5 r.px=true):=by unfold y5 Hid;rw[<- zaA r.px n (by omega)];exact hall
       have hnI:¬(n:Int)<(r.px.size:Int):=by omega
       clear hall;go_wp2_with fail
       go_ret;exact⟨ze (HF.out.trans HA.out).symm,HBW1.out⟩
  ·have HF:Hid (zS r=false):=by unfold Hid zS qL;rw[ht,HT.out];simp
   go_enter Tryz.func105,Tryz.ntmps105
   go_wp2_with (first|(go_at_call_of 104 (Value.string r.tm);refine(zf HT.out (zi r.tm _ hstm)).mono ?_;rintro e w'⟨rfl,rfl⟩))
   go_ret;exact⟨ze HF.out.symm,HB.out _⟩
 ·rcases zdQ r.tm with ht|⟨ht,HT⟩|⟨ht,HT⟩
  ·have HKD:Hid (qL r=true):=by unfold Hid qL;rw[HK.out,ht];simp
   go_enter Tryz.func105,Tryz.ntmps105
   go_wp2_with (first|(go_at_call_of 104 (Value.string r.kd);refine(zf HK.out (zi r.kd _ hskd)).mono ?_;rintro e w'⟨rfl,rfl⟩))
   obtain⟨W0,hW0⟩:∃W0,W0=w.alloc (.cells #[.slice a r.vs.length cap,.string r.kd,.string r.tm,.string r.px] 138):=⟨_,rfl⟩
   have HBW:Hid (Below w.heap.size w W0):=by unfold Hid;rw[hW0];exact HB.out _
   have hX0:∀o,W0.cell? ⟨w.heap.size,o,none⟩=(#[.slice a r.vs.length cap,.string r.kd,.string r.tm,.string r.px]:Array Value)[o]?:=by rw[hW0];exact zl w _ _
   have hz0:w.heap.size<W0.heap.size:=by rw[hW0];simp
   rw[<- hW0];clear hW0
   go_loopw [3] (fun i wr=>∃k:Nat,k<=r.vs.length/\i=.int .i64 k/\up (ql r.vs) k=true/\Below W0.heap.size W0 wr) (fun i _=>r.vs.length-(intOf i).toNat)
   case atStart=>exact⟨0,Nat.zero_le _,rfl,rfl,bRf _ _⟩
   case round=>
    obtain⟨k,hkl,rfl,hup,hB⟩:=hrel;obtain⟨W1,rfl⟩:∃W1,W1=wr:=⟨wr,rfl⟩
    have hsz:=hB.size;have hX:=za hX0 hz0 hB;have HB1:=hid hB;have HBW1:Hid (Below w.heap.size w W1):=HBW.out.trans (hB.mono (by omega));have hz1:w.heap.size<W1.heap.size:=by omega
    clear hX0 hB
    by_cases hlt:k<r.vs.length
    ·obtain⟨b,off,rfl,hb,c0⟩:=HI.out.load HBW1.out k hlt
     have hbr:b<W1.heap.size:=by omega
     have hltI:(k:Int)<(r.vs.length:Int):=by omega
     have HNN:Hid (ql r.vs k=false->zS r=false):=fun h=>by rw[HG.out HKD.out,zaP hlt h];rfl
     by_cases hn:za6 r.vs[k]=true
     rotate_left
     ·have HN:Hid ((decide (1<=r.vs[k])&&decide (r.vs[k]<=5))=false):=by simpa[Hid,za6] using hn
      have HF:Hid (zS r=false):=HNN.out (zdC hlt (by simpa using hn));clear hn hup;go_wp2_with fail
      go_quiet ((go_at_call 61;exact Calls.quiet_of_same (zf HN.out (yB _ _ _ _))))
      go_wp2_with fail
      go_ret;exact⟨ze HF.out.symm,below_drewN HBW1.out _⟩
     have HN:=hid hn
     by_cases hk0:k=0
     ·have HS:Hid (up (ql r.vs) (k+1)=true):=by subst hk0;unfold Hid;rw[q9,zbM hlt hn];rfl
      have hg:decide (0<k)=false:=by simp;omega
      clear hn hup hk0;go_wp2_with fail
      go_quiet ((go_at_call 61;exact Calls.quiet_of_same (zf HN.out (yB _ _ _ _))))
      go_wp2_with fail
      exact⟨⟨k+1,by omega,by go_num,HS.out,below_drewN HB1.out _⟩,by simp[intOf];omega⟩
     ·have hk1:(0:Int)<=(k:Int)-1:=by omega
      have hk2:(k:Int)-1<(r.vs.length:Int):=by omega
      have hg:decide (0<k)=true:=by simp;omega
      have hkm:k-1<r.vs.length:=by omega
      obtain⟨b',off',e',hb',d0⟩:=HI.out.load HBW1.out (k-1) hkm;simp only[Option.some.injEq,Addr.mk.injEq]at e';obtain⟨rfl,rfl,_⟩:=e';have hva:ql r.vs k=decide (r.vs[k-1]<r.vs[k]):=by unfold ql;rw[getD_at r.vs k _ hlt,getD_at r.vs (k-1) _ hkm,hn,decide_eq_false hk0];simp
      by_cases hls:r.vs[k-1]<r.vs[k]
      ·have hls':decide (r.vs[k]<=r.vs[k-1])=false:=by simp;omega
       have HS:Hid (up (ql r.vs) (k+1)=true):=by unfold Hid;rw[q9,hup,hva,decide_eq_true hls];rfl
       clear hls hn hup hk0 hva;go_wp2_with fail
       go_quiet ((go_at_call 61;exact Calls.quiet_of_same (zf HN.out (yB _ _ _ _))))
       go_wp2_with fail
       exact⟨⟨k+1,by omega,by go_num,HS.out,below_drewN HB1.out _⟩,by simp[intOf];omega⟩
      ·have hls':decide (r.vs[k]<=r.vs[k-1])=true:=by simp;omega
       have HF:Hid (zS r=false):=HNN.out (by rw[hva,decide_eq_false hls]);clear hls hn hup hk0 hva;go_wp2_with fail
       go_quiet ((go_at_call 61;exact Calls.quiet_of_same (zf HN.out (yB _ _ _ _))))
       go_wp2_with fail
       go_ret;exact⟨ze HF.out.symm,below_drewN HBW1.out _⟩
    ·have HF:Hid (zS r=y5 r.px):=by
      have e:k=r.vs.length:=by omega
      subst e;rw[Hid,HG.out HKD.out,hup];rfl
     have hltI:¬(k:Int)<(r.vs.length:Int):=by omega
     clear hup HG;go_wp2_with fail
     go_loopw [4] (fun i wi=>∃n:Nat,n<=r.px.size/\i=.int .i64 n/\(r.px.data.toList.take n).all zJ=true/\wi=W1) (fun i _=>r.px.size-(intOf i).toNat)
     case atStart=>exact⟨0,Nat.zero_le _,rfl,rfl,rfl⟩
     case round=>
      obtain⟨n,hn16,rfl,hall,rfl⟩:=hrel
      by_cases hn:n<r.px.size
      ·have hnI:(n:Int)<(r.px.size:Int):=by omega
       have HS:Hid ((r.px.data.toList.take (n+1)).all zJ=(true&&zJ r.px[n])):=by rw[zaR _ r.px n hn,hall];rfl
       have HNo:Hid (zJ r.px[n]=false->y5 r.px=false):=fun h=>zce zJ r.px n hn h
       clear hall
       by_cases hc:zJ r.px[n]=true
       ·have HC:=hid hc
        clear hc
        go_wp2_with (go_at_call 138;refine(zf HC.out (zaf _ _)).mono ?_;rintro e w'⟨rfl,rfl⟩)
        exact⟨⟨n+1,by omega,by go_num,by rw[HS.out,HC.out];rfl,trivial⟩,by simp[intOf];omega⟩
       ·have HC:Hid (zJ r.px[n]=false):=by simpa[Hid] using hc
        clear hc
        go_wp2_with (go_at_call 138;refine(zf HC.out (zaf _ _)).mono ?_;rintro e w'⟨rfl,rfl⟩)
        go_ret;exact⟨ze (HF.out.trans (HNo.out HC.out)).symm,HBW1.out⟩
      ·have HA:Hid (y5 r.px=true):=by unfold y5 Hid;rw[<- zaA r.px n (by omega)];exact hall
       have hnI:¬(n:Int)<(r.px.size:Int):=by omega
       clear hall;go_wp2_with fail
       go_ret;exact⟨ze (HF.out.trans HA.out).symm,HBW1.out⟩
  ·have HKD:Hid (qL r=true):=by unfold Hid qL;rw[HK.out,HT.out];simp
   go_enter Tryz.func105,Tryz.ntmps105
   go_wp2_with (first|(go_at_call_of 104 (Value.string r.kd);refine(zf HK.out (zi r.kd _ hskd)).mono ?_;rintro e w'⟨rfl,rfl⟩)|(go_at_call_of 104 (Value.string r.tm);refine(zf HT.out (zi r.tm _ hstm)).mono ?_;rintro e w'⟨rfl,rfl⟩))
   obtain⟨W0,hW0⟩:∃W0,W0=w.alloc (.cells #[.slice a r.vs.length cap,.string r.kd,.string r.tm,.string r.px] 138):=⟨_,rfl⟩
   have HBW:Hid (Below w.heap.size w W0):=by unfold Hid;rw[hW0];exact HB.out _
   have hX0:∀o,W0.cell? ⟨w.heap.size,o,none⟩=(#[.slice a r.vs.length cap,.string r.kd,.string r.tm,.string r.px]:Array Value)[o]?:=by rw[hW0];exact zl w _ _
   have hz0:w.heap.size<W0.heap.size:=by rw[hW0];simp
   rw[<- hW0];clear hW0
   go_loopw [3] (fun i wr=>∃k:Nat,k<=r.vs.length/\i=.int .i64 k/\up (ql r.vs) k=true/\Below W0.heap.size W0 wr) (fun i _=>r.vs.length-(intOf i).toNat)
   case atStart=>exact⟨0,Nat.zero_le _,rfl,rfl,bRf _ _⟩
   case round=>
    obtain⟨k,hkl,rfl,hup,hB⟩:=hrel;obtain⟨W1,rfl⟩:∃W1,W1=wr:=⟨wr,rfl⟩
    have hsz:=hB.size;have hX:=za hX0 hz0 hB;have HB1:=hid hB;have HBW1:Hid (Below w.heap.size w W1):=HBW.out.trans (hB.mono (by omega));have hz1:w.heap.size<W1.heap.size:=by omega
    clear hX0 hB
    by_cases hlt:k<r.vs.length
    ·obtain⟨b,off,rfl,hb,c0⟩:=HI.out.load HBW1.out k hlt
     have hbr:b<W1.heap.size:=by omega
     have hltI:(k:Int)<(r.vs.length:Int):=by omega
     have HNN:Hid (ql r.vs k=false->zS r=false):=fun h=>by rw[HG.out HKD.out,zaP hlt h];rfl
     by_cases hn:za6 r.vs[k]=true
     rotate_left
     ·have HN:Hid ((decide (1<=r.vs[k])&&decide (r.vs[k]<=5))=false):=by simpa[Hid,za6] using hn
      have HF:Hid (zS r=false):=HNN.out (zdC hlt (by simpa using hn));clear hn hup;go_wp2_with fail
      go_quiet ((go_at_call 61;exact Calls.quiet_of_same (zf HN.out (yB _ _ _ _))))
      go_wp2_with fail
      go_ret;exact⟨ze HF.out.symm,below_drewN HBW1.out _⟩
     have HN:=hid hn
     by_cases hk0:k=0
     ·have HS:Hid (up (ql r.vs) (k+1)=true):=by subst hk0;unfold Hid;rw[q9,zbM hlt hn];rfl
      have hg:decide (0<k)=false:=by simp;omega
      clear hn hup hk0;go_wp2_with fail
      go_quiet ((go_at_call 61;exact Calls.quiet_of_same (zf HN.out (yB _ _ _ _))))
      go_wp2_with fail
      exact⟨⟨k+1,by omega,by go_num,HS.out,below_drewN HB1.out _⟩,by simp[intOf];omega⟩
     ·have hk1:(0:Int)<=(k:Int)-1:=by omega
      have hk2:(k:Int)-1<(r.vs.length:Int):=by omega
      have hg:decide (0<k)=true:=by simp;omega
      have hkm:k-1<r.vs.length:=by omega
      obtain⟨b',off',e',hb',d0⟩:=HI.out.load HBW1.out (k-1) hkm;simp only[Option.some.injEq,Addr.mk.injEq]at e';obtain⟨rfl,rfl,_⟩:=e';have hva:ql r.vs k=decide (r.vs[k-1]<r.vs[k]):=by unfold ql;rw[getD_at r.vs k _ hlt,getD_at r.vs (k-1) _ hkm,hn,decide_eq_false hk0];simp
      by_cases hls:r.vs[k-1]<r.vs[k]
      ·have hls':decide (r.vs[k]<=r.vs[k-1])=false:=by simp;omega
       have HS:Hid (up (ql r.vs) (k+1)=true):=by unfold Hid;rw[q9,hup,hva,decide_eq_true hls];rfl
       clear hls hn hup hk0 hva;go_wp2_with fail
       go_quiet ((go_at_call 61;exact Calls.quiet_of_same (zf HN.out (yB _ _ _ _))))
       go_wp2_with fail
       exact⟨⟨k+1,by omega,by go_num,HS.out,below_drewN HB1.out _⟩,by simp[intOf];omega⟩
      ·have hls':decide (r.vs[k]<=r.vs[k-1])=true:=by simp;omega
       have HF:Hid (zS r=false):=HNN.out (by rw[hva,decide_eq_false hls]);clear hls hn hup hk0 hva;go_wp2_with fail
       go_quiet ((go_at_call 61;exact Calls.quiet_of_same (zf HN.out (yB _ _ _ _))))
       go_wp2_with fail
       go_ret;exact⟨ze HF.out.symm,below_drewN HBW1.out _⟩
    ·have HF:Hid (zS r=y5 r.px):=by
      have e:k=r.vs.length:=by omega
      subst e;rw[Hid,HG.out HKD.out,hup];rfl
     have hltI:¬(k:Int)<(r.vs.length:Int):=by omega
     clear hup HG;go_wp2_with fail
     go_loopw [4] (fun i wi=>∃n:Nat,n<=r.px.size/\i=.int .i64 n/\(r.px.data.toList.take n).all zJ=true/\wi=W1) (fun i _=>r.px.size-(intOf i).toNat)
     case atStart=>exact⟨0,Nat.zero_le _,rfl,rfl,rfl⟩
     case round=>
      obtain⟨n,hn16,rfl,hall,rfl⟩:=hrel
      by_cases hn:n<r.px.size
      ·have hnI:(n:Int)<(r.px.size:Int):=by omega
       have HS:Hid ((r.px.data.toList.take (n+1)).all zJ=(true&&zJ r.px[n])):=by rw[zaR _ r.px n hn,hall];rfl
       have HNo:Hid (zJ r.px[n]=false->y5 r.px=false):=fun h=>zce zJ r.px n hn h
       clear hall
       by_cases hc:zJ r.px[n]=true
       ·have HC:=hid hc
        clear hc
        go_wp2_with (go_at_call 138;refine(zf HC.out (zaf _ _)).mono ?_;rintro e w'⟨rfl,rfl⟩)
        exact⟨⟨n+1,by omega,by go_num,by rw[HS.out,HC.out];rfl,trivial⟩,by simp[intOf];omega⟩
       ·have HC:Hid (zJ r.px[n]=false):=by simpa[Hid] using hc
        clear hc
        go_wp2_with (go_at_call 138;refine(zf HC.out (zaf _ _)).mono ?_;rintro e w'⟨rfl,rfl⟩)
        go_ret;exact⟨ze (HF.out.trans (HNo.out HC.out)).symm,HBW1.out⟩
      ·have HA:Hid (y5 r.px=true):=by unfold y5 Hid;rw[<- zaA r.px n (by omega)];exact hall
       have hnI:¬(n:Int)<(r.px.size:Int):=by omega
       clear hall;go_wp2_with fail
       go_ret;exact⟨ze (HF.out.trans HA.out).symm,HBW1.out⟩
  ·have HF:Hid (zS r=false):=by unfold Hid zS qL;rw[ht,HT.out];simp
   go_enter Tryz.func105,Tryz.ntmps105
   go_wp2_with (first|(go_at_call_of 104 (Value.string r.kd);refine(zf HK.out (zi r.kd _ hskd)).mono ?_;rintro e w'⟨rfl,rfl⟩)|(go_at_call_of 104 (Value.string r.tm);refine(zf HT.out (zi r.tm _ hstm)).mono ?_;rintro e w'⟨rfl,rfl⟩))
   go_ret;exact⟨ze HF.out.symm,HB.out _⟩
 ·have HF:Hid (zS r=false):=by unfold Hid zS qL;rw[hk,HK.out];simp
  go_enter Tryz.func105,Tryz.ntmps105
  go_wp2_with (first|(go_at_call_of 104 (Value.string r.kd);refine(zf HK.out (zi r.kd _ hskd)).mono ?_;rintro e w'⟨rfl,rfl⟩))
  go_ret;exact⟨ze HF.out.symm,HB.out _⟩
end Go.Proofs.YtnapmdofidgliaaGreat
