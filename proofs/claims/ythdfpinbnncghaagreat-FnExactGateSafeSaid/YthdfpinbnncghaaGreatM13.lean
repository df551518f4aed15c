import Derived.Test.YthdfpinbnncghaaGreatM10
set_option maxHeartbeats 4000000
namespace Go.Proofs.YthdfpinbnncghaaGreat
open Go.RowKit
theorem zba (r:Rl)(a:OA)(cap:Nat)(w:World)(hm:r.Small)(hw:yJ w a r.vs) :
 Calls Tryz.prog 101 #[.agg (r.cells a cap)] w fun e w'=>e=.returned (.bool (zQ r))/\Bw w w':=by
 have hskd:=hm.kd;have hstm:=hm.tm;have hpx:=hm.px;have hvl:=hw.len;unfold maxLen at hpx hvl;unfold Rl.cells;have HB:Hid (∀ob,Bw w (w.alloc ob)):=fun ob=>bAl _ _
 have HI:=hid hw;clear hw hm
 by_cases hv0:r.vs.length=0
 ·have HF:Hid (zQ r=false):=by unfold Hid zQ yZ;rw[decide_eq_false (show ¬0<r.vs.length by omega)];simp
  have hvI:((r.vs.length:Int) == 0)=true:=by rw[hv0];rfl
  go_enter Tryz.func101,Tryz.ntmps101;go_wp2_with fail
  go_ret;exact⟨ze HF.o.symm,HB.o _⟩
 have hvI:((r.vs.length:Int) == 0)=false:=by rw[beq_eq_false_iff_ne];omega
 by_cases h16:r.px.size<=16
 rotate_left
 ·have HF:Hid (zQ r=false):=by unfold Hid zQ;rw[decide_eq_false h16];simp
  have h16I:decide (16<(r.px.size:Int))=true:=by simp;omega
  clear hv0;go_enter Tryz.func101,Tryz.ntmps101;go_wp2_with fail
  go_ret;exact⟨ze HF.o.symm,HB.o _⟩
 have h16I:decide (16<(r.px.size:Int))=false:=by simp;omega
 have HG:Hid (qY r=true->zQ r=(up (qC r.vs) r.vs.length&&qw r.px)):=fun h=>by
  unfold zQ yZ;rw[h,decide_eq_true h16,decide_eq_true (show 0<r.vs.length by omega)];simp
 clear hv0
 rcases zed r.kd with hk|⟨hk,HK⟩|⟨hk,HK⟩
 ·rcases zed r.tm with ht|⟨ht,HT⟩|⟨ht,HT⟩
  ·have HKD:Hid (qY r=true):=by unfold Hid qY;rw[hk,ht];simp
   go_enter Tryz.func101,Tryz.ntmps101;go_wp2_with fail
   obtain⟨W0,hW0⟩:=xN (w.alloc (.cells #[.l a r.vs.length cap,.s r.kd,.s r.tm,.s r.px] 74));have HBW:Hid (Bw w W0):=by unfold Hid;rw[hW0];exact HB.o _
   have hX0:∀o,W0.cell? (aD w.heap.size o)=(#[.l a r.vs.length cap,.s r.kd,.s r.tm,.s r.px]:AV)[o]?:=by rw[hW0];exact zn w _ _
   have hz0:w.heap.size<W0.heap.size:=by rw[hW0];simp
   rw[<- hW0];clear hW0
   go_loopw [3] (fun i wr=>∃k:Nat,k<=r.vs.length/\i=.i k/\up (qC r.vs) k=true/\Bw W0 wr) (fun i _=>r.vs.length-(intOf i).toNat)
   case atStart=>exact⟨0,Nat.zero_le _,rfl,rfl,bRf _ _⟩
   case round=>
    obtain⟨k,hkl,rfl,hup,hB⟩:=hrel;obtain⟨W1,rfl⟩:∃W1,W1=wr:=⟨wr,rfl⟩
    have hsz:=hB.size;have hX:=za hX0 hz0 hB;have HB1:=hid hB;have HBW1:Hid (Bw w W1):=HBW.o.trans (hB.mono (by omega));have hz1:w.heap.size<W1.heap.size:=by omega
    clear hX0 hB
    by_cases hlt:k<r.vs.length
    ·obtain⟨b,off,rfl,hb,c0⟩:=HI.o.load HBW1.o k hlt
     have hbr:b<W1.heap.size:=by omega
     have hltI:(k:Int)<(r.vs.length:Int):=by omega
     have HNN:Hid (qC r.vs k=false->zQ r=false):=fun h=>by rw[HG.o HKD.o,za2 hlt h];rfl
     by_cases hn:zaZ r.vs[k]=true
     rotate_left
     ·have HN:Hid ((decide (1<=r.vs[k])&&decide (r.vs[k]<=5))=false):=by simpa[Hid,zaZ] using hn
      have HF:Hid (zQ r=false):=HNN.o (zd8 hlt (by simpa using hn));clear hn hup;go_wp2_with fail
      go_quiet ((go_at_call 57;exact Calls.quiet_of_same (zf HN.o (zM _ _ _ _))))
      go_wp2_with fail
      go_ret;exact⟨ze HF.o.symm,below_drewN HBW1.o _⟩
     have HN:=hid hn
     by_cases hk0:k=0
     ·have HS:Hid (up (qC r.vs) (k+1)=true):=by subst hk0;unfold Hid;rw[jA,zb3 hlt hn];rfl
      have hg:decide (0<k)=false:=by simp;omega
      clear hn hup hk0;go_wp2_with fail
      go_quiet ((go_at_call 57;exact Calls.quiet_of_same (zf HN.o (zM _ _ _ _))))
      go_wp2_with fail
      exact⟨⟨k+1,by omega,by go_num,HS.o,below_drewN HB1.o _⟩,by simp[intOf];omega⟩
     ·have hk1:(0:Int)<=(k:Int)-1:=by omega
      have hk2:(k:Int)-1<(r.vs.length:Int):=by omega
      have hg:decide (0<k)=true:=by simp;omega
      have hkm:k-1<r.vs.length:=by omega
      obtain⟨b',off',e',hb',d0⟩:=HI.o.load HBW1.o (k-1) hkm;simp only[Option.some.injEq,Addr.mk.injEq]at e';obtain⟨rfl,rfl,_⟩:=e';have hva:qC r.vs k=decide (r.vs[k-1]<r.vs[k]):=by unfold qC;rw[getD_at r.vs k _ hlt,getD_at r.vs (k-1) _ hkm,hn,decide_eq_false hk0];simp
      by_cases hls:r.vs[k-1]<r.vs[k]
      ·have hls':decide (r.vs[k]<=r.vs[k-1])=false:=by simp;omega
       have HS:Hid (up (qC r.vs) (k+1)=true):=by unfold Hid;rw[jA,hup,hva,decide_eq_true hls];rfl
       clear hls hn hup hk0 hva;go_wp2_with fail
       go_quiet ((go_at_call 57;exact Calls.quiet_of_same (zf HN.o (zM _ _ _ _))))
       go_wp2_with fail
       exact⟨⟨k+1,by omega,by go_num,HS.o,below_drewN HB1.o _⟩,by simp[intOf];omega⟩
      ·have hls':decide (r.vs[k]<=r.vs[k-1])=true:=by simp;omega
       have HF:Hid (zQ r=false):=HNN.o (by rw[hva,decide_eq_false hls]);clear hls hn hup hk0 hva;go_wp2_with fail
       go_quiet ((go_at_call 57;exact Calls.quiet_of_same (zf HN.o (zM _ _ _ _))))
       go_wp2_with fail
       go_ret;exact⟨ze HF.o.symm,below_drewN HBW1.o _⟩
    ·have HF:Hid (zQ r=qw r.px):=by
      have e:k=r.vs.length:=by omega
      subst e;rw[Hid,HG.o HKD.o,hup];rfl
     have hltI:¬(k:Int)<(r.vs.length:Int):=by omega
     clear hup HG;go_wp2_with fail
     go_loopw [4] (fun i wi=>∃n:Nat,n<=r.px.size/\i=.i n/\(r.px.data.toList.take n).all zN=true/\wi=W1) (fun i _=>r.px.size-(intOf i).toNat)
     case atStart=>exact⟨0,Nat.zero_le _,rfl,rfl,rfl⟩
     case round=>
      obtain⟨n,hn16,rfl,hall,rfl⟩:=hrel
      by_cases hn:n<r.px.size
      ·have hnI:(n:Int)<(r.px.size:Int):=by omega
       have HS:Hid ((r.px.data.toList.take (n+1)).all zN=(true&&zN r.px[n])):=by rw[zaY _ r.px n hn,hall];rfl
       have HNo:Hid (zN r.px[n]=false->qw r.px=false):=fun h=>zcp zN r.px n hn h
       clear hall
       by_cases hc:zN r.px[n]=true
       ·have HC:=hid hc
        clear hc
        go_wp2_with (go_at_call 142;refine(zf HC.o (zam _ _)).mono ?_;rintro e w'⟨rfl,rfl⟩)
        exact⟨⟨n+1,by omega,by go_num,by rw[HS.o,HC.o];rfl,trivial⟩,by simp[intOf];omega⟩
       ·have HC:Hid (zN r.px[n]=false):=by simpa[Hid] using hc
        clear hc
        go_wp2_with (go_at_call 142;refine(zf HC.o (zam _ _)).mono ?_;rintro e w'⟨rfl,rfl⟩)
        go_ret;exact⟨ze (HF.o.trans (HNo.o HC.o)).symm,HBW1.o⟩
      ·have HA:Hid (qw r.px=true):=by unfold qw Hid;rw[<- zaE r.px n (by omega)];exact hall
       have hnI:¬(n:Int)<(r.px.size:Int):=by omega
       clear hall;go_wp2_with fail
       go_ret;exact⟨ze (HF.o.trans HA.o).symm,HBW1.o⟩
  ·have HKD:Hid (qY r=true):=by unfold Hid qY;rw[hk,HT.o];simp
   go_enter Tryz.func101,Tryz.ntmps101
   go_wp2_with (first|(go_at_call_of 100 (Value.s r.tm);refine(zf HT.o (zi r.tm _ hstm)).mono ?_;rintro e w'⟨rfl,rfl⟩))
   obtain⟨W0,hW0⟩:=xN (w.alloc (.cells #[.l a r.vs.length cap,.s r.kd,.s r.tm,.s r.px] 74));have HBW:Hid (Bw w W0):=by unfold Hid;rw[hW0];exact HB.o _
   have hX0:∀o,W0.cell? (aD w.heap.size o)=(#[.l a r.vs.length cap,.s r.kd,.s r.tm,.s r.px]:AV)[o]?:=by rw[hW0];exact zn w _ _
   have hz0:w.heap.size<W0.heap.size:=by rw[hW0];simp
   rw[<- hW0];clear hW0
   go_loopw [3] (fun i wr=>∃k:Nat,k<=r.vs.length/\i=.i k/\up (qC r.vs) k=true/\Bw W0 wr) (fun i _=>r.vs.length-(intOf i).toNat)
   case atStart=>exact⟨0,Nat.zero_le _,rfl,rfl,bRf _ _⟩
   case round=>
    obtain⟨k,hkl,rfl,hup,hB⟩:=hrel;obtain⟨W1,rfl⟩:∃W1,W1=wr:=⟨wr,rfl⟩
    have hsz:=hB.size;have hX:=za hX0 hz0 hB;have HB1:=hid hB;have HBW1:Hid (Bw w W1):=HBW.o.trans (hB.mono (by omega));have hz1:w.heap.size<W1.heap.size:=by omega
    clear hX0 hB
    by_cases hlt:k<r.vs.length
    ·obtain⟨b,off,rfl,hb,c0⟩:=HI.o.load HBW1.o k hlt
     have hbr:b<W1.heap.size:=by omega
     have hltI:(k:Int)<(r.vs.length:Int):=by omega
     have HNN:Hid (qC r.vs k=false->zQ r=false):=fun h=>by rw[HG.o HKD.o,za2 hlt h];rfl
     by_cases hn:zaZ r.vs[k]=true
     rotate_left
     ·have HN:Hid ((decide (1<=r.vs[k])&&decide (r.vs[k]<=5))=false):=by simpa[Hid,zaZ] using hn
      have HF:Hid (zQ r=false):=HNN.o (zd8 hlt (by simpa using hn));clear hn hup;go_wp2_with fail
      go_quiet ((go_at_call 57;exact Calls.quiet_of_same (zf HN.o (zM _ _ _ _))))
      go_wp2_with fail
      go_ret;exact⟨ze HF.o.symm,below_drewN HBW1.o _⟩
     have HN:=hid hn
     by_cases hk0:k=0
     ·have HS:Hid (up (qC r.vs) (k+1)=true):=by subst hk0;unfold Hid;rw[jA,zb3 hlt hn];rfl
      have hg:decide (0<k)=false:=by simp;omega
      clear hn hup hk0;go_wp2_with fail
      go_quiet ((go_at_call 57;exact Calls.quiet_of_same (zf HN.o (zM _ _ _ _))))
      go_wp2_with fail
      exact⟨⟨k+1,by omega,by go_num,HS.o,below_drewN HB1.o _⟩,by simp[intOf];omega⟩
     ·have hk1:(0:Int)<=(k:Int)-1:=by omega
      have hk2:(k:Int)-1<(r.vs.length:Int):=by omega
      have hg:decide (0<k)=true:=by simp;omega
      have hkm:k-1<r.vs.length:=by omega
      obtain⟨b',off',e',hb',d0⟩:=HI.o.load HBW1.o (k-1) hkm;simp only[Option.some.injEq,Addr.mk.injEq]at e';obtain⟨rfl,rfl,_⟩:=e';have hva:qC r.vs k=decide (r.vs[k-1]<r.vs[k]):=by unfold qC;rw[getD_at r.vs k _ hlt,getD_at r.vs (k-1) _ hkm,hn,decide_eq_false hk0];simp
      by_cases hls:r.vs[k-1]<r.vs[k]
      ·have hls':decide (r.vs[k]<=r.vs[k-1])=false:=by simp;omega
       have HS:Hid (up (qC r.vs) (k+1)=true):=by unfold Hid;rw[jA,hup,hva,decide_eq_true hls];rfl
       clear hls hn hup hk0 hva;go_wp2_with fail
       go_quiet ((go_at_call 57;exact Calls.quiet_of_same (zf HN.o (zM _ _ _ _))))
       go_wp2_with fail
       exact⟨⟨k+1,by omega,by go_num,HS.o,below_drewN HB1.o _⟩,by simp[intOf];omega⟩
      ·have hls':decide (r.vs[k]<=r.vs[k-1])=true:=by simp;omega
       have HF:Hid (zQ r=false):=HNN.o (by rw[hva,decide_eq_false hls]);clear hls hn hup hk0 hva;go_wp2_with fail
       go_quiet ((go_at_call 57;exact Calls.quiet_of_same (zf HN.o (zM _ _ _ _))))
       go_wp2_with fail
       go_ret;exact⟨ze HF.o.symm,below_drewN HBW1.o _⟩
    ·have HF:Hid (zQ r=qw r.px):=by
      have e:k=r.vs.length:=by omega
      subst e;rw[Hid,HG.o HKD.o,hup];rfl
     have hltI:¬(k:Int)<(r.vs.length:Int):=by omega
     clear hup HG;go_wp2_with fail
     go_loopw [4] (fun i wi=>∃n:Nat,n<=r.px.size/\i=.i n/\(r.px.data.toList.take n).all zN=true/\wi=W1) (fun i _=>r.px.size-(intOf i).toNat)
     case atStart=>exact⟨0,Nat.zero_le _,rfl,rfl,rfl⟩
     case round=>
      obtain⟨n,hn16,rfl,hall,rfl⟩:=hrel
      by_cases hn:n<r.px.size
      ·have hnI:(n:Int)<(r.px.size:Int):=by omega
       have HS:Hid ((r.px.data.toList.take (n+1)).all zN=(true&&zN r.px[n])):=by rw[zaY _ r.px n hn,hall];rfl
       have HNo:Hid (zN r.px[n]=false->qw r.px=false):=fun h=>zcp zN r.px n hn h
       clear hall
       by_cases hc:zN r.px[n]=true
       ·have HC:=hid hc
        clear hc
        go_wp2_with (go_at_call 142;refine(zf HC.o (zam _ _)).mono ?_;rintro e w'⟨rfl,rfl⟩)
        exact⟨⟨n+1,by omega,by go_num,by rw[HS.o,HC.o];rfl,trivial⟩,by simp[intOf];omega⟩
       ·have HC:Hid (zN r.px[n]=false):=by simpa[Hid] using hc
        clear hc
        go_wp2_with (go_at_call 142;refine(zf HC.o (zam _ _)).mono ?_;rintro e w'⟨rfl,rfl⟩)
        go_ret;exact⟨ze (HF.o.trans (HNo.o HC.o)).symm,HBW1.o⟩
      ·have HA:Hid (qw r.px=true):=by unfold qw Hid;rw[<- zaE r.px n (by omega)];exact hall
       have hnI:¬(n:Int)<(r.px.size:Int):=by omega
       clear hall;go_wp2_with fail
       go_ret;exact⟨ze (HF.o.trans HA.o).symm,HBW1.o⟩
  ·have HF:Hid (zQ r=false):=by unfold Hid zQ qY;rw[ht,HT.o];simp
   go_enter Tryz.func101,Tryz.ntmps101
   go_wp2_with (first|(go_at_call_of 100 (Value.s r.tm);refine(zf HT.o (zi r.tm _ hstm)).mono ?_;rintro e w'⟨rfl,rfl⟩))
   go_ret;exact⟨ze HF.o.symm,HB.o _⟩
 ·rcases zed r.tm with ht|⟨ht,HT⟩|⟨ht,HT⟩
  ·have HKD:Hid (qY r=true):=by unfold Hid qY;rw[HK.o,ht];simp
   go_enter Tryz.func101,Tryz.ntmps101
   go_wp2_with (first|(go_at_call_of 100 (Value.s r.kd);refine(zf HK.o (zi r.kd _ hskd)).mono ?_;rintro e w'⟨rfl,rfl⟩))
   obtain⟨W0,hW0⟩:=xN (w.alloc (.cells #[.l a r.vs.length cap,.s r.kd,.s r.tm,.s r.px] 74));have HBW:Hid (Bw w W0):=by unfold Hid;rw[hW0];exact HB.o _
   have hX0:∀o,W0.cell? (aD w.heap.size o)=(#[.l a r.vs.length cap,.s r.kd,.s r.tm,.s r.px]:AV)[o]?:=by rw[hW0];exact zn w _ _
   have hz0:w.heap.size<W0.heap.size:=by rw[hW0];simp
   rw[<- hW0];clear hW0
   go_loopw [3] (fun i wr=>∃k:Nat,k<=r.vs.length/\i=.i k/\up (qC r.vs) k=true/\Bw W0 wr) (fun i _=>r.vs.length-(intOf i).toNat)
   case atStart=>exact⟨0,Nat.zero_le _,rfl,rfl,bRf _ _⟩
   case round=>
    obtain⟨k,hkl,rfl,hup,hB⟩:=hrel;obtain⟨W1,rfl⟩:∃W1,W1=wr:=⟨wr,rfl⟩
    have hsz:=hB.size;have hX:=za hX0 hz0 hB;have HB1:=hid hB;have HBW1:Hid (Bw w W1):=HBW.o.trans (hB.mono (by omega));have hz1:w.heap.size<W1.heap.size:=by omega
    clear hX0 hB
    by_cases hlt:k<r.vs.length
    ·obtain⟨b,off,rfl,hb,c0⟩:=HI.o.load HBW1.o k hlt
     have hbr:b<W1.heap.size:=by omega
     have hltI:(k:Int)<(r.vs.length:Int):=by omega
     have HNN:Hid (qC r.vs k=false->zQ r=false):=fun h=>by rw[HG.o HKD.o,za2 hlt h];rfl
     by_cases hn:zaZ r.vs[k]=true
     rotate_left
     ·have HN:Hid ((decide (1<=r.vs[k])&&decide (r.vs[k]<=5))=false):=by simpa[Hid,zaZ] using hn
      have HF:Hid (zQ r=false):=HNN.o (zd8 hlt (by simpa using hn));clear hn hup;go_wp2_with fail
      go_quiet ((go_at_call 57;exact Calls.quiet_of_same (zf HN.o (zM _ _ _ _))))
      go_wp2_with fail
      go_ret;exact⟨ze HF.o.symm,below_drewN HBW1.o _⟩
     have HN:=hid hn
     by_cases hk0:k=0
     ·have HS:Hid (up (qC r.vs) (k+1)=true):=by subst hk0;unfold Hid;rw[jA,zb3 hlt hn];rfl
      have hg:decide (0<k)=false:=by simp;omega
      clear hn hup hk0;go_wp2_with fail
      go_quiet ((go_at_call 57;exact Calls.quiet_of_same (zf HN.o (zM _ _ _ _))))
      go_wp2_with fail
      exact⟨⟨k+1,by omega,by go_num,HS.o,below_drewN HB1.o _⟩,by simp[intOf];omega⟩
     ·have hk1:(0:Int)<=(k:Int)-1:=by omega
      have hk2:(k:Int)-1<(r.vs.length:Int):=by omega
      have hg:decide (0<k)=true:=by simp;omega
      have hkm:k-1<r.vs.length:=by omega
      obtain⟨b',off',e',hb',d0⟩:=HI.o.load HBW1.o (k-1) hkm;simp only[Option.some.injEq,Addr.mk.injEq]at e';obtain⟨rfl,rfl,_⟩:=e';have hva:qC r.vs k=decide (r.vs[k-1]<r.vs[k]):=by unfold qC;rw[getD_at r.vs k _ hlt,getD_at r.vs (k-1) _ hkm,hn,decide_eq_false hk0];simp
      by_cases hls:r.vs[k-1]<r.vs[k]
      ·have hls':decide (r.vs[k]<=r.vs[k-1])=false:=by simp;omega
       have HS:Hid (up (qC r.vs) (k+1)=true):=by unfold Hid;rw[jA,hup,hva,decide_eq_true hls];rfl
       clear hls hn hup hk0 hva;go_wp2_with fail
       go_quiet ((go_at_call 57;exact Calls.quiet_of_same (zf HN.o (zM _ _ _ _))))
       go_wp2_with fail
       exact⟨⟨k+1,by omega,by go_num,HS.o,below_drewN HB1.o _⟩,by simp[intOf];omega⟩
      ·have hls':decide (r.vs[k]<=r.vs[k-1])=true:=by simp;omega
       have HF:Hid (zQ r=false):=HNN.o (by rw[hva,decide_eq_false hls]);clear hls hn hup hk0 hva;go_wp2_with fail
       go_quiet ((go_at_call 57;exact Calls.quiet_of_same (zf HN.o (zM _ _ _ _))))
       go_wp2_with fail
       go_ret;exact⟨ze HF.o.symm,below_drewN HBW1.o _⟩
    ·have HF:Hid (zQ r=qw r.px):=by
      have e:k=r.vs.length:=by omega
      subst e;rw[Hid,HG.o HKD.o,hup];rfl
     have hltI:¬(k:Int)<(r.vs.length:Int):=by omega
     clear hup HG;go_wp2_with fail
     go_loopw [4] (fun i wi=>∃n:Nat,n<=r.px.size/\i=.i n/\(r.px.data.toList.take n).all zN=true/\wi=W1) (fun i _=>r.px.size-(intOf i).toNat)
     case atStart=>exact⟨0,Nat.zero_le _,rfl,rfl,rfl⟩
     case round=>
      obtain⟨n,hn16,rfl,hall,rfl⟩:=hrel
      by_cases hn:n<r.px.size
      ·have hnI:(n:Int)<(r.px.size:Int):=by omega
       have HS:Hid ((r.px.data.toList.take (n+1)).all zN=(true&&zN r.px[n])):=by rw[zaY _ r.px n hn,hall];rfl
       have HNo:Hid (zN r.px[n]=false->qw r.px=false):=fun h=>zcp zN r.px n hn h
       clear hall
       by_cases hc:zN r.px[n]=true
       ·have HC:=hid hc
        clear hc
        go_wp2_with (go_at_call 142;refine(zf HC.o (zam _ _)).mono ?_;rintro e w'⟨rfl,rfl⟩)
        exact⟨⟨n+1,by omega,by go_num,by rw[HS.o,HC.o];rfl,trivial⟩,by simp[intOf];omega⟩
       ·have HC:Hid (zN r.px[n]=false):=by simpa[Hid] using hc
        clear hc
        go_wp2_with (go_at_call 142;refine(zf HC.o (zam _ _)).mono ?_;rintro e w'⟨rfl,rfl⟩)
        go_ret;exact⟨ze (HF.o.trans (HNo.o HC.o)).symm,HBW1.o⟩
      ·have HA:Hid (qw r.px=true):=by unfold qw Hid;rw[<- zaE r.px n (by omega)];exact hall
       have hnI:¬(n:Int)<(r.px.size:Int):=by omega
       clear hall;go_wp2_with fail
       go_ret;exact⟨ze (HF.o.trans HA.o).symm,HBW1.o⟩
  ·have HKD:Hid (qY r=true):=by unfold Hid qY;rw[HK.o,HT.o];simp
   go_enter Tryz.func101,Tryz.ntmps101
   go_wp2_with (first|(go_at_call_of 100 (Value.s r.kd);refine(zf HK.o (zi r.kd _ hskd)).mono ?_;rintro e w'⟨rfl,rfl⟩)|(go_at_call_of 100 (Value.s r.tm);refine(zf HT.o (zi r.tm _ hstm)).mono ?_;rintro e w'⟨rfl,rfl⟩))
   obtain⟨W0,hW0⟩:=xN (w.alloc (.cells #[.l a r.vs.length cap,.s r.kd,.s r.tm,.s r.px] 74));have HBW:Hid (Bw w W0):=by unfold Hid;rw[hW0];exact HB.o _
   have hX0:∀o,W0.cell? (aD w.heap.size o)=(#[.l a r.vs.length cap,.s r.kd,.s r.tm,.s r.px]:AV)[o]?:=by rw[hW0];exact zn w _ _
   have hz0:w.heap.size<W0.heap.size:=by rw[hW0];simp
   rw[<- hW0];clear hW0
   go_loopw [3] (fun i wr=>∃k:Nat,k<=r.vs.length/\i=.i k/\up (qC r.vs) k=true/\Bw W0 wr) (fun i _=>r.vs.length-(intOf i).toNat)
   case atStart=>exact⟨0,Nat.zero_le _,rfl,rfl,bRf _ _⟩
   case round=>
    obtain⟨k,hkl,rfl,hup,hB⟩:=hrel;obtain⟨W1,rfl⟩:∃W1,W1=wr:=⟨wr,rfl⟩
    have hsz:=hB.size;have hX:=za hX0 hz0 hB;have HB1:=hid hB;have HBW1:Hid (Bw w W1):=HBW.o.trans (hB.mono (by omega));have hz1:w.heap.size<W1.heap.size:=by omega
    clear hX0 hB
    by_cases hlt:k<r.vs.length
    ·obtain⟨b,off,rfl,hb,c0⟩:=HI.o.load HBW1.o k hlt
     have hbr:b<W1.heap.size:=by omega
     have hltI:(k:Int)<(r.vs.length:Int):=by omega
     have HNN:Hid (qC r.vs k=false->zQ r=false):=fun h=>by rw[HG.o HKD.o,za2 hlt h];rfl
     by_cases hn:zaZ r.vs[k]=true
     rotate_left
     ·have HN:Hid ((decide (1<=r.vs[k])&&decide (r.vs[k]<=5))=false):=by simpa[Hid,zaZ] using hn
      have HF:Hid (zQ r=false):=HNN.o (zd8 hlt (by simpa using hn));clear hn hup;go_wp2_with fail
      go_quiet ((go_at_call 57;exact Calls.quiet_of_same (zf HN.o (zM _ _ _ _))))
      go_wp2_with fail
      go_ret;exact⟨ze HF.o.symm,below_drewN HBW1.o _⟩
     have HN:=hid hn
     by_cases hk0:k=0
     ·have HS:Hid (up (qC r.vs) (k+1)=true):=by subst hk0;unfold Hid;rw[jA,zb3 hlt hn];rfl
      have hg:decide (0<k)=false:=by simp;omega
      clear hn hup hk0;go_wp2_with fail
      go_quiet ((go_at_call 57;exact Calls.quiet_of_same (zf HN.o (zM _ _ _ _))))
      go_wp2_with fail
      exact⟨⟨k+1,by omega,by go_num,HS.o,below_drewN HB1.o _⟩,by simp[intOf];omega⟩
     ·have hk1:(0:Int)<=(k:Int)-1:=by omega
      have hk2:(k:Int)-1<(r.vs.length:Int):=by omega
      have hg:decide (0<k)=true:=by simp;omega
      have hkm:k-1<r.vs.length:=by omega
      obtain⟨b',off',e',hb',d0⟩:=HI.o.load HBW1.o (k-1) hkm;simp only[Option.some.injEq,Addr.mk.injEq]at e';obtain⟨rfl,rfl,_⟩:=e';have hva:qC r.vs k=decide (r.vs[k-1]<r.vs[k]):=by unfold qC;rw[getD_at r.vs k _ hlt,getD_at r.vs (k-1) _ hkm,hn,decide_eq_false hk0];simp
      by_cases hls:r.vs[k-1]<r.vs[k]
      ·have hls':decide (r.vs[k]<=r.vs[k-1])=false:=by simp;omega
       have HS:Hid (up (qC r.vs) (k+1)=true):=by unfold Hid;rw[jA,hup,hva,decide_eq_true hls];rfl
       clear hls hn hup hk0 hva;go_wp2_with fail
       go_quiet ((go_at_call 57;exact Calls.quiet_of_same (zf HN.o (zM _ _ _ _))))
       go_wp2_with fail
       exact⟨⟨k+1,by omega,by go_num,HS.o,below_drewN HB1.o _⟩,by simp[intOf];omega⟩
      ·have hls':decide (r.vs[k]<=r.vs[k-1])=true:=by simp;omega
       have HF:Hid (zQ r=false):=HNN.o (by rw[hva,decide_eq_false hls]);clear hls hn hup hk0 hva;go_wp2_with fail
       go_quiet ((go_at_call 57;exact Calls.quiet_of_same (zf HN.o (zM _ _ _ _))))
       go_wp2_with fail
       go_ret;exact⟨ze HF.o.symm,below_drewN HBW1.o _⟩
    ·have HF:Hid (zQ r=qw r.px):=by
      have e:k=r.vs.length:=by omega
      subst e;rw[Hid,HG.o HKD.o,hup];rfl
     have hltI:¬(k:Int)<(r.vs.length:Int):=by omega
     clear hup HG;go_wp2_with fail
     go_loopw [4] (fun i wi=>∃n:Nat,n<=r.px.size/\i=.i n/\(r.px.data.toList.take n).all zN=true/\wi=W1) (fun i _=>r.px.size-(intOf i).toNat)
     case atStart=>exact⟨0,Nat.zero_le _,rfl,rfl,rfl⟩
     case round=>
      obtain⟨n,hn16,rfl,hall,rfl⟩:=hrel
      by_cases hn:n<r.px.size
      ·have hnI:(n:Int)<(r.px.size:Int):=by omega
       have HS:Hid ((r.px.data.toList.take (n+1)).all zN=(true&&zN r.px[n])):=by rw[zaY _ r.px n hn,hall];rfl
       have HNo:Hid (zN r.px[n]=false->qw r.px=false):=fun h=>zcp zN r.px n hn h
       clear hall
       by_cases hc:zN r.px[n]=true
       ·have HC:=hid hc
        clear hc
        go_wp2_with (go_at_call 142;refine(zf HC.o (zam _ _)).mono ?_;rintro e w'⟨rfl,rfl⟩)
        exact⟨⟨n+1,by omega,by go_num,by rw[HS.o,HC.o];rfl,trivial⟩,by simp[intOf];omega⟩
       ·have HC:Hid (zN r.px[n]=false):=by simpa[Hid] using hc
        clear hc
        go_wp2_with (go_at_call 142;refine(zf HC.o (zam _ _)).mono ?_;rintro e w'⟨rfl,rfl⟩)
        go_ret;exact⟨ze (HF.o.trans (HNo.o HC.o)).symm,HBW1.o⟩
      ·have HA:Hid (qw r.px=true):=by unfold qw Hid;rw[<- zaE r.px n (by omega)];exact hall
       have hnI:¬(n:Int)<(r.px.size:Int):=by omega
       clear hall;go_wp2_with fail
       go_ret;exact⟨ze (HF.o.trans HA.o).symm,HBW1.o⟩
  ·have HF:Hid (zQ r=false):=by unfold Hid zQ qY;rw[ht,HT.o];simp
   go_enter Tryz.func101,Tryz.ntmps101
   go_wp2_with (first|(go_at_call_of 100 (Value.s r.kd);refine(zf HK.o (zi r.kd _ hskd)).mono ?_;rintro e w'⟨rfl,rfl⟩)|(go_at_call_of 100 (Value.s r.tm);refine(zf HT.o (zi r.tm _ hstm)).mono ?_;rintro e w'⟨rfl,rfl⟩))
   go_ret;exact⟨ze HF.o.symm,HB.o _⟩
 ·have HF:Hid (zQ r=false):=by unfold Hid zQ qY;rw[hk,HK.o];simp
  go_enter Tryz.func101,Tryz.ntmps101
  go_wp2_with (first|(go_at_call_of 100 (Value.s r.kd);refine(zf HK.o (zi r.kd _ hskd)).mono ?_;rintro e w'⟨rfl,rfl⟩))
  go_ret;exact⟨ze HF.o.symm,HB.o _⟩
end Go.Proofs.YthdfpinbnncghaaGreat
