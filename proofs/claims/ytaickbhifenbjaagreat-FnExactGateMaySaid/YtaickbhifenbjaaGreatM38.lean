import Derived.Test.YtaickbhifenbjaaGreatM37
import Derived.Test.YtaickbhifenbjaaGreatM36
import Derived.Deep.RegionHeld3
import Derived.Test.YtaickbhifenbjaaGreatM09
import Derived.Test.YtaickbhifenbjaaGreatM12
import Derived.Test.YtaickbhifenbjaaGreatM34
import Derived.RangeFuncNested
import Derived.RangeFuncBound
import Derived.RangeFuncCalls
import Derived.RangeFuncLeaves
import Derived.Shelf.Abstract
import Derived.Shelf.RegionOpen
import Derived.WalkKit
import Derived.OwnWalkIn
import Derived.TacticsInMore
import Derived.LoopNIn
import Derived.LoopIn
set_option maxHeartbeats 40000000
namespace Go.Proofs.YtaickbhifenbjaaGreat
open Go.RowKit
theorem zbA (a:Option Addr) (cap:Nat) (ts:List Tm) (v:ByteArray) (w:World) (hw:qJ w a ts) :
 Calls Tryz.prog 80 #[.slice a ts.length cap,.string v] w fun e w'=>e = .returned (.bool (Gate.yC ts v))/\w'=w:=by
 have hl:=hw.len
 unfold maxLen at hl
 go_enter Tryz.func80,Tryz.ntmps80
 go_wp2_with fail
 go_loop [5] (fun i=>∃ k:Nat,k<=ts.length/\i = .int .i64 k/\Gate.yC (ts.take k) v=false) (fun i=>ts.length - (intOf i).toNat)
 case atStart=>exact ⟨0,Nat.zero_le _,rfl,rfl⟩
 case round =>
  obtain ⟨k,hk,rfl,hall⟩:=hrel
  by_cases hlt:k < ts.length
  ·obtain ⟨b,off,rfl,hb,c0,c1⟩:=hw.load (Below.refl _ _) k hlt
   clear hw
   have HS:Hid (Gate.yC (ts.take (k+1)) v=(false || decide (ts[k].nm=v))):=by rw [Gate.zds ts v k hlt,hall];rfl
   have hltI:(k:Int) < (ts.length:Int):=by omega
   by_cases he:ts[k].nm=v
   ·have hbe:(ts[k].nm.toList == v.toList)=true:=by rw [Gate.beq_toList];simpa using he
    have HR:Hid (Gate.yC ts v=true):=Gate.zmm ts v k hlt he
    clear he hall
    go_wp2_with fail
    go_ret
    exact ⟨ze HR.out.symm,rfl⟩
   ·have hbe:(ts[k].nm.toList == v.toList)=false:=by rw [Gate.beq_toList];simpa using he
    have HE:Hid (¬ ts[k].nm=v):=he
    clear he hall
    go_wp2_with fail
    go_round
    case rel=>exact ⟨k+1,by omega,by go_num,by rw [HS.out,decide_eq_false HE.out];rfl⟩
    case measure=>simp [intOf];omega
  ·have HR:Hid (Gate.yC ts v=false):=by rw [<- Gate.zec ts v k (by omega)];exact hall
   clear hall hw
   go_wp2_with fail
   go_ret
   exact ⟨ze HR.out.symm,rfl⟩
theorem Gate.zb8 (ts:List Tm) (m:Nat) (z:ByteArray) (h:z.size=0):Gate.qw ts m z=z:=by
 cases m with
 | zero=>rfl
 | succ m=>unfold Gate.qw;rw [if_pos h]
theorem Gate.zcy (ts:List Tm) (m:Nat) (z:ByteArray) (h:¬ z.size=0):Gate.qw ts (m+1) z=Gate.qw ts m (Gate.over ts z):=by
 rw [Gate.qw,if_neg h]
theorem zg7 (a:Option Addr) (cap:Nat) (ts:List Tm) (w:World) (hw:qJ w a ts) :
 Calls Tryz.prog 78 #[.slice a ts.length cap] w fun e w'=>e = .returned (.bool (Gate.zaD ts))/\Below w.heap.size w w':=by
 have hl:=hw.len
 unfold maxLen at hl
 by_cases h12:ts.length<=12
 rotate_left
 ·have HF:Hid (Gate.zaD ts=false):=by simp [Hid,Gate.zaD,h12]
  clear hw
  go_enter Tryz.func78,Tryz.ntmps78
  go_wp2_with fail
  go_ret
  exact ⟨ze HF.out.symm,Below.refl _ _⟩
 have HG:Hid (Gate.zaD ts=Gate.up (Gate.zbG ts) ts.length):=by simp [Hid,Gate.zaD,h12]
 have h12I:(ts.length:Int)<=12:=by omega
 have HW0:Hid (qJ w a ts):=hw
 clear hw
 go_enter Tryz.func78,Tryz.ntmps78
 go_wp2_with fail
 go_loopw [3] (fun i wr=>∃ k:Nat,k<=ts.length/\i = .int .i64 k/\Gate.up (Gate.zbG ts) k=true/\Below w.heap.size w wr) (fun i _=>ts.length - (intOf i).toNat)
 case atStart=>exact ⟨0,Nat.zero_le _,rfl,rfl,Below.refl _ _⟩
 case round =>
  obtain ⟨k,hk,rfl,hup,hB⟩:=hrel
  obtain ⟨W0,rfl⟩:∃ W0,W0=wr:=⟨wr,rfl⟩
  have hsz:=hB.size
  by_cases hlt:k < ts.length
  ·obtain ⟨b,off,rfl,hb,c0,c1⟩:=HW0.out.load hB k hlt
   have hbr:b < W0.heap.size:=by omega
   have hsm:=HW0.out.small k hlt
   have hsn:=hsm.nm
   have HS:Hid (Gate.qD ts k=true->Gate.zbk ts k=true->Gate.up (Gate.zbG ts) (k+1)=true):=fun h h'=>by rw [Gate.jc,hup,Gate.zbG,h,h'];rfl
   have HN:Hid (Gate.qD ts k=false->Gate.zaD ts=false):=fun h=>by rw [HG.out];exact Gate.zaw hlt (by rw [Gate.zbG,h];rfl)
   have HD:Hid (Gate.zbk ts k=false->Gate.zaD ts=false):=fun h=>by rw [HG.out];exact Gate.zaw hlt (by rw [Gate.zbG,h,Bool.and_false])
   have HDS:Hid (Gate.zbk ts k=decide ((Gate.qw ts 5 ts[k].nm).size=0)):=by unfold Hid Gate.zbk;rw [Gate.getD_at ts k _ hlt]
   have hltI:(k:Int) < (ts.length:Int):=by omega
   have HB:Hid (Below w.heap.size w W0):=hB
   have HBx:Hid (∀ (ob:Obj) (n:Nat),Below W0.heap.size W0 ((W0.alloc ob).drewN n)):=fun ob n=>below_drewN ((Below.refl _ _).alloc (Nat.le_refl _) _) _
   have HWr:Hid (∀ (ob:Obj) (n:Nat),qJ ((W0.alloc ob).drewN n) (some ⟨b,off,none⟩) ts):=fun ob n=>(HW0.out.mono hB).mono (below_drewN ((Below.refl _ _).alloc (Nat.le_refl _) _) _)
   clear hup hsm hB
   by_cases hn:Gate.zx ts[k].nm=true
   rotate_left
   ·have HNm:Hid (Gate.zx ts[k].nm=false):=by simpa [Hid] using hn
    have HF:Hid (Gate.qD ts k=false):=by unfold Hid;rw [Gate.zcd ts k hlt _ rfl,HNm.out];rfl
    clear hn
    go_wp2_with fail
    go_quiet ((go_at_call 86;exact Calls.quiet_of_same (zf HNm.out (zh _ _ hsn))))
    go_wp2_with fail
    go_ret
    exact ⟨ze (HN.out HF.out).symm,HB.out.trans ((HBx.out _ _).mono hsz)⟩
   have HNm:Hid (Gate.zx ts[k].nm=true):=hn
   clear hn
   by_cases hbad:0 < k/\Gate.less (ts.getD (k - 1) Gate.za4).nm ts[k].nm=false
   ·obtain ⟨hkpos,hls⟩:=hbad
    have HF:Hid (Gate.qD ts k=false):=by
     unfold Hid;rw [Gate.zcd ts k hlt false (by rw [hls,decide_eq_false (show ¬ k=0 by omega)];rfl)];simp
    obtain ⟨m,rfl⟩:∃ m,k=m+1:=⟨k - 1,by omega⟩
    rw [Nat.add_sub_cancel,Gate.getD_at ts m _ (by omega)] at hls
    obtain ⟨b',off',e',hb',d0,d1⟩:=HW0.out.load HB.out m (by omega)
    simp only [Option.some.injEq,Addr.mk.injEq] at e'
    obtain ⟨rfl,rfl,_⟩:=e'
    have hls':Op.bytesLess ts[m].nm.toList ts[m+1].nm.toList=false:=hls
    have hmI:(m:Int) < 12:=by omega
    have hm0:(0:Int)<=(m:Int):=by omega
    have hml:(m:Int) < (ts.length:Int):=by omega
    have hmw:IntKind.i64.wrap (m:Int)=m:=by rw [IntKind.wrap_i64];omega
    clear hls
    go_wp2_with fail
    go_quiet ((go_at_call 86;exact Calls.quiet_of_same (zf HNm.out (zh _ _ hsn))))
    go_wp2_with fail
    go_ret
    exact ⟨ze (HN.out HF.out).symm,HB.out.trans ((HBx.out _ _).mono hsz)⟩
   have hgd:(decide (k=0) || Gate.less (ts.getD (k - 1) Gate.za4).nm ts[k].nm)=true:=by
    by_cases hk0:k=0
    ·simp [hk0]
    ·cases hq:Gate.less (ts.getD (k - 1) Gate.za4).nm ts[k].nm
     ·exact absurd ⟨by omega,hq⟩ hbad
     ·simp
   have HA:Hid (Gate.qD ts k=(ts[k].ov.toList.isEmpty || Gate.yC ts ts[k].ov)):=by
    unfold Hid;rw [Gate.zcd ts k hlt true hgd,HNm.out];rfl
   have hgood:(decide (0 < k)=false) \/ (decide (0 < k)=true/\(0:Int)<=(k:Int) - 1/\(k:Int) - 1 < (ts.length:Int)/\∃ h:k - 1 < ts.length,Op.bytesLess ts[k - 1].nm.toList ts[k].nm.toList=true/\W0.cell? ⟨b,off+(k - 1) * 2,none⟩=some (.string ts[k - 1].nm)):=by
    by_cases hk0:k=0
    ·exact Or.inl (by simp;omega)
    ·refine Or.inr ⟨by simp;omega,by omega,by omega,by omega,?_,?_⟩
     ·rw [decide_eq_false hk0,Gate.getD_at ts (k - 1) _ (by omega)] at hgd
      exact hgd
     ·obtain ⟨b',off',e',hb',d0,d1⟩:=HW0.out.load HB.out (k - 1) (by omega)
      simp only [Option.some.injEq,Addr.mk.injEq] at e'
      obtain ⟨rfl,rfl,_⟩:=e'
      exact d0
   clear hbad hgd
   by_cases hov:ts[k].ov.toList.isEmpty=true
   ·have HT:Hid (Gate.qD ts k=true):=by unfold Hid;rw [HA.out,hov];rfl
    rcases hgood with hg | ⟨hg,hk1,hk2,hkm,hls',d0⟩
    ·go_wp2_with fail
     go_quiet ((go_at_call 86;exact Calls.quiet_of_same (zf HNm.out (zh _ _ hsn))))
     go_wp2_with fail
     obtain ⟨W1,hW1⟩:∃ W1,W1=(W0.alloc (.cells #[.string ts[k].nm,.string ts[k].ov] 119)).drewN nq:=⟨_,rfl⟩
     have HB1:Hid (Below w.heap.size w W1):=by unfold Hid;rw [hW1];exact HB.out.trans ((HBx.out _ _).mono hsz)
     have HW1:Hid (qJ W1 (some ⟨b,off,none⟩) ts):=HW0.out.mono HB1.out
     rw [<- hW1]
     clear hW1
     go_loopw [5,6] (fun p i wi=>∃ (n:Nat) (z:ByteArray),n<=5/\p = .string z/\i = .int .i64 n/\Gate.qw ts 5 ts[k].nm=Gate.qw ts (5 - n) z/\wi=W1) (fun _ i _=>5 - (intOf i).toNat)
     case atStart=>exact ⟨0,ts[k].nm,Nat.zero_le _,rfl,rfl,rfl,rfl⟩
     case round =>
      obtain ⟨n,z,hn5,rfl,rfl,hz,rfl⟩:=hrel
      by_cases hn:n < 5
      ·have hnI:(n:Int)<=4:=by omega
       by_cases hz0:z.size=0
       ·have hze:z.toList.isEmpty=true:=by rw [Gate.zq];simpa using hz0
        have HDT:Hid (Gate.zbk ts (k)=true):=by unfold Hid;rw [HDS.out,hz,Gate.zb8 ts _ z hz0];simpa using hz0
        clear hz hz0
        go_wp2_with fail
        exact ⟨⟨k+1,by omega,by go_num,HS.out HT.out HDT.out,HB1.out⟩,by simp [intOf];omega⟩
       ·have hze:z.toList.isEmpty=false:=by rw [Gate.zq];simpa using hz0
        have HZ:Hid (Gate.qw ts 5 ts[k].nm=Gate.qw ts (5 - (n+1)) (Gate.over ts z)):=by
         obtain ⟨q,hq⟩:∃ q,5 - n=q+1:=⟨4 - n,by omega⟩
         rw [Hid,hz,hq,Gate.zcy ts q z hz0,show 5 - (n+1)=q by omega]
        clear hz hz0
        go_wp2_with (go_at_call 118;refine (za8 _ _ ts _ _ HW1.out).mono ?_;rintro e w' ⟨rfl,rfl⟩)
        exact ⟨⟨n+1,Gate.over ts z,by omega,rfl,by go_num,HZ.out,trivial⟩,by simp [intOf];omega⟩
      ·have e5:5 - n=0:=by omega
       rw [e5] at hz
       have hnI:¬ (n:Int)<=4:=by omega
       by_cases hz0:z.size=0
       ·have hze:z.toList.isEmpty=true:=by rw [Gate.zq];simpa using hz0
        have HDT:Hid (Gate.zbk ts (k)=true):=by unfold Hid;rw [HDS.out,hz];simpa [Gate.qw] using hz0
        clear hz hz0
        go_wp2_with fail
        exact ⟨⟨k+1,by omega,by go_num,HS.out HT.out HDT.out,HB1.out⟩,by simp [intOf];omega⟩
       ·have hze:z.toList.isEmpty=false:=by rw [Gate.zq];simpa using hz0
        have HDT:Hid (Gate.zbk ts (k)=false):=by unfold Hid;rw [HDS.out,hz];simpa [Gate.qw] using hz0
        clear hz hz0
        go_wp2_with fail
        go_ret
        exact ⟨ze (HD.out HDT.out).symm,HB1.out⟩
    ·go_wp2_with fail
     go_quiet ((go_at_call 86;exact Calls.quiet_of_same (zf HNm.out (zh _ _ hsn))))
     go_wp2_with fail
     obtain ⟨W1,hW1⟩:∃ W1,W1=(W0.alloc (.cells #[.string ts[k].nm,.string ts[k].ov] 119)).drewN nq:=⟨_,rfl⟩
     have HB1:Hid (Below w.heap.size w W1):=by unfold Hid;rw [hW1];exact HB.out.trans ((HBx.out _ _).mono hsz)
     have HW1:Hid (qJ W1 (some ⟨b,off,none⟩) ts):=HW0.out.mono HB1.out
     rw [<- hW1]
     clear hW1
     go_loopw [5,6] (fun p i wi=>∃ (n:Nat) (z:ByteArray),n<=5/\p = .string z/\i = .int .i64 n/\Gate.qw ts 5 ts[k].nm=Gate.qw ts (5 - n) z/\wi=W1) (fun _ i _=>5 - (intOf i).toNat)
     case atStart=>exact ⟨0,ts[k].nm,Nat.zero_le _,rfl,rfl,rfl,rfl⟩
     case round =>
      obtain ⟨n,z,hn5,rfl,rfl,hz,rfl⟩:=hrel
      by_cases hn:n < 5
      ·have hnI:(n:Int)<=4:=by omega
       by_cases hz0:z.size=0
       ·have hze:z.toList.isEmpty=true:=by rw [Gate.zq];simpa using hz0
        have HDT:Hid (Gate.zbk ts (k)=true):=by unfold Hid;rw [HDS.out,hz,Gate.zb8 ts _ z hz0];simpa using hz0
        clear hz hz0
        go_wp2_with fail
        exact ⟨⟨k+1,by omega,by go_num,HS.out HT.out HDT.out,HB1.out⟩,by simp [intOf];omega⟩
       ·have hze:z.toList.isEmpty=false:=by rw [Gate.zq];simpa using hz0
        have HZ:Hid (Gate.qw ts 5 ts[k].nm=Gate.qw ts (5 - (n+1)) (Gate.over ts z)):=by
         obtain ⟨q,hq⟩:∃ q,5 - n=q+1:=⟨4 - n,by omega⟩
         rw [Hid,hz,hq,Gate.zcy ts q z hz0,show 5 - (n+1)=q by omega]
        clear hz hz0
        go_wp2_with (go_at_call 118;refine (za8 _ _ ts _ _ HW1.out).mono ?_;rintro e w' ⟨rfl,rfl⟩)
        exact ⟨⟨n+1,Gate.over ts z,by omega,rfl,by go_num,HZ.out,trivial⟩,by simp [intOf];omega⟩
      ·have e5:5 - n=0:=by omega
       rw [e5] at hz
       have hnI:¬ (n:Int)<=4:=by omega
       by_cases hz0:z.size=0
       ·have hze:z.toList.isEmpty=true:=by rw [Gate.zq];simpa using hz0
        have HDT:Hid (Gate.zbk ts (k)=true):=by unfold Hid;rw [HDS.out,hz];simpa [Gate.qw] using hz0
        clear hz hz0
        go_wp2_with fail
        exact ⟨⟨k+1,by omega,by go_num,HS.out HT.out HDT.out,HB1.out⟩,by simp [intOf];omega⟩
       ·have hze:z.toList.isEmpty=false:=by rw [Gate.zq];simpa using hz0
        have HDT:Hid (Gate.zbk ts (k)=false):=by unfold Hid;rw [HDS.out,hz];simpa [Gate.qw] using hz0
        clear hz hz0
        go_wp2_with fail
        go_ret
        exact ⟨ze (HD.out HDT.out).symm,HB1.out⟩
   ·have hov':ts[k].ov.toList.isEmpty=false:=by simpa using hov
    clear hov
    by_cases hit:Gate.yC ts ts[k].ov=true
    ·have HI:Hid (Gate.yC ts ts[k].ov=true):=hit
     have HT:Hid (Gate.qD ts k=true):=by unfold Hid;rw [HA.out,hit];simp
     clear hit
     rcases hgood with hg | ⟨hg,hk1,hk2,hkm,hls',d0⟩
     ·go_wp2_with fail
      go_quiet (first | (go_at_call 86;exact Calls.quiet_of_same (zf HNm.out (zh _ _ hsn))) | (go_at_call 80;exact Calls.quiet_of_same (zf HI.out (zbA _ _ ts _ _ (by exact HWr.out _ _)))))
      go_wp2_with fail
      obtain ⟨W1,hW1⟩:∃ W1,W1=(W0.alloc (.cells #[.string ts[k].nm,.string ts[k].ov] 119)).drewN nq:=⟨_,rfl⟩
      have HB1:Hid (Below w.heap.size w W1):=by unfold Hid;rw [hW1];exact HB.out.trans ((HBx.out _ _).mono hsz)
      have HW1:Hid (qJ W1 (some ⟨b,off,none⟩) ts):=HW0.out.mono HB1.out
      rw [<- hW1]
      clear hW1
      go_loopw [5,6] (fun p i wi=>∃ (n:Nat) (z:ByteArray),n<=5/\p = .string z/\i = .int .i64 n/\Gate.qw ts 5 ts[k].nm=Gate.qw ts (5 - n) z/\wi=W1) (fun _ i _=>5 - (intOf i).toNat)
      case atStart=>exact ⟨0,ts[k].nm,Nat.zero_le _,rfl,rfl,rfl,rfl⟩
      case round =>
       obtain ⟨n,z,hn5,rfl,rfl,hz,rfl⟩:=hrel
       by_cases hn:n < 5
       ·have hnI:(n:Int)<=4:=by omega
        by_cases hz0:z.size=0
        ·have hze:z.toList.isEmpty=true:=by rw [Gate.zq];simpa using hz0
         have HDT:Hid (Gate.zbk ts (k)=true):=by unfold Hid;rw [HDS.out,hz,Gate.zb8 ts _ z hz0];simpa using hz0
         clear hz hz0
         go_wp2_with fail
         exact ⟨⟨k+1,by omega,by go_num,HS.out HT.out HDT.out,HB1.out⟩,by simp [intOf];omega⟩
        ·have hze:z.toList.isEmpty=false:=by rw [Gate.zq];simpa using hz0
         have HZ:Hid (Gate.qw ts 5 ts[k].nm=Gate.qw ts (5 - (n+1)) (Gate.over ts z)):=by
          obtain ⟨q,hq⟩:∃ q,5 - n=q+1:=⟨4 - n,by omega⟩
          rw [Hid,hz,hq,Gate.zcy ts q z hz0,show 5 - (n+1)=q by omega]
         clear hz hz0
         go_wp2_with (go_at_call 118;refine (za8 _ _ ts _ _ HW1.out).mono ?_;rintro e w' ⟨rfl,rfl⟩)
         exact ⟨⟨n+1,Gate.over ts z,by omega,rfl,by go_num,HZ.out,trivial⟩,by simp [intOf];omega⟩
       ·have e5:5 - n=0:=by omega
        rw [e5] at hz
        have hnI:¬ (n:Int)<=4:=by omega
        by_cases hz0:z.size=0
        ·have hze:z.toList.isEmpty=true:=by rw [Gate.zq];simpa using hz0
         have HDT:Hid (Gate.zbk ts (k)=true):=by unfold Hid;rw [HDS.out,hz];simpa [Gate.qw] using hz0
         clear hz hz0
         go_wp2_with fail
         exact ⟨⟨k+1,by omega,by go_num,HS.out HT.out HDT.out,HB1.out⟩,by simp [intOf];omega⟩
        ·have hze:z.toList.isEmpty=false:=by rw [Gate.zq];simpa using hz0
         have HDT:Hid (Gate.zbk ts (k)=false):=by unfold Hid;rw [HDS.out,hz];simpa [Gate.qw] using hz0
         clear hz hz0
         go_wp2_with fail
         go_ret
         exact ⟨ze (HD.out HDT.out).symm,HB1.out⟩
     ·go_wp2_with fail
      go_quiet (first | (go_at_call 86;exact Calls.quiet_of_same (zf HNm.out (zh _ _ hsn))) | (go_at_call 80;exact Calls.quiet_of_same (zf HI.out (zbA _ _ ts _ _ (by exact HWr.out _ _)))))
      go_wp2_with fail
      obtain ⟨W1,hW1⟩:∃ W1,W1=(W0.alloc (.cells #[.string ts[k].nm,.string ts[k].ov] 119)).drewN nq:=⟨_,rfl⟩
      have HB1:Hid (Below w.heap.size w W1):=by unfold Hid;rw [hW1];exact HB.out.trans ((HBx.out _ _).mono hsz)
      have HW1:Hid (qJ W1 (some ⟨b,off,none⟩) ts):=HW0.out.mono HB1.out
      rw [<- hW1]
      clear hW1
      go_loopw [5,6] (fun p i wi=>∃ (n:Nat) (z:ByteArray),n<=5/\p = .string z/\i = .int .i64 n/\Gate.qw ts 5 ts[k].nm=Gate.qw ts (5 - n) z/\wi=W1) (fun _ i _=>5 - (intOf i).toNat)
      case atStart=>exact ⟨0,ts[k].nm,Nat.zero_le _,rfl,rfl,rfl,rfl⟩
      case round =>
       obtain ⟨n,z,hn5,rfl,rfl,hz,rfl⟩:=hrel
       by_cases hn:n < 5
       ·have hnI:(n:Int)<=4:=by omega
        by_cases hz0:z.size=0
        ·have hze:z.toList.isEmpty=true:=by rw [Gate.zq];simpa using hz0
         have HDT:Hid (Gate.zbk ts (k)=true):=by unfold Hid;rw [HDS.out,hz,Gate.zb8 ts _ z hz0];simpa using hz0
         clear hz hz0
         go_wp2_with fail
         exact ⟨⟨k+1,by omega,by go_num,HS.out HT.out HDT.out,HB1.out⟩,by simp [intOf];omega⟩
        ·have hze:z.toList.isEmpty=false:=by rw [Gate.zq];simpa using hz0
         have HZ:Hid (Gate.qw ts 5 ts[k].nm=Gate.qw ts (5 - (n+1)) (Gate.over ts z)):=by
          obtain ⟨q,hq⟩:∃ q,5 - n=q+1:=⟨4 - n,by omega⟩
          rw [Hid,hz,hq,Gate.zcy ts q z hz0,show 5 - (n+1)=q by omega]
         clear hz hz0
         go_wp2_with (go_at_call 118;refine (za8 _ _ ts _ _ HW1.out).mono ?_;rintro e w' ⟨rfl,rfl⟩)
         exact ⟨⟨n+1,Gate.over ts z,by omega,rfl,by go_num,HZ.out,trivial⟩,by simp [intOf];omega⟩
       ·have e5:5 - n=0:=by omega
        rw [e5] at hz
        have hnI:¬ (n:Int)<=4:=by omega
        by_cases hz0:z.size=0
        ·have hze:z.toList.isEmpty=true:=by rw [Gate.zq];simpa using hz0
         have HDT:Hid (Gate.zbk ts (k)=true):=by unfold Hid;rw [HDS.out,hz];simpa [Gate.qw] using hz0
         clear hz hz0
         go_wp2_with fail
         exact ⟨⟨k+1,by omega,by go_num,HS.out HT.out HDT.out,HB1.out⟩,by simp [intOf];omega⟩
        ·have hze:z.toList.isEmpty=false:=by rw [Gate.zq];simpa using hz0
         have HDT:Hid (Gate.zbk ts (k)=false):=by unfold Hid;rw [HDS.out,hz];simpa [Gate.qw] using hz0
         clear hz hz0
         go_wp2_with fail
         go_ret
         exact ⟨ze (HD.out HDT.out).symm,HB1.out⟩
    ·have HI:Hid (Gate.yC ts ts[k].ov=false):=by simpa [Hid] using hit
     have HF:Hid (Gate.qD ts k=false):=by unfold Hid;rw [HA.out,HI.out,hov'];rfl
     clear hit
     rcases hgood with hg | ⟨hg,hk1,hk2,hkm,hls',d0⟩
     ·go_wp2_with fail
      go_quiet (first | (go_at_call 86;exact Calls.quiet_of_same (zf HNm.out (zh _ _ hsn))) | (go_at_call 80;exact Calls.quiet_of_same (zf HI.out (zbA _ _ ts _ _ (by exact HWr.out _ _)))))
      go_wp2_with fail
      go_ret
      exact ⟨ze (HN.out HF.out).symm,HB.out.trans ((HBx.out _ _).mono hsz)⟩
     ·go_wp2_with fail
      go_quiet (first | (go_at_call 86;exact Calls.quiet_of_same (zf HNm.out (zh _ _ hsn))) | (go_at_call 80;exact Calls.quiet_of_same (zf HI.out (zbA _ _ ts _ _ (by exact HWr.out _ _)))))
      go_wp2_with fail
      go_ret
      exact ⟨ze (HN.out HF.out).symm,HB.out.trans ((HBx.out _ _).mono hsz)⟩
  ·have HF:Hid (Gate.zaD ts=true):=by
    have e:k=ts.length:=by omega
    subst e;rw [Hid,HG.out,hup]
   clear hup
   go_wp2_with fail
   go_ret
   exact ⟨ze HF.out.symm,hB⟩
theorem zfR (l:Lw) (la lb lc:Option Addr) (lca lcb lcc:Nat) (b:Bk) (a0 a1 a2 a3:Option Addr) (c0 c1 c2 c3:Nat) (team res:ByteArray) (w:World) (hl:qp w l la lb lc) (hb:qA w b a0 a1 a2 a3) (hz:qE b.os<=1048576) :
 Calls Tryz.prog 90 #[.agg (l.cells la lb lc lca lcb lcc),.agg (b.cells a0 a1 a2 a3 c0 c1 c2 c3),.string team,.string res] w fun e w'=>e = .returned (.int .i64 (Gate.used l b.os team res))/\Below w.heap.size w w':=by
 have HL:Hid (qp w l la lb lc):=hl
 have HK:Hid (qA w b a0 a1 a2 a3):=hb
 have HZ:Hid (qE b.os<=1048576/\b.os.length<=1048576):=⟨hz,by unfold qE at hz;omega⟩
 clear hl hb hz
 unfold Lw.cells Bk.cells
 go_enter Tryz.func90,Tryz.ntmps90
 go_wp2_with fail
 obtain ⟨hX0,hY0⟩:=jd w #[.slice la l.ss.length lca,.slice lb l.ms.length lcb,.slice lc l.ts.length lcc] #[.int .i64 b.now,.int .i64 b.tick,.int .i64 b.given,.slice a0 b.os.length c0,.slice a1 b.gs.length c1,.slice a2 b.ls.length c2,.slice a3 b.ps.length c3] 43 50
 have HB0:Hid (Below w.heap.size w ((w.alloc (.cells #[.slice la l.ss.length lca,.slice lb l.ms.length lcb,.slice lc l.ts.length lcc] 43)).alloc (.cells #[.int .i64 b.now,.int .i64 b.tick,.int .i64 b.given,.slice a0 b.os.length c0,.slice a1 b.gs.length c1,.slice a2 b.ls.length c2,.slice a3 b.ps.length c3] 50))):=zC w _ _
 obtain ⟨W0,hW0⟩:∃ W0,W0=(w.alloc (.cells #[.slice la l.ss.length lca,.slice lb l.ms.length lcb,.slice lc l.ts.length lcc] 43)).alloc (.cells #[.int .i64 b.now,.int .i64 b.tick,.int .i64 b.given,.slice a0 b.os.length c0,.slice a1 b.gs.length c1,.slice a2 b.ls.length c2,.slice a3 b.ps.length c3] 50):=⟨_,rfl⟩
 have hz0:w.heap.size+1 < W0.heap.size:=by rw [hW0];simp
 rw [<- hW0] at HB0 hX0 hY0 ⊢
 clear hW0
 go_loopw [9,10] (fun nv iv wr=>∃ (k:Nat) (s:Int),k<=b.os.length/\iv = .int .i64 k/\nv = .int .i64 s/\Hid (s=Gate.jZ l b.os team res k/\Below W0.heap.size W0 wr)) (fun _ iv _=>b.os.length - (intOf iv).toNat)
 case atStart=>exact ⟨0,0,Nat.zero_le _,rfl,rfl,by simp [Gate.jZ],Below.refl _ _⟩
 case round =>
  obtain ⟨k,s,hk,rfl,rfl,HQ⟩:=hrel
  have hsb:0<=s/\s<=20000000000000:=by
   have h1:=HQ.out.1;have h2:=Gate.zbE l b.os team res k hk;have h3:=HZ.out
   have h4:zaK (b.os.take k)<=zaK b.os:=zcm Ob.sz b.os k
   unfold qE at h3
   omega
  have hX:=za hX0 (Nat.lt_of_succ_lt hz0) HQ.out.2
  have hY:=za hY0 hz0 HQ.out.2
  have hz:w.heap.size+1 < wr.heap.size:=Nat.lt_of_lt_of_le hz0 HQ.out.2.size
  have hzX:w.heap.size < wr.heap.size:=Nat.lt_of_succ_lt hz
  have hkn:k<=1048576:=by have:=HZ.out.2;omega
  by_cases hlt:k < b.os.length
  ·obtain ⟨ob,off,v0,v1,q0,q1,rfl,hob,hsm,hl0,hl1,d0,d1,d2,d3,d4,d5,d6⟩:=HK.out.os.load (HB0.out.trans (HQ.out.2.mono HB0.out.size)) k hlt
   have hob':ob < wr.heap.size:=Nat.lt_of_lt_of_le hob (HB0.out.trans (HQ.out.2.mono HB0.out.size)).size
   have hltI:(k:Int) < (b.os.length:Int):=by omega
   have HSt:Hid (Gate.jZ l b.os team res (k+1)=Gate.jZ l b.os team res k+Gate.za6 l team res b.os[k]):=Gate.zeO l b.os team res k hlt
   have HOo:Hid (qG wr b.os[k] v0 v1):=⟨hsm,hl0,hl1⟩
   have HOl:Hid (b.os[k].vs.length<=1048576):=by
    have h3:=HZ.out.1
    have:=(zj5 (left:=1048576) (ms:=b.os) (by omega) (by omega)).2 k hlt
    exact this.1
   have hwb:=Gate.zeY l.ss b.os[k] res HOl.out
   have HBr:Hid (Below w.heap.size w wr):=HB0.out.trans (HQ.out.2.mono HB0.out.size)
   clear hsm hl0 hl1
   go_wp2_with fail
   have HS:Hid ((∀ j,wr.cell? ⟨w.heap.size,j,none⟩=(#[.slice la l.ss.length lca,.slice lb l.ms.length lcb,.slice lc l.ts.length lcc]:Array Value)[j]?)/\(∀ j,wr.cell? ⟨w.heap.size+1,j,none⟩=(#[.int .i64 b.now,.int .i64 b.tick,.int .i64 b.given,.slice (some ⟨ob,off,none⟩) b.os.length c0,.slice a1 b.gs.length c1,.slice a2 b.ls.length c2,.slice a3 b.ps.length c3]:Array Value)[j]?)/\wr.cell? ⟨ob,off+k * 7,none⟩=some (.string b.os[k].kd)/\wr.cell? ⟨ob,off+k * 7+1,none⟩=some (.string b.os[k].nm)/\wr.cell? ⟨ob,off+k * 7+2,none⟩=some (.string b.os[k].tm)/\wr.cell? ⟨ob,off+k * 7+3,none⟩=some (.slice v0 b.os[k].vs.length q0)/\wr.cell? ⟨ob,off+k * 7+4,none⟩=some (.bool b.os[k].en)/\wr.cell? ⟨ob,off+k * 7+5,none⟩=some (.slice v1 b.os[k].hs.length q1)/\wr.cell? ⟨ob,off+k * 7+6,none⟩=some (.int .i64 b.os[k].vr)):=⟨hX,hY,d0,d1,d2,d3,d4,d5,d6⟩
   have hS:(∀ j,wr.drew.cell? ⟨w.heap.size,j,none⟩=(#[.slice la l.ss.length lca,.slice lb l.ms.length lcb,.slice lc l.ts.length lcc]:Array Value)[j]?)/\(∀ j,wr.drew.cell? ⟨w.heap.size+1,j,none⟩=(#[.int .i64 b.now,.int .i64 b.tick,.int .i64 b.given,.slice (some ⟨ob,off,none⟩) b.os.length c0,.slice a1 b.gs.length c1,.slice a2 b.ls.length c2,.slice a3 b.ps.length c3]:Array Value)[j]?)/\wr.drew.cell? ⟨ob,off+k * 7,none⟩=some (.string b.os[k].kd)/\wr.drew.cell? ⟨ob,off+k * 7+1,none⟩=some (.string b.os[k].nm)/\wr.drew.cell? ⟨ob,off+k * 7+2,none⟩=some (.string b.os[k].tm)/\wr.drew.cell? ⟨ob,off+k * 7+3,none⟩=some (.slice v0 b.os[k].vs.length q0)/\wr.drew.cell? ⟨ob,off+k * 7+4,none⟩=some (.bool b.os[k].en)/\wr.drew.cell? ⟨ob,off+k * 7+5,none⟩=some (.slice v1 b.os[k].hs.length q1)/\wr.drew.cell? ⟨ob,off+k * 7+6,none⟩=some (.int .i64 b.os[k].vr):=HS.out
   clear hX hY d0 d1 d2 d3 d4 d5 d6
   go_region_held3 (fun w'=>(∀ j,w'.cell? ⟨w.heap.size,j,none⟩=(#[.slice la l.ss.length lca,.slice lb l.ms.length lcb,.slice lc l.ts.length lcc]:Array Value)[j]?)/\(∀ j,w'.cell? ⟨w.heap.size+1,j,none⟩=(#[.int .i64 b.now,.int .i64 b.tick,.int .i64 b.given,.slice (some ⟨ob,off,none⟩) b.os.length c0,.slice a1 b.gs.length c1,.slice a2 b.ls.length c2,.slice a3 b.ps.length c3]:Array Value)[j]?)/\w'.cell? ⟨ob,off+k * 7,none⟩=some (.string b.os[k].kd)/\w'.cell? ⟨ob,off+k * 7+1,none⟩=some (.string b.os[k].nm)/\w'.cell? ⟨ob,off+k * 7+2,none⟩=some (.string b.os[k].tm)/\w'.cell? ⟨ob,off+k * 7+3,none⟩=some (.slice v0 b.os[k].vs.length q0)/\w'.cell? ⟨ob,off+k * 7+4,none⟩=some (.bool b.os[k].en)/\w'.cell? ⟨ob,off+k * 7+5,none⟩=some (.slice v1 b.os[k].hs.length q1)/\w'.cell? ⟨ob,off+k * 7+6,none⟩=some (.int .i64 b.os[k].vr)) (exact hS) (first | (go_at_call 93;refine (zaO _ _ l.ts b.os[k].tm team _ (by exact HL.out.ts.mono HBr.out.drew)).mono ?_;rintro e w1 ⟨rfl,rfl⟩))
   obtain ⟨w2,hw2⟩:∃ w2,w2=wr.drew:=⟨_,rfl⟩
   have hB2:Below W0.heap.size W0 w2:=by rw [hw2];exact HQ.out.2.drew
   have HBr2:Hid (Below w.heap.size w w2):=by unfold Hid;rw [hw2];exact HBr.out.drew
   have HO2:Hid (qG w2 b.os[k] v0 v1):=by unfold Hid;rw [hw2];exact HOo.out.mono (Below.refl _ _).drew
   have hS2:(∀ j,w2.cell? ⟨w.heap.size,j,none⟩=(#[.slice la l.ss.length lca,.slice lb l.ms.length lcb,.slice lc l.ts.length lcc]:Array Value)[j]?)/\(∀ j,w2.cell? ⟨w.heap.size+1,j,none⟩=(#[.int .i64 b.now,.int .i64 b.tick,.int .i64 b.given,.slice (some ⟨ob,off,none⟩) b.os.length c0,.slice a1 b.gs.length c1,.slice a2 b.ls.length c2,.slice a3 b.ps.length c3]:Array Value)[j]?)/\w2.cell? ⟨ob,off+k * 7,none⟩=some (.string b.os[k].kd)/\w2.cell? ⟨ob,off+k * 7+1,none⟩=some (.string b.os[k].nm)/\w2.cell? ⟨ob,off+k * 7+2,none⟩=some (.string b.os[k].tm)/\w2.cell? ⟨ob,off+k * 7+3,none⟩=some (.slice v0 b.os[k].vs.length q0)/\w2.cell? ⟨ob,off+k * 7+4,none⟩=some (.bool b.os[k].en)/\w2.cell? ⟨ob,off+k * 7+5,none⟩=some (.slice v1 b.os[k].hs.length q1)/\w2.cell? ⟨ob,off+k * 7+6,none⟩=some (.int .i64 b.os[k].vr):=by rw [hw2];exact hS
   have hz2:w.heap.size+1 < w2.heap.size:=by rw [hw2];exact hz
   have hzX2:w.heap.size < w2.heap.size:=Nat.lt_of_succ_lt hz2
   have hob2:ob < w2.heap.size:=by rw [hw2];exact hob'
   have HB2:Hid (Below W0.heap.size W0 w2):=hB2
   rw [<- hw2]
   clear hw2 hS HS hB2 hz hzX hob'
   by_cases hu:Gate.under l.ts 4 b.os[k].tm team=true
   ·have HU:Hid (Gate.za6 l team res b.os[k]=Gate.qY l.ss b.os[k] res):=by unfold Hid Gate.za6;rw [if_pos hu]
    rw [hu]
    clear hu
    have hS:(∀ j,w2.drew.cell? ⟨w.heap.size,j,none⟩=(#[.slice la l.ss.length lca,.slice lb l.ms.length lcb,.slice lc l.ts.length lcc]:Array Value)[j]?)/\(∀ j,w2.drew.cell? ⟨w.heap.size+1,j,none⟩=(#[.int .i64 b.now,.int .i64 b.tick,.int .i64 b.given,.slice (some ⟨ob,off,none⟩) b.os.length c0,.slice a1 b.gs.length c1,.slice a2 b.ls.length c2,.slice a3 b.ps.length c3]:Array Value)[j]?)/\w2.drew.cell? ⟨ob,off+k * 7,none⟩=some (.string b.os[k].kd)/\w2.drew.cell? ⟨ob,off+k * 7+1,none⟩=some (.string b.os[k].nm)/\w2.drew.cell? ⟨ob,off+k * 7+2,none⟩=some (.string b.os[k].tm)/\w2.drew.cell? ⟨ob,off+k * 7+3,none⟩=some (.slice v0 b.os[k].vs.length q0)/\w2.drew.cell? ⟨ob,off+k * 7+4,none⟩=some (.bool b.os[k].en)/\w2.drew.cell? ⟨ob,off+k * 7+5,none⟩=some (.slice v1 b.os[k].hs.length q1)/\w2.drew.cell? ⟨ob,off+k * 7+6,none⟩=some (.int .i64 b.os[k].vr):=hS2
    clear hS2
    go_wp2_with fail
    go_region_held3 (fun w'=>(∀ j,w'.cell? ⟨w.heap.size,j,none⟩=(#[.slice la l.ss.length lca,.slice lb l.ms.length lcb,.slice lc l.ts.length lcc]:Array Value)[j]?)/\(∀ j,w'.cell? ⟨w.heap.size+1,j,none⟩=(#[.int .i64 b.now,.int .i64 b.tick,.int .i64 b.given,.slice (some ⟨ob,off,none⟩) b.os.length c0,.slice a1 b.gs.length c1,.slice a2 b.ls.length c2,.slice a3 b.ps.length c3]:Array Value)[j]?)/\w'.cell? ⟨ob,off+k * 7,none⟩=some (.string b.os[k].kd)/\w'.cell? ⟨ob,off+k * 7+1,none⟩=some (.string b.os[k].nm)/\w'.cell? ⟨ob,off+k * 7+2,none⟩=some (.string b.os[k].tm)/\w'.cell? ⟨ob,off+k * 7+3,none⟩=some (.slice v0 b.os[k].vs.length q0)/\w'.cell? ⟨ob,off+k * 7+4,none⟩=some (.bool b.os[k].en)/\w'.cell? ⟨ob,off+k * 7+5,none⟩=some (.slice v1 b.os[k].hs.length q1)/\w'.cell? ⟨ob,off+k * 7+6,none⟩=some (.int .i64 b.os[k].vr)) (exact hS) (first | (go_at_call 126;refine (zhW l _ _ _ _ _ _ b.os[k] _ _ _ _ res _ (by exact HL.out.mono HBr2.out.drew) (by exact HO2.out.mono (Below.refl _ _).drew) HOl.out).mono ?_;rintro e w3 ⟨rfl,hb3⟩;have hS:=(⟨za hS.1 hzX2 hb3,za hS.2.1 hz2 hb3,(hb3.cell (p:=⟨ob,_,none⟩) hob2).trans hS.2.2.1,(hb3.cell (p:=⟨ob,_,none⟩) hob2).trans hS.2.2.2.1,(hb3.cell (p:=⟨ob,_,none⟩) hob2).trans hS.2.2.2.2.1,(hb3.cell (p:=⟨ob,_,none⟩) hob2).trans hS.2.2.2.2.2.1,(hb3.cell (p:=⟨ob,_,none⟩) hob2).trans hS.2.2.2.2.2.2.1,(hb3.cell (p:=⟨ob,_,none⟩) hob2).trans hS.2.2.2.2.2.2.2.1,(hb3.cell (p:=⟨ob,_,none⟩) hob2).trans hS.2.2.2.2.2.2.2.2⟩:_/\_/\_/\_/\_/\_/\_/\_/\_);have hB3:=HB2.out.drew.trans (hb3.mono HB2.out.drew.size);clear hb3))
    go_wp2_with fail
    refine ⟨⟨k+1,s+Gate.qY l.ss b.os[k] res,by omega,by go_num,?_,by rw [HSt.out,HU.out,HQ.out.1],hB3⟩,zw hlt⟩
    have hw:IntKind.i64.wrap (s+Gate.qY l.ss b.os[k] res)=s+Gate.qY l.ss b.os[k] res:=by
     rw [IntKind.wrap_i64]
     omega
    rw [hw]
   ·have hu':Gate.under l.ts 4 b.os[k].tm team=false:=by simpa using hu
    have HU:Hid (Gate.za6 l team res b.os[k]=0):=by unfold Hid Gate.za6;rw [if_neg hu]
    rw [hu']
    clear hu hu'
    go_wp2_with fail
    exact ⟨⟨k+1,s,by omega,by go_num,rfl,by rw [HSt.out,HU.out,HQ.out.1];omega,HB2.out⟩,zw hlt⟩
  ·have e:k=b.os.length:=by omega
   subst e
   have HE:Hid (Gate.used l b.os team res=s):=by unfold Hid Gate.used;rw [HQ.out.1]
   clear hlt hk
   go_wp2_with fail
   go_ret
   exact ⟨zm HE.out.symm,HB0.out.trans (HQ.out.2.mono HB0.out.size)⟩
namespace Gate
noncomputable def ql (l:Lw) (b:Bk):Bool:=yP l.ts b && (yZ b && zct l b)
theorem zlf (ls:List Lg) (tm rs:ByteArray):ls.any (zdS tm rs)=jq ls tm rs:=rfl
theorem zel {l:Lw} {b:Bk} (h:yP l.ts b=false):ql l b=false:=by unfold ql;rw [h];rfl
theorem zd2 {l:Lw} {b:Bk} (h:yZ b=false):ql l b=false:=by unfold ql;rw [h];simp
theorem zlC {l:Lw} {b:Bk} (h:zct l b=false):ql l b=false:=by unfold ql;rw [h];simp
theorem ze2 {b:Bk} (h:b.ps.all (yF b.ls b.tick)=true):∀ i (h:i < b.ps.length),0<=b.ps[i].am/\b.ps[i].am<=1000000:=fun i hi=>by
 have h4:=List.all_eq_true.1 h _ (List.getElem_mem hi)
 unfold yF within at h4
 simp only [Bool.and_eq_true,decide_eq_true_eq] at h4
 omega
end Gate
set_option maxRecDepth 20000 in
theorem zkw (l:Lw) (la lb lc:Option Addr) (lca lcb lcc:Nat) (b:Bk) (a0 a1 a2 a3:Option Addr) (c0 c1 c2 c3:Nat) (w:World) (hl:qp w l la lb lc) (hb:qA w b a0 a1 a2 a3) (htk:0<=b.tick/\b.tick<=1000000) (hz:qE b.os<=1048576) :
 Calls Tryz.prog 50 #[.agg (l.cells la lb lc lca lcb lcc),.agg (b.cells a0 a1 a2 a3 c0 c1 c2 c3)] w fun e w'=>e = .returned (.bool (Gate.ql l b))/\Below w.heap.size w w':=by
 have HK:Hid (qA w b a0 a1 a2 a3):=hb
 have HL:Hid (qp w l la lb lc):=hl
 have HZ:Hid (qE b.os<=1048576/\0<=b.tick/\b.tick<=1000000):=⟨hz,htk⟩
 clear hb hl hz htk
 unfold Lw.cells Bk.cells
 by_cases hln:b.ls.length<=10
 rotate_left
 ·have HF:Hid (Gate.ql l b=false):=Gate.zel (by unfold Gate.yP;rw [decide_eq_false hln];rfl)
  have hg:(10:Int) < (b.ls.length:Int):=by omega
  go_enter Tryz.func50,Tryz.ntmps50
  go_wp2_with fail
  go_ret
  exact ⟨ze HF.out.symm,zC _ _ _⟩
 have hg:decide ((10:Int) < (b.ls.length:Int))=false:=by simp;omega
 have HLN:Hid (b.ls.length<=10):=hln
 clear hln
 by_cases hpn:b.ps.length<=24
 rotate_left
 ·have HF:Hid (Gate.ql l b=false):=Gate.zd2 (by unfold Gate.yZ;rw [decide_eq_false hpn];rfl)
  have hg2:(24:Int) < (b.ps.length:Int):=by omega
  go_enter Tryz.func50,Tryz.ntmps50
  go_wp2_with fail
  go_ret
  exact ⟨ze HF.out.symm,zC _ _ _⟩
 have hg2:decide ((24:Int) < (b.ps.length:Int))=false:=by simp;omega
 have HPN:Hid (b.ps.length<=24):=hpn
 clear hpn
 go_enter Tryz.func50,Tryz.ntmps50
 go_wp2_with fail
 clear hg hg2
 obtain ⟨hL0,hX0⟩:=jd w #[.slice la l.ss.length lca,.slice lb l.ms.length lcb,.slice lc l.ts.length lcc] #[.int .i64 b.now,.int .i64 b.tick,.int .i64 b.given,.slice a0 b.os.length c0,.slice a1 b.gs.length c1,.slice a2 b.ls.length c2,.slice a3 b.ps.length c3] 43 50
 have HB0:Hid (Below w.heap.size w ((w.alloc (.cells #[.slice la l.ss.length lca,.slice lb l.ms.length lcb,.slice lc l.ts.length lcc] 43)).alloc (.cells #[.int .i64 b.now,.int .i64 b.tick,.int .i64 b.given,.slice a0 b.os.length c0,.slice a1 b.gs.length c1,.slice a2 b.ls.length c2,.slice a3 b.ps.length c3] 50))):=zC w _ _
 obtain ⟨W0,hW0⟩:∃ W0,W0=(w.alloc (.cells #[.slice la l.ss.length lca,.slice lb l.ms.length lcb,.slice lc l.ts.length lcc] 43)).alloc (.cells #[.int .i64 b.now,.int .i64 b.tick,.int .i64 b.given,.slice a0 b.os.length c0,.slice a1 b.gs.length c1,.slice a2 b.ls.length c2,.slice a3 b.ps.length c3] 50):=⟨_,rfl⟩
 have hz0:w.heap.size+1 < W0.heap.size:=by rw [hW0];simp
 rw [<- hW0] at HB0 hX0 hL0 ⊢
 clear hW0
 go_loopw [5] (fun iv wr=>∃ k:Nat,k<=b.ps.length/\iv = .int .i64 k/\Hid ((b.ps.take k).all (Gate.yF b.ls b.tick)=true/\Gate.jC Gate.jV b.ps k/\Below W0.heap.size W0 wr)) (fun iv _=>b.ps.length - (intOf iv).toNat)
 case atStart=>exact ⟨0,Nat.zero_le _,rfl,by simp,fun i _ h=>by omega,Below.refl _ _⟩
 case round =>
  obtain ⟨k,hk,rfl,HQ⟩:=hrel
  have hkn:k<=24:=by have:=HPN.out;omega
  have hX1:=za hX0 hz0 HQ.out.2.2
  have hL1:=za hL0 (Nat.lt_of_succ_lt hz0) HQ.out.2.2
  have hz1:=Nat.lt_of_lt_of_le hz0 HQ.out.2.2.size
  have HBq:Hid (Below w.heap.size w wr):=HB0.out.trans (HQ.out.2.2.mono HB0.out.size)
  by_cases hlt:k < b.ps.length
  ·have hsm:=HK.out.ps.small k hlt
   obtain ⟨ob,off,rfl,hob,d0,d1,d2,d3,d4⟩:=HK.out.ps.load HBq.out k hlt
   have hob':ob < wr.heap.size:=Nat.lt_of_lt_of_le hob HBq.out.size
   have hltI:(k:Int) < (b.ps.length:Int):=by omega
   have HSn:Hid ((b.ps.take (k+1)).all (Gate.yF b.ls b.tick)=((b.ps.take k).all (Gate.yF b.ls b.tick) && (Gate.yF b.ls b.tick) b.ps[k])):=Gate.qR _ _ _ hlt
   have HBo:Hid (∀ ob,Below W0.heap.size W0 (wr.alloc ob)):=fun ob=>HQ.out.2.2.alloc HQ.out.2.2.size _
   have HBw:Hid (∀ W,Below W0.heap.size W0 W->Below w.heap.size w W):=fun W hW=>HB0.out.trans (hW.mono HB0.out.size)
   have HNo:Hid ((Gate.yF b.ls b.tick) b.ps[k]=false->Gate.ql l b=false):=fun h=>Gate.zd2 (by unfold Gate.yZ;rw [Gate.zar _ _ _ hlt h];simp)
   have HNa:Hid (0 < k->0<=Gate.jV (b.ps[k - 1]'(by omega)) b.ps[k]->Gate.ql l b=false):=fun h0 h=>Gate.zd2 (by unfold Gate.yZ;rw [Gate.zdn hlt h0 (Int.not_lt.2 h)];simp)
   have HYes:Hid ((Gate.yF b.ls b.tick) b.ps[k]=true->(∀ m (e:k=m+1),Gate.jV (b.ps[m]'(by omega)) b.ps[k] < 0)->(b.ps.take (k+1)).all (Gate.yF b.ls b.tick)=true/\Gate.jC Gate.jV b.ps (k+1)):=fun h h'=>⟨by rw [HSn.out,HQ.out.1,h];rfl,Gate.zew HQ.out.2.1 hlt h'⟩
   have HSm:Hid (b.ps[k].Small):=hsm
   clear hsm
   go_wp2_with fail
   have hY0:=zl wr #[.string b.ps[k].dr,.string b.ps[k].tm,.string b.ps[k].rs,.int .i64 b.ps[k].am,.int .i64 b.ps[k].un] 128
   have hb5:Below wr.heap.size wr (wr.alloc (.cells #[.string b.ps[k].dr,.string b.ps[k].tm,.string b.ps[k].rs,.int .i64 b.ps[k].am,.int .i64 b.ps[k].un] 128)):=(Below.refl _ _).alloc (Nat.le_refl _) _
   have HBe:=HBo.out (.cells #[.string b.ps[k].dr,.string b.ps[k].tm,.string b.ps[k].rs,.int .i64 b.ps[k].am,.int .i64 b.ps[k].un] 128)
   obtain ⟨W5,hW5⟩:∃ W5,W5=wr.alloc (.cells #[.string b.ps[k].dr,.string b.ps[k].tm,.string b.ps[k].rs,.int .i64 b.ps[k].am,.int .i64 b.ps[k].un] 128):=⟨_,rfl⟩
   have hy0:wr.heap.size < W5.heap.size:=by rw [hW5];simp
   rw [<- hW5] at hb5 hY0 HBe ⊢
   clear hW5 d0 d1 d2 d3 d4
   have hX:=za (za hX1 hz1 hb5) (Nat.lt_of_lt_of_le hz1 hb5.size) (Below.refl W5.heap.size W5).drew
   have hY:=za hY0 hy0 (Below.refl W5.heap.size W5).drew
   have hz:w.heap.size+1 < W5.drew.heap.size:=Nat.lt_of_lt_of_le hz1 hb5.size
   have hy:wr.heap.size < W5.drew.heap.size:=hy0
   have hB:Below W0.heap.size W0 W5.drew:=HBe.drew
   have hobz:ob < W5.drew.heap.size:=Nat.lt_of_lt_of_le hob' hb5.size
   have HP:Hid (∀ h0:0 < k,W5.drew.cell? ⟨ob,off+(k - 1) * 5,none⟩=some (.string (b.ps[k - 1]'(by omega)).dr)/\W5.drew.cell? ⟨ob,off+(k - 1) * 5+1,none⟩=some (.string (b.ps[k - 1]'(by omega)).tm)/\W5.drew.cell? ⟨ob,off+(k - 1) * 5+2,none⟩=some (.string (b.ps[k - 1]'(by omega)).rs)/\W5.drew.cell? ⟨ob,off+(k - 1) * 5+3,none⟩=some (.int .i64 (b.ps[k - 1]'(by omega)).am)/\W5.drew.cell? ⟨ob,off+(k - 1) * 5+4,none⟩=some (.int .i64 (b.ps[k - 1]'(by omega)).un)):=fun h0=>by
    have hBq5:=(HBq.out.trans (hb5.mono HBq.out.size)).drew
    obtain ⟨ob',off',e',hob'',e0,e1,e2,e3,e4⟩:=HK.out.ps.load hBq5 (k - 1) (by omega)
    cases e'
    exact ⟨e0,e1,e2,e3,e4⟩
   have HBe:Hid (Below W0.heap.size W0 W5.drew):=hB
   have HKq:Hid (qA W5.drew b a0 a1 a2 (some ⟨ob,off,none⟩)):=HK.out.mono (HBq.out.trans (hb5.mono HBq.out.size)).drew
   have hwr:IntKind.i64.wrap (b.tick+10)=b.tick+10:=by rw [IntKind.wrap_i64];have:=HZ.out;omega
   clear hX1 hz1 hb5 hY0 hy0 HBo hX0 hz0 hob hob' HSn hL0 hL1 hB
   by_cases hk0:0 < k
   ·have hk1:(0:Int)<=(k:Int) - 1:=by omega
    have hk2:(k:Int) - 1 < (b.ps.length:Int):=by omega
    have hg:decide (0 < k)=true:=decide_eq_true hk0
    have hkw:IntKind.i64.wrap ((k:Int) - 1)=(k:Int) - 1:=by rw [IntKind.wrap_i64];omega
    have hkN:((k:Int) - 1).toNat=k - 1:=by omega
    have hk3:(1:Int)<=(k:Int):=by omega
    obtain ⟨hP0,hP1,hP2,hP3,hP4⟩:=HP.out hk0
    clear HP
    refine wp_region_held_drew (S:=fun w'=>(∀ j,w'.cell? ⟨w.heap.size+1,j,none⟩=(#[.int .i64 b.now,.int .i64 b.tick,.int .i64 b.given,.slice a0 b.os.length c0,.slice a1 b.gs.length c1,.slice a2 b.ls.length c2,.slice (some ⟨ob,off,none⟩) b.ps.length c3]:Array Value)[j]?)/\(∀ j,w'.cell? ⟨wr.heap.size,j,none⟩=(#[.string b.ps[k].dr,.string b.ps[k].tm,.string b.ps[k].rs,.int .i64 b.ps[k].am,.int .i64 b.ps[k].un]:Array Value)[j]?)/\w'.cell? ⟨ob,off+(k - 1) * 5,none⟩=some (.string (b.ps[k - 1]'(by omega)).dr)/\w'.cell? ⟨ob,off+(k - 1) * 5+1,none⟩=some (.string (b.ps[k - 1]'(by omega)).tm)/\w'.cell? ⟨ob,off+(k - 1) * 5+2,none⟩=some (.string (b.ps[k - 1]'(by omega)).rs)/\w'.cell? ⟨ob,off+(k - 1) * 5+3,none⟩=some (.int .i64 (b.ps[k - 1]'(by omega)).am)/\w'.cell? ⟨ob,off+(k - 1) * 5+4,none⟩=some (.int .i64 (b.ps[k - 1]'(by omega)).un)) (by kernel_rfl) ⟨hX,hY,hP0,hP1,hP2,hP3,hP4⟩ (fun hHeld=>?_)
    refine tH 0 rfl hHeld ?_;refine tH 1 rfl hHeld ?_
    by_cases t1:Gate.zx b.ps[k].dr=true
    ·refine cH 2 rfl fun K hK=>?_
     go_simp
     refine (zf t1 (zh _ _ HSm.out.dr)).mono ?_
     rintro e w6 ⟨rfl,rfl⟩
     (try go_wp2_with fail)
     refine hK.out _ _ ?_ (fun hHeld=>?_)
     ·exact hHeld
     clear hK K
     (try simp only [Act.put,sA,s0,sS])
     refine tH 3 rfl hHeld ?_;refine tH 4 rfl hHeld ?_;refine tH 5 rfl hHeld ?_;refine tH 6 rfl hHeld ?_;refine tH 7 rfl hHeld ?_;refine tH 8 rfl hHeld ?_;refine tH 9 rfl hHeld ?_
     refine cH 10 rfl fun K hK=>?_
     go_simp
     refine (zfu b a0 a1 a2 (some ⟨ob,off,none⟩) c0 c1 c2 c3 _ _ _ HKq.out (by have:=HLN.out;omega)).mono ?_
     rintro e w7 ⟨rfl,hb7⟩
     have hX7:=za hX hz hb7
     have hY7:=za hY hy hb7
     have hz7:=Nat.lt_of_lt_of_le hz hb7.size
     have hy7:=Nat.lt_of_lt_of_le hy hb7.size
     have hobz7:=Nat.lt_of_lt_of_le hobz hb7.size
     have HBe7:Hid (Below W0.heap.size W0 w7):=HBe.out.trans (hb7.mono HBe.out.size)
     have hP07:=(hb7.cell (p:=⟨ob,off+(k - 1) * 5,none⟩) hobz).trans hP0
     have hP17:=(hb7.cell (p:=⟨ob,off+(k - 1) * 5+1,none⟩) hobz).trans hP1
     have hP27:=(hb7.cell (p:=⟨ob,off+(k - 1) * 5+2,none⟩) hobz).trans hP2
     have hP37:=(hb7.cell (p:=⟨ob,off+(k - 1) * 5+3,none⟩) hobz).trans hP3
     have hP47:=(hb7.cell (p:=⟨ob,off+(k - 1) * 5+4,none⟩) hobz).trans hP4
     clear hb7
     (try go_wp2_with fail)
     refine hK.out _ _ ?_ (fun hHeld=>?_)
     ·exact ⟨hX7,hY7,hP07,hP17,hP27,hP37,hP47⟩
     clear hK K
     (try simp only [Act.put,sA,s0,sS])
     by_cases t2:Gate.zcb (Gate.zdS b.ps[k].tm b.ps[k].rs) b.ls < 0
     ·have hd2:decide (Gate.zcb (Gate.zdS b.ps[k].tm b.ps[k].rs) b.ls < 0)=true:=decide_eq_true t2
      have HLe:Hid (Gate.jq b.ls b.ps[k].tm b.ps[k].rs=false):=(Gate.zbS _ _).1 t2
      clear t2
      refine tH 11 rfl hHeld ?_;refine tH 12 rfl hHeld ?_;refine tH 13 rfl hHeld ?_;refine kH 14 rfl hHeld ?_;refine kH 15 rfl hHeld ?_;refine kH 16 rfl hHeld ?_;refine kH 17 rfl hHeld ?_;refine tH 18 rfl hHeld ?_;refine tH 19 rfl hHeld ?_;refine kH 20 rfl hHeld ?_;refine kH 21 rfl hHeld ?_;refine kH 22 rfl hHeld ?_;refine kH 23 rfl hHeld ?_;refine kH 24 rfl hHeld ?_;refine kH 25 rfl hHeld ?_;refine kH 26 rfl hHeld ?_;refine kH 27 rfl hHeld ?_;refine kH 28 rfl hHeld ?_;refine tH 29 rfl hHeld ?_;refine tH 30 rfl hHeld ?_;refine kH 31 rfl hHeld ?_;refine kH 32 rfl hHeld ?_;refine kH 33 rfl hHeld ?_;refine kH 34 rfl hHeld ?_;refine kH 35 rfl hHeld ?_;refine kH 36 rfl hHeld ?_;refine kH 37 rfl hHeld ?_;refine kH 38 rfl hHeld ?_;refine kH 39 rfl hHeld ?_;refine kH 40 rfl hHeld ?_;refine kH 41 rfl hHeld ?_;refine kH 42 rfl hHeld ?_;refine kH 43 rfl hHeld ?_
      refine tH 44 rfl hHeld ?_
      refine wpAnyH_done (by kernel_rfl) ?_ _
      have HF:Hid (Gate.ql l b=false):=HNo.out (by unfold Gate.yF Gate.within;rw [HLe.out];simp)
      go_wp2_with fail
      go_ret
      exact ⟨ze HF.out.symm,HBw.out _ HBe7.out⟩
     ·have hd2:decide (Gate.zcb (Gate.zdS b.ps[k].tm b.ps[k].rs) b.ls < 0)=false:=decide_eq_false t2
      have HLe:Hid (Gate.jq b.ls b.ps[k].tm b.ps[k].rs=true):=by
       unfold Hid
       rw [<- Gate.zlf]
       cases hq:b.ls.any (Gate.zdS b.ps[k].tm b.ps[k].rs) with
       | true=>rfl
       | false=>exact absurd ((Gate.zbS _ _).2 hq) t2
      clear t2
      refine tH 11 rfl hHeld ?_;refine tH 12 rfl hHeld ?_;refine tH 13 rfl hHeld ?_;refine tH 14 rfl hHeld ?_;refine tH 15 rfl hHeld ?_
      by_cases t3:(decide (1<=b.ps[k].am) && decide (b.ps[k].am<=1000000))=true
      ·refine cH 16 rfl fun K hK=>?_
       go_simp
       refine (zf t3 (yD _ _ _ _)).mono ?_
       rintro e w6 ⟨rfl,rfl⟩
       (try go_wp2_with fail)
       refine hK.out _ _ ?_ (fun hHeld=>?_)
       ·exact hHeld
       clear hK K
       (try simp only [Act.put,sA,s0,sS])
       refine tH 17 rfl hHeld ?_;refine tH 18 rfl hHeld ?_;refine tH 19 rfl hHeld ?_;refine tH 20 rfl hHeld ?_;refine tH 21 rfl hHeld ?_;refine tH 22 rfl hHeld ?_;refine tH 23 rfl hHeld ?_;refine tH 24 rfl hHeld ?_;refine tH 25 rfl hHeld ?_;refine tH 26 rfl hHeld ?_
       by_cases t4:(decide (b.tick<=b.ps[k].un) && decide (b.ps[k].un<=b.tick+10))=true
       ·refine cH 27 rfl fun K hK=>?_
        go_simp
        refine (zf t4 (yD _ _ _ _)).mono ?_
        rintro e w6 ⟨rfl,rfl⟩
        (try go_wp2_with fail)
        refine hK.out _ _ ?_ (fun hHeld=>?_)
        ·exact hHeld
        clear hK K
        (try simp only [Act.put,sA,s0,sS])
        refine tH 28 rfl hHeld ?_;refine tH 29 rfl hHeld ?_;refine tH 30 rfl hHeld ?_;refine tH 31 rfl hHeld ?_;refine tH 32 rfl hHeld ?_;refine tH 33 rfl hHeld ?_;refine tH 34 rfl hHeld ?_;refine tH 35 rfl hHeld ?_;refine tH 36 rfl hHeld ?_;refine tH 37 rfl hHeld ?_;refine tH 38 rfl hHeld ?_;refine tH 39 rfl hHeld ?_;refine tH 40 rfl hHeld ?_
        refine cH 41 rfl fun K hK=>?_
        go_simp
        refine (zic (b.ps[k - 1]'(by omega)) b.ps[k] _).mono ?_
        rintro e w8 ⟨rfl,hb8⟩
        have hX8:=za hX7 hz7 hb8
        have hY8:=za hY7 hy7 hb8
        have hz8:=Nat.lt_of_lt_of_le hz7 hb8.size
        have hy8:=Nat.lt_of_lt_of_le hy7 hb8.size
        have hobz8:=Nat.lt_of_lt_of_le hobz7 hb8.size
        have HBe8:Hid (Below W0.heap.size W0 w8):=HBe7.out.trans (hb8.mono HBe7.out.size)
        have hP08:=(hb8.cell (p:=⟨ob,off+(k - 1) * 5,none⟩) hobz7).trans hP07
        have hP18:=(hb8.cell (p:=⟨ob,off+(k - 1) * 5+1,none⟩) hobz7).trans hP17
        have hP28:=(hb8.cell (p:=⟨ob,off+(k - 1) * 5+2,none⟩) hobz7).trans hP27
        have hP38:=(hb8.cell (p:=⟨ob,off+(k - 1) * 5+3,none⟩) hobz7).trans hP37
        have hP48:=(hb8.cell (p:=⟨ob,off+(k - 1) * 5+4,none⟩) hobz7).trans hP47
        clear hb8
        (try go_wp2_with fail)
        refine hK.out _ _ ?_ (fun hHeld=>?_)
        ·exact ⟨hX8,hY8,hP08,hP18,hP28,hP38,hP48⟩
        clear hK K
        (try simp only [Act.put,sA,s0,sS])
        by_cases t5:Gate.jV (b.ps[k - 1]'(by omega)) b.ps[k] < 0
        ·have hd5:decide (0<=Gate.jV (b.ps[k - 1]'(by omega)) b.ps[k])=false:=decide_eq_false (by omega)
         refine tH 42 rfl hHeld ?_;refine tH 43 rfl hHeld ?_;refine tH 44 rfl hHeld ?_
         refine wpAnyH_done (by kernel_rfl) ?_ _
         have HG1:Hid (Gate.yF b.ls b.tick b.ps[k]=true):=by unfold Hid Gate.yF Gate.within;rw [HLe.out,t1,t3,t4];rfl
         have HD:Hid ((b.ps.take (k+1)).all (Gate.yF b.ls b.tick)=true/\Gate.jC Gate.jV b.ps (k+1)):=HYes.out HG1.out (Gate.zfP hlt (fun _=>t5))
         go_wp2_with fail
         exact ⟨⟨k+1,by omega,by go_num,HD.out.1,HD.out.2,HBe8.out⟩,by simp [intOf];omega⟩
        ·have hd5:decide (0<=Gate.jV (b.ps[k - 1]'(by omega)) b.ps[k])=true:=decide_eq_true (by omega)
         refine tH 42 rfl hHeld ?_;refine tH 43 rfl hHeld ?_;refine tH 44 rfl hHeld ?_
         refine wpAnyH_done (by kernel_rfl) ?_ _
         have HF:Hid (Gate.ql l b=false):=HNa.out (by omega) (Int.not_lt.1 t5)
         go_wp2_with fail
         go_ret
         exact ⟨ze HF.out.symm,HBw.out _ HBe8.out⟩
       ·refine cH 27 rfl fun K hK=>?_
        go_simp
        refine (zf (Bool.eq_false_iff.2 t4) (yD _ _ _ _)).mono ?_
        rintro e w6 ⟨rfl,rfl⟩
        (try go_wp2_with fail)
        refine hK.out _ _ ?_ (fun hHeld=>?_)
        ·exact hHeld
        clear hK K
        (try simp only [Act.put,sA,s0,sS])
        refine tH 28 rfl hHeld ?_;refine tH 29 rfl hHeld ?_;refine tH 30 rfl hHeld ?_;refine kH 31 rfl hHeld ?_;refine kH 32 rfl hHeld ?_;refine kH 33 rfl hHeld ?_;refine kH 34 rfl hHeld ?_;refine kH 35 rfl hHeld ?_;refine kH 36 rfl hHeld ?_;refine kH 37 rfl hHeld ?_;refine kH 38 rfl hHeld ?_;refine kH 39 rfl hHeld ?_;refine kH 40 rfl hHeld ?_;refine kH 41 rfl hHeld ?_;refine kH 42 rfl hHeld ?_;refine kH 43 rfl hHeld ?_;refine tH 44 rfl hHeld ?_
        refine wpAnyH_done (by kernel_rfl) ?_ _
        have HF:Hid (Gate.ql l b=false):=HNo.out (by unfold Gate.yF Gate.within;rw [Bool.eq_false_iff.2 t4];simp)
        go_wp2_with fail
        go_ret
        exact ⟨ze HF.out.symm,HBw.out _ HBe7.out⟩
      ·refine cH 16 rfl fun K hK=>?_
       go_simp
       refine (zf (Bool.eq_false_iff.2 t3) (yD _ _ _ _)).mono ?_
       rintro e w6 ⟨rfl,rfl⟩
       (try go_wp2_with fail)
       refine hK.out _ _ ?_ (fun hHeld=>?_)
       ·exact hHeld
       clear hK K
       (try simp only [Act.put,sA,s0,sS])
       refine tH 17 rfl hHeld ?_;refine tH 18 rfl hHeld ?_;refine tH 19 rfl hHeld ?_;refine kH 20 rfl hHeld ?_;refine kH 21 rfl hHeld ?_;refine kH 22 rfl hHeld ?_;refine kH 23 rfl hHeld ?_;refine kH 24 rfl hHeld ?_;refine kH 25 rfl hHeld ?_;refine kH 26 rfl hHeld ?_;refine kH 27 rfl hHeld ?_;refine kH 28 rfl hHeld ?_;refine tH 29 rfl hHeld ?_;refine tH 30 rfl hHeld ?_;refine kH 31 rfl hHeld ?_;refine kH 32 rfl hHeld ?_;refine kH 33 rfl hHeld ?_;refine kH 34 rfl hHeld ?_;refine kH 35 rfl hHeld ?_;refine kH 36 rfl hHeld ?_;refine kH 37 rfl hHeld ?_;refine kH 38 rfl hHeld ?_;refine kH 39 rfl hHeld ?_;refine kH 40 rfl hHeld ?_;refine kH 41 rfl hHeld ?_;refine kH 42 rfl hHeld ?_;refine kH 43 rfl hHeld ?_;refine tH 44 rfl hHeld ?_
       refine wpAnyH_done (by kernel_rfl) ?_ _
       have HF:Hid (Gate.ql l b=false):=HNo.out (by unfold Gate.yF Gate.within;rw [Bool.eq_false_iff.2 t3];simp)
       go_wp2_with fail
       go_ret
       exact ⟨ze HF.out.symm,HBw.out _ HBe7.out⟩
    ·refine cH 2 rfl fun K hK=>?_
     go_simp
     refine (zf (Bool.eq_false_iff.2 t1) (zh _ _ HSm.out.dr)).mono ?_
     rintro e w6 ⟨rfl,rfl⟩
     (try go_wp2_with fail)
     refine hK.out _ _ ?_ (fun hHeld=>?_)
     ·exact hHeld
     clear hK K
     (try simp only [Act.put,sA,s0,sS])
     refine tH 3 rfl hHeld ?_;refine tH 4 rfl hHeld ?_;refine kH 5 rfl hHeld ?_;refine kH 6 rfl hHeld ?_;refine kH 7 rfl hHeld ?_;refine kH 8 rfl hHeld ?_;refine kH 9 rfl hHeld ?_;refine kH 10 rfl hHeld ?_;refine kH 11 rfl hHeld ?_;refine tH 12 rfl hHeld ?_;refine tH 13 rfl hHeld ?_;refine kH 14 rfl hHeld ?_;refine kH 15 rfl hHeld ?_;refine kH 16 rfl hHeld ?_;refine kH 17 rfl hHeld ?_;refine tH 18 rfl hHeld ?_;refine tH 19 rfl hHeld ?_;refine kH 20 rfl hHeld ?_;refine kH 21 rfl hHeld ?_;refine kH 22 rfl hHeld ?_;refine kH 23 rfl hHeld ?_;refine kH 24 rfl hHeld ?_;refine kH 25 rfl hHeld ?_;refine kH 26 rfl hHeld ?_;refine kH 27 rfl hHeld ?_;refine kH 28 rfl hHeld ?_;refine tH 29 rfl hHeld ?_;refine tH 30 rfl hHeld ?_;refine kH 31 rfl hHeld ?_;refine kH 32 rfl hHeld ?_;refine kH 33 rfl hHeld ?_;refine kH 34 rfl hHeld ?_;refine kH 35 rfl hHeld ?_;refine kH 36 rfl hHeld ?_
     refine kH 37 rfl hHeld ?_;refine kH 38 rfl hHeld ?_;refine kH 39 rfl hHeld ?_;refine kH 40 rfl hHeld ?_;refine kH 41 rfl hHeld ?_;refine kH 42 rfl hHeld ?_;refine kH 43 rfl hHeld ?_;refine tH 44 rfl hHeld ?_
     refine wpAnyH_done (by kernel_rfl) ?_ _
     have HF:Hid (Gate.ql l b=false):=HNo.out (by unfold Gate.yF Gate.within;rw [Bool.eq_false_iff.2 t1];simp)
     go_wp2_with fail
     go_ret
     exact ⟨ze HF.out.symm,HBw.out _ HBe.out⟩
   ·have hg:decide (0 < k)=false:=decide_eq_false hk0
    clear HP
    refine wp_region_held_drew (S:=fun w'=>(∀ j,w'.cell? ⟨w.heap.size+1,j,none⟩=(#[.int .i64 b.now,.int .i64 b.tick,.int .i64 b.given,.slice a0 b.os.length c0,.slice a1 b.gs.length c1,.slice a2 b.ls.length c2,.slice (some ⟨ob,off,none⟩) b.ps.length c3]:Array Value)[j]?)/\(∀ j,w'.cell? ⟨wr.heap.size,j,none⟩=(#[.string b.ps[k].dr,.string b.ps[k].tm,.string b.ps[k].rs,.int .i64 b.ps[k].am,.int .i64 b.ps[k].un]:Array Value)[j]?) ) (by kernel_rfl) ⟨hX,hY⟩ (fun hHeld=>?_)
    refine tH 0 rfl hHeld ?_;refine tH 1 rfl hHeld ?_
    by_cases t1:Gate.zx b.ps[k].dr=true
    ·refine cH 2 rfl fun K hK=>?_
     go_simp
     refine (zf t1 (zh _ _ HSm.out.dr)).mono ?_
     rintro e w6 ⟨rfl,rfl⟩
     (try go_wp2_with fail)
     refine hK.out _ _ ?_ (fun hHeld=>?_)
     ·exact hHeld
     clear hK K
     (try simp only [Act.put,sA,s0,sS])
     refine tH 3 rfl hHeld ?_;refine tH 4 rfl hHeld ?_;refine tH 5 rfl hHeld ?_;refine tH 6 rfl hHeld ?_;refine tH 7 rfl hHeld ?_;refine tH 8 rfl hHeld ?_;refine tH 9 rfl hHeld ?_
     refine cH 10 rfl fun K hK=>?_
     go_simp
     refine (zfu b a0 a1 a2 (some ⟨ob,off,none⟩) c0 c1 c2 c3 _ _ _ HKq.out (by have:=HLN.out;omega)).mono ?_
     rintro e w7 ⟨rfl,hb7⟩
     have hX7:=za hX hz hb7
     have hY7:=za hY hy hb7
     have hz7:=Nat.lt_of_lt_of_le hz hb7.size
     have hy7:=Nat.lt_of_lt_of_le hy hb7.size
     have hobz7:=Nat.lt_of_lt_of_le hobz hb7.size
     have HBe7:Hid (Below W0.heap.size W0 w7):=HBe.out.trans (hb7.mono HBe.out.size)
     clear hb7
     (try go_wp2_with fail)
     refine hK.out _ _ ?_ (fun hHeld=>?_)
     ·exact ⟨hX7,hY7⟩
     clear hK K
     (try simp only [Act.put,sA,s0,sS])
     by_cases t2:Gate.zcb (Gate.zdS b.ps[k].tm b.ps[k].rs) b.ls < 0
     ·have hd2:decide (Gate.zcb (Gate.zdS b.ps[k].tm b.ps[k].rs) b.ls < 0)=true:=decide_eq_true t2
      have HLe:Hid (Gate.jq b.ls b.ps[k].tm b.ps[k].rs=false):=(Gate.zbS _ _).1 t2
      clear t2
      refine tH 11 rfl hHeld ?_;refine tH 12 rfl hHeld ?_;refine tH 13 rfl hHeld ?_;refine kH 14 rfl hHeld ?_;refine kH 15 rfl hHeld ?_;refine kH 16 rfl hHeld ?_;refine kH 17 rfl hHeld ?_;refine tH 18 rfl hHeld ?_;refine tH 19 rfl hHeld ?_;refine kH 20 rfl hHeld ?_;refine kH 21 rfl hHeld ?_;refine kH 22 rfl hHeld ?_;refine kH 23 rfl hHeld ?_;refine kH 24 rfl hHeld ?_;refine kH 25 rfl hHeld ?_;refine kH 26 rfl hHeld ?_;refine kH 27 rfl hHeld ?_;refine kH 28 rfl hHeld ?_;refine tH 29 rfl hHeld ?_;refine tH 30 rfl hHeld ?_;refine kH 31 rfl hHeld ?_;refine kH 32 rfl hHeld ?_;refine kH 33 rfl hHeld ?_;refine kH 34 rfl hHeld ?_;refine kH 35 rfl hHeld ?_;refine kH 36 rfl hHeld ?_;refine kH 37 rfl hHeld ?_;refine kH 38 rfl hHeld ?_;refine kH 39 rfl hHeld ?_;refine kH 40 rfl hHeld ?_;refine kH 41 rfl hHeld ?_;refine kH 42 rfl hHeld ?_;refine kH 43 rfl hHeld ?_
      refine tH 44 rfl hHeld ?_
      refine wpAnyH_done (by kernel_rfl) ?_ _
      have HF:Hid (Gate.ql l b=false):=HNo.out (by unfold Gate.yF Gate.within;rw [HLe.out];simp)
      go_wp2_with fail
      go_ret
      exact ⟨ze HF.out.symm,HBw.out _ HBe7.out⟩
     ·have hd2:decide (Gate.zcb (Gate.zdS b.ps[k].tm b.ps[k].rs) b.ls < 0)=false:=decide_eq_false t2
      have HLe:Hid (Gate.jq b.ls b.ps[k].tm b.ps[k].rs=true):=by
       unfold Hid
       rw [<- Gate.zlf]
       cases hq:b.ls.any (Gate.zdS b.ps[k].tm b.ps[k].rs) with
       | true=>rfl
       | false=>exact absurd ((Gate.zbS _ _).2 hq) t2
      clear t2
      refine tH 11 rfl hHeld ?_;refine tH 12 rfl hHeld ?_;refine tH 13 rfl hHeld ?_;refine tH 14 rfl hHeld ?_;refine tH 15 rfl hHeld ?_
      by_cases t3:(decide (1<=b.ps[k].am) && decide (b.ps[k].am<=1000000))=true
      ·refine cH 16 rfl fun K hK=>?_
       go_simp
       refine (zf t3 (yD _ _ _ _)).mono ?_
       rintro e w6 ⟨rfl,rfl⟩
       (try go_wp2_with fail)
       refine hK.out _ _ ?_ (fun hHeld=>?_)
       ·exact hHeld
       clear hK K
       (try simp only [Act.put,sA,s0,sS])
       refine tH 17 rfl hHeld ?_;refine tH 18 rfl hHeld ?_;refine tH 19 rfl hHeld ?_;refine tH 20 rfl hHeld ?_;refine tH 21 rfl hHeld ?_;refine tH 22 rfl hHeld ?_;refine tH 23 rfl hHeld ?_;refine tH 24 rfl hHeld ?_;refine tH 25 rfl hHeld ?_;refine tH 26 rfl hHeld ?_
       by_cases t4:(decide (b.tick<=b.ps[k].un) && decide (b.ps[k].un<=b.tick+10))=true
       ·refine cH 27 rfl fun K hK=>?_
        go_simp
        refine (zf t4 (yD _ _ _ _)).mono ?_
        rintro e w6 ⟨rfl,rfl⟩
        (try go_wp2_with fail)
        refine hK.out _ _ ?_ (fun hHeld=>?_)
        ·exact hHeld
        clear hK K
        (try simp only [Act.put,sA,s0,sS])
        refine tH 28 rfl hHeld ?_;refine tH 29 rfl hHeld ?_;refine tH 30 rfl hHeld ?_;refine tH 31 rfl hHeld ?_;refine tH 32 rfl hHeld ?_;refine tH 33 rfl hHeld ?_;refine kH 34 rfl hHeld ?_;refine kH 35 rfl hHeld ?_;refine kH 36 rfl hHeld ?_;refine kH 37 rfl hHeld ?_;refine kH 38 rfl hHeld ?_;refine kH 39 rfl hHeld ?_;refine kH 40 rfl hHeld ?_;refine kH 41 rfl hHeld ?_;refine kH 42 rfl hHeld ?_;refine tH 43 rfl hHeld ?_;refine tH 44 rfl hHeld ?_
        refine wpAnyH_done (by kernel_rfl) ?_ _
        have HG1:Hid (Gate.yF b.ls b.tick b.ps[k]=true):=by unfold Hid Gate.yF Gate.within;rw [HLe.out,t1,t3,t4];rfl
        have HD:Hid ((b.ps.take (k+1)).all (Gate.yF b.ls b.tick)=true/\Gate.jC Gate.jV b.ps (k+1)):=HYes.out HG1.out (fun m e=>by omega)
        go_wp2_with fail
        exact ⟨⟨k+1,by omega,by go_num,HD.out.1,HD.out.2,HBe7.out⟩,by simp [intOf];omega⟩
       ·refine cH 27 rfl fun K hK=>?_
        go_simp
        refine (zf (Bool.eq_false_iff.2 t4) (yD _ _ _ _)).mono ?_
        rintro e w6 ⟨rfl,rfl⟩
        (try go_wp2_with fail)
        refine hK.out _ _ ?_ (fun hHeld=>?_)
        ·exact hHeld
        clear hK K
        (try simp only [Act.put,sA,s0,sS])
        refine tH 28 rfl hHeld ?_;refine tH 29 rfl hHeld ?_;refine tH 30 rfl hHeld ?_;refine kH 31 rfl hHeld ?_;refine kH 32 rfl hHeld ?_;refine kH 33 rfl hHeld ?_;refine kH 34 rfl hHeld ?_;refine kH 35 rfl hHeld ?_;refine kH 36 rfl hHeld ?_;refine kH 37 rfl hHeld ?_;refine kH 38 rfl hHeld ?_;refine kH 39 rfl hHeld ?_;refine kH 40 rfl hHeld ?_;refine kH 41 rfl hHeld ?_;refine kH 42 rfl hHeld ?_;refine kH 43 rfl hHeld ?_;refine tH 44 rfl hHeld ?_
        refine wpAnyH_done (by kernel_rfl) ?_ _
        have HF:Hid (Gate.ql l b=false):=HNo.out (by unfold Gate.yF Gate.within;rw [Bool.eq_false_iff.2 t4];simp)
        go_wp2_with fail
        go_ret
        exact ⟨ze HF.out.symm,HBw.out _ HBe7.out⟩
      ·refine cH 16 rfl fun K hK=>?_
       go_simp
       refine (zf (Bool.eq_false_iff.2 t3) (yD _ _ _ _)).mono ?_
       rintro e w6 ⟨rfl,rfl⟩
       (try go_wp2_with fail)
       refine hK.out _ _ ?_ (fun hHeld=>?_)
       ·exact hHeld
       clear hK K
       (try simp only [Act.put,sA,s0,sS])
       refine tH 17 rfl hHeld ?_;refine tH 18 rfl hHeld ?_;refine tH 19 rfl hHeld ?_;refine kH 20 rfl hHeld ?_;refine kH 21 rfl hHeld ?_;refine kH 22 rfl hHeld ?_;refine kH 23 rfl hHeld ?_;refine kH 24 rfl hHeld ?_;refine kH 25 rfl hHeld ?_;refine kH 26 rfl hHeld ?_;refine kH 27 rfl hHeld ?_;refine kH 28 rfl hHeld ?_;refine tH 29 rfl hHeld ?_;refine tH 30 rfl hHeld ?_;refine kH 31 rfl hHeld ?_;refine kH 32 rfl hHeld ?_;refine kH 33 rfl hHeld ?_;refine kH 34 rfl hHeld ?_;refine kH 35 rfl hHeld ?_;refine kH 36 rfl hHeld ?_;refine kH 37 rfl hHeld ?_;refine kH 38 rfl hHeld ?_;refine kH 39 rfl hHeld ?_;refine kH 40 rfl hHeld ?_;refine kH 41 rfl hHeld ?_;refine kH 42 rfl hHeld ?_;refine kH 43 rfl hHeld ?_;refine tH 44 rfl hHeld ?_
       refine wpAnyH_done (by kernel_rfl) ?_ _
       have HF:Hid (Gate.ql l b=false):=HNo.out (by unfold Gate.yF Gate.within;rw [Bool.eq_false_iff.2 t3];simp)
       go_wp2_with fail
       go_ret
       exact ⟨ze HF.out.symm,HBw.out _ HBe7.out⟩
    ·refine cH 2 rfl fun K hK=>?_
     go_simp
     refine (zf (Bool.eq_false_iff.2 t1) (zh _ _ HSm.out.dr)).mono ?_
     rintro e w6 ⟨rfl,rfl⟩
     (try go_wp2_with fail)
     refine hK.out _ _ ?_ (fun hHeld=>?_)
     ·exact hHeld
     clear hK K
     (try simp only [Act.put,sA,s0,sS])
     refine tH 3 rfl hHeld ?_;refine tH 4 rfl hHeld ?_;refine kH 5 rfl hHeld ?_;refine kH 6 rfl hHeld ?_;refine kH 7 rfl hHeld ?_;refine kH 8 rfl hHeld ?_;refine kH 9 rfl hHeld ?_;refine kH 10 rfl hHeld ?_;refine kH 11 rfl hHeld ?_;refine tH 12 rfl hHeld ?_;refine tH 13 rfl hHeld ?_;refine kH 14 rfl hHeld ?_;refine kH 15 rfl hHeld ?_;refine kH 16 rfl hHeld ?_;refine kH 17 rfl hHeld ?_;refine tH 18 rfl hHeld ?_;refine tH 19 rfl hHeld ?_;refine kH 20 rfl hHeld ?_;refine kH 21 rfl hHeld ?_;refine kH 22 rfl hHeld ?_;refine kH 23 rfl hHeld ?_;refine kH 24 rfl hHeld ?_;refine kH 25 rfl hHeld ?_;refine kH 26 rfl hHeld ?_;refine kH 27 rfl hHeld ?_;refine kH 28 rfl hHeld ?_;refine tH 29 rfl hHeld ?_;refine tH 30 rfl hHeld ?_;refine kH 31 rfl hHeld ?_;refine kH 32 rfl hHeld ?_;refine kH 33 rfl hHeld ?_;refine kH 34 rfl hHeld ?_;refine kH 35 rfl hHeld ?_;refine kH 36 rfl hHeld ?_
     refine kH 37 rfl hHeld ?_;refine kH 38 rfl hHeld ?_;refine kH 39 rfl hHeld ?_;refine kH 40 rfl hHeld ?_;refine kH 41 rfl hHeld ?_;refine kH 42 rfl hHeld ?_;refine kH 43 rfl hHeld ?_;refine tH 44 rfl hHeld ?_
     refine wpAnyH_done (by kernel_rfl) ?_ _
     have HF:Hid (Gate.ql l b=false):=HNo.out (by unfold Gate.yF Gate.within;rw [Bool.eq_false_iff.2 t1];simp)
     go_wp2_with fail
     go_ret
     exact ⟨ze HF.out.symm,HBw.out _ HBe.out⟩
  ·have e:k=b.ps.length:=by omega
   subst e
   have HAm:Hid (b.ps.all (Gate.yF b.ls b.tick)=true):=by
    have:=HQ.out.1
    rwa [List.take_of_length_le (Nat.le_refl _)] at this
   have HPu:Hid (Gate.yZ b=true):=by
    unfold Hid Gate.yZ
    rw [Gate.zfB HQ.out.2.1 (Nat.le_refl _),decide_eq_true HPN.out,HAm.out];rfl
   obtain ⟨W1,hW1⟩:∃ W1,W1=wr:=⟨_,rfl⟩
   rw [<- hW1] at hX1 hL1 hz1 HBq ⊢
   clear HQ hlt hk hX0 hz0 hL0 hW1 HB0
   go_wp2_with fail
   go_loopw [7] (fun iv wr=>∃ k:Nat,k<=b.ls.length/\iv = .int .i64 k/\Hid ((b.ls.take k).all (Gate.yM l.ts)=true/\Gate.jC Gate.qz b.ls k/\(b.ls.take k).all (Gate.zaJ l b)=true/\Below W1.heap.size W1 wr)) (fun iv _=>b.ls.length - (intOf iv).toNat)
   case atStart=>exact ⟨0,Nat.zero_le _,rfl,by simp,fun i _ h=>by omega,by simp,Below.refl _ _⟩
   case round =>
    obtain ⟨k,hk,rfl,HQ⟩:=hrel
    have hkn:k<=10:=by have:=HLN.out;omega
    have hX2:=za hX1 hz1 HQ.out.2.2.2
    have hL2:=za hL1 (Nat.lt_of_succ_lt hz1) HQ.out.2.2.2
    have hz2:=Nat.lt_of_lt_of_le hz1 HQ.out.2.2.2.size
    have hq2:=Nat.lt_of_succ_lt hz2
    have HBr:Hid (Below w.heap.size w wr):=HBq.out.trans (HQ.out.2.2.2.mono HBq.out.size)
    by_cases hlt:k < b.ls.length
    ·have hsm:=HK.out.ls.small k hlt
     obtain ⟨ob,off,rfl,hob,d0,d1,d2,d3⟩:=HK.out.ls.load HBr.out k hlt
     have hob':ob < wr.heap.size:=Nat.lt_of_lt_of_le hob HBr.out.size
     have hltI:(k:Int) < (b.ls.length:Int):=by omega
     have HBo:Hid (∀ ob,Below W1.heap.size W1 (wr.alloc ob)):=fun ob=>HQ.out.2.2.2.alloc HQ.out.2.2.2.size _
     have HBw:Hid (∀ W,Below W1.heap.size W1 W->Below w.heap.size w W):=fun W hW=>HBq.out.trans (hW.mono HBq.out.size)
     have HNo:Hid ((Gate.yM l.ts) b.ls[k]=false->Gate.ql l b=false):=fun h=>Gate.zel (by unfold Gate.yP;rw [Gate.zar _ _ _ hlt h];simp)
     have HNs:Hid ((Gate.zaJ l b) b.ls[k]=false->Gate.ql l b=false):=fun h=>Gate.zlC (by unfold Gate.zct;rw [Gate.zar _ _ _ hlt h])
     have HNa:Hid (0 < k->0<=Gate.qz (b.ls[k - 1]'(by omega)) b.ls[k]->Gate.ql l b=false):=fun h0 h=>Gate.zel (by unfold Gate.yP;rw [Gate.zdn hlt h0 (Int.not_lt.2 h)];simp)
     have HYes:Hid ((Gate.yM l.ts) b.ls[k]=true->(∀ m (e:k=m+1),Gate.qz (b.ls[m]'(by omega)) b.ls[k] < 0)->Gate.zaJ l b b.ls[k]=true->(b.ls.take (k+1)).all (Gate.yM l.ts)=true/\Gate.jC Gate.qz b.ls (k+1)/\(b.ls.take (k+1)).all (Gate.zaJ l b)=true):=fun h h' h''=>⟨by rw [Gate.qR _ _ _ hlt,HQ.out.1,h];rfl,Gate.zew HQ.out.2.1 hlt h',by rw [Gate.qR _ _ _ hlt,HQ.out.2.2.1,h''];rfl⟩
     have HSm:Hid (b.ls[k].Small):=hsm
     clear hsm
     go_wp2_with fail
     have hY0:=zl wr #[.string b.ls[k].tm,.string b.ls[k].rs,.int .i64 b.ls[k].mo,.int .i64 b.ls[k].fr] 126
     have hb5:Below wr.heap.size wr (wr.alloc (.cells #[.string b.ls[k].tm,.string b.ls[k].rs,.int .i64 b.ls[k].mo,.int .i64 b.ls[k].fr] 126)):=(Below.refl _ _).alloc (Nat.le_refl _) _
     have HBe:=HBo.out (.cells #[.string b.ls[k].tm,.string b.ls[k].rs,.int .i64 b.ls[k].mo,.int .i64 b.ls[k].fr] 126)
     obtain ⟨W5,hW5⟩:∃ W5,W5=wr.alloc (.cells #[.string b.ls[k].tm,.string b.ls[k].rs,.int .i64 b.ls[k].mo,.int .i64 b.ls[k].fr] 126):=⟨_,rfl⟩
     have hy:wr.heap.size < W5.heap.size:=by rw [hW5];simp
     rw [<- hW5] at hb5 hY0 HBe ⊢
     clear hW5 d0 d1 d2 d3
     have hX:=za hX2 hz2 hb5
     have hLw:=za hL2 (Nat.lt_of_succ_lt hz2) hb5
     have hY:=hY0
     have hz:w.heap.size+1 < W5.heap.size:=Nat.lt_of_lt_of_le hz2 hb5.size
     have hz':=Nat.lt_of_succ_lt hz
     have HBe:Hid (Below W1.heap.size W1 W5):=HBe
     have hobz:ob < W5.heap.size:=Nat.lt_of_lt_of_le hob' hb5.size
     have HBf:Hid (Below w.heap.size w W5):=HBr.out.trans (hb5.mono HBr.out.size)
     have HP:Hid (∀ h0:0 < k,W5.cell? ⟨ob,off+(k - 1) * 4,none⟩=some (.string (b.ls[k - 1]'(by omega)).tm)/\W5.cell? ⟨ob,off+(k - 1) * 4+1,none⟩=some (.string (b.ls[k - 1]'(by omega)).rs)):=fun h0=>by
      obtain ⟨ob',off',e',hob'',e0,e1,e2,e3⟩:=HK.out.ls.load HBf.out (k - 1) (by omega)
      cases e'
      exact ⟨e0,e1⟩
     clear hX1 hz1 hb5 hY0 HBo hX2 hz2 hL1 hL2 hob hob' HQ
     refine (zbA _ _ l.ts b.ls[k].tm _ (HL.out.ts.mono HBf.out)).mono ?_
     rintro e w6 ⟨rfl,hww⟩
     rw [hww]
     clear hww w6
     by_cases t1:Gate.yC l.ts b.ls[k].tm=true
     rotate_left
     ·have HF:Hid (Gate.ql l b=false):=HNo.out (by unfold Gate.yM;rw [Bool.eq_false_iff.2 t1];rfl)
      rw [Bool.eq_false_iff.2 t1]
      clear t1
      go_wp2_with fail
      go_ret
      exact ⟨ze HF.out.symm,HBf.out⟩
     have HT1:Hid (Gate.yC l.ts b.ls[k].tm=true):=t1
     rw [t1]
     clear t1
     go_wp2_with fail
     refine (zh b.ls[k].rs _ HSm.out.rs).mono ?_
     rintro e w6 ⟨rfl,hww⟩
     rw [hww]
     clear hww w6
     by_cases t2:Gate.zx b.ls[k].rs=true
     rotate_left
     ·have HF:Hid (Gate.ql l b=false):=HNo.out (by unfold Gate.yM;rw [Bool.eq_false_iff.2 t2];simp)
      rw [Bool.eq_false_iff.2 t2]
      clear t2
      go_wp2_with fail
      go_ret
      exact ⟨ze HF.out.symm,HBf.out⟩
     have HT2:Hid (Gate.zx b.ls[k].rs=true):=t2
     rw [t2]
     clear t2
     by_cases t3:b.ls[k].fr < 0
     ·have HF:Hid (Gate.ql l b=false):=HNo.out (by unfold Gate.yM Gate.jA;rw [decide_eq_false (p:=0<=b.ls[k].fr) (by omega)];simp)
      have hd:decide (b.ls[k].fr < 0)=true:=decide_eq_true t3
      go_wp2_with fail
      go_ret
      exact ⟨ze HF.out.symm,HBf.out⟩
     have hd3:decide (b.ls[k].fr < 0)=false:=decide_eq_false t3
     by_cases t4:b.ls[k].mo < b.ls[k].fr
     ·have HF:Hid (Gate.ql l b=false):=HNo.out (by unfold Gate.yM Gate.jA;rw [decide_eq_false (p:=b.ls[k].fr<=b.ls[k].mo) (by omega)];simp)
      have hd:decide (b.ls[k].mo < b.ls[k].fr)=true:=decide_eq_true t4
      go_wp2_with fail
      go_ret
      exact ⟨ze HF.out.symm,HBf.out⟩
     have hd4:decide (b.ls[k].mo < b.ls[k].fr)=false:=decide_eq_false t4
     by_cases t5:1000000 < b.ls[k].mo
     ·have HF:Hid (Gate.ql l b=false):=HNo.out (by unfold Gate.yM Gate.jA;rw [decide_eq_false (p:=b.ls[k].mo<=1000000) (by omega)];simp)
      have hd:decide (1000000 < b.ls[k].mo)=true:=decide_eq_true t5
      go_wp2_with fail
      go_ret
      exact ⟨ze HF.out.symm,HBf.out⟩
     have hd5:decide (1000000 < b.ls[k].mo)=false:=decide_eq_false t5
     have HLa:Hid (Gate.yM l.ts b.ls[k]=true):=by
      unfold Hid Gate.yM Gate.jA
      rw [HT1.out,HT2.out,decide_eq_true (p:=0<=b.ls[k].fr) (by omega),decide_eq_true (p:=b.ls[k].fr<=b.ls[k].mo) (by omega),decide_eq_true (p:=b.ls[k].mo<=1000000) (by omega)];rfl
     have HFr:Hid (0<=b.ls[k].fr/\b.ls[k].fr<=1000000):=by unfold Hid;omega
     clear t3 t4 t5
     go_wp2_with fail
     clear hd3 hd4 hd5
     by_cases hk0:0 < k
     ·have hk1:(0:Int)<=(k:Int) - 1:=by omega
      have hk2:(k:Int) - 1 < (b.ls.length:Int):=by omega
      have hg:decide (0 < k)=true:=decide_eq_true hk0
      have hkw:IntKind.i64.wrap ((k:Int) - 1)=(k:Int) - 1:=by rw [IntKind.wrap_i64];omega
      have hkN:((k:Int) - 1).toNat=k - 1:=by omega
      have hk3:(1:Int)<=(k:Int):=by omega
      obtain ⟨hP0,hP1⟩:=HP.out hk0
      refine wp_region_held_drew (S:=fun w'=>(∀ j,w'.cell? ⟨w.heap.size+1,j,none⟩=(#[.int .i64 b.now,.int .i64 b.tick,.int .i64 b.given,.slice a0 b.os.length c0,.slice a1 b.gs.length c1,.slice (some ⟨ob,off,none⟩) b.ls.length c2,.slice a3 b.ps.length c3]:Array Value)[j]?)/\(∀ j,w'.cell? ⟨wr.heap.size,j,none⟩=(#[.string b.ls[k].tm,.string b.ls[k].rs,.int .i64 b.ls[k].mo,.int .i64 b.ls[k].fr]:Array Value)[j]?)/\w'.cell? ⟨ob,off+(k - 1) * 4,none⟩=some (.string (b.ls[k - 1]'(by omega)).tm)/\w'.cell? ⟨ob,off+(k - 1) * 4+1,none⟩=some (.string (b.ls[k - 1]'(by omega)).rs)) (by kernel_rfl) ⟨za hX hz (Below.refl W5.heap.size W5).drew,za hY hy (Below.refl W5.heap.size W5).drew,hP0,hP1⟩ (fun hHeld=>?_)
      refine tH 0 rfl hHeld ?_;refine tH 1 rfl hHeld ?_;refine tH 2 rfl hHeld ?_;refine tH 3 rfl hHeld ?_;refine tH 4 rfl hHeld ?_;refine tH 5 rfl hHeld ?_;refine tH 6 rfl hHeld ?_;refine tH 7 rfl hHeld ?_;refine tH 8 rfl hHeld ?_;refine tH 9 rfl hHeld ?_;refine tH 10 rfl hHeld ?_;refine tH 11 rfl hHeld ?_;refine tH 12 rfl hHeld ?_;refine tH 13 rfl hHeld ?_;refine tH 14 rfl hHeld ?_;refine tH 15 rfl hHeld ?_;refine tH 16 rfl hHeld ?_;refine tH 17 rfl hHeld ?_;refine tH 18 rfl hHeld ?_;refine tH 19 rfl hHeld ?_;refine tH 20 rfl hHeld ?_
      refine cH 21 rfl fun K hK=>?_
      go_simp
      refine (zf8 _ _ _ _ _).mono ?_
      rintro e w6 ⟨rfl,rfl⟩
      (try go_wp2_with fail)
      refine hK.out _ _ ?_ (fun hHeld=>?_)
      ·exact hHeld
      clear hK K
      (try simp only [Act.put,sA,s0,sS])
      by_cases t6:Gate.key2 (b.ls[k - 1]'(by omega)).tm (b.ls[k - 1]'(by omega)).rs b.ls[k].tm b.ls[k].rs < 0
      ·have hd6:decide (0<=Gate.key2 (b.ls[k - 1]'(by omega)).tm (b.ls[k - 1]'(by omega)).rs b.ls[k].tm b.ls[k].rs)=false:=decide_eq_false (by omega)
       refine tH 22 rfl hHeld ?_;refine tH 23 rfl hHeld ?_
       refine wpAnyH_done (by kernel_rfl) ?_ _
       have HT6:Hid (Gate.key2 (b.ls[k - 1]'(by omega)).tm (b.ls[k - 1]'(by omega)).rs b.ls[k].tm b.ls[k].rs < 0):=t6
       clear t6 hd6
       go_wp2_with fail
       have hLD:=za hLw hz' (Below.refl W5.heap.size W5).drew.drew
       have hXD:=za hX hz (Below.refl W5.heap.size W5).drew.drew
       have hYD:=za hY hy (Below.refl W5.heap.size W5).drew.drew
       have hzD:w.heap.size+1 < W5.drew.drew.heap.size:=hz
       have hyD:wr.heap.size < W5.drew.drew.heap.size:=hy
       have HBeD:Hid (Below W1.heap.size W1 W5.drew.drew):=HBe.out.drew.drew
       have HUs:=zdG l b b.ls[k].tm b.ls[k].rs HZ.out.1
       have HOs:=Gate.zbf b.ps b.ls[k].tm b.ls[k].rs (Gate.ze2 HAm.out) b.ps.length (Nat.le_refl _)
       have hw1:IntKind.i64.wrap (Gate.used l b.os b.ls[k].tm b.ls[k].rs+Gate.out b.ps b.ls[k].tm b.ls[k].rs)=Gate.used l b.os b.ls[k].tm b.ls[k].rs+Gate.out b.ps b.ls[k].tm b.ls[k].rs:=by rw [IntKind.wrap_i64];have:=HPN.out;unfold Gate.out;omega
       have hw2:IntKind.i64.wrap (Gate.used l b.os b.ls[k].tm b.ls[k].rs+Gate.out b.ps b.ls[k].tm b.ls[k].rs+b.ls[k].fr)=Gate.used l b.os b.ls[k].tm b.ls[k].rs+Gate.out b.ps b.ls[k].tm b.ls[k].rs+b.ls[k].fr:=by rw [IntKind.wrap_i64];have:=HPN.out;have:=HFr.out;unfold Gate.out;omega
       clear HUs HOs
       refine wp_region_held_drew (S:=fun w'=>(∀ j,w'.cell? ⟨w.heap.size,j,none⟩=(#[.slice la l.ss.length lca,.slice lb l.ms.length lcb,.slice lc l.ts.length lcc]:Array Value)[j]?)/\(∀ j,w'.cell? ⟨w.heap.size+1,j,none⟩=(#[.int .i64 b.now,.int .i64 b.tick,.int .i64 b.given,.slice a0 b.os.length c0,.slice a1 b.gs.length c1,.slice (some ⟨ob,off,none⟩) b.ls.length c2,.slice a3 b.ps.length c3]:Array Value)[j]?)/\(∀ j,w'.cell? ⟨wr.heap.size,j,none⟩=(#[.string b.ls[k].tm,.string b.ls[k].rs,.int .i64 b.ls[k].mo,.int .i64 b.ls[k].fr]:Array Value)[j]?)) (by kernel_rfl) ⟨hLD,hXD,hYD⟩ (fun hHeld=>?_)
       refine tH 0 rfl hHeld ?_;refine tH 1 rfl hHeld ?_;refine tH 2 rfl hHeld ?_;refine tH 3 rfl hHeld ?_;refine tH 4 rfl hHeld ?_;refine tH 5 rfl hHeld ?_;refine tH 7 rfl hHeld ?_;refine tH 8 rfl hHeld ?_;refine tH 9 rfl hHeld ?_;refine tH 10 rfl hHeld ?_;refine tH 11 rfl hHeld ?_;refine tH 14 rfl hHeld ?_;refine tH 15 rfl hHeld ?_;refine tH 17 rfl hHeld ?_;refine tH 18 rfl hHeld ?_
       refine cH 6 rfl fun K hK=>?_
       go_simp
       refine (zfR l la lb lc lca lcb lcc b a0 a1 _ a3 c0 c1 c2 c3 _ _ _ (HL.out.mono (HBw.out _ HBeD.out)) (HK.out.mono (HBw.out _ HBeD.out)) HZ.out.1).mono ?_
       rintro e w7 ⟨rfl,hb7⟩
       have hX7:=za hXD hzD hb7
       have hL7:=za hLD (Nat.lt_of_succ_lt hzD) hb7
       have hY7:=za hYD hyD hb7
       have hz7:=Nat.lt_of_lt_of_le hzD hb7.size
       have hy7:=Nat.lt_of_lt_of_le hyD hb7.size
       have HBe7:Hid (Below W1.heap.size W1 w7):=HBeD.out.trans (hb7.mono HBeD.out.size)
       clear hb7
       (try go_wp2_with fail)
       refine hK.out _ _ ?_ (fun hHeld=>?_)
       ·exact ⟨hL7,hX7,hY7⟩
       clear hK K
       (try simp only [Act.put,sA,s0,sS])
       refine cH 12 rfl fun K hK=>?_
       go_simp
       refine (zjD b a0 a1 _ a3 c0 c1 c2 c3 _ _ _ (HK.out.mono (HBw.out _ HBe7.out)) (by have:=HPN.out;omega) (Gate.ze2 HAm.out)).mono ?_
       rintro e w8 ⟨rfl,hb8⟩
       have hX8:=za hX7 hz7 hb8
       have hL8:=za hL7 (Nat.lt_of_succ_lt hz7) hb8
       have hY8:=za hY7 hy7 hb8
       have hz8:=Nat.lt_of_lt_of_le hz7 hb8.size
       have hy8:=Nat.lt_of_lt_of_le hy7 hb8.size
       have HBe8:Hid (Below W1.heap.size W1 w8):=HBe7.out.trans (hb8.mono HBe7.out.size)
       clear hb8
       (try go_wp2_with fail)
       refine hK.out _ _ ?_ (fun hHeld=>?_)
       ·exact ⟨hL8,hX8,hY8⟩
       clear hK K
       (try simp only [Act.put,sA,s0,sS])
       refine tH 13 rfl hHeld ?_;refine tH 16 rfl hHeld ?_
       by_cases t7:Gate.used l b.os b.ls[k].tm b.ls[k].rs+Gate.out b.ps b.ls[k].tm b.ls[k].rs+b.ls[k].fr=b.ls[k].mo
       ·have hd7:(Gate.used l b.os b.ls[k].tm b.ls[k].rs+Gate.out b.ps b.ls[k].tm b.ls[k].rs+b.ls[k].fr != b.ls[k].mo)=false:=bne_eq_false_iff_eq.2 t7
        have HT7:Hid (Gate.used l b.os b.ls[k].tm b.ls[k].rs+Gate.out b.ps b.ls[k].tm b.ls[k].rs+b.ls[k].fr=b.ls[k].mo):=t7
        clear t7
        refine tH 19 rfl hHeld ?_
        refine wpAnyH_done (by kernel_rfl) ?_ _
        have HD:Hid ((b.ls.take (k+1)).all (Gate.yM l.ts)=true/\Gate.jC Gate.qz b.ls (k+1)/\(b.ls.take (k+1)).all (Gate.zaJ l b)=true):=HYes.out HLa.out (Gate.zfP hlt (fun _=>HT6.out)) (by unfold Gate.zaJ Gate.sumTo;rw [decide_eq_true_eq];have:=HT7.out;unfold Gate.out at this;omega)
        go_wp2_with fail
        exact ⟨⟨k+1,by omega,by go_num,HD.out.1,HD.out.2.1,HD.out.2.2,HBe8.out⟩,by simp [intOf];omega⟩
       ·have hd7:(Gate.used l b.os b.ls[k].tm b.ls[k].rs+Gate.out b.ps b.ls[k].tm b.ls[k].rs+b.ls[k].fr != b.ls[k].mo)=true:=bne_iff_ne.2 t7
        have HT7:Hid (¬ (Gate.used l b.os b.ls[k].tm b.ls[k].rs+Gate.out b.ps b.ls[k].tm b.ls[k].rs+b.ls[k].fr=b.ls[k].mo)):=t7
        clear t7
        refine tH 19 rfl hHeld ?_
        refine wpAnyH_done (by kernel_rfl) ?_ _
        have HF:Hid (Gate.ql l b=false):=HNs.out (by unfold Gate.zaJ Gate.sumTo;rw [decide_eq_false_iff_not];have:=HT7.out;unfold Gate.out at this;omega)
        go_wp2_with fail
        go_ret
        exact ⟨ze HF.out.symm,HBw.out _ HBe8.out⟩
      ·have hd6:decide (0<=Gate.key2 (b.ls[k - 1]'(by omega)).tm (b.ls[k - 1]'(by omega)).rs b.ls[k].tm b.ls[k].rs)=true:=decide_eq_true (by omega)
       refine tH 22 rfl hHeld ?_;refine tH 23 rfl hHeld ?_
       refine wpAnyH_done (by kernel_rfl) ?_ _
       have HF:Hid (Gate.ql l b=false):=HNa.out (by omega) (Int.not_lt.1 t6)
       go_wp2_with fail
       go_ret
       exact ⟨ze HF.out.symm,HBw.out _ HBe.out.drew⟩
     ·have hg:decide (0 < k)=false:=decide_eq_false hk0
      refine wp_region_held_drew (S:=fun w'=>(∀ j,w'.cell? ⟨w.heap.size+1,j,none⟩=(#[.int .i64 b.now,.int .i64 b.tick,.int .i64 b.given,.slice a0 b.os.length c0,.slice a1 b.gs.length c1,.slice (some ⟨ob,off,none⟩) b.ls.length c2,.slice a3 b.ps.length c3]:Array Value)[j]?)/\(∀ j,w'.cell? ⟨wr.heap.size,j,none⟩=(#[.string b.ls[k].tm,.string b.ls[k].rs,.int .i64 b.ls[k].mo,.int .i64 b.ls[k].fr]:Array Value)[j]?) ) (by kernel_rfl) ⟨za hX hz (Below.refl W5.heap.size W5).drew,za hY hy (Below.refl W5.heap.size W5).drew⟩ (fun hHeld=>?_)
      refine tH 0 rfl hHeld ?_;refine tH 1 rfl hHeld ?_;refine tH 2 rfl hHeld ?_;refine kH 3 rfl hHeld ?_;refine kH 4 rfl hHeld ?_;refine kH 5 rfl hHeld ?_;refine kH 6 rfl hHeld ?_;refine kH 7 rfl hHeld ?_;refine kH 8 rfl hHeld ?_;refine kH 9 rfl hHeld ?_;refine kH 10 rfl hHeld ?_;refine kH 11 rfl hHeld ?_;refine kH 12 rfl hHeld ?_;refine kH 13 rfl hHeld ?_;refine kH 14 rfl hHeld ?_;refine kH 15 rfl hHeld ?_;refine kH 16 rfl hHeld ?_;refine kH 17 rfl hHeld ?_;refine kH 18 rfl hHeld ?_;refine kH 19 rfl hHeld ?_;refine kH 20 rfl hHeld ?_;refine kH 21 rfl hHeld ?_;refine kH 22 rfl hHeld ?_;refine tH 23 rfl hHeld ?_
      refine wpAnyH_done (by kernel_rfl) ?_ _
      go_wp2_with fail
      have hLD:=za hLw hz' (Below.refl W5.heap.size W5).drew.drew
      have hXD:=za hX hz (Below.refl W5.heap.size W5).drew.drew
      have hYD:=za hY hy (Below.refl W5.heap.size W5).drew.drew
      have hzD:w.heap.size+1 < W5.drew.drew.heap.size:=hz
      have hyD:wr.heap.size < W5.drew.drew.heap.size:=hy
      have HBeD:Hid (Below W1.heap.size W1 W5.drew.drew):=HBe.out.drew.drew
      have HUs:=zdG l b b.ls[k].tm b.ls[k].rs HZ.out.1
      have HOs:=Gate.zbf b.ps b.ls[k].tm b.ls[k].rs (Gate.ze2 HAm.out) b.ps.length (Nat.le_refl _)
      have hw1:IntKind.i64.wrap (Gate.used l b.os b.ls[k].tm b.ls[k].rs+Gate.out b.ps b.ls[k].tm b.ls[k].rs)=Gate.used l b.os b.ls[k].tm b.ls[k].rs+Gate.out b.ps b.ls[k].tm b.ls[k].rs:=by rw [IntKind.wrap_i64];have:=HPN.out;unfold Gate.out;omega
      have hw2:IntKind.i64.wrap (Gate.used l b.os b.ls[k].tm b.ls[k].rs+Gate.out b.ps b.ls[k].tm b.ls[k].rs+b.ls[k].fr)=Gate.used l b.os b.ls[k].tm b.ls[k].rs+Gate.out b.ps b.ls[k].tm b.ls[k].rs+b.ls[k].fr:=by rw [IntKind.wrap_i64];have:=HPN.out;have:=HFr.out;unfold Gate.out;omega
      clear HUs HOs
      refine wp_region_held_drew (S:=fun w'=>(∀ j,w'.cell? ⟨w.heap.size,j,none⟩=(#[.slice la l.ss.length lca,.slice lb l.ms.length lcb,.slice lc l.ts.length lcc]:Array Value)[j]?)/\(∀ j,w'.cell? ⟨w.heap.size+1,j,none⟩=(#[.int .i64 b.now,.int .i64 b.tick,.int .i64 b.given,.slice a0 b.os.length c0,.slice a1 b.gs.length c1,.slice (some ⟨ob,off,none⟩) b.ls.length c2,.slice a3 b.ps.length c3]:Array Value)[j]?)/\(∀ j,w'.cell? ⟨wr.heap.size,j,none⟩=(#[.string b.ls[k].tm,.string b.ls[k].rs,.int .i64 b.ls[k].mo,.int .i64 b.ls[k].fr]:Array Value)[j]?)) (by kernel_rfl) ⟨hLD,hXD,hYD⟩ (fun hHeld=>?_)
      refine tH 0 rfl hHeld ?_;refine tH 1 rfl hHeld ?_;refine tH 2 rfl hHeld ?_;refine tH 3 rfl hHeld ?_;refine tH 4 rfl hHeld ?_;refine tH 5 rfl hHeld ?_;refine tH 7 rfl hHeld ?_;refine tH 8 rfl hHeld ?_;refine tH 9 rfl hHeld ?_;refine tH 10 rfl hHeld ?_;refine tH 11 rfl hHeld ?_;refine tH 14 rfl hHeld ?_;refine tH 15 rfl hHeld ?_;refine tH 17 rfl hHeld ?_;refine tH 18 rfl hHeld ?_
      refine cH 6 rfl fun K hK=>?_
      go_simp
      refine (zfR l la lb lc lca lcb lcc b a0 a1 _ a3 c0 c1 c2 c3 _ _ _ (HL.out.mono (HBw.out _ HBeD.out)) (HK.out.mono (HBw.out _ HBeD.out)) HZ.out.1).mono ?_
      rintro e w7 ⟨rfl,hb7⟩
      have hX7:=za hXD hzD hb7
      have hL7:=za hLD (Nat.lt_of_succ_lt hzD) hb7
      have hY7:=za hYD hyD hb7
      have hz7:=Nat.lt_of_lt_of_le hzD hb7.size
      have hy7:=Nat.lt_of_lt_of_le hyD hb7.size
      have HBe7:Hid (Below W1.heap.size W1 w7):=HBeD.out.trans (hb7.mono HBeD.out.size)
      clear hb7
      (try go_wp2_with fail)
      refine hK.out _ _ ?_ (fun hHeld=>?_)
      ·exact ⟨hL7,hX7,hY7⟩
      clear hK K
      (try simp only [Act.put,sA,s0,sS])
      refine cH 12 rfl fun K hK=>?_
      go_simp
      refine (zjD b a0 a1 _ a3 c0 c1 c2 c3 _ _ _ (HK.out.mono (HBw.out _ HBe7.out)) (by have:=HPN.out;omega) (Gate.ze2 HAm.out)).mono ?_
      rintro e w8 ⟨rfl,hb8⟩
      have hX8:=za hX7 hz7 hb8
      have hL8:=za hL7 (Nat.lt_of_succ_lt hz7) hb8
      have hY8:=za hY7 hy7 hb8
      have hz8:=Nat.lt_of_lt_of_le hz7 hb8.size
      have hy8:=Nat.lt_of_lt_of_le hy7 hb8.size
      have HBe8:Hid (Below W1.heap.size W1 w8):=HBe7.out.trans (hb8.mono HBe7.out.size)
      clear hb8
      (try go_wp2_with fail)
      refine hK.out _ _ ?_ (fun hHeld=>?_)
      ·exact ⟨hL8,hX8,hY8⟩
      clear hK K
      (try simp only [Act.put,sA,s0,sS])
      refine tH 13 rfl hHeld ?_;refine tH 16 rfl hHeld ?_
      by_cases t7:Gate.used l b.os b.ls[k].tm b.ls[k].rs+Gate.out b.ps b.ls[k].tm b.ls[k].rs+b.ls[k].fr=b.ls[k].mo
      ·have hd7:(Gate.used l b.os b.ls[k].tm b.ls[k].rs+Gate.out b.ps b.ls[k].tm b.ls[k].rs+b.ls[k].fr != b.ls[k].mo)=false:=bne_eq_false_iff_eq.2 t7
       have HT7:Hid (Gate.used l b.os b.ls[k].tm b.ls[k].rs+Gate.out b.ps b.ls[k].tm b.ls[k].rs+b.ls[k].fr=b.ls[k].mo):=t7
       clear t7
       refine tH 19 rfl hHeld ?_
       refine wpAnyH_done (by kernel_rfl) ?_ _
       have HD:Hid ((b.ls.take (k+1)).all (Gate.yM l.ts)=true/\Gate.jC Gate.qz b.ls (k+1)/\(b.ls.take (k+1)).all (Gate.zaJ l b)=true):=HYes.out HLa.out (fun m e=>by omega) (by unfold Gate.zaJ Gate.sumTo;rw [decide_eq_true_eq];have:=HT7.out;unfold Gate.out at this;omega)
       go_wp2_with fail
       exact ⟨⟨k+1,by omega,by go_num,HD.out.1,HD.out.2.1,HD.out.2.2,HBe8.out⟩,by simp [intOf];omega⟩
      ·have hd7:(Gate.used l b.os b.ls[k].tm b.ls[k].rs+Gate.out b.ps b.ls[k].tm b.ls[k].rs+b.ls[k].fr != b.ls[k].mo)=true:=bne_iff_ne.2 t7
       have HT7:Hid (¬ (Gate.used l b.os b.ls[k].tm b.ls[k].rs+Gate.out b.ps b.ls[k].tm b.ls[k].rs+b.ls[k].fr=b.ls[k].mo)):=t7
       clear t7
       refine tH 19 rfl hHeld ?_
       refine wpAnyH_done (by kernel_rfl) ?_ _
       have HF:Hid (Gate.ql l b=false):=HNs.out (by unfold Gate.zaJ Gate.sumTo;rw [decide_eq_false_iff_not];have:=HT7.out;unfold Gate.out at this;omega)
       go_wp2_with fail
       go_ret
       exact ⟨ze HF.out.symm,HBw.out _ HBe8.out⟩
    ·have e:k=b.ls.length:=by omega
     subst e
     have HE:Hid (Gate.ql l b=true):=by
      unfold Hid Gate.ql Gate.yP Gate.zct
      have h1:=HQ.out.1
      have h2:=HQ.out.2.2.1
      rw [List.take_of_length_le (Nat.le_refl _)] at h1 h2
      rw [Gate.zfB HQ.out.2.1 (Nat.le_refl _),decide_eq_true HLN.out,HPu.out,h1,h2];rfl
     clear HQ hlt hk hX1 hL1
     go_wp2_with fail
     go_ret
     exact ⟨ze HE.out.symm,HBr.out⟩
end Go.Proofs.YtaickbhifenbjaaGreat
namespace Go.Proofs.YtaickbhifenbjaaGreat
open Go.RowKit Go.Shelf
attribute [local go_sem] Oper.semAt_some
structure Lk where
 pl:Int
 rl:Int
 to:ByteArray
 nm:ByteArray
 hto:to.size<=maxLen
 hnm:nm.size<=maxLen
def Lk.enc (x:Lk):Array Value:=#[.agg #[.int .i64 x.pl,.int .i64 x.rl,.string x.to,.string x.nm]]
noncomputable def zg4 (fs:List Fld) (vs:List ByteArray) (k:Nat):List Lk :=
 match fs[k]?,vs[k]? with
 | some f,some v=>if h:(f.kd=4/\v.toList.isEmpty=false)/\f.to.size<=maxLen/\v.size<=maxLen then [⟨k,f.rl,f.to,v,h.2.1,h.2.2⟩] else []
 | _,_=>[]
noncomputable def jN (fs:List Fld) (vs:List ByteArray) (k:Nat):List Lk:=(List.range k).flatMap (zg4 fs vs)
theorem za5 (fs:List Fld) (vs:List ByteArray) (k:Nat):jN fs vs (k+1)=jN fs vs k ++ zg4 fs vs k:=by
 simp [jN,List.range_succ]
theorem zob (fs:List Fld) (vs:List ByteArray) (k:Nat):(zg4 fs vs k).length<=1:=by
 unfold zg4
 split
 ·split <;> simp
 ·simp
theorem zjO (fs:List Fld) (vs:List ByteArray):∀ k,(jN fs vs k).length<=k
 | 0=>by simp [jN]
 | k+1=>by
  rw [za5,List.length_append]
  have:=zjO fs vs k
  have:=zob fs vs k
  omega
theorem zm8 {fs:List Fld} {vs:List ByteArray} {k:Nat} (h:k < fs.length) (h':k < vs.length) (hn:¬ (fs[k].kd=4/\vs[k].toList.isEmpty=false)):zg4 fs vs k=[]:=by
 unfold zg4
 rw [List.getElem?_eq_getElem h,List.getElem?_eq_getElem h']
 simp only
 rw [dif_neg (fun e=>hn e.1)]
theorem zn4 {fs:List Fld} {vs:List ByteArray} {k:Nat} (h:k < fs.length) (h':k < vs.length) (hk:fs[k].kd=4) (hv:vs[k].toList.isEmpty=false) (h1:fs[k].to.size<=maxLen) (h2:vs[k].size<=maxLen):zg4 fs vs k=[⟨k,fs[k].rl,fs[k].to,vs[k],h1,h2⟩]:=by
 unfold zg4
 rw [List.getElem?_eq_getElem h,List.getElem?_eq_getElem h']
 simp only
 rw [dif_pos ⟨⟨hk,hv⟩,h1,h2⟩]
theorem zfs (fs:List Fld) (vs:List ByteArray) {k n:Nat} (h:k<=n):jN fs vs k <+: jN fs vs n:=by
 induction n with
 | zero =>
  have:k=0:=by omega
  subst this;exact List.prefix_rfl
 | succ n ih =>
  rcases Nat.eq_or_lt_of_le h with e | h2
  ·subst e;exact List.prefix_rfl
  ·rw [za5]
   exact (ih (by omega)).trans (List.prefix_append _ _)
structure CB (B:Nat) (w w':World):Prop where
 size:w.heap.size<=w'.heap.size
 cells:∀ (k:Nat) (C:Array Value) (t:TypeId) (z:Nat × Nat),k < B->w.heap[k]?=some (.cells C t z)->w'.heap[k]?=some (.cells C t z)
theorem CB.trans {B:Nat} {a b c:World} (h:CB B a b) (k:CB B b c):CB B a c:=⟨Nat.le_trans h.size k.size,fun i C t z hi hc=>k.cells i C t z hi (h.cells i C t z hi hc)⟩
theorem CB.of_below {B:Nat} {w w':World} (h:Below B w w'):CB B w w':=⟨h.size,fun k _ _ _ hk hc=>(h.block k hk).trans hc⟩
theorem CB.alloc {B:Nat} {w0 w:World} (h:CB B w0 w) (o:Obj):CB B w0 (w.alloc o):=⟨Nat.le_trans h.size (by simp),fun k C t z hk hc=>by
 have h1:=h.cells k C t z hk hc
 rw [Below.heap_alloc _ _ _ (Array.getElem?_eq_some_iff.1 h1).1];exact h1⟩
theorem CB.drew {B:Nat} {w0 w:World} (h:CB B w0 w):CB B w0 w.drew:=⟨h.size,h.cells⟩
theorem zmY {w:World} {b o:Nat} {v:Value} (h:w.cell? ⟨b,o,none⟩=some v):∃ C t z,w.heap[b]?=some (.cells C t z):=by
 unfold World.cell? at h
 cases hb:w.heap[b]? with
 | none=>simp [hb] at h
 | some ob=>cases ob <;> first | exact ⟨_,_,_,rfl⟩ | simp [hb] at h
theorem CB.same {B:Nat} {w w':World} (h:CB B w w') {b o:Nat} {v:Value} (hb:b < B) (hc:w.cell? ⟨b,o,none⟩=some v) (o':Nat):w'.cell? ⟨b,o',none⟩=w.cell? ⟨b,o',none⟩:=by
 obtain ⟨C,t,z,hC⟩:=zmY hc
 simp [World.cell?,hC,h.cells b C t z hb hC]
theorem CB.cell {B:Nat} {w w':World} (h:CB B w w') {b o:Nat} {v:Value} (hb:b < B) (hc:w.cell? ⟨b,o,none⟩=some v):w'.cell? ⟨b,o,none⟩=some v:=(h.same hb hc o).trans hc
theorem CB.box {B:Nat} {w w':World} {b:Nat} {X:Array Value} (h:CB B w w') (hX:∀ o,w.cell? ⟨b,o,none⟩=X[o]?) (hb:b < B) (h0:0 < X.size):∀ o,w'.cell? ⟨b,o,none⟩=X[o]?:=fun o =>
 (h.same hb ((hX 0).trans (Array.getElem?_eq_getElem h0)) o).trans (hX o)
set_option maxRecDepth 100000 in
theorem znD (n:Nat) (hn:1<=n) (l Bs Bo:Nat) (kd:ByteArray) (fs:List Fld) (fa:Option Addr) (fcap:Nat) (o:Ob) (va ha:Option Addr) (cap cap':Nat) (w0:World) (hbs:Bs < w0.heap.size) (hbo:Bo < w0.heap.size)
 (hBs:∀ j,w0.cell? ⟨Bs,j,none⟩=(#[.string kd,.slice fa fs.length fcap]:Array Value)[j]?) (hBo:∀ j,w0.cell? ⟨Bo,j,none⟩=(#[.string o.kd,.string o.nm,.string o.tm,.slice va o.vs.length cap,.bool o.en,.slice ha o.hs.length cap',.int .i64 o.vr]:Array Value)[j]?)
 (hf:zR w0 fa fs) (hv:zF w0 va o.vs) (hc:o.vs.length=fs.length) (J Jx:List Lk->World->Prop) (W:World) (hW:Below w0.heap.size w0 W) (hJ:AbidesFrom W.heap.size J)
 (hY:∀ pre x W1,J pre W1->pre.length < fs.length->YieldAt Fence.wide (n - 1) Tryz.prog l x.enc W1 fun e W' =>
  (e = .returned (.bool true)/\J (pre ++ [x]) W'/\CB w0.heap.size W1 W') \/ (e = .returned (.bool false)/\Jx (pre ++ [x]) W')) (h0:J [] W) :
 CallsIn Fence.wide n Tryz.prog 211 #[.func (.yield l) #[] #[],.pointer (some ⟨Bs,0,none⟩),.pointer (some ⟨Bo,0,none⟩)] W fun e W'=>(∃ v,e = .returned v) /\
  ((∃ ys,ys=jN fs o.vs fs.length/\J ys W') \/ (∃ pre,pre <+: jN fs o.vs fs.length/\Jx pre W')):=by
 refine callsIn_of_wp Tryz.func211 rfl trivial ?_ rfl
 simp only [Tryz.ntmps211,List.size_toArray,List.length_cons,List.length_nil,Nat.reduceAdd,Nat.reduceSub,Array.replicate_succ,Array.replicate_zero,List.push_toArray,List.append_toArray,List.nil_append,List.cons_append]
 have hlen:=hf.len
 unfold maxLen at hlen
 have hX0:=za hBs hbs hW
 have hXo:=za hBo hbo hW
 gi_wp2
 clear hX0 hXo
 gi_loopw [9] (fun i wr=>∃ k:Nat,k<=fs.length/\i = .int .i64 k/\J (jN fs o.vs k) wr/\CB w0.heap.size w0 wr) (fun i _=>fs.length - (intOf i).toNat)
 case atStart=>exact ⟨0,Nat.zero_le _,rfl,h0,CB.of_below hW⟩
 case round =>
  obtain ⟨k,hk,rfl,hJs,hB⟩:=hrel
  by_cases hlt:k < fs.length
  ·have hltv:k < o.vs.length:=by omega
   obtain ⟨fb,foff,rfl,hfb,hr⟩:=hf.rows (by rintro rfl;simp at hlt)
   obtain ⟨wa,wcap,hf0⟩:=hr k hlt
   obtain ⟨d0,d1,d2,d3,d4,d5,d6,d7,d8,d9,d10⟩:=hf0.load
   have d0:=hB.cell hfb d0
   have d1:=hB.cell hfb d1
   have d2:=hB.cell hfb d2
   have d3:=hB.cell hfb d3
   have d4:=hB.cell hfb d4
   have d5:=hB.cell hfb d5
   have d6:=hB.cell hfb d6
   have d7:=hB.cell hfb d7
   have d8:=hB.cell hfb d8
   have d9:=hB.cell hfb d9
   have d10:=hB.cell hfb d10
   obtain ⟨p,po,rfl,hp,hpc⟩:=hv.cells (by intro e;rw [e] at hltv;simp at hltv)
   have hltI:(k:Int) < (fs.length:Int):=by omega
   have hltV:(k:Int) < (o.vs.length:Int):=by omega
   have hfbw:fb < wr.heap.size:=Nat.lt_of_lt_of_le hfb hB.size
   have hpw:p < wr.heap.size:=Nat.lt_of_lt_of_le hp hB.size
   have hbow:Bo < wr.heap.size:=Nat.lt_of_lt_of_le hbo hB.size
   have cv:=hB.cell hp (hpc k hltv)
   have hXo:=hB.box hBo hbo (by simp)
   have HS:Hid (fs[k].to.size<=maxLen/\o.vs[k].size<=maxLen):=⟨hf0.small.to,hv.small _ (List.getElem_mem _)⟩
   have HBa:Hid (∀ ob,CB w0.heap.size w0 (wr.alloc ob)):=fun ob=>hB.alloc _
   have HJa:Hid (∀ ob,J (jN fs o.vs k) (wr.alloc ob)):=fun ob=>hJ _ _ _ none hJs (World.grownBy_alloc wr ob none) (fun r e=>by cases e)
   clear hf0 hpc
   by_cases hk4:fs[k].kd=4
   rotate_left
   ·have HN:Hid (jN fs o.vs (k+1)=jN fs o.vs k):=by unfold Hid;rw [za5,zm8 hlt hltv (fun h=>hk4 h.1),List.append_nil]
    have e1:(fs[k].kd != 4)=true:=by simp [hk4]
    clear hk4
    gi_wp2
    exact ⟨⟨k+1,by omega,by go_num,by rw [HN.out];exact HJa.out _,HBa.out _⟩,zw hlt⟩
   ·by_cases hve:o.vs[k].toList.isEmpty=true
    ·have HN:Hid (jN fs o.vs (k+1)=jN fs o.vs k):=by unfold Hid;rw [za5,zm8 hlt hltv (fun h=>by rw [hve] at h;cases h.2),List.append_nil]
     have e1:(fs[k].kd != 4)=false:=by simp [hk4]
     clear hk4
     gi_wp2
     exact ⟨⟨k+1,by omega,by go_num,by rw [HN.out];exact HJa.out _,HBa.out _⟩,zw hlt⟩
    ·have hve':o.vs[k].toList.isEmpty=false:=by simpa using hve
     have HN:Hid (jN fs o.vs (k+1)=jN fs o.vs k ++ [⟨k,fs[k].rl,fs[k].to,o.vs[k],HS.out.1,HS.out.2⟩]):=by unfold Hid;rw [za5,zn4 hlt hltv hk4 hve' HS.out.1 HS.out.2]
     have e1:(fs[k].kd != 4)=false:=by simp [hk4]
     clear hk4 hve
     have hmx:Tryz.prog.follows .mixedOrders=true:=by kernel_rfl
     gi_wp2
     have hT0:=zl wr #[.string fs[k].nm,.int .i64 fs[k].kd,.int .i64 fs[k].ls,.int .i64 fs[k].ms,.slice wa fs[k].ws.length wcap,.string fs[k].to,.int .i64 fs[k].rl,.bool fs[k].mu,.bool fs[k].fx,.string fs[k].df,.string fs[k].wg] 158
     have hT1:=za hXo hbow ((Below.refl wr.heap.size wr).alloc (Nat.le_refl _) (.cells #[.string fs[k].nm,.int .i64 fs[k].kd,.int .i64 fs[k].ls,.int .i64 fs[k].ms,.slice wa fs[k].ws.length wcap,.string fs[k].to,.int .i64 fs[k].rl,.bool fs[k].mu,.bool fs[k].fx,.string fs[k].df,.string fs[k].wg] 158))
     have hT2:=(((Below.refl wr.heap.size wr).alloc (Nat.le_refl _) (.cells #[.string fs[k].nm,.int .i64 fs[k].kd,.int .i64 fs[k].ls,.int .i64 fs[k].ms,.slice wa fs[k].ws.length wcap,.string fs[k].to,.int .i64 fs[k].rl,.bool fs[k].mu,.bool fs[k].fx,.string fs[k].df,.string fs[k].wg] 158)).cell (p:=⟨p,po+k,none⟩) hpw).trans cv
     have hW1J:=HJa.out (.cells #[.string fs[k].nm,.int .i64 fs[k].kd,.int .i64 fs[k].ls,.int .i64 fs[k].ms,.slice wa fs[k].ws.length wcap,.string fs[k].to,.int .i64 fs[k].rl,.bool fs[k].mu,.bool fs[k].fx,.string fs[k].df,.string fs[k].wg] 158)
     have hW1B:=HBa.out (.cells #[.string fs[k].nm,.int .i64 fs[k].kd,.int .i64 fs[k].ls,.int .i64 fs[k].ms,.slice wa fs[k].ws.length wcap,.string fs[k].to,.int .i64 fs[k].rl,.bool fs[k].mu,.bool fs[k].fx,.string fs[k].df,.string fs[k].wg] 158)
     have hzg:wr.heap.size < (wr.alloc (.cells #[.string fs[k].nm,.int .i64 fs[k].kd,.int .i64 fs[k].ls,.int .i64 fs[k].ms,.slice wa fs[k].ws.length wcap,.string fs[k].to,.int .i64 fs[k].rl,.bool fs[k].mu,.bool fs[k].fx,.string fs[k].df,.string fs[k].wg] 158)).heap.size:=by simp
     obtain ⟨W1,hW1⟩:∃ W1,W1=wr.alloc (.cells #[.string fs[k].nm,.int .i64 fs[k].kd,.int .i64 fs[k].ls,.int .i64 fs[k].ms,.slice wa fs[k].ws.length wcap,.string fs[k].to,.int .i64 fs[k].rl,.bool fs[k].mu,.bool fs[k].fx,.string fs[k].df,.string fs[k].wg] 158):=⟨_,rfl⟩
     rw [<- hW1] at hT0 hT1 hT2 hW1J hW1B hzg ⊢
     clear hW1 d0 d1 d2 d3 d4 d5 d6 d7 d8 d9 d10 hXo cv
     have hJd:J (jN fs o.vs k) W1.drew:=hJ _ _ _ none hW1J ⟨rfl,rfl,rfl,Nat.le_refl _,fun _ _ _=>rfl⟩ (fun r e=>by cases e)
     obtain ⟨x,hx⟩:∃ x:Lk,x=⟨k,fs[k].rl,fs[k].to,o.vs[k],HS.out.1,HS.out.2⟩:=⟨_,rfl⟩
     rw [<- hx] at HN
     obtain ⟨fn,tmps,assign,body,hy,hR⟩:=hY _ x W1.drew hJd (Nat.lt_of_le_of_lt (zjO fs o.vs k) hlt)
     rw [hx] at hy
     unfold Lk.enc at hy
     dsimp only at hy
     have HR:=hR.mono (R':=fun e W'=>∃ t:Bool,e = .returned (.bool t)/\Hid (if t=true then J (jN fs o.vs k ++ [x]) W'/\CB w0.heap.size W1.drew W' else Jx (jN fs o.vs k ++ [x]) W')) (by
      rintro e W' (⟨h1,h2,h3⟩ | ⟨h1,h2⟩)
      ·exact ⟨true,h1,h2,h3⟩
      ·exact ⟨false,h1,h2⟩)
     clear hR hx
     gi_region_with_o (refine HR.mono ?_;rintro e W3 ⟨t,rfl,H3⟩)
     all_goals cases t
     all_goals gi_wp2
     all_goals first
      | (refine bodyPost_ret (results_none rfl _ _ _) rfl ?_
         have h9:=H3.out
         rw [if_neg (by simp)] at h9
         refine ⟨⟨_,rfl⟩,.inr ⟨_,?_,h9⟩⟩
         rw [<- HN.out]
         exact zfs fs o.vs (by omega))
      | (have h9:=H3.out
         rw [if_pos rfl] at h9
         exact ⟨⟨k+1,by omega,by go_num,by rw [HN.out];exact h9.1,(hW1B.drew).trans h9.2⟩,zw hlt⟩)
  ·obtain rfl:k=fs.length:=by omega
   gi_wp2
   go_end0
   exact ⟨⟨_,rfl⟩,.inl ⟨_,rfl,hJs⟩⟩
theorem zk1 (n:Nat) (hn:1<=n) (Bs Bo:Nat) (kd:ByteArray) (fs:List Fld) (fa:Option Addr) (fcap:Nat) (o:Ob) (va ha:Option Addr) (cap cap':Nat) (w0:World) (hbs:Bs < w0.heap.size) (hbo:Bo < w0.heap.size)
 (hBs:∀ j,w0.cell? ⟨Bs,j,none⟩=(#[.string kd,.slice fa fs.length fcap]:Array Value)[j]?) (hBo:∀ j,w0.cell? ⟨Bo,j,none⟩=(#[.string o.kd,.string o.nm,.string o.tm,.slice va o.vs.length cap,.bool o.en,.slice ha o.hs.length cap',.int .i64 o.vr]:Array Value)[j]?)
 (hf:zR w0 fa fs) (hv:zF w0 va o.vs) (hc:o.vs.length=fs.length) :
 SeqStopsK Fence.wide n Tryz.prog 211 #[.pointer (some ⟨Bs,0,none⟩),.pointer (some ⟨Bo,0,none⟩)] Lk.enc (Below w0.heap.size) (fun ys=>ys=jN fs o.vs fs.length) (fun pre=>pre <+: jN fs o.vs fs.length) fs.length w0 :=
 fun l J Jx W hW hJ _ hY h0=>znD n hn l Bs Bo kd fs fa fcap o va ha cap cap' w0 hbs hbo hBs hBo hf hv hc J Jx W hW hJ (fun pre x W1 h1 h2=>by
  obtain ⟨fn,tmps,assign,body,hy,hR⟩:=hY pre x W1 h1 h2
  exact ⟨fn,tmps,assign,body,hy,hR.mono (fun e W' h=>h.imp (fun h=>⟨h.1,h.2.1,CB.of_below h.2.2⟩) id)⟩) h0
end Go.Proofs.YtaickbhifenbjaaGreat
