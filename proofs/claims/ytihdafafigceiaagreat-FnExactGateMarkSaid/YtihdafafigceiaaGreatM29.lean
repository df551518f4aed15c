import Derived.Test.YtihdafafigceiaaGreatM26
import Derived.Test.YtihdafafigceiaaGreatM11
import Derived.Test.YtihdafafigceiaaGreatM06
set_option maxHeartbeats 2000000
namespace Go.Proofs.YtihdafafigceiaaGreat
open Go.RowKit
theorem zcK (v:Int) (w:World) :
 Calls Tryz.prog 213 #[.int .i64 v] w fun e w'=>e = .returned (.bool (Gate.zak v))/\w'=w:=by
 go_enter Tryz.func213,Tryz.ntmps213
 go_wp2
 all_goals
  go_ret
  refine ⟨ze ?_,rfl⟩
  rw [Bool.eq_iff_iff];simp [Gate.zak];try omega
theorem Gate.zdb {vs:List Int} {k:Nat} (h:k < vs.length) (hn:Gate.zak vs[k]=false):Gate.y7 vs k=false:=by
 unfold Gate.y7;rw [Gate.getD_at vs k _ h,hn];rfl
theorem Gate.zbo {vs:List Int} (h:0 < vs.length) (hn:Gate.zak vs[0]=true):Gate.y7 vs 0=true:=by
 unfold Gate.y7;rw [Gate.getD_at vs 0 _ h,hn];rfl
theorem Gate.zg2 {vs:List Int} {k:Nat} (h:k+1 < vs.length) (hn:Gate.zak vs[k+1]=true):Gate.y7 vs (k+1)=decide (vs[k] < vs[k+1]):=by
 unfold Gate.y7;rw [Gate.getD_at vs (k+1) _ h,Nat.add_sub_cancel,Gate.getD_at vs k _ (by omega),hn];simp
theorem qG (a:Option Addr) (cap:Nat) (vs:List Int) (w:World) (hw:y8 w a vs) :
 Calls Tryz.prog 195 #[.slice a vs.length cap] w fun e w'=>e = .returned (.bool (Gate.qY vs))/\w'=w:=by
 have hl:=hw.len
 unfold maxLen at hl
 have HG:Hid (Gate.up (Gate.y7 vs) vs.length=false->Gate.qY vs=false):=fun h=>by unfold Gate.qY;rw [h,Bool.and_false]
 go_enter Tryz.func195,Tryz.ntmps195
 go_wp2_with fail
 go_loop [7] (fun i=>∃ k:Nat,k<=vs.length/\i = .int .i64 k/\Gate.up (Gate.y7 vs) k=true) (fun i=>vs.length - (intOf i).toNat)
 case atStart=>exact ⟨0,Nat.zero_le _,rfl,rfl⟩
 case round =>
  obtain ⟨k,hk,rfl,hup⟩:=hrel
  by_cases hlt:k < vs.length
  ·obtain ⟨b,off,rfl,hb,hck⟩:=hw.load (Below.refl _ _) k hlt
   have hltI:(k:Int) < (vs.length:Int):=by omega
   by_cases hn:Gate.zak vs[k]=true
   ·by_cases hk0:k=0
    ·have HF:Hid (Gate.up (Gate.y7 vs) (k+1)=true):=by subst hk0;unfold Hid;rw [Gate.qZ,Gate.zbo hlt hn];rfl
     have hg:decide (0 < k)=false:=by simp;omega
     have HN:Hid (Gate.zak vs[k]=true):=hn
     clear hn hup hk0 hw
     go_wp2_with (go_at_call 213;refine (zf HN.out (zcK _ _)).mono ?_;rintro e w' ⟨rfl,rfl⟩)
     go_round
     case rel=>exact ⟨k+1,by omega,by go_num,HF.out⟩
     case measure=>simp [intOf];omega
    ·obtain ⟨m,rfl⟩:∃ m,k=m+1:=⟨k - 1,by omega⟩
     obtain ⟨b',off',e',hb',hcm⟩:=hw.load (Below.refl _ _) m (by omega)
     simp only [Option.some.injEq,Addr.mk.injEq] at e'
     obtain ⟨rfl,rfl,_⟩:=e'
     have HU:Hid (Gate.up (Gate.y7 vs) (m+1+1)=decide (vs[m] < vs[m+1])):=by unfold Hid;rw [Gate.qZ,hup,Gate.zg2 hlt hn];rfl
     have HNN:Hid (¬ vs[m] < vs[m+1]->Gate.qY vs=false):=fun h=>HG.out (Gate.zaD hlt (by rw [Gate.zg2 hlt hn];simpa using h))
     have HN:Hid (Gate.zak vs[m+1]=true):=hn
     clear hn hup hk0 hw
     by_cases hls:vs[m] < vs[m+1]
     ·have hls':decide (vs[m+1]<=vs[m])=false:=by simp;omega
      have HLS:Hid (vs[m] < vs[m+1]):=hls
      clear hls
      go_wp2_with (go_at_call 213;refine (zf HN.out (zcK _ _)).mono ?_;rintro e w' ⟨rfl,rfl⟩)
      go_round
      case rel=>exact ⟨m+1+1,by omega,by go_num,by rw [HU.out];simpa using HLS.out⟩
      case measure=>simp [intOf];omega
     ·have hls':vs[m+1]<=vs[m]:=by omega
      have HLS:Hid (¬ vs[m] < vs[m+1]):=hls
      clear hls
      go_wp2_with (go_at_call 213;refine (zf HN.out (zcK _ _)).mono ?_;rintro e w' ⟨rfl,rfl⟩)
      go_ret
      exact ⟨ze (HNN.out HLS.out).symm,rfl⟩
   ·have hn':Gate.zak vs[k]=false:=by simpa using hn
    have HF:Hid (Gate.qY vs=false):=HG.out (Gate.zaD hlt (Gate.zdb hlt hn'))
    have HN:Hid (Gate.zak vs[k]=false):=hn'
    clear hn hn' hup hw
    go_wp2_with (go_at_call 213;refine (zf HN.out (zcK _ _)).mono ?_;rintro e w' ⟨rfl,rfl⟩)
    go_ret
    exact ⟨ze HF.out.symm,rfl⟩
  ·have HF:Hid (Gate.qY vs=decide (0 < vs.length)):=by
    have e:k=vs.length:=by omega
    subst e;unfold Hid Gate.qY;rw [hup,Bool.and_true]
   clear hw hup
   go_wp2_with fail
   go_ret
   exact ⟨ze (by rw [HF.out]),rfl⟩
theorem Gate.zc6 (s:ByteArray):s.toList.isEmpty=true \/ (s.toList.isEmpty=false/\Hid (Gate.zy s=true)) \/ (s.toList.isEmpty=false/\Hid (Gate.zy s=false)):=by
 by_cases h:s.toList.isEmpty=true
 ·exact Or.inl h
 ·by_cases h2:Gate.zy s=true
  ·exact Or.inr (Or.inl ⟨by simpa using h,h2⟩)
  ·exact Or.inr (Or.inr ⟨by simpa using h,by simpa [Hid] using h2⟩)
theorem zmO (r:Rl) (a:Option Addr) (cap:Nat) (w:World) (hm:r.Small) (hw:y8 w a r.vs) :
 Calls Tryz.prog 153 #[.agg (r.cells a cap)] w fun e w'=>e = .returned (.bool (Gate.zY r))/\Below w.heap.size w w':=by
 have hskd:=hm.kd
 have hstm:=hm.tm
 have hspx:=hm.px
 have hpx:=hm.px
 unfold maxLen at hpx
 unfold Rl.cells
 have HB:Hid (∀ ob,Below w.heap.size w (w.alloc ob)):=fun ob=>(Below.refl _ _).alloc (Nat.le_refl _) _
 have HI:Hid (∀ ob,y8 (w.alloc ob) a r.vs):=fun ob=>hw.mono (HB.out ob)
 clear hw hm
 rcases Gate.zc6 r.kd with hk | ⟨hk,HK⟩ | ⟨hk,HK⟩
 ·rcases Gate.zc6 r.tm with ht | ⟨ht,HT⟩ | ⟨ht,HT⟩
  ·have HKD:Hid (Gate.qK r=true):=by unfold Hid Gate.qK;rw [hk,ht];simp
   by_cases hv:Gate.qY r.vs=true
   rotate_left
   ·have HV:Hid (Gate.qY r.vs=false):=by simpa [Hid] using hv
    have HF:Hid (Gate.zY r=false):=by unfold Hid Gate.zY;rw [HV.out];simp
    clear hv
    go_enter Tryz.func153,Tryz.ntmps153
    go_wp2_with (first | (go_at_call 195;refine (zf HV.out (qG _ _ r.vs _ (by exact HI.out _))).mono ?_;rintro e w' ⟨rfl,rfl⟩))
    go_ret
    exact ⟨ze HF.out.symm,HB.out _⟩
   have HV:Hid (Gate.qY r.vs=true):=hv
   clear hv
   by_cases h16:r.px.size<=16
   ·have HF:Hid (Gate.zY r=Gate.yV r.px):=by unfold Hid Gate.zY;rw [HKD.out,HV.out,decide_eq_true h16];rfl
    have h16I:(r.px.size:Int)<=16:=by omega
    clear h16
    go_enter Tryz.func153,Tryz.ntmps153
    go_wp2_with (first | (go_at_call 195;refine (zf HV.out (qG _ _ r.vs _ (by exact HI.out _))).mono ?_;rintro e w' ⟨rfl,rfl⟩) | (go_at_call 185;refine (jU r.px _ hspx).mono ?_;rintro e w' ⟨rfl,rfl⟩))
    go_ret
    exact ⟨ze HF.out.symm,HB.out _⟩
   ·have HF:Hid (Gate.zY r=false):=by unfold Hid Gate.zY;rw [decide_eq_false h16];simp
    have h16I:decide ((r.px.size:Int)<=16)=false:=by simp;omega
    clear h16
    go_enter Tryz.func153,Tryz.ntmps153
    go_wp2_with (first | (go_at_call 195;refine (zf HV.out (qG _ _ r.vs _ (by exact HI.out _))).mono ?_;rintro e w' ⟨rfl,rfl⟩))
    go_ret
    exact ⟨ze HF.out.symm,HB.out _⟩
  ·have HKD:Hid (Gate.qK r=true):=by unfold Hid Gate.qK;rw [hk,HT.out];simp
   by_cases hv:Gate.qY r.vs=true
   rotate_left
   ·have HV:Hid (Gate.qY r.vs=false):=by simpa [Hid] using hv
    have HF:Hid (Gate.zY r=false):=by unfold Hid Gate.zY;rw [HV.out];simp
    clear hv
    go_enter Tryz.func153,Tryz.ntmps153
    go_wp2_with (first | (go_at_call_of 140 (Value.string r.tm);refine (zf HT.out (zF r.tm _ hstm)).mono ?_;rintro e w' ⟨rfl,rfl⟩) | (go_at_call 195;refine (zf HV.out (qG _ _ r.vs _ (by exact HI.out _))).mono ?_;rintro e w' ⟨rfl,rfl⟩))
    go_ret
    exact ⟨ze HF.out.symm,HB.out _⟩
   have HV:Hid (Gate.qY r.vs=true):=hv
   clear hv
   by_cases h16:r.px.size<=16
   ·have HF:Hid (Gate.zY r=Gate.yV r.px):=by unfold Hid Gate.zY;rw [HKD.out,HV.out,decide_eq_true h16];rfl
    have h16I:(r.px.size:Int)<=16:=by omega
    clear h16
    go_enter Tryz.func153,Tryz.ntmps153
    go_wp2_with (first | (go_at_call_of 140 (Value.string r.tm);refine (zf HT.out (zF r.tm _ hstm)).mono ?_;rintro e w' ⟨rfl,rfl⟩) | (go_at_call 195;refine (zf HV.out (qG _ _ r.vs _ (by exact HI.out _))).mono ?_;rintro e w' ⟨rfl,rfl⟩) | (go_at_call 185;refine (jU r.px _ hspx).mono ?_;rintro e w' ⟨rfl,rfl⟩))
    go_ret
    exact ⟨ze HF.out.symm,HB.out _⟩
   ·have HF:Hid (Gate.zY r=false):=by unfold Hid Gate.zY;rw [decide_eq_false h16];simp
    have h16I:decide ((r.px.size:Int)<=16)=false:=by simp;omega
    clear h16
    go_enter Tryz.func153,Tryz.ntmps153
    go_wp2_with (first | (go_at_call_of 140 (Value.string r.tm);refine (zf HT.out (zF r.tm _ hstm)).mono ?_;rintro e w' ⟨rfl,rfl⟩) | (go_at_call 195;refine (zf HV.out (qG _ _ r.vs _ (by exact HI.out _))).mono ?_;rintro e w' ⟨rfl,rfl⟩))
    go_ret
    exact ⟨ze HF.out.symm,HB.out _⟩
  ·have HF:Hid (Gate.zY r=false):=by unfold Hid Gate.zY Gate.qK;rw [ht,HT.out];simp
   go_enter Tryz.func153,Tryz.ntmps153
   go_wp2_with (first | (go_at_call_of 140 (Value.string r.tm);refine (zf HT.out (zF r.tm _ hstm)).mono ?_;rintro e w' ⟨rfl,rfl⟩))
   go_ret
   exact ⟨ze HF.out.symm,HB.out _⟩
 ·rcases Gate.zc6 r.tm with ht | ⟨ht,HT⟩ | ⟨ht,HT⟩
  ·have HKD:Hid (Gate.qK r=true):=by unfold Hid Gate.qK;rw [HK.out,ht];simp
   by_cases hv:Gate.qY r.vs=true
   rotate_left
   ·have HV:Hid (Gate.qY r.vs=false):=by simpa [Hid] using hv
    have HF:Hid (Gate.zY r=false):=by unfold Hid Gate.zY;rw [HV.out];simp
    clear hv
    go_enter Tryz.func153,Tryz.ntmps153
    go_wp2_with (first | (go_at_call_of 140 (Value.string r.kd);refine (zf HK.out (zF r.kd _ hskd)).mono ?_;rintro e w' ⟨rfl,rfl⟩) | (go_at_call 195;refine (zf HV.out (qG _ _ r.vs _ (by exact HI.out _))).mono ?_;rintro e w' ⟨rfl,rfl⟩))
    go_ret
    exact ⟨ze HF.out.symm,HB.out _⟩
   have HV:Hid (Gate.qY r.vs=true):=hv
   clear hv
   by_cases h16:r.px.size<=16
   ·have HF:Hid (Gate.zY r=Gate.yV r.px):=by unfold Hid Gate.zY;rw [HKD.out,HV.out,decide_eq_true h16];rfl
    have h16I:(r.px.size:Int)<=16:=by omega
    clear h16
    go_enter Tryz.func153,Tryz.ntmps153
    go_wp2_with (first | (go_at_call_of 140 (Value.string r.kd);refine (zf HK.out (zF r.kd _ hskd)).mono ?_;rintro e w' ⟨rfl,rfl⟩) | (go_at_call 195;refine (zf HV.out (qG _ _ r.vs _ (by exact HI.out _))).mono ?_;rintro e w' ⟨rfl,rfl⟩) | (go_at_call 185;refine (jU r.px _ hspx).mono ?_;rintro e w' ⟨rfl,rfl⟩))
    go_ret
    exact ⟨ze HF.out.symm,HB.out _⟩
   ·have HF:Hid (Gate.zY r=false):=by unfold Hid Gate.zY;rw [decide_eq_false h16];simp
    have h16I:decide ((r.px.size:Int)<=16)=false:=by simp;omega
    clear h16
    go_enter Tryz.func153,Tryz.ntmps153
    go_wp2_with (first | (go_at_call_of 140 (Value.string r.kd);refine (zf HK.out (zF r.kd _ hskd)).mono ?_;rintro e w' ⟨rfl,rfl⟩) | (go_at_call 195;refine (zf HV.out (qG _ _ r.vs _ (by exact HI.out _))).mono ?_;rintro e w' ⟨rfl,rfl⟩))
    go_ret
    exact ⟨ze HF.out.symm,HB.out _⟩
  ·have HKD:Hid (Gate.qK r=true):=by unfold Hid Gate.qK;rw [HK.out,HT.out];simp
   by_cases hv:Gate.qY r.vs=true
   rotate_left
   ·have HV:Hid (Gate.qY r.vs=false):=by simpa [Hid] using hv
    have HF:Hid (Gate.zY r=false):=by unfold Hid Gate.zY;rw [HV.out];simp
    clear hv
    go_enter Tryz.func153,Tryz.ntmps153
    go_wp2_with (first | (go_at_call_of 140 (Value.string r.kd);refine (zf HK.out (zF r.kd _ hskd)).mono ?_;rintro e w' ⟨rfl,rfl⟩) | (go_at_call_of 140 (Value.string r.tm);refine (zf HT.out (zF r.tm _ hstm)).mono ?_;rintro e w' ⟨rfl,rfl⟩) | (go_at_call 195;refine (zf HV.out (qG _ _ r.vs _ (by exact HI.out _))).mono ?_;rintro e w' ⟨rfl,rfl⟩))
    go_ret
    exact ⟨ze HF.out.symm,HB.out _⟩
   have HV:Hid (Gate.qY r.vs=true):=hv
   clear hv
   by_cases h16:r.px.size<=16
   ·have HF:Hid (Gate.zY r=Gate.yV r.px):=by unfold Hid Gate.zY;rw [HKD.out,HV.out,decide_eq_true h16];rfl
    have h16I:(r.px.size:Int)<=16:=by omega
    clear h16
    go_enter Tryz.func153,Tryz.ntmps153
    go_wp2_with (first | (go_at_call_of 140 (Value.string r.kd);refine (zf HK.out (zF r.kd _ hskd)).mono ?_;rintro e w' ⟨rfl,rfl⟩) | (go_at_call_of 140 (Value.string r.tm);refine (zf HT.out (zF r.tm _ hstm)).mono ?_;rintro e w' ⟨rfl,rfl⟩) | (go_at_call 195;refine (zf HV.out (qG _ _ r.vs _ (by exact HI.out _))).mono ?_;rintro e w' ⟨rfl,rfl⟩) | (go_at_call 185;refine (jU r.px _ hspx).mono ?_;rintro e w' ⟨rfl,rfl⟩))
    go_ret
    exact ⟨ze HF.out.symm,HB.out _⟩
   ·have HF:Hid (Gate.zY r=false):=by unfold Hid Gate.zY;rw [decide_eq_false h16];simp
    have h16I:decide ((r.px.size:Int)<=16)=false:=by simp;omega
    clear h16
    go_enter Tryz.func153,Tryz.ntmps153
    go_wp2_with (first | (go_at_call_of 140 (Value.string r.kd);refine (zf HK.out (zF r.kd _ hskd)).mono ?_;rintro e w' ⟨rfl,rfl⟩) | (go_at_call_of 140 (Value.string r.tm);refine (zf HT.out (zF r.tm _ hstm)).mono ?_;rintro e w' ⟨rfl,rfl⟩) | (go_at_call 195;refine (zf HV.out (qG _ _ r.vs _ (by exact HI.out _))).mono ?_;rintro e w' ⟨rfl,rfl⟩))
    go_ret
    exact ⟨ze HF.out.symm,HB.out _⟩
  ·have HF:Hid (Gate.zY r=false):=by unfold Hid Gate.zY Gate.qK;rw [ht,HT.out];simp
   go_enter Tryz.func153,Tryz.ntmps153
   go_wp2_with (first | (go_at_call_of 140 (Value.string r.kd);refine (zf HK.out (zF r.kd _ hskd)).mono ?_;rintro e w' ⟨rfl,rfl⟩) | (go_at_call_of 140 (Value.string r.tm);refine (zf HT.out (zF r.tm _ hstm)).mono ?_;rintro e w' ⟨rfl,rfl⟩))
   go_ret
   exact ⟨ze HF.out.symm,HB.out _⟩
 ·have HF:Hid (Gate.zY r=false):=by unfold Hid Gate.zY Gate.qK;rw [hk,HK.out];simp
  go_enter Tryz.func153,Tryz.ntmps153
  go_wp2_with (first | (go_at_call_of 140 (Value.string r.kd);refine (zf HK.out (zF r.kd _ hskd)).mono ?_;rintro e w' ⟨rfl,rfl⟩))
  go_ret
  exact ⟨ze HF.out.symm,HB.out _⟩
theorem zh1 {a b:ByteArray} (h:a=b):Ending.returned (.string a) = .returned (.string b):=by rw [h]
theorem zbe (a:Option Addr) (cap:Nat) (ts:List Tm) (v:ByteArray) (w:World) (hw:jl w a ts) :
 Calls Tryz.prog 123 #[.slice a ts.length cap,.string v] w fun e w'=>e = .returned (.string (Gate.over ts v))/\w'=w:=by
 have hl:=hw.len
 unfold maxLen at hl
 go_enter Tryz.func123,Tryz.ntmps123
 go_wp2_with fail
 go_loop [5] (fun i=>∃ k:Nat,k<=ts.length/\i = .int .i64 k/\Gate.yB (ts.take k) v=false) (fun i=>ts.length - (intOf i).toNat)
 case atStart=>exact ⟨0,Nat.zero_le _,rfl,rfl⟩
 case round =>
  obtain ⟨k,hk,rfl,hall⟩:=hrel
  by_cases hlt:k < ts.length
  ·obtain ⟨b,off,rfl,hb,c0,c1⟩:=hw.load (Below.refl _ _) k hlt
   clear hw
   have HS:Hid (Gate.yB (ts.take (k+1)) v=(false || decide (ts[k].nm=v))):=by rw [Gate.zdu ts v k hlt,hall];rfl
   have hltI:(k:Int) < (ts.length:Int):=by omega
   by_cases he:ts[k].nm=v
   ·have hbe:(ts[k].nm.toList == v.toList)=true:=by rw [Gate.beq_toList];simpa using he
    have HR:Hid (Gate.over ts v=ts[k].ov):=Gate.zkT ts v k hlt hall he
    clear he hall
    go_wp2_with fail
    go_ret
    exact ⟨zh1 HR.out.symm,rfl⟩
   ·have hbe:(ts[k].nm.toList == v.toList)=false:=by rw [Gate.beq_toList];simpa using he
    have HE:Hid (¬ ts[k].nm=v):=he
    clear he hall
    go_wp2_with fail
    go_round
    case rel=>exact ⟨k+1,by omega,by go_num,by rw [HS.out,decide_eq_false HE.out];rfl⟩
    case measure=>simp [intOf];omega
  ·have HR:Hid (Gate.over ts v=ByteArray.empty):=Gate.zgL ts v (by rw [<- Gate.zep ts v k (by omega)];exact hall)
   clear hall hw
   go_wp2_with fail
   go_ret
   exact ⟨zh1 HR.out.symm,rfl⟩
theorem zdy (a:Option Addr) (cap:Nat) (ts:List Tm) (v:ByteArray) (w:World) (hw:jl w a ts) :
 Calls Tryz.prog 188 #[.slice a ts.length cap,.string v] w fun e w'=>e = .returned (.string (Gate.over ts v))/\Below w.heap.size w w':=by
 have hl:=hw.len
 unfold maxLen at hl
 go_enter Tryz.func188,Tryz.ntmps188
 go_wp2_with fail
 go_loopw [9] (fun i wr=>∃ k:Nat,k<=ts.length/\i = .int .i64 k/\Gate.yB (ts.take k) v=false/\Below w.heap.size w wr) (fun i _=>ts.length - (intOf i).toNat)
 case atStart=>exact ⟨0,Nat.zero_le _,rfl,rfl,Below.refl _ _⟩
 case round =>
  obtain ⟨k,hk,rfl,hall,hB⟩:=hrel
  have hsz:=hB.size
  by_cases hlt:k < ts.length
  ·obtain ⟨b,off,rfl,hb,c0,c1⟩:=hw.load hB k hlt
   clear hw
   have HS:Hid (Gate.yB (ts.take (k+1)) v=(false || decide (ts[k].nm=v))):=by rw [Gate.zdu ts v k hlt,hall];rfl
   have hltI:(k:Int) < (ts.length:Int):=by omega
   have hbr:b < wr.heap.size:=by omega
   by_cases he:ts[k].nm=v
   ·have hbe:(ts[k].nm.toList == v.toList)=true:=by rw [Gate.beq_toList];simpa using he
    have HR:Hid (Gate.over ts v=ts[k].ov):=Gate.zkT ts v k hlt hall he
    clear he hall
    go_wp2_with fail
    go_ret
    exact ⟨zh1 HR.out.symm,hB.alloc hsz _⟩
   ·have hbe:(ts[k].nm.toList == v.toList)=false:=by rw [Gate.beq_toList];simpa using he
    have HE:Hid (¬ ts[k].nm=v):=he
    clear he hall
    go_wp2_with fail
    exact ⟨⟨k+1,by omega,by go_num,by rw [HS.out,decide_eq_false HE.out];rfl,hB.alloc hsz _⟩,by simp [intOf];omega⟩
  ·have HR:Hid (Gate.over ts v=ByteArray.empty):=Gate.zgL ts v (by rw [<- Gate.zep ts v k (by omega)];exact hall)
   clear hall hw
   go_wp2_with fail
   go_ret
   exact ⟨zh1 HR.out.symm,hB⟩
theorem zjS (a:Option Addr) (cap:Nat) (ts:List Tm) (x y:ByteArray) (w:World) (hw:jl w a ts) :
 Calls Tryz.prog 131 #[.slice a ts.length cap,.string x,.string y] w fun e w'=>e = .returned (.bool (Gate.under ts 4 x y))/\w'=w:=by
 by_cases hxy:x=y
 ·have HF:Hid (Gate.under ts 4 x y=true):=Gate.zdC ts 4 x y hxy
  have hbe:(x.toList == y.toList)=true:=by rw [Gate.beq_toList];simpa using hxy
  clear hxy
  go_enter Tryz.func131,Tryz.ntmps131
  go_wp2_with fail
  go_ret
  exact ⟨ze HF.out.symm,rfl⟩
 have hbe:(x.toList == y.toList)=false:=by rw [Gate.beq_toList];simpa using hxy
 have HXY:Hid (¬ x=y):=hxy
 clear hxy
 go_enter Tryz.func131,Tryz.ntmps131
 go_wp2_with fail
 go_loop [1,7] (fun p i=>∃ (k:Nat) (z:ByteArray),k<=4/\p = .string z/\i = .int .i64 k/\¬ z=y/\Gate.under ts 4 x y=Gate.under ts (4 - k) z y) (fun _ i=>4 - (intOf i).toNat)
 case atStart=>exact ⟨0,x,Nat.zero_le _,rfl,rfl,HXY.out,rfl⟩
 case round =>
  obtain ⟨k,z,hk,rfl,rfl,hz,hu⟩:=hrel
  have HZ:Hid (¬ z=y/\Gate.under ts 4 x y=Gate.under ts (4 - k) z y):=⟨hz,hu⟩
  clear hz hu hbe
  by_cases hlt:k < 4
  ·have hltI:(k:Int) < 4:=by omega
   obtain ⟨m,hm⟩:∃ m,4 - k=m+1:=⟨3 - k,by omega⟩
   by_cases h0:(Gate.over ts z).size=0
   ·have HF:Hid (Gate.under ts 4 x y=false):=by rw [HZ.out.2,hm];exact Gate.ziY ts m HZ.out.1 h0
    have h0':(Gate.over ts z).toList.isEmpty=true:=by rw [Gate.zu];simpa using h0
    clear h0 hm
    go_wp2_with (go_at_call 123;refine (zbe _ _ _ _ _ hw).mono ?_;rintro e w' ⟨rfl,rfl⟩)
    go_ret
    exact ⟨ze HF.out.symm,rfl⟩
   ·have HO:Hid (Gate.under ts 4 x y=Gate.under ts m (Gate.over ts z) y):=by rw [Hid,HZ.out.2,hm];exact Gate.zlZ ts m HZ.out.1 h0
    have h0':(Gate.over ts z).toList.isEmpty=false:=by rw [Gate.zu];simpa using h0
    clear h0
    by_cases hy:Gate.over ts z=y
    ·have HF:Hid (Gate.under ts 4 x y=true):=by rw [Hid,HO.out];exact Gate.zdC ts m _ _ hy
     have hy':((Gate.over ts z).toList == y.toList)=true:=by rw [Gate.beq_toList];simpa using hy
     clear hy
     go_wp2_with (go_at_call 123;refine (zbe _ _ _ _ _ hw).mono ?_;rintro e w' ⟨rfl,rfl⟩)
     go_ret
     exact ⟨ze HF.out.symm,rfl⟩
    ·have hy':((Gate.over ts z).toList == y.toList)=false:=by rw [Gate.beq_toList];simpa using hy
     have HY:Hid (¬ Gate.over ts z=y):=hy
     clear hy
     go_wp2_with (go_at_call 123;refine (zbe _ _ _ _ _ hw).mono ?_;rintro e w' ⟨rfl,rfl⟩)
     go_round
     case rel=>exact ⟨k+1,Gate.over ts z,by omega,rfl,by go_num,HY.out,by rw [HO.out,show 4 - (k+1)=m by omega]⟩
     case measure=>simp [intOf];omega
  ·have HF:Hid (Gate.under ts 4 x y=false):=by
    have e:4 - k=0:=by omega
    rw [Hid,HZ.out.2,e];exact Gate.zj4 ts HZ.out.1
   go_wp2_with fail
   go_ret
   exact ⟨ze HF.out.symm,rfl⟩
theorem zjI (a:Option Addr) (cap:Nat) (ts:List Tm) (x y:ByteArray) (w:World) (hw:jl w a ts) :
 Calls Tryz.prog 214 #[.slice a ts.length cap,.string x,.string y] w fun e w'=>e = .returned (.bool (Gate.under ts 4 x y))/\Below w.heap.size w w':=by
 by_cases hxy:x=y
 ·have HF:Hid (Gate.under ts 4 x y=true):=Gate.zdC ts 4 x y hxy
  have hbe:(x.toList == y.toList)=true:=by rw [Gate.beq_toList];simpa using hxy
  clear hxy
  go_enter Tryz.func214,Tryz.ntmps214
  go_wp2_with fail
  go_ret
  exact ⟨ze HF.out.symm,Below.refl _ _⟩
 have hbe:(x.toList == y.toList)=false:=by rw [Gate.beq_toList];simpa using hxy
 have HXY:Hid (¬ x=y):=hxy
 clear hxy
 go_enter Tryz.func214,Tryz.ntmps214
 go_wp2_with fail
 go_loopw [1,10] (fun p i wr=>∃ (k:Nat) (z:ByteArray),k<=4/\p = .string z/\i = .int .i64 k/\¬ z=y/\Gate.under ts 4 x y=Gate.under ts (4 - k) z y/\Below w.heap.size w wr) (fun _ i _=>4 - (intOf i).toNat)
 case atStart=>exact ⟨0,x,Nat.zero_le _,rfl,rfl,HXY.out,rfl,Below.refl _ _⟩
 case round =>
  obtain ⟨k,z,hk,rfl,rfl,hz,hu,hB⟩:=hrel
  have HZ:Hid (¬ z=y/\Gate.under ts 4 x y=Gate.under ts (4 - k) z y):=⟨hz,hu⟩
  clear hz hu hbe
  by_cases hlt:k < 4
  ·have hltI:(k:Int) < 4:=by omega
   obtain ⟨m,hm⟩:∃ m,4 - k=m+1:=⟨3 - k,by omega⟩
   by_cases h0:(Gate.over ts z).size=0
   ·have HF:Hid (Gate.under ts 4 x y=false):=by rw [HZ.out.2,hm];exact Gate.ziY ts m HZ.out.1 h0
    have h0':(Gate.over ts z).toList.isEmpty=true:=by rw [Gate.zu];simpa using h0
    clear h0 hm
    go_wp2_with fail
    refine (zdy _ _ _ _ _ (hw.mono hB)).mono ?_
    rintro e w1 ⟨rfl,hb1⟩
    have hB1:=hB.trans (hb1.mono hB.size)
    clear hb1
    go_wp2_with fail
    go_ret
    exact ⟨ze HF.out.symm,hB1⟩
   ·have HO:Hid (Gate.under ts 4 x y=Gate.under ts m (Gate.over ts z) y):=by rw [Hid,HZ.out.2,hm];exact Gate.zlZ ts m HZ.out.1 h0
    have h0':(Gate.over ts z).toList.isEmpty=false:=by rw [Gate.zu];simpa using h0
    clear h0
    by_cases hy:Gate.over ts z=y
    ·have HF:Hid (Gate.under ts 4 x y=true):=by rw [Hid,HO.out];exact Gate.zdC ts m _ _ hy
     have hy':((Gate.over ts z).toList == y.toList)=true:=by rw [Gate.beq_toList];simpa using hy
     clear hy
     go_wp2_with fail
     refine (zdy _ _ _ _ _ (hw.mono hB)).mono ?_
     rintro e w1 ⟨rfl,hb1⟩
     have hB1:=hB.trans (hb1.mono hB.size)
     clear hb1
     go_wp2_with fail
     go_ret
     exact ⟨ze HF.out.symm,hB1⟩
    ·have hy':((Gate.over ts z).toList == y.toList)=false:=by rw [Gate.beq_toList];simpa using hy
     have HY:Hid (¬ Gate.over ts z=y):=hy
     clear hy
     go_wp2_with fail
     refine (zdy _ _ _ _ _ (hw.mono hB)).mono ?_
     rintro e w1 ⟨rfl,hb1⟩
     have hB1:=hB.trans (hb1.mono hB.size)
     clear hb1
     go_wp2_with fail
     exact ⟨⟨k+1,Gate.over ts z,by omega,rfl,by go_num,HY.out,by rw [HO.out,show 4 - (k+1)=m by omega],hB1⟩,by simp [intOf];omega⟩
  ·have HF:Hid (Gate.under ts 4 x y=false):=by
    have e:4 - k=0:=by omega
    rw [Hid,HZ.out.2,e];exact Gate.zj4 ts HZ.out.1
   go_wp2_with fail
   go_ret
   exact ⟨ze HF.out.symm,hB⟩
end Go.Proofs.YtihdafafigceiaaGreat
