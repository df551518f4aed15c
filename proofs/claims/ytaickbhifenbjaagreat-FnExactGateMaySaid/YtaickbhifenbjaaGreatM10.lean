import Derived.Test.YtaickbhifenbjaaGreatM07
import Derived.Test.YtaickbhifenbjaaGreatM09
import Derived.Test.YtaickbhifenbjaaGreatM05
set_option maxHeartbeats 2000000
namespace Go.Proofs.YtaickbhifenbjaaGreat
open Go.RowKit
theorem zbc (v:Int) (w:World) :
 Calls Tryz.prog 109 #[.int .i64 v] w fun e w'=>e = .returned (.bool (Gate.q9 v))/\w'=w:=by
 go_enter Tryz.func109,Tryz.ntmps109
 go_wp2
 all_goals
  go_ret
  refine ⟨ze ?_,rfl⟩
  rw [Bool.eq_iff_iff];simp [Gate.q9];try omega
theorem Gate.zdd {vs:List Int} {k:Nat} (h:k < vs.length) (hn:Gate.q9 vs[k]=false):Gate.y9 vs k=false:=by
 unfold Gate.y9;rw [Gate.getD_at vs k _ h,hn];rfl
theorem Gate.zbn {vs:List Int} (h:0 < vs.length) (hn:Gate.q9 vs[0]=true):Gate.y9 vs 0=true:=by
 unfold Gate.y9;rw [Gate.getD_at vs 0 _ h,hn];rfl
theorem Gate.zgO {vs:List Int} {k:Nat} (h:k+1 < vs.length) (hn:Gate.q9 vs[k+1]=true):Gate.y9 vs (k+1)=decide (vs[k] < vs[k+1]):=by
 unfold Gate.y9;rw [Gate.getD_at vs (k+1) _ h,Nat.add_sub_cancel,Gate.getD_at vs k _ (by omega),hn];simp
theorem qH (a:Option Addr) (cap:Nat) (vs:List Int) (w:World) (hw:yJ w a vs) :
 Calls Tryz.prog 193 #[.slice a vs.length cap] w fun e w'=>e = .returned (.bool (Gate.yQ vs))/\w'=w:=by
 have hl:=hw.len
 unfold maxLen at hl
 have HG:Hid (Gate.up (Gate.y9 vs) vs.length=false->Gate.yQ vs=false):=fun h=>by unfold Gate.yQ;rw [h,Bool.and_false]
 go_enter Tryz.func193,Tryz.ntmps193
 go_wp2_with fail
 go_loop [7] (fun i=>∃ k:Nat,k<=vs.length/\i = .int .i64 k/\Gate.up (Gate.y9 vs) k=true) (fun i=>vs.length - (intOf i).toNat)
 case atStart=>exact ⟨0,Nat.zero_le _,rfl,rfl⟩
 case round =>
  obtain ⟨k,hk,rfl,hup⟩:=hrel
  by_cases hlt:k < vs.length
  ·obtain ⟨b,off,rfl,hb,hck⟩:=hw.load (Below.refl _ _) k hlt
   have hltI:(k:Int) < (vs.length:Int):=by omega
   by_cases hn:Gate.q9 vs[k]=true
   ·by_cases hk0:k=0
    ·have HF:Hid (Gate.up (Gate.y9 vs) (k+1)=true):=by subst hk0;unfold Hid;rw [Gate.jc,Gate.zbn hlt hn];rfl
     have hg:decide (0 < k)=false:=by simp;omega
     have HN:Hid (Gate.q9 vs[k]=true):=hn
     clear hn hup hk0 hw
     go_wp2_with (go_at_call 109;refine (zf HN.out (zbc _ _)).mono ?_;rintro e w' ⟨rfl,rfl⟩)
     go_round
     case rel=>exact ⟨k+1,by omega,by go_num,HF.out⟩
     case measure=>simp [intOf];omega
    ·obtain ⟨m,rfl⟩:∃ m,k=m+1:=⟨k - 1,by omega⟩
     obtain ⟨b',off',e',hb',hcm⟩:=hw.load (Below.refl _ _) m (by omega)
     simp only [Option.some.injEq,Addr.mk.injEq] at e'
     obtain ⟨rfl,rfl,_⟩:=e'
     have HU:Hid (Gate.up (Gate.y9 vs) (m+1+1)=decide (vs[m] < vs[m+1])):=by unfold Hid;rw [Gate.jc,hup,Gate.zgO hlt hn];rfl
     have HNN:Hid (¬ vs[m] < vs[m+1]->Gate.yQ vs=false):=fun h=>HG.out (Gate.zaw hlt (by rw [Gate.zgO hlt hn];simpa using h))
     have HN:Hid (Gate.q9 vs[m+1]=true):=hn
     clear hn hup hk0 hw
     by_cases hls:vs[m] < vs[m+1]
     ·have hls':decide (vs[m+1]<=vs[m])=false:=by simp;omega
      have HLS:Hid (vs[m] < vs[m+1]):=hls
      clear hls
      go_wp2_with (go_at_call 109;refine (zf HN.out (zbc _ _)).mono ?_;rintro e w' ⟨rfl,rfl⟩)
      go_round
      case rel=>exact ⟨m+1+1,by omega,by go_num,by rw [HU.out];simpa using HLS.out⟩
      case measure=>simp [intOf];omega
     ·have hls':vs[m+1]<=vs[m]:=by omega
      have HLS:Hid (¬ vs[m] < vs[m+1]):=hls
      clear hls
      go_wp2_with (go_at_call 109;refine (zf HN.out (zbc _ _)).mono ?_;rintro e w' ⟨rfl,rfl⟩)
      go_ret
      exact ⟨ze (HNN.out HLS.out).symm,rfl⟩
   ·have hn':Gate.q9 vs[k]=false:=by simpa using hn
    have HF:Hid (Gate.yQ vs=false):=HG.out (Gate.zaw hlt (Gate.zdd hlt hn'))
    have HN:Hid (Gate.q9 vs[k]=false):=hn'
    clear hn hn' hup hw
    go_wp2_with (go_at_call 109;refine (zf HN.out (zbc _ _)).mono ?_;rintro e w' ⟨rfl,rfl⟩)
    go_ret
    exact ⟨ze HF.out.symm,rfl⟩
  ·have HF:Hid (Gate.yQ vs=decide (0 < vs.length)):=by
    have e:k=vs.length:=by omega
    subst e;unfold Hid Gate.yQ;rw [hup,Bool.and_true]
   clear hw hup
   go_wp2_with fail
   go_ret
   exact ⟨ze (by rw [HF.out]),rfl⟩
theorem Gate.zdb (s:ByteArray):s.toList.isEmpty=true \/ (s.toList.isEmpty=false/\Hid (Gate.zx s=true)) \/ (s.toList.isEmpty=false/\Hid (Gate.zx s=false)):=by
 by_cases h:s.toList.isEmpty=true
 ·exact Or.inl h
 ·by_cases h2:Gate.zx s=true
  ·exact Or.inr (Or.inl ⟨by simpa using h,h2⟩)
  ·exact Or.inr (Or.inr ⟨by simpa using h,by simpa [Hid] using h2⟩)
theorem zmK (r:Rl) (a:Option Addr) (cap:Nat) (w:World) (hm:r.Small) (hw:yJ w a r.vs) :
 Calls Tryz.prog 147 #[.agg (r.cells a cap)] w fun e w'=>e = .returned (.bool (Gate.zW r))/\Below w.heap.size w w':=by
 have hskd:=hm.kd
 have hstm:=hm.tm
 have hspx:=hm.px
 have hpx:=hm.px
 unfold maxLen at hpx
 unfold Rl.cells
 have HB:Hid (∀ ob,Below w.heap.size w (w.alloc ob)):=fun ob=>(Below.refl _ _).alloc (Nat.le_refl _) _
 have HI:Hid (∀ ob,yJ (w.alloc ob) a r.vs):=fun ob=>hw.mono (HB.out ob)
 clear hw hm
 rcases Gate.zdb r.kd with hk | ⟨hk,HK⟩ | ⟨hk,HK⟩
 ·rcases Gate.zdb r.tm with ht | ⟨ht,HT⟩ | ⟨ht,HT⟩
  ·have HKD:Hid (Gate.qM r=true):=by unfold Hid Gate.qM;rw [hk,ht];simp
   by_cases hv:Gate.yQ r.vs=true
   rotate_left
   ·have HV:Hid (Gate.yQ r.vs=false):=by simpa [Hid] using hv
    have HF:Hid (Gate.zW r=false):=by unfold Hid Gate.zW;rw [HV.out];simp
    clear hv
    go_enter Tryz.func147,Tryz.ntmps147
    go_wp2_with (first | (go_at_call 193;refine (zf HV.out (qH _ _ r.vs _ (by exact HI.out _))).mono ?_;rintro e w' ⟨rfl,rfl⟩))
    go_ret
    exact ⟨ze HF.out.symm,HB.out _⟩
   have HV:Hid (Gate.yQ r.vs=true):=hv
   clear hv
   by_cases h16:r.px.size<=16
   ·have HF:Hid (Gate.zW r=Gate.y5 r.px):=by unfold Hid Gate.zW;rw [HKD.out,HV.out,decide_eq_true h16];rfl
    have h16I:(r.px.size:Int)<=16:=by omega
    clear h16
    go_enter Tryz.func147,Tryz.ntmps147
    go_wp2_with (first | (go_at_call 193;refine (zf HV.out (qH _ _ r.vs _ (by exact HI.out _))).mono ?_;rintro e w' ⟨rfl,rfl⟩) | (go_at_call 181;refine (jP r.px _ hspx).mono ?_;rintro e w' ⟨rfl,rfl⟩))
    go_ret
    exact ⟨ze HF.out.symm,HB.out _⟩
   ·have HF:Hid (Gate.zW r=false):=by unfold Hid Gate.zW;rw [decide_eq_false h16];simp
    have h16I:decide ((r.px.size:Int)<=16)=false:=by simp;omega
    clear h16
    go_enter Tryz.func147,Tryz.ntmps147
    go_wp2_with (first | (go_at_call 193;refine (zf HV.out (qH _ _ r.vs _ (by exact HI.out _))).mono ?_;rintro e w' ⟨rfl,rfl⟩))
    go_ret
    exact ⟨ze HF.out.symm,HB.out _⟩
  ·have HKD:Hid (Gate.qM r=true):=by unfold Hid Gate.qM;rw [hk,HT.out];simp
   by_cases hv:Gate.yQ r.vs=true
   rotate_left
   ·have HV:Hid (Gate.yQ r.vs=false):=by simpa [Hid] using hv
    have HF:Hid (Gate.zW r=false):=by unfold Hid Gate.zW;rw [HV.out];simp
    clear hv
    go_enter Tryz.func147,Tryz.ntmps147
    go_wp2_with (first | (go_at_call_of 134 (Value.string r.tm);refine (zf HT.out (zG r.tm _ hstm)).mono ?_;rintro e w' ⟨rfl,rfl⟩) | (go_at_call 193;refine (zf HV.out (qH _ _ r.vs _ (by exact HI.out _))).mono ?_;rintro e w' ⟨rfl,rfl⟩))
    go_ret
    exact ⟨ze HF.out.symm,HB.out _⟩
   have HV:Hid (Gate.yQ r.vs=true):=hv
   clear hv
   by_cases h16:r.px.size<=16
   ·have HF:Hid (Gate.zW r=Gate.y5 r.px):=by unfold Hid Gate.zW;rw [HKD.out,HV.out,decide_eq_true h16];rfl
    have h16I:(r.px.size:Int)<=16:=by omega
    clear h16
    go_enter Tryz.func147,Tryz.ntmps147
    go_wp2_with (first | (go_at_call_of 134 (Value.string r.tm);refine (zf HT.out (zG r.tm _ hstm)).mono ?_;rintro e w' ⟨rfl,rfl⟩) | (go_at_call 193;refine (zf HV.out (qH _ _ r.vs _ (by exact HI.out _))).mono ?_;rintro e w' ⟨rfl,rfl⟩) | (go_at_call 181;refine (jP r.px _ hspx).mono ?_;rintro e w' ⟨rfl,rfl⟩))
    go_ret
    exact ⟨ze HF.out.symm,HB.out _⟩
   ·have HF:Hid (Gate.zW r=false):=by unfold Hid Gate.zW;rw [decide_eq_false h16];simp
    have h16I:decide ((r.px.size:Int)<=16)=false:=by simp;omega
    clear h16
    go_enter Tryz.func147,Tryz.ntmps147
    go_wp2_with (first | (go_at_call_of 134 (Value.string r.tm);refine (zf HT.out (zG r.tm _ hstm)).mono ?_;rintro e w' ⟨rfl,rfl⟩) | (go_at_call 193;refine (zf HV.out (qH _ _ r.vs _ (by exact HI.out _))).mono ?_;rintro e w' ⟨rfl,rfl⟩))
    go_ret
    exact ⟨ze HF.out.symm,HB.out _⟩
  ·have HF:Hid (Gate.zW r=false):=by unfold Hid Gate.zW Gate.qM;rw [ht,HT.out];simp
   go_enter Tryz.func147,Tryz.ntmps147
   go_wp2_with (first | (go_at_call_of 134 (Value.string r.tm);refine (zf HT.out (zG r.tm _ hstm)).mono ?_;rintro e w' ⟨rfl,rfl⟩))
   go_ret
   exact ⟨ze HF.out.symm,HB.out _⟩
 ·rcases Gate.zdb r.tm with ht | ⟨ht,HT⟩ | ⟨ht,HT⟩
  ·have HKD:Hid (Gate.qM r=true):=by unfold Hid Gate.qM;rw [HK.out,ht];simp
   by_cases hv:Gate.yQ r.vs=true
   rotate_left
   ·have HV:Hid (Gate.yQ r.vs=false):=by simpa [Hid] using hv
    have HF:Hid (Gate.zW r=false):=by unfold Hid Gate.zW;rw [HV.out];simp
    clear hv
    go_enter Tryz.func147,Tryz.ntmps147
    go_wp2_with (first | (go_at_call_of 134 (Value.string r.kd);refine (zf HK.out (zG r.kd _ hskd)).mono ?_;rintro e w' ⟨rfl,rfl⟩) | (go_at_call 193;refine (zf HV.out (qH _ _ r.vs _ (by exact HI.out _))).mono ?_;rintro e w' ⟨rfl,rfl⟩))
    go_ret
    exact ⟨ze HF.out.symm,HB.out _⟩
   have HV:Hid (Gate.yQ r.vs=true):=hv
   clear hv
   by_cases h16:r.px.size<=16
   ·have HF:Hid (Gate.zW r=Gate.y5 r.px):=by unfold Hid Gate.zW;rw [HKD.out,HV.out,decide_eq_true h16];rfl
    have h16I:(r.px.size:Int)<=16:=by omega
    clear h16
    go_enter Tryz.func147,Tryz.ntmps147
    go_wp2_with (first | (go_at_call_of 134 (Value.string r.kd);refine (zf HK.out (zG r.kd _ hskd)).mono ?_;rintro e w' ⟨rfl,rfl⟩) | (go_at_call 193;refine (zf HV.out (qH _ _ r.vs _ (by exact HI.out _))).mono ?_;rintro e w' ⟨rfl,rfl⟩) | (go_at_call 181;refine (jP r.px _ hspx).mono ?_;rintro e w' ⟨rfl,rfl⟩))
    go_ret
    exact ⟨ze HF.out.symm,HB.out _⟩
   ·have HF:Hid (Gate.zW r=false):=by unfold Hid Gate.zW;rw [decide_eq_false h16];simp
    have h16I:decide ((r.px.size:Int)<=16)=false:=by simp;omega
    clear h16
    go_enter Tryz.func147,Tryz.ntmps147
    go_wp2_with (first | (go_at_call_of 134 (Value.string r.kd);refine (zf HK.out (zG r.kd _ hskd)).mono ?_;rintro e w' ⟨rfl,rfl⟩) | (go_at_call 193;refine (zf HV.out (qH _ _ r.vs _ (by exact HI.out _))).mono ?_;rintro e w' ⟨rfl,rfl⟩))
    go_ret
    exact ⟨ze HF.out.symm,HB.out _⟩
  ·have HKD:Hid (Gate.qM r=true):=by unfold Hid Gate.qM;rw [HK.out,HT.out];simp
   by_cases hv:Gate.yQ r.vs=true
   rotate_left
   ·have HV:Hid (Gate.yQ r.vs=false):=by simpa [Hid] using hv
    have HF:Hid (Gate.zW r=false):=by unfold Hid Gate.zW;rw [HV.out];simp
    clear hv
    go_enter Tryz.func147,Tryz.ntmps147
    go_wp2_with (first | (go_at_call_of 134 (Value.string r.kd);refine (zf HK.out (zG r.kd _ hskd)).mono ?_;rintro e w' ⟨rfl,rfl⟩) | (go_at_call_of 134 (Value.string r.tm);refine (zf HT.out (zG r.tm _ hstm)).mono ?_;rintro e w' ⟨rfl,rfl⟩) | (go_at_call 193;refine (zf HV.out (qH _ _ r.vs _ (by exact HI.out _))).mono ?_;rintro e w' ⟨rfl,rfl⟩))
    go_ret
    exact ⟨ze HF.out.symm,HB.out _⟩
   have HV:Hid (Gate.yQ r.vs=true):=hv
   clear hv
   by_cases h16:r.px.size<=16
   ·have HF:Hid (Gate.zW r=Gate.y5 r.px):=by unfold Hid Gate.zW;rw [HKD.out,HV.out,decide_eq_true h16];rfl
    have h16I:(r.px.size:Int)<=16:=by omega
    clear h16
    go_enter Tryz.func147,Tryz.ntmps147
    go_wp2_with (first | (go_at_call_of 134 (Value.string r.kd);refine (zf HK.out (zG r.kd _ hskd)).mono ?_;rintro e w' ⟨rfl,rfl⟩) | (go_at_call_of 134 (Value.string r.tm);refine (zf HT.out (zG r.tm _ hstm)).mono ?_;rintro e w' ⟨rfl,rfl⟩) | (go_at_call 193;refine (zf HV.out (qH _ _ r.vs _ (by exact HI.out _))).mono ?_;rintro e w' ⟨rfl,rfl⟩) | (go_at_call 181;refine (jP r.px _ hspx).mono ?_;rintro e w' ⟨rfl,rfl⟩))
    go_ret
    exact ⟨ze HF.out.symm,HB.out _⟩
   ·have HF:Hid (Gate.zW r=false):=by unfold Hid Gate.zW;rw [decide_eq_false h16];simp
    have h16I:decide ((r.px.size:Int)<=16)=false:=by simp;omega
    clear h16
    go_enter Tryz.func147,Tryz.ntmps147
    go_wp2_with (first | (go_at_call_of 134 (Value.string r.kd);refine (zf HK.out (zG r.kd _ hskd)).mono ?_;rintro e w' ⟨rfl,rfl⟩) | (go_at_call_of 134 (Value.string r.tm);refine (zf HT.out (zG r.tm _ hstm)).mono ?_;rintro e w' ⟨rfl,rfl⟩) | (go_at_call 193;refine (zf HV.out (qH _ _ r.vs _ (by exact HI.out _))).mono ?_;rintro e w' ⟨rfl,rfl⟩))
    go_ret
    exact ⟨ze HF.out.symm,HB.out _⟩
  ·have HF:Hid (Gate.zW r=false):=by unfold Hid Gate.zW Gate.qM;rw [ht,HT.out];simp
   go_enter Tryz.func147,Tryz.ntmps147
   go_wp2_with (first | (go_at_call_of 134 (Value.string r.kd);refine (zf HK.out (zG r.kd _ hskd)).mono ?_;rintro e w' ⟨rfl,rfl⟩) | (go_at_call_of 134 (Value.string r.tm);refine (zf HT.out (zG r.tm _ hstm)).mono ?_;rintro e w' ⟨rfl,rfl⟩))
   go_ret
   exact ⟨ze HF.out.symm,HB.out _⟩
 ·have HF:Hid (Gate.zW r=false):=by unfold Hid Gate.zW Gate.qM;rw [hk,HK.out];simp
  go_enter Tryz.func147,Tryz.ntmps147
  go_wp2_with (first | (go_at_call_of 134 (Value.string r.kd);refine (zf HK.out (zG r.kd _ hskd)).mono ?_;rintro e w' ⟨rfl,rfl⟩))
  go_ret
  exact ⟨ze HF.out.symm,HB.out _⟩
theorem zhE {a b:ByteArray} (h:a=b):Ending.returned (.string a) = .returned (.string b):=by rw [h]
theorem za8 (a:Option Addr) (cap:Nat) (ts:List Tm) (v:ByteArray) (w:World) (hw:qJ w a ts) :
 Calls Tryz.prog 118 #[.slice a ts.length cap,.string v] w fun e w'=>e = .returned (.string (Gate.over ts v))/\w'=w:=by
 have hl:=hw.len
 unfold maxLen at hl
 go_enter Tryz.func118,Tryz.ntmps118
 go_wp2_with fail
 go_loop [5] (fun i=>∃ k:Nat,k<=ts.length/\i = .int .i64 k/\Gate.yC (ts.take k) v=false) (fun i=>ts.length - (intOf i).toNat)
 case atStart=>exact ⟨0,Nat.zero_le _,rfl,rfl⟩
 case round =>
  obtain ⟨k,hk,rfl,hall⟩:=hrel
  by_cases hlt:k < ts.length
  ·obtain ⟨b,off,rfl,hb,c0,c1⟩:=hw.load (Below.refl _ _) k hlt
   clear hw
   have HS:Hid (Gate.yC (ts.take (k+1)) v=(false || decide (ts[k].nm=v))):=by rw [Gate.zds ts v k hlt,hall];rfl
   have hltI:(k:Int) < (ts.length:Int):=by omega
   by_cases he:ts[k].nm=v
   ·have hbe:(ts[k].nm.toList == v.toList)=true:=by rw [Gate.beq_toList];simpa using he
    have HR:Hid (Gate.over ts v=ts[k].ov):=Gate.zkj ts v k hlt hall he
    clear he hall
    go_wp2_with fail
    go_ret
    exact ⟨zhE HR.out.symm,rfl⟩
   ·have hbe:(ts[k].nm.toList == v.toList)=false:=by rw [Gate.beq_toList];simpa using he
    have HE:Hid (¬ ts[k].nm=v):=he
    clear he hall
    go_wp2_with fail
    go_round
    case rel=>exact ⟨k+1,by omega,by go_num,by rw [HS.out,decide_eq_false HE.out];rfl⟩
    case measure=>simp [intOf];omega
  ·have HR:Hid (Gate.over ts v=ByteArray.empty):=Gate.zgc ts v (by rw [<- Gate.zec ts v k (by omega)];exact hall)
   clear hall hw
   go_wp2_with fail
   go_ret
   exact ⟨zhE HR.out.symm,rfl⟩
theorem zdy (a:Option Addr) (cap:Nat) (ts:List Tm) (v:ByteArray) (w:World) (hw:qJ w a ts) :
 Calls Tryz.prog 184 #[.slice a ts.length cap,.string v] w fun e w'=>e = .returned (.string (Gate.over ts v))/\Below w.heap.size w w':=by
 have hl:=hw.len
 unfold maxLen at hl
 go_enter Tryz.func184,Tryz.ntmps184
 go_wp2_with fail
 go_loopw [9] (fun i wr=>∃ k:Nat,k<=ts.length/\i = .int .i64 k/\Gate.yC (ts.take k) v=false/\Below w.heap.size w wr) (fun i _=>ts.length - (intOf i).toNat)
 case atStart=>exact ⟨0,Nat.zero_le _,rfl,rfl,Below.refl _ _⟩
 case round =>
  obtain ⟨k,hk,rfl,hall,hB⟩:=hrel
  have hsz:=hB.size
  by_cases hlt:k < ts.length
  ·obtain ⟨b,off,rfl,hb,c0,c1⟩:=hw.load hB k hlt
   clear hw
   have HS:Hid (Gate.yC (ts.take (k+1)) v=(false || decide (ts[k].nm=v))):=by rw [Gate.zds ts v k hlt,hall];rfl
   have hltI:(k:Int) < (ts.length:Int):=by omega
   have hbr:b < wr.heap.size:=by omega
   by_cases he:ts[k].nm=v
   ·have hbe:(ts[k].nm.toList == v.toList)=true:=by rw [Gate.beq_toList];simpa using he
    have HR:Hid (Gate.over ts v=ts[k].ov):=Gate.zkj ts v k hlt hall he
    clear he hall
    go_wp2_with fail
    go_ret
    exact ⟨zhE HR.out.symm,hB.alloc hsz _⟩
   ·have hbe:(ts[k].nm.toList == v.toList)=false:=by rw [Gate.beq_toList];simpa using he
    have HE:Hid (¬ ts[k].nm=v):=he
    clear he hall
    go_wp2_with fail
    exact ⟨⟨k+1,by omega,by go_num,by rw [HS.out,decide_eq_false HE.out];rfl,hB.alloc hsz _⟩,by simp [intOf];omega⟩
  ·have HR:Hid (Gate.over ts v=ByteArray.empty):=Gate.zgc ts v (by rw [<- Gate.zec ts v k (by omega)];exact hall)
   clear hall hw
   go_wp2_with fail
   go_ret
   exact ⟨zhE HR.out.symm,hB⟩
theorem zaO (a:Option Addr) (cap:Nat) (ts:List Tm) (x y:ByteArray) (w:World) (hw:qJ w a ts) :
 Calls Tryz.prog 93 #[.slice a ts.length cap,.string x,.string y] w fun e w'=>e = .returned (.bool (Gate.under ts 4 x y))/\w'=w:=by
 by_cases hxy:x=y
 ·have HF:Hid (Gate.under ts 4 x y=true):=Gate.zdB ts 4 x y hxy
  have hbe:(x.toList == y.toList)=true:=by rw [Gate.beq_toList];simpa using hxy
  clear hxy
  go_enter Tryz.func93,Tryz.ntmps93
  go_wp2_with fail
  go_ret
  exact ⟨ze HF.out.symm,rfl⟩
 have hbe:(x.toList == y.toList)=false:=by rw [Gate.beq_toList];simpa using hxy
 have HXY:Hid (¬ x=y):=hxy
 clear hxy
 go_enter Tryz.func93,Tryz.ntmps93
 go_wp2_with fail
 go_loop [1,7] (fun p i=>∃ (k:Nat) (z:ByteArray),k<=4/\p = .string z/\i = .int .i64 k/\¬ z=y/\Gate.under ts 4 x y=Gate.under ts (4 - k) z y) (fun _ i=>4 - (intOf i).toNat)
 case atStart=>exact ⟨0,x,Nat.zero_le _,rfl,rfl,HXY.out,rfl⟩
 case round =>
  obtain ⟨k,z,hk,rfl,rfl,hz,hu⟩:=hrel
  have HZ:Hid (¬ z=y/\Gate.under ts 4 x y=Gate.under ts (4 - k) z y):=⟨hz,hu⟩
  clear hz hu hbe
  by_cases hlt:k < 4
  ·have hltI:(k:Int) < 4:=by omega
   obtain ⟨m,hm⟩:∃ m,4 - k=m+1:=⟨3 - k,by omega⟩
   by_cases h0:(Gate.over ts z).size=0
   ·have HF:Hid (Gate.under ts 4 x y=false):=by rw [HZ.out.2,hm];exact Gate.zhH ts m HZ.out.1 h0
    have h0':(Gate.over ts z).toList.isEmpty=true:=by rw [Gate.zq];simpa using h0
    clear h0 hm
    go_wp2_with (go_at_call 118;refine (za8 _ _ _ _ _ hw).mono ?_;rintro e w' ⟨rfl,rfl⟩)
    go_ret
    exact ⟨ze HF.out.symm,rfl⟩
   ·have HO:Hid (Gate.under ts 4 x y=Gate.under ts m (Gate.over ts z) y):=by rw [Hid,HZ.out.2,hm];exact Gate.zlj ts m HZ.out.1 h0
    have h0':(Gate.over ts z).toList.isEmpty=false:=by rw [Gate.zq];simpa using h0
    clear h0
    by_cases hy:Gate.over ts z=y
    ·have HF:Hid (Gate.under ts 4 x y=true):=by rw [Hid,HO.out];exact Gate.zdB ts m _ _ hy
     have hy':((Gate.over ts z).toList == y.toList)=true:=by rw [Gate.beq_toList];simpa using hy
     clear hy
     go_wp2_with (go_at_call 118;refine (za8 _ _ _ _ _ hw).mono ?_;rintro e w' ⟨rfl,rfl⟩)
     go_ret
     exact ⟨ze HF.out.symm,rfl⟩
    ·have hy':((Gate.over ts z).toList == y.toList)=false:=by rw [Gate.beq_toList];simpa using hy
     have HY:Hid (¬ Gate.over ts z=y):=hy
     clear hy
     go_wp2_with (go_at_call 118;refine (za8 _ _ _ _ _ hw).mono ?_;rintro e w' ⟨rfl,rfl⟩)
     go_round
     case rel=>exact ⟨k+1,Gate.over ts z,by omega,rfl,by go_num,HY.out,by rw [HO.out,show 4 - (k+1)=m by omega]⟩
     case measure=>simp [intOf];omega
  ·have HF:Hid (Gate.under ts 4 x y=false):=by
    have e:4 - k=0:=by omega
    rw [Hid,HZ.out.2,e];exact Gate.zjt ts HZ.out.1
   go_wp2_with fail
   go_ret
   exact ⟨ze HF.out.symm,rfl⟩
theorem jR (a:Option Addr) (cap:Nat) (ts:List Tm) (x y:ByteArray) (w:World) (hw:qJ w a ts) :
 Calls Tryz.prog 157 #[.slice a ts.length cap,.string x,.string y] w fun e w'=>e = .returned (.bool (Gate.under ts 4 x y))/\Below w.heap.size w w':=by
 by_cases hxy:x=y
 ·have HF:Hid (Gate.under ts 4 x y=true):=Gate.zdB ts 4 x y hxy
  have hbe:(x.toList == y.toList)=true:=by rw [Gate.beq_toList];simpa using hxy
  clear hxy
  go_enter Tryz.func157,Tryz.ntmps157
  go_wp2_with fail
  go_ret
  exact ⟨ze HF.out.symm,Below.refl _ _⟩
 have hbe:(x.toList == y.toList)=false:=by rw [Gate.beq_toList];simpa using hxy
 have HXY:Hid (¬ x=y):=hxy
 clear hxy
 go_enter Tryz.func157,Tryz.ntmps157
 go_wp2_with fail
 go_loopw [1,10] (fun p i wr=>∃ (k:Nat) (z:ByteArray),k<=4/\p = .string z/\i = .int .i64 k/\¬ z=y/\Gate.under ts 4 x y=Gate.under ts (4 - k) z y/\Below w.heap.size w wr) (fun _ i _=>4 - (intOf i).toNat)
 case atStart=>exact ⟨0,x,Nat.zero_le _,rfl,rfl,HXY.out,rfl,Below.refl _ _⟩
 case round =>
  obtain ⟨k,z,hk,rfl,rfl,hz,hu,hB⟩:=hrel
  have HZ:Hid (¬ z=y/\Gate.under ts 4 x y=Gate.under ts (4 - k) z y):=⟨hz,hu⟩
  clear hz hu hbe
  by_cases hlt:k < 4
  ·have hltI:(k:Int) < 4:=by omega
   obtain ⟨m,hm⟩:∃ m,4 - k=m+1:=⟨3 - k,by omega⟩
   by_cases h0:(Gate.over ts z).size=0
   ·have HF:Hid (Gate.under ts 4 x y=false):=by rw [HZ.out.2,hm];exact Gate.zhH ts m HZ.out.1 h0
    have h0':(Gate.over ts z).toList.isEmpty=true:=by rw [Gate.zq];simpa using h0
    clear h0 hm
    go_wp2_with fail
    refine (zdy _ _ _ _ _ (hw.mono hB)).mono ?_
    rintro e w1 ⟨rfl,hb1⟩
    have hB1:=hB.trans (hb1.mono hB.size)
    clear hb1
    go_wp2_with fail
    go_ret
    exact ⟨ze HF.out.symm,hB1⟩
   ·have HO:Hid (Gate.under ts 4 x y=Gate.under ts m (Gate.over ts z) y):=by rw [Hid,HZ.out.2,hm];exact Gate.zlj ts m HZ.out.1 h0
    have h0':(Gate.over ts z).toList.isEmpty=false:=by rw [Gate.zq];simpa using h0
    clear h0
    by_cases hy:Gate.over ts z=y
    ·have HF:Hid (Gate.under ts 4 x y=true):=by rw [Hid,HO.out];exact Gate.zdB ts m _ _ hy
     have hy':((Gate.over ts z).toList == y.toList)=true:=by rw [Gate.beq_toList];simpa using hy
     clear hy
     go_wp2_with fail
     refine (zdy _ _ _ _ _ (hw.mono hB)).mono ?_
     rintro e w1 ⟨rfl,hb1⟩
     have hB1:=hB.trans (hb1.mono hB.size)
     clear hb1
     go_wp2_with fail
     go_ret
     exact ⟨ze HF.out.symm,hB1⟩
    ·have hy':((Gate.over ts z).toList == y.toList)=false:=by rw [Gate.beq_toList];simpa using hy
     have HY:Hid (¬ Gate.over ts z=y):=hy
     clear hy
     go_wp2_with fail
     refine (zdy _ _ _ _ _ (hw.mono hB)).mono ?_
     rintro e w1 ⟨rfl,hb1⟩
     have hB1:=hB.trans (hb1.mono hB.size)
     clear hb1
     go_wp2_with fail
     exact ⟨⟨k+1,Gate.over ts z,by omega,rfl,by go_num,HY.out,by rw [HO.out,show 4 - (k+1)=m by omega],hB1⟩,by simp [intOf];omega⟩
  ·have HF:Hid (Gate.under ts 4 x y=false):=by
    have e:4 - k=0:=by omega
    rw [Hid,HZ.out.2,e];exact Gate.zjt ts HZ.out.1
   go_wp2_with fail
   go_ret
   exact ⟨ze HF.out.symm,hB⟩
end Go.Proofs.YtaickbhifenbjaaGreat
