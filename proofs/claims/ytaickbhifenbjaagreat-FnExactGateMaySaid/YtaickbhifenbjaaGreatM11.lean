import Derived.Test.YtaickbhifenbjaaGreatM10
import Derived.Deep.RegionHeld3
set_option maxHeartbeats 2000000
namespace Go.Proofs.YtaickbhifenbjaaGreat
open Go.RowKit
theorem zb5 (s p:ByteArray) (w:World) (_hs:s.size<=maxLen) (_hp:p.size<=maxLen) :
 Calls Tryz.prog 94 #[.string s,.string p] w fun e w'=>e = .returned (.bool (Gate.begins s p))/\w'=w:=by
 unfold maxLen at _hs _hp
 go_enter Tryz.func94,Tryz.ntmps94
 go_wp2_with fail
 all_goals
  go_ret
  refine ⟨ze ?_,rfl⟩
  simp [Gate.begins, *]
theorem zfc (s p:ByteArray) (w:World) (_hs:s.size<=maxLen) (_hp:p.size<=maxLen) :
 Calls Tryz.prog 196 #[.string s,.string p] w fun e w'=>e = .returned (.bool (Gate.begins s p))/\w'=w:=by
 unfold maxLen at _hs _hp
 go_enter Tryz.func196,Tryz.ntmps196
 go_wp2_with fail
 all_goals
  go_ret
  refine ⟨ze ?_,rfl⟩
  simp [Gate.begins, *]
theorem jE (s p:ByteArray) (w:World) (hs:s.size<=maxLen) (hp:p.size<=maxLen) :
 Calls Tryz.prog 158 #[.string s,.string p] w fun e w'=>e = .returned (.bool (Gate.begins s p))/\w'=w:=by
 go_enter Tryz.func158,Tryz.ntmps158
 go_wp2_with (go_at_call 196;refine (zfc s p _ hs hp).mono ?_;rintro e w' ⟨rfl,rfl⟩)
 go_ret
 exact ⟨rfl,rfl⟩
theorem zaC (r:Rl) (a:Option Addr) (cap:Nat) (v:Int) (w:World) (hw:yJ w a r.vs) :
 Calls Tryz.prog 92 #[.agg (r.cells a cap),.int .i64 v] w fun e w'=>e = .returned (.bool (Gate.yR r.vs v))/\Below w.heap.size w w':=by
 have hl:=hw.len
 unfold maxLen at hl
 unfold Rl.cells
 have hB:∀ ob,Below w.heap.size w (w.alloc ob):=fun ob=>(Below.refl _ _).alloc (Nat.le_refl _) _
 go_enter Tryz.func92,Tryz.ntmps92
 go_wp2_with fail
 go_loop [5] (fun i=>∃ k:Nat,k<=r.vs.length/\i = .int .i64 k/\Gate.yR (r.vs.take k) v=false) (fun i=>r.vs.length - (intOf i).toNat)
 case atStart=>exact ⟨0,Nat.zero_le _,rfl,rfl⟩
 case round =>
  obtain ⟨k,hk,rfl,hall⟩:=hrel
  by_cases hlt:k < r.vs.length
  ·obtain ⟨b,off,rfl,hb,c0⟩:=hw.load (Below.refl _ _) k hlt
   clear hw
   have HS:Hid (Gate.yR (r.vs.take (k+1)) v=(false || decide (r.vs[k]=v))):=by rw [Gate.zfS r.vs v k hlt,hall];rfl
   have hltI:(k:Int) < (r.vs.length:Int):=by omega
   by_cases he:r.vs[k]=v
   ·have hbe:(r.vs[k] == v)=true:=by simpa using he
    have HR:Hid (Gate.yR r.vs v=true):=Gate.zl7 r.vs v k hlt he
    clear he hall
    go_wp2_with fail
    go_ret
    exact ⟨ze HR.out.symm,hB _⟩
   ·have hbe:(r.vs[k] == v)=false:=by simpa using he
    have HE:Hid (¬ r.vs[k]=v):=he
    clear he hall
    go_wp2_with fail
    go_round
    case rel=>exact ⟨k+1,by omega,by go_num,by rw [HS.out,decide_eq_false HE.out];rfl⟩
    case measure=>simp [intOf];omega
  ·have HR:Hid (Gate.yR r.vs v=false):=by rw [<- Gate.zkD r.vs v k (by omega)];exact hall
   clear hall hw
   go_wp2_with fail
   go_ret
   exact ⟨ze HR.out.symm,hB _⟩
theorem zkM (a:Option Addr) (cap:Nat) (vs:List Int) (w:World) (hw:yJ w a vs) (hv:Gate.yQ vs=true) :
 Calls Tryz.prog 107 #[.slice a vs.length cap] w fun e w'=>e = .returned (.int .u8 (Gate.bitsOf (Gate.yR vs)))/\w'=w:=by
 have hl:=hw.len
 unfold maxLen at hl
 have HV:Hid (∀ i (h:i < vs.length),1<=vs[i]/\vs[i]<=5):=fun i h=>Gate.zin hv i h
 clear hv
 go_enter Tryz.func107,Tryz.ntmps107
 go_wp2_with fail
 go_loop [3,8] (fun s i=>∃ k:Nat,k<=vs.length/\i = .int .i64 k/\s = .int .u8 (Gate.bitsOf (Gate.yR (vs.take k)))) (fun _ i=>vs.length - (intOf i).toNat)
 case atStart=>exact ⟨0,Nat.zero_le _,rfl,rfl⟩
 case round =>
  obtain ⟨k,hk,rfl,rfl⟩:=hrel
  by_cases hlt:k < vs.length
  ·obtain ⟨b,off,rfl,hb,hck⟩:=hw.load (Below.refl _ _) k hlt
   have hltI:(k:Int) < (vs.length:Int):=by omega
   obtain ⟨hv1,hv5⟩:=HV.out k hlt
   have hv0:¬ vs[k] < 0:=by omega
   have HS:Hid (Gate.bitsOf (Gate.yR (vs.take (k+1)))=Gate.orI (Gate.bitsOf (Gate.yR (vs.take k))) (Gate.zbZ vs[k])):=by
    unfold Hid;rw [Gate.zoO _ _ ⟨hv1,hv5⟩];exact Gate.zmC fun v _=>Gate.zfS vs v k hlt
   clear hw
   go_wp2_with fail
   go_round
   case rel=>exact ⟨k+1,by omega,by go_num,by rw [HS.out];rfl⟩
   case measure=>simp [intOf];omega
  ·have HF:Hid (Gate.bitsOf (Gate.yR (vs.take k))=Gate.bitsOf (Gate.yR vs)):=by unfold Hid;rw [List.take_of_length_le (by omega)]
   clear hw
   go_wp2_with fail
   go_ret
   exact ⟨zm HF.out,rfl⟩
theorem zoL (f:Int->Bool) (v:Int) (w:World) :
 Calls Tryz.prog 66 #[.int .u8 (Gate.bitsOf f),.int .i64 v] w fun e w'=>e = .returned (.bool (Gate.q9 v && f v))/\w'=w:=by
 by_cases hv:Gate.q9 v=true
 ·have HV:Hid (Gate.q9 v=true):=hv
  have hv':1<=v/\v<=5:=by simpa [Gate.q9] using hv
  have HB:Hid ((Gate.zlw (Gate.bitsOf f) (Gate.zbZ v) != 0)=f v):=Gate.zoa f v hv'
  obtain ⟨hv1,hv5⟩:=hv'
  have hv0:¬ v < 0:=by omega
  clear hv
  go_enter Tryz.func66,Tryz.ntmps66
  go_wp2_with (go_at_call 109;refine (zf HV.out (zbc _ _)).mono ?_;rintro e w' ⟨rfl,rfl⟩)
  go_ret
  exact ⟨ze (by rw [HV.out,Bool.true_and,<- HB.out];rfl),rfl⟩
 ·have HV:Hid (Gate.q9 v=false):=by simpa [Hid] using hv
  clear hv
  go_enter Tryz.func66,Tryz.ntmps66
  go_wp2_with (go_at_call 109;refine (zf HV.out (zbc _ _)).mono ?_;rintro e w' ⟨rfl,rfl⟩)
  go_ret
  exact ⟨ze (by rw [HV.out];rfl),rfl⟩
def zeu (ta:Option Addr) (tcap:Nat) (ts:List Tm) (r:Rl) (a:Option Addr) (cap:Nat):Array Value :=
 #[.slice ta ts.length tcap, .slice a r.vs.length cap, .string r.kd, .string r.tm, .string r.px, .int .u8 (Gate.bitsOf (Gate.yR r.vs))]
def Gate.qZ (ts:List Tm) (r:Rl) (kd tm nm:ByteArray):Int:=Gate.bitsOf (fun v=>Gate.meets ts r kd tm nm && Gate.yR r.vs v)
theorem Gate.zcg {ts:List Tm} {r:Rl} {kd tm nm:ByteArray} (h:Gate.meets ts r kd tm nm=false):Gate.qZ ts r kd tm nm=0:=by
 unfold Gate.qZ;rw [h];rfl
theorem Gate.zet {ts:List Tm} {r:Rl} {kd tm nm:ByteArray} (h:Gate.meets ts r kd tm nm=true):Gate.qZ ts r kd tm nm=Gate.bitsOf (Gate.yR r.vs):=by
 unfold Gate.qZ;rw [h];rfl
theorem zku (ta:Option Addr) (tcap:Nat) (ts:List Tm) (r:Rl) (a:Option Addr) (cap:Nat) (kd tm nm:ByteArray) (w:World) (hw:qJ w ta ts) (hm:r.Small) (hn:nm.size<=maxLen) :
 Calls Tryz.prog 108 #[.agg (zeu ta tcap ts r a cap),.string kd,.string tm,.string nm] w fun e w'=>e = .returned (.int .u8 (Gate.qZ ts r kd tm nm))/\Below w.heap.size w w':=by
 have hpx:=hm.px
 have HB:Hid (∀ ob,Below w.heap.size w (w.alloc ob)):=fun ob=>(Below.refl _ _).alloc (Nat.le_refl _) _
 have HT:Hid (∀ ob,qJ (w.alloc ob) ta ts):=fun ob=>hw.mono (HB.out ob)
 clear hw hm
 unfold zeu
 have hkc:(r.kd.toList.isEmpty=true) \/ (r.kd.toList.isEmpty=false/\(r.kd.toList == kd.toList)=true) \/ (r.kd.toList.isEmpty=false/\(r.kd.toList == kd.toList)=false):=by
  cases r.kd.toList.isEmpty <;> cases (r.kd.toList == kd.toList) <;> simp
 have htc:(r.tm.toList.isEmpty=true) \/ (r.tm.toList.isEmpty=false/\Hid (Gate.under ts 4 tm r.tm=true)) \/ (r.tm.toList.isEmpty=false/\Hid (Gate.under ts 4 tm r.tm=false)):=by
  unfold Hid
  cases r.tm.toList.isEmpty <;> cases Gate.under ts 4 tm r.tm <;> simp
 have HM:Hid (Gate.meets ts r kd tm nm=((r.kd.toList.isEmpty || (r.kd.toList == kd.toList)) && ((r.tm.toList.isEmpty || Gate.under ts 4 tm r.tm) && Gate.begins nm r.px))):=by
  unfold Hid Gate.meets;rw [Gate.beq_toList]
 rcases hkc with hk | ⟨hk,hke⟩ | ⟨hk,hke⟩
 ·rcases htc with ht | ⟨ht,HU⟩ | ⟨ht,HU⟩
  ·by_cases hb:Gate.begins nm r.px=true
   ·have HP:Hid (Gate.begins nm r.px=true):=hb
    clear hb
    have HF:Hid (Gate.qZ ts r kd tm nm=Gate.bitsOf (Gate.yR r.vs)):=Gate.zet (by rw [HM.out,hk,ht,HP.out];rfl)
    go_enter Tryz.func108,Tryz.ntmps108
    go_wp2_with (go_at_call 158;refine (zf HP.out (jE nm r.px _ hn hpx)).mono ?_;rintro e w' ⟨rfl,rfl⟩)
    go_ret
    exact ⟨zm HF.out.symm,HB.out _⟩
   ·have HP:Hid (Gate.begins nm r.px=false):=by simpa [Hid] using hb
    clear hb
    have HF:Hid (Gate.qZ ts r kd tm nm=0):=Gate.zcg (by rw [HM.out,hk,ht,HP.out];simp)
    go_enter Tryz.func108,Tryz.ntmps108
    go_wp2_with (go_at_call 158;refine (zf HP.out (jE nm r.px _ hn hpx)).mono ?_;rintro e w' ⟨rfl,rfl⟩)
    go_ret
    exact ⟨zm HF.out.symm,HB.out _⟩
  ·by_cases hb:Gate.begins nm r.px=true
   ·have HP:Hid (Gate.begins nm r.px=true):=hb
    clear hb
    have HF:Hid (Gate.qZ ts r kd tm nm=Gate.bitsOf (Gate.yR r.vs)):=Gate.zet (by rw [HM.out,hk,ht,HU.out,HP.out];rfl)
    go_enter Tryz.func108,Tryz.ntmps108
    go_wp2_with fail
    refine (zf HU.out (jR _ _ ts tm r.tm _ (HT.out _))).mono ?_
    rintro e w1 ⟨rfl,hb1⟩
    have hX1:=za (zl w _ _) (by simp) hb1
    have hz:w.heap.size < w1.heap.size:=by have:=hb1.size;simp at this;omega
    have HB1:Hid (Below w.heap.size w w1):=(HB.out _).trans (hb1.mono (by simp))
    clear hb1
    go_wp2_with (go_at_call 158;refine (zf HP.out (jE nm r.px _ hn hpx)).mono ?_;rintro e w' ⟨rfl,rfl⟩)
    go_ret
    exact ⟨zm HF.out.symm,HB1.out⟩
   ·have HP:Hid (Gate.begins nm r.px=false):=by simpa [Hid] using hb
    clear hb
    have HF:Hid (Gate.qZ ts r kd tm nm=0):=Gate.zcg (by rw [HM.out,hk,ht,HU.out,HP.out];simp)
    go_enter Tryz.func108,Tryz.ntmps108
    go_wp2_with fail
    refine (zf HU.out (jR _ _ ts tm r.tm _ (HT.out _))).mono ?_
    rintro e w1 ⟨rfl,hb1⟩
    have hX1:=za (zl w _ _) (by simp) hb1
    have hz:w.heap.size < w1.heap.size:=by have:=hb1.size;simp at this;omega
    have HB1:Hid (Below w.heap.size w w1):=(HB.out _).trans (hb1.mono (by simp))
    clear hb1
    go_wp2_with (go_at_call 158;refine (zf HP.out (jE nm r.px _ hn hpx)).mono ?_;rintro e w' ⟨rfl,rfl⟩)
    go_ret
    exact ⟨zm HF.out.symm,HB1.out⟩
  ·have HF:Hid (Gate.qZ ts r kd tm nm=0):=Gate.zcg (by rw [HM.out,hk,ht,HU.out];simp)
   go_enter Tryz.func108,Tryz.ntmps108
   go_wp2_with fail
   refine (zf HU.out (jR _ _ ts tm r.tm _ (HT.out _))).mono ?_
   rintro e w1 ⟨rfl,hb1⟩
   have HB1:Hid (Below w.heap.size w w1):=(HB.out _).trans (hb1.mono (by simp))
   clear hb1
   go_wp2_with fail
   go_ret
   exact ⟨zm HF.out.symm,HB1.out⟩
 ·rcases htc with ht | ⟨ht,HU⟩ | ⟨ht,HU⟩
  ·by_cases hb:Gate.begins nm r.px=true
   ·have HP:Hid (Gate.begins nm r.px=true):=hb
    clear hb
    have HF:Hid (Gate.qZ ts r kd tm nm=Gate.bitsOf (Gate.yR r.vs)):=Gate.zet (by rw [HM.out,hk,hke,ht,HP.out];rfl)
    go_enter Tryz.func108,Tryz.ntmps108
    go_wp2_with (go_at_call 158;refine (zf HP.out (jE nm r.px _ hn hpx)).mono ?_;rintro e w' ⟨rfl,rfl⟩)
    go_ret
    exact ⟨zm HF.out.symm,HB.out _⟩
   ·have HP:Hid (Gate.begins nm r.px=false):=by simpa [Hid] using hb
    clear hb
    have HF:Hid (Gate.qZ ts r kd tm nm=0):=Gate.zcg (by rw [HM.out,hk,hke,ht,HP.out];simp)
    go_enter Tryz.func108,Tryz.ntmps108
    go_wp2_with (go_at_call 158;refine (zf HP.out (jE nm r.px _ hn hpx)).mono ?_;rintro e w' ⟨rfl,rfl⟩)
    go_ret
    exact ⟨zm HF.out.symm,HB.out _⟩
  ·by_cases hb:Gate.begins nm r.px=true
   ·have HP:Hid (Gate.begins nm r.px=true):=hb
    clear hb
    have HF:Hid (Gate.qZ ts r kd tm nm=Gate.bitsOf (Gate.yR r.vs)):=Gate.zet (by rw [HM.out,hk,hke,ht,HU.out,HP.out];rfl)
    go_enter Tryz.func108,Tryz.ntmps108
    go_wp2_with fail
    refine (zf HU.out (jR _ _ ts tm r.tm _ (HT.out _))).mono ?_
    rintro e w1 ⟨rfl,hb1⟩
    have hX1:=za (zl w _ _) (by simp) hb1
    have hz:w.heap.size < w1.heap.size:=by have:=hb1.size;simp at this;omega
    have HB1:Hid (Below w.heap.size w w1):=(HB.out _).trans (hb1.mono (by simp))
    clear hb1
    go_wp2_with (go_at_call 158;refine (zf HP.out (jE nm r.px _ hn hpx)).mono ?_;rintro e w' ⟨rfl,rfl⟩)
    go_ret
    exact ⟨zm HF.out.symm,HB1.out⟩
   ·have HP:Hid (Gate.begins nm r.px=false):=by simpa [Hid] using hb
    clear hb
    have HF:Hid (Gate.qZ ts r kd tm nm=0):=Gate.zcg (by rw [HM.out,hk,hke,ht,HU.out,HP.out];simp)
    go_enter Tryz.func108,Tryz.ntmps108
    go_wp2_with fail
    refine (zf HU.out (jR _ _ ts tm r.tm _ (HT.out _))).mono ?_
    rintro e w1 ⟨rfl,hb1⟩
    have hX1:=za (zl w _ _) (by simp) hb1
    have hz:w.heap.size < w1.heap.size:=by have:=hb1.size;simp at this;omega
    have HB1:Hid (Below w.heap.size w w1):=(HB.out _).trans (hb1.mono (by simp))
    clear hb1
    go_wp2_with (go_at_call 158;refine (zf HP.out (jE nm r.px _ hn hpx)).mono ?_;rintro e w' ⟨rfl,rfl⟩)
    go_ret
    exact ⟨zm HF.out.symm,HB1.out⟩
  ·have HF:Hid (Gate.qZ ts r kd tm nm=0):=Gate.zcg (by rw [HM.out,hk,hke,ht,HU.out];simp)
   go_enter Tryz.func108,Tryz.ntmps108
   go_wp2_with fail
   refine (zf HU.out (jR _ _ ts tm r.tm _ (HT.out _))).mono ?_
   rintro e w1 ⟨rfl,hb1⟩
   have HB1:Hid (Below w.heap.size w w1):=(HB.out _).trans (hb1.mono (by simp))
   clear hb1
   go_wp2_with fail
   go_ret
   exact ⟨zm HF.out.symm,HB1.out⟩
 ·have HF:Hid (Gate.qZ ts r kd tm nm=0):=Gate.zcg (by rw [HM.out,hk,hke];rfl)
  go_enter Tryz.func108,Tryz.ntmps108
  go_wp2_with fail
  go_ret
  exact ⟨zm HF.out.symm,HB.out _⟩
theorem zkC (ta:Option Addr) (tcap:Nat) (ts:List Tm) (r:Rl) (a:Option Addr) (cap:Nat) (w:World) (hw:yJ w a r.vs) (hv:Gate.yQ r.vs=true) :
 Calls Tryz.prog 65 #[.slice ta ts.length tcap,.agg (r.cells a cap)] w fun e w'=>e = .returned (.func (.func 108) #[.agg (zeu ta tcap ts r a cap)] #[])/\Below w.heap.size w w':=by
 unfold Rl.cells zeu
 have HI:Hid (∀ ob n,yJ ((w.alloc ob).drewN n) a r.vs):=fun ob n=>hw.mono (below_drewN ((Below.refl _ _).alloc (Nat.le_refl _) _) n)
 go_enter Tryz.func65,Tryz.ntmps65
 go_wp2_with fail
 go_quiet ((go_at_call 107;exact Calls.quiet_of_same (zkM _ _ r.vs _ (by exact HI.out _ _) hv)))
 go_wp2_with fail
 go_ret
 exact ⟨rfl,below_drewN ((Below.refl _ _).alloc (Nat.le_refl _) _) _⟩
theorem Gate.zlc {ts:List Tm} {r:Rl} {x:Ac} (hv:Gate.yQ r.vs=true):(Gate.q9 x.vb && (Gate.meets ts r x.kd x.tm x.nm && Gate.yR r.vs x.vb))=Gate.qy ts r x:=by
 unfold Gate.qy
 cases hh:Gate.yR r.vs x.vb
 ·simp
 ·have h5:=Gate.zi4 hv _ hh
  have:Gate.q9 x.vb=true:=by simpa [Gate.q9] using h5
  rw [this];simp
theorem Gate.zke {r:Rl} (h:Gate.zW r=true):Gate.yQ r.vs=true:=by
 unfold Gate.zW at h;simp only [Bool.and_eq_true] at h;exact h.2.1
end Go.Proofs.YtaickbhifenbjaaGreat
