import Derived.Test.YtihdafafigceiaaGreatM16
import Derived.Test.YtihdafafigceiaaGreatM11
import Derived.Test.YtihdafafigceiaaGreatM02
import Derived.Deep.QuietTactic
import Derived.BigQuiet
import Derived.Test.YtihdafafigceiaaGreatM15
import Derived.Test.YtihdafafigceiaaGreatM08
set_option maxHeartbeats 1000000
namespace Go.Proofs.YtihdafafigceiaaGreat.Gate
theorem zgw {ss:List Shp} (h:yg ss=true) (i:Nat) (hi:i < ss.length):yR ss i=true:=by
 unfold yg at h
 rw [Bool.and_eq_true] at h
 exact zg1 hi h.2
theorem zmK {ss:List Shp} (h:yg ss=true):∀ (j:Nat) (hj:j < ss.length) (i:Nat) (hi:i < j),less (ss[i]'(by omega)).kd ss[j].kd=true:=by
 intro j
 induction j with
 | zero=>intro _ i hi;omega
 | succ j ih =>
  intro hj i hi
  have h1:=zgw h (j+1) hj
  rw [zfo ss j hj] at h1
  simp only [Bool.and_eq_true] at h1
  have h2:=h1.1.2
  rcases Nat.lt_or_ge i j with hlt | hge
  ·exact za4 _ _ _ (ih (by omega) i hlt) h2
  ·have e:i=j:=by omega
   subst e;exact h2
theorem zdH {ss:List Shp} (h:yg ss=true) (i:Nat) (hi:i < ss.length):shapeOf ss ss[i].kd=ss[i]:=by
 refine ze7 ss _ i hi ?_ rfl
 unfold zG
 rw [List.any_eq_false]
 intro x hx
 obtain ⟨k,hk,rfl⟩:=List.mem_iff_getElem.1 hx
 have hk':k < i:=by simp at hk;omega
 have h1:=zmK h i hi k hk'
 simp only [List.getElem_take,decide_eq_true_eq]
 intro e
 unfold less at h1
 rw [e,zbN] at h1
 cases h1
theorem zfa {ss:List Shp} (h:yg ss=true) (i:Nat) (hi:i < ss.length):ss[i].fs.length<=6:=by
 have h1:=zgw h i hi
 unfold yR at h1
 rw [getD_at ss i _ hi] at h1
 simp only [Bool.and_eq_true] at h1
 have h2:=h1.2
 unfold yT at h2
 simp only [Bool.and_eq_true,decide_eq_true_eq] at h2
 exact h2.1
def jJ (ss:List Shp) (m:Mnd):Bool:=zG ss m.kd && zaT (shapeOf ss m.kd).fs m
def rowOk (ms:List Mnd) (s:Shp):Bool:=(zH (zl s ms) s.fs.length).1
def yh (ss:List Shp) (ms:List Mnd):Bool:=decide (ms.length<=12) && yg ss && ms.all (jJ ss) && ss.all (rowOk ms)
theorem ziB {ss:List Shp} {ms:List Mnd} (h:yg ss=true) (hm:ms.all (jJ ss)=true) (i:Nat) (hi:i < ss.length):∀ q,q < ss[i].fs.length->∀ x ∈ zT ss[i] ms q,0<=x/\x < ss[i].fs.length:=by
 intro q _ x hx
 unfold zT at hx
 obtain ⟨m,hmm,hx⟩:=List.mem_flatMap.1 hx
 by_cases ht:turns m ss[i] q=true
 ·rw [if_pos ht] at hx
  obtain ⟨v,hv,rfl⟩:=List.mem_map.1 hx
  unfold turns at ht
  simp only [Bool.and_eq_true,decide_eq_true_eq] at ht
  have h1:=List.all_eq_true.1 hm m hmm
  unfold jJ at h1
  rw [ht.1,zdH h i hi] at h1
  simp only [Bool.and_eq_true] at h1
  have h2:=h1.2
  unfold zaT at h2
  simp only [Bool.and_eq_true] at h2
  have h3:=List.all_eq_true.1 h2.1.2 v hv
  unfold jN at h3
  simp only [Bool.and_eq_true] at h3
  rcases jh ss[i].fs v with ⟨_,h5⟩ | ⟨k,hk,h4,_⟩
  ·rw [zam h5] at h3;exact absurd h3.2 (by simp)
  ·rw [h4];omega
 ·rw [if_neg ht] at hx;cases hx
end Go.Proofs.YtihdafafigceiaaGreat.Gate
namespace Go.Proofs.YtihdafafigceiaaGreat
open Go.RowKit
theorem zau (a:Option Addr) (cap:Nat) (ws:List ByteArray) (w:World) (hw:zD w a ws) :
 Calls Tryz.prog 124 #[.slice a ws.length cap] w fun e w'=>e = .returned (.bool (Gate.asc ws))/\∃ n,w'=w.drewN n:=by
 have hl:=hw.len
 unfold maxLen at hl
 go_enter Tryz.func124,Tryz.ntmps124
 go_wp2
 go_loopw [3] (fun i wr=>∃ k:Nat,k<=ws.length/\i = .int .i64 k/\Gate.up (Gate.zdc ws) k=true/\∃ n,wr=w.drewN n) (fun i _=>ws.length - (intOf i).toNat)
 case atStart=>exact ⟨0,Nat.zero_le _,rfl,rfl,0,rfl⟩
 case round =>
  obtain ⟨k,hk,rfl,hup,hwr⟩:=hrel
  have HW:Hid (∃ n,wr=w.drewN n):=hwr
  by_cases hlt:k < ws.length
  ·obtain ⟨b,off,rfl,hb,hc0⟩:=hw.cells (by rintro rfl;simp at hlt)
   have hc:∀ i (h:i < ws.length),wr.cell? ⟨b,off+i,none⟩=some (.string ws[i]):=by obtain ⟨n,rfl⟩:=hwr;exact hc0
   have hsm:=hw.small _ (List.getElem_mem hlt)
   clear hw hc0 hwr
   have hck:=hc k hlt
   have hltI:(k:Int) < (ws.length:Int):=by omega
   by_cases hn:Gate.zy ws[k]=true
   ·have hn':=hn
    by_cases hk0:k=0
    ·have HF:Hid (Gate.up (Gate.zdc ws) (k+1)=true):=by subst hk0;unfold Hid;rw [Gate.qZ,Gate.zha hlt hn];rfl
     have hg:decide (0 < k)=false:=by simp;omega
     clear hn hc hup hk0
     go_wp2
     go_quiet ((go_at_call 95;exact Calls.quiet_of_same (zf hn' (zh _ _ hsm))))
     go_wp2
     obtain ⟨n,rfl⟩:=HW.out
     exact ⟨⟨k+1,by omega,by go_num,HF.out,n+nq,by simp⟩,by simp [intOf];omega⟩
    ·obtain ⟨m,rfl⟩:∃ m,k=m+1:=⟨k - 1,by omega⟩
     have hcm:=hc m (by omega)
     have HU:Hid (Gate.up (Gate.zdc ws) (m+1+1)=Gate.less ws[m] ws[m+1]):=by unfold Hid;rw [Gate.qZ,hup,Gate.zdI hlt hn];rfl
     have HN:Hid (Gate.less ws[m] ws[m+1]=false->Gate.asc ws=false):=fun h=>Gate.zaD hlt (by rw [Gate.zdI hlt hn];exact h)
     clear hn hc hup hk0
     by_cases hls:Gate.less ws[m] ws[m+1]=true
     ·have hls':Op.bytesLess ws[m].toList ws[m+1].toList=true:=hls
      have HLS:Hid (Gate.less ws[m] ws[m+1]=true):=hls
      clear hls
      go_wp2
      go_quiet ((go_at_call 95;exact Calls.quiet_of_same (zf hn' (zh _ _ hsm))))
      go_wp2
      obtain ⟨n,rfl⟩:=HW.out
      exact ⟨⟨m+1+1,by omega,by go_num,by rw [HU.out,HLS.out],n+nq,by simp⟩,by simp [intOf];omega⟩
     ·have hls':Op.bytesLess ws[m].toList ws[m+1].toList=false:=by simpa [Gate.less] using hls
      have HLS:Hid (Gate.less ws[m] ws[m+1]=false):=hls'
      clear hls
      go_wp2
      go_quiet ((go_at_call 95;exact Calls.quiet_of_same (zf hn' (zh _ _ hsm))))
      go_wp2
      go_ret
      refine ⟨ze (HN.out HLS.out).symm,?_⟩
      obtain ⟨n,rfl⟩:=HW.out
      exact ⟨n+nq,by simp⟩
   ·have hn':Gate.zy ws[k]=false:=by simpa using hn
    have HF:Hid (Gate.asc ws=false):=Gate.zaD hlt (Gate.zi4 hlt hn')
    clear hn hc hup
    go_wp2
    go_quiet ((go_at_call 95;exact Calls.quiet_of_same (zf hn' (zh _ _ hsm))))
    go_wp2
    go_ret
    refine ⟨ze HF.out.symm,?_⟩
    obtain ⟨n,rfl⟩:=HW.out
    exact ⟨n+nq,by simp⟩
  ·have HF:Hid (Gate.asc ws=true):=by
    have e:k=ws.length:=by omega
    subst e;exact hup
   clear hw hup hwr
   go_wp2
   go_ret
   exact ⟨ze HF.out.symm,HW.out⟩
theorem zmU (nm:ByteArray) (ls ms:Int) (a:Option Addr) (cap:Nat) (ws:List ByteArray) (to:ByteArray) (rl:Int) (mu fx:Bool) (df wg:ByteArray) (v:ByteArray) (w:World) (hv:v.size<=maxLen) :
 Calls Tryz.prog 125 #[.agg #[.string nm,.int .i64 1,.int .i64 ls,.int .i64 ms,.slice a ws.length cap,.string to,.int .i64 rl,.bool mu,.bool fx,.string df,.string wg],.string v] w
  fun e w'=>e = .returned (.bool (Gate.fits 1 ls ms ws v))/\Below w.heap.size w w':=by
 rw [Gate.zoh]
 by_cases hd:Gate.zai v=true
 ·have HE:Hid (qQ v=Gate.zfX v):=by unfold qQ Hid;rw [hd];rfl
  have HF:Hid (Gate.zal ls ms v=(decide (ls<=qQ v) && decide (qQ v<=ms))):=by rw [HE.out];exact Gate.zmf _ _ _ hd
  have h0:0<=qQ v:=by rw [HE.out];exact Gate.zcM v hd
  go_enter Tryz.func125,Tryz.ntmps125
  go_wp2_with (first
   | (go_at_call 170;refine (zdA _ _ hv).mono ?_;rintro e w' ⟨rfl,rfl⟩)
   | (go_at_call 57;refine (yD _ _ _ _).mono ?_;rintro e w' ⟨rfl,rfl⟩))
  go_ret
  exact ⟨ze HF.out.symm,(Below.refl _ _).alloc (Nat.le_refl _) _⟩
 ·have hd':Gate.zai v=false:=by simpa using hd
  have HF:Hid (Gate.zal ls ms v=false):=Gate.zjb _ _ _ hd'
  have h0:qQ v < 0:=by unfold qQ;rw [hd'];simp
  go_enter Tryz.func125,Tryz.ntmps125
  go_wp2_with (first
   | (go_at_call 170;refine (zdA _ _ hv).mono ?_;rintro e w' ⟨rfl,rfl⟩)
   | (go_at_call 57;refine (yD _ _ _ _).mono ?_;rintro e w' ⟨rfl,rfl⟩))
  go_ret
  exact ⟨ze HF.out.symm,(Below.refl _ _).alloc (Nat.le_refl _) _⟩
theorem zmJ (nm:ByteArray) (ls ms:Int) (a:Option Addr) (cap:Nat) (ws:List ByteArray) (to:ByteArray) (rl:Int) (mu fx:Bool) (df wg:ByteArray) (v:ByteArray) (w:World) (hws:zD w a ws) :
 Calls Tryz.prog 125 #[.agg #[.string nm,.int .i64 2,.int .i64 ls,.int .i64 ms,.slice a ws.length cap,.string to,.int .i64 rl,.bool mu,.bool fx,.string df,.string wg],.string v] w
  fun e w'=>e = .returned (.bool (Gate.fits 2 ls ms ws v))/\Below w.heap.size w w':=by
 by_cases hz:v.size=0
 ·rw [Gate.zaj _ _ _ _ _ hz]
  have hne:v.toList.isEmpty=true:=by rw [Gate.zu];simp [hz]
  clear hz hws
  go_enter Tryz.func125,Tryz.ntmps125
  go_wp2_with fail
  go_ret
  exact ⟨rfl,(Below.refl _ _).alloc (Nat.le_refl _) _⟩
 ·rw [Gate.zm8 _ _ _ _ hz]
  have hne:v.toList.isEmpty=false:=by rw [Gate.zu];simp [hz]
  go_enter Tryz.func125,Tryz.ntmps125
  go_wp2_with (go_at_call 168;refine (zck _ _ _ _ _ (by exact hws.mono ((Below.refl _ _).alloc (Nat.le_refl _) _))).mono ?_;rintro e w' ⟨rfl,rfl⟩)
  go_ret
  exact ⟨rfl,(Below.refl _ _).alloc (Nat.le_refl _) _⟩
theorem zm6 (nm:ByteArray) (ls ms:Int) (a:Option Addr) (cap:Nat) (ws:List ByteArray) (to:ByteArray) (rl:Int) (mu fx:Bool) (df wg:ByteArray) (v:ByteArray) (w:World) (hv:v.size<=maxLen) :
 Calls Tryz.prog 125 #[.agg #[.string nm,.int .i64 4,.int .i64 ls,.int .i64 ms,.slice a ws.length cap,.string to,.int .i64 rl,.bool mu,.bool fx,.string df,.string wg],.string v] w
  fun e w'=>e = .returned (.bool (Gate.fits 4 ls ms ws v))/\Below w.heap.size w w':=by
 rw [Gate.znL]
 go_enter Tryz.func125,Tryz.ntmps125
 go_wp2_with (go_at_call 95;refine (zh _ _ hv).mono ?_;rintro e w' ⟨rfl,rfl⟩)
 go_ret
 exact ⟨rfl,(Below.refl _ _).alloc (Nat.le_refl _) _⟩
theorem ziN (nm:ByteArray) (kd ls ms:Int) (a:Option Addr) (cap:Nat) (ws:List ByteArray) (to:ByteArray) (rl:Int) (mu fx:Bool) (df wg:ByteArray) (v:ByteArray) (w:World) (h1:kd ≠ 1) (h2:kd ≠ 2) (h3:kd ≠ 3) (h4:kd ≠ 4) :
 Calls Tryz.prog 125 #[.agg #[.string nm,.int .i64 kd,.int .i64 ls,.int .i64 ms,.slice a ws.length cap,.string to,.int .i64 rl,.bool mu,.bool fx,.string df,.string wg],.string v] w
  fun e w'=>e = .returned (.bool (Gate.fits kd ls ms ws v))/\Below w.heap.size w w':=by
 rw [Gate.ze9 kd ls ms ws v h1 h2 h3 h4]
 have e1:(kd == 1)=false:=by simpa using h1
 have e2:(kd == 2)=false:=by simpa using h2
 have e3:(kd == 3)=false:=by simpa using h3
 have e4:(kd == 4)=false:=by simpa using h4
 clear h1 h2 h3 h4
 go_enter Tryz.func125,Tryz.ntmps125
 go_wp2_with fail
 go_ret
 exact ⟨rfl,(Below.refl _ _).alloc (Nat.le_refl _) _⟩
theorem zmW (nm:ByteArray) (ls ms:Int) (a:Option Addr) (cap:Nat) (ws:List ByteArray) (to:ByteArray) (rl:Int) (mu fx:Bool) (df wg:ByteArray) (v:ByteArray) (w:World) (hv:v.size<=maxLen) :
 Calls Tryz.prog 125 #[.agg #[.string nm,.int .i64 3,.int .i64 ls,.int .i64 ms,.slice a ws.length cap,.string to,.int .i64 rl,.bool mu,.bool fx,.string df,.string wg],.string v] w
  fun e w'=>e = .returned (.bool (Gate.fits 3 ls ms ws v))/\Below w.heap.size w w':=by
 unfold maxLen at hv
 go_enter Tryz.func125,Tryz.ntmps125
 go_wp2_with fail
 go_loop [6] (fun i=>∃ k:Nat,k<=v.size/\i = .int .i64 k/\(v.data.toList.take k).all Gate.yY=true) (fun i=>v.size - (intOf i).toNat)
 case atStart=>exact ⟨0,Nat.zero_le _,rfl,rfl⟩
 case round =>
  obtain ⟨k,hk,rfl,hall⟩:=hrel
  by_cases hlt:k < v.size
  ·have HS:Hid ((v.data.toList.take (k+1)).all Gate.yY=(true && Gate.yY v[k])):=by rw [Gate.zaL _ v k hlt,hall];rfl
   have HN:Hid (Gate.yY v[k]=false->Gate.fits 3 ls ms ws v=false):=fun h=>Gate.zjo ls ms ws v (Gate.zbS Gate.yY v k hlt h)
   clear hall
   by_cases h33:33<=(v[k].toNat:Int)/\(v[k].toNat:Int)<=126
   ·have HC:Hid (Gate.yY v[k]=true):=by simp [Gate.yY,Hid];omega
    obtain ⟨ha,hb⟩:=h33
    go_wp2_with (go_at_call 57;refine (zaV _ _ _ _ (by omega) (by omega)).mono ?_;rintro e w' ⟨rfl,rfl⟩)
    go_round
    case rel=>exact ⟨k+1,by omega,by go_num,by rw [HS.out,HC.out];rfl⟩
    case measure=>simp [intOf];omega
   ·have HC:Hid (Gate.yY v[k]=false):=by simp [Gate.yY,Hid];omega
    have HD:Hid (¬ (33<=(v[k].toNat:Int)/\(v[k].toNat:Int)<=126)):=h33
    clear h33
    have hby:(v[k].toNat:Int) < 256:=by have:=v[k].toNat_lt;omega
    go_wp2_with (go_at_call 57;refine (zcL _ _ _ _ (by have:=HD.out;omega)).mono ?_;rintro e w' ⟨rfl,rfl⟩)
    go_ret
    exact ⟨ze (HN.out HC.out).symm,(Below.refl _ _).alloc (Nat.le_refl _) _⟩
  ·have HA:Hid (Gate.zbl v=true):=by unfold Gate.zbl Hid;rw [<- Gate.zav v k (by omega)];exact hall
   clear hall
   by_cases hz:v.size=0
   ·have HF:Hid (Gate.fits 3 ls ms ws v=false):=Gate.zaj _ _ _ _ _ hz
    have hne:v.toList.isEmpty=true:=by rw [Gate.zu];simp [hz]
    clear hz
    go_wp2_with fail
    go_ret
    exact ⟨ze HF.out.symm,(Below.refl _ _).alloc (Nat.le_refl _) _⟩
   ·have HF:Hid (Gate.fits 3 ls ms ws v=(decide (ls<=v.size) && decide ((v.size:Int)<=ms))):=Gate.zjh ls ms ws v HA.out hz
    have hne:v.toList.isEmpty=false:=by rw [Gate.zu];simp [hz]
    go_wp2_with (go_at_call 57;refine (yD _ _ _ _).mono ?_;rintro e w' ⟨rfl,rfl⟩)
    go_ret
    exact ⟨ze HF.out.symm,(Below.refl _ _).alloc (Nat.le_refl _) _⟩
theorem yP (nm:ByteArray) (kd ls ms:Int) (a:Option Addr) (cap:Nat) (ws:List ByteArray) (to:ByteArray) (rl:Int) (mu fx:Bool) (df wg:ByteArray) (v:ByteArray) (w:World) (hv:v.size<=maxLen) (hws:zD w a ws) :
 Calls Tryz.prog 125 #[.agg #[.string nm,.int .i64 kd,.int .i64 ls,.int .i64 ms,.slice a ws.length cap,.string to,.int .i64 rl,.bool mu,.bool fx,.string df,.string wg],.string v] w
  fun e w'=>e = .returned (.bool (Gate.fits kd ls ms ws v))/\Below w.heap.size w w':=by
 by_cases h1:kd=1
 ·subst h1;exact zmU nm ls ms a cap ws to rl mu fx df wg v w hv
 by_cases h2:kd=2
 ·subst h2;exact zmJ nm ls ms a cap ws to rl mu fx df wg v w hws
 by_cases h3:kd=3
 ·subst h3;exact zmW nm ls ms a cap ws to rl mu fx df wg v w hv
 by_cases h4:kd=4
 ·subst h4;exact zm6 nm ls ms a cap ws to rl mu fx df wg v w hv
 exact ziN nm kd ls ms a cap ws to rl mu fx df wg v w h1 h2 h3 h4
theorem zdR (nm:ByteArray) (ls ms:Int) (a:Option Addr) (n cap:Nat) (to:ByteArray) (rl:Int) (mu fx:Bool) (df wg:ByteArray) (w:World) :
 Calls Tryz.prog 198 #[.agg #[.string nm,.int .i64 1,.int .i64 ls,.int .i64 ms,.slice a n cap,.string to,.int .i64 rl,.bool mu,.bool fx,.string df,.string wg]] w fun e w'=>e = .returned (.bool (Gate.yF 1 ls ms n to rl wg))/\Below w.heap.size w w':=by
 go_enter Tryz.func198,Tryz.ntmps198
 go_wp2
 all_goals
  go_ret
  refine ⟨ze ?_,(Below.refl _ _).alloc (Nat.le_refl _) _⟩
  simp_all [Gate.yF]
  try first | omega | (intros;omega) | (rw [Bool.eq_iff_iff];simp)
theorem zbM (nm:ByteArray) (ls ms:Int) (a:Option Addr) (n cap:Nat) (to:ByteArray) (rl:Int) (mu fx:Bool) (df wg:ByteArray) (w:World) :
 Calls Tryz.prog 198 #[.agg #[.string nm,.int .i64 2,.int .i64 ls,.int .i64 ms,.slice a n cap,.string to,.int .i64 rl,.bool mu,.bool fx,.string df,.string wg]] w fun e w'=>e = .returned (.bool (Gate.yF 2 ls ms n to rl wg))/\Below w.heap.size w w':=by
 go_enter Tryz.func198,Tryz.ntmps198
 go_wp2
 all_goals
  go_ret
  refine ⟨ze ?_,(Below.refl _ _).alloc (Nat.le_refl _) _⟩
  simp_all [Gate.yF]
  try first | omega | (intros;omega) | (rw [Bool.eq_iff_iff];simp)
theorem zdT (nm:ByteArray) (ls ms:Int) (a:Option Addr) (n cap:Nat) (to:ByteArray) (rl:Int) (mu fx:Bool) (df wg:ByteArray) (w:World) :
 Calls Tryz.prog 198 #[.agg #[.string nm,.int .i64 3,.int .i64 ls,.int .i64 ms,.slice a n cap,.string to,.int .i64 rl,.bool mu,.bool fx,.string df,.string wg]] w fun e w'=>e = .returned (.bool (Gate.yF 3 ls ms n to rl wg))/\Below w.heap.size w w':=by
 go_enter Tryz.func198,Tryz.ntmps198
 go_wp2
 all_goals
  go_ret
  refine ⟨ze ?_,(Below.refl _ _).alloc (Nat.le_refl _) _⟩
  simp_all [Gate.yF]
  try first | omega | (intros;omega) | (rw [Bool.eq_iff_iff];simp)
theorem zan (nm:ByteArray) (ls ms:Int) (a:Option Addr) (n cap:Nat) (to:ByteArray) (rl:Int) (mu fx:Bool) (df wg:ByteArray) (w:World) :
 Calls Tryz.prog 198 #[.agg #[.string nm,.int .i64 4,.int .i64 ls,.int .i64 ms,.slice a n cap,.string to,.int .i64 rl,.bool mu,.bool fx,.string df,.string wg]] w fun e w'=>e = .returned (.bool (Gate.yF 4 ls ms n to rl wg))/\Below w.heap.size w w':=by
 go_enter Tryz.func198,Tryz.ntmps198
 go_wp2
 all_goals
  go_ret
  refine ⟨ze ?_,(Below.refl _ _).alloc (Nat.le_refl _) _⟩
  simp_all [Gate.yF]
  try first | omega | (intros;omega) | (rw [Bool.eq_iff_iff];simp)
theorem ziR (nm:ByteArray) (kd ls ms:Int) (a:Option Addr) (n cap:Nat) (to:ByteArray) (rl:Int) (mu fx:Bool) (df wg:ByteArray) (w:World) (h1:kd ≠ 1) (h2:kd ≠ 2) (h3:kd ≠ 3) (h4:kd ≠ 4) :
 Calls Tryz.prog 198 #[.agg #[.string nm,.int .i64 kd,.int .i64 ls,.int .i64 ms,.slice a n cap,.string to,.int .i64 rl,.bool mu,.bool fx,.string df,.string wg]] w fun e w'=>∃ b,e = .returned (.bool b)/\Below w.heap.size w w':=by
 have e1:(kd == 1)=false:=by simpa using h1
 have e2:(kd == 2)=false:=by simpa using h2
 have e3:(kd == 3)=false:=by simpa using h3
 have e4:(kd == 4)=false:=by simpa using h4
 have n1:(kd != 1)=true:=by simpa using h1
 have n2:(kd != 2)=true:=by simpa using h2
 clear h1 h2 h3 h4
 go_enter Tryz.func198,Tryz.ntmps198
 go_wp2
 all_goals
  go_ret
  exact ⟨_,rfl,(Below.refl _ _).alloc (Nat.le_refl _) _⟩
end Go.Proofs.YtihdafafigceiaaGreat
