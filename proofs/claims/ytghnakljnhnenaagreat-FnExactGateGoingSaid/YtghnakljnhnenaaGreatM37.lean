import Derived.Test.YtghnakljnhnenaaGreatM36
set_option maxHeartbeats 4000000
namespace Go.Proofs.YtghnakljnhnenaaGreat
open Go.RowKit
theorem Gate.zpG (ts:List Tm):(!(ts.any fun t=>!Gate.zd3 ts t))=Gate.up (Gate.zfz ts) ts.length:=by
 rw [Bool.eq_iff_iff,Gate.zcF];simp only [Bool.not_eq_true',List.any_eq_false]
 constructor
 ·intro h i hi
  have:=h ts[i] (List.getElem_mem hi)
  unfold Gate.zfz;rw [Gate.getD_at ts i _ hi]
  simpa using this
 ·intro h x hx
  obtain ⟨k,hk,rfl⟩:=List.mem_iff_getElem.1 hx
  have:=h k hk
  unfold Gate.zfz at this;rw [Gate.getD_at ts k _ hk] at this
  simp [this]
theorem Gate.zcy (ts:List Tm) (k:Nat) (h:k < ts.length) (b:Bool) (hb:(decide (k=0) || Gate.less (ts.getD (k - 1) Gate.zbn).nm ts[k].nm)=b) :
 Gate.qI ts k=(Gate.zy ts[k].nm && b && (ts[k].ov.toList.isEmpty || Gate.yA ts ts[k].ov)):=by
 unfold Gate.qI;rw [Gate.getD_at ts k _ h,hb]
theorem zhN (a:Option Addr) (cap:Nat) (ts:List Tm) (w:World) (hw:jk w a ts) :
 Calls Tryz.prog 108 #[.slice a ts.length cap] w fun e w'=>e = .returned (.bool (Gate.zbJ ts))/\Below w.heap.size w w':=by
 have hl:=hw.len;unfold maxLen at hl
 by_cases h12:ts.length<=12
 rotate_left
 ·have HF:Hid (Gate.zbJ ts=false):=by simp [Hid,Gate.zbJ,h12]
  clear hw;go_enter Tryz.func108,Tryz.ntmps108;go_wp2_with fail
  go_ret;exact ⟨ze HF.out.symm,bAl _ _⟩
 have HG:Hid (Gate.zbJ ts=(Gate.up (Gate.qI ts) ts.length && Gate.up (Gate.zfz ts) ts.length)):=by simp [Hid,Gate.zbJ,h12]
 have h12I:(ts.length:Int)<=12:=by omega
 go_enter Tryz.func108,Tryz.ntmps108;go_wp2_with fail
 have hB00:Below w.heap.size w (w.alloc (.cells #[.slice a ts.length cap] 39)):=bAl _ _;have hX00:=zm w #[.slice a ts.length cap] 39;have hz00:w.heap.size < (w.alloc (.cells #[.slice a ts.length cap] 39)).heap.size:=by simp
 obtain ⟨w0,hw0⟩:∃ w0,w0=w.alloc (.cells #[.slice a ts.length cap] 39):=⟨_,rfl⟩
 rw [<- hw0] at hB00 hX00 hz00 ⊢;have HW0:Hid (jk w0 a ts):=hw.mono hB00;have HB00:Hid (Below w.heap.size w w0):=hB00;clear hw0 hw hB00
 go_loopw [10] (fun i wr=>∃ k:Nat,k<=ts.length/\i = .int .i64 k/\Gate.up (Gate.qI ts) k=true/\Below w0.heap.size w0 wr) (fun i _=>ts.length - (intOf i).toNat)
 case atStart=>exact ⟨0,Nat.zero_le _,rfl,rfl,bRf _ _⟩
 case round =>
  obtain ⟨k,hk,rfl,hup,hB⟩:=hrel;have hsz:=hB.size;have hX:=za hX00 hz00 hB;have hX0:wr.cell? ⟨w.heap.size,0,none⟩=some (.slice a ts.length cap):=hX 0;have hzr:w.heap.size < wr.heap.size:=by omega
  have HBr:Hid (Below w.heap.size w wr):=HB00.out.trans (hB.mono (by omega));clear hX hX00
  by_cases hlt:k < ts.length
  ·obtain ⟨b,off,rfl,hb,c0,c1⟩:=HW0.out.load hB k hlt
   have hbr:b < wr.heap.size:=by omega
   have hsm:=HW0.out.small k hlt;have hsn:=hsm.nm;have HS:Hid (Gate.qI ts k=true->Gate.up (Gate.qI ts) (k+1)=true):=fun h=>by rw [Gate.q9,hup,h];rfl
   have HN:Hid (Gate.qI ts k=false->Gate.zbJ ts=false):=fun h=>by rw [HG.out,Gate.zaR hlt h];rfl
   have hltI:(k:Int) < (ts.length:Int):=by omega
   have HB:Hid (Below w0.heap.size w0 wr):=hB;clear hup hsm hB
   by_cases hn:Gate.zy ts[k].nm=true
   rotate_left
   ·have HNm:Hid (Gate.zy ts[k].nm=false):=by simpa [Hid] using hn
    have HF:Hid (Gate.qI ts k=false):=by unfold Hid;rw [Gate.zcy ts k hlt _ rfl,HNm.out];rfl
    clear hn;go_wp2_with fail
    go_quiet ((go_at_call 145;exact Calls.quiet_of_same (zf HNm.out (zG _ _ hsn))))
    go_wp2_with fail
    go_ret;exact ⟨ze (HN.out HF.out).symm,below_drewN (HBr.out.alloc (by omega) _) _⟩
   have HNm:Hid (Gate.zy ts[k].nm=true):=hn;clear hn
   by_cases hbad:0 < k/\Gate.less (ts.getD (k - 1) Gate.zbn).nm ts[k].nm=false
   ·obtain ⟨hkpos,hls⟩:=hbad
    have HF:Hid (Gate.qI ts k=false):=by
     unfold Hid;rw [Gate.zcy ts k hlt false (by rw [hls,decide_eq_false (show ¬ k=0 by omega)];rfl)];simp
    obtain ⟨m,rfl⟩:∃ m,k=m+1:=⟨k - 1,by omega⟩
    rw [Nat.add_sub_cancel,Gate.getD_at ts m _ (by omega)] at hls;obtain ⟨b',off',e',hb',d0,d1⟩:=HW0.out.load HB.out m (by omega);simp only [Option.some.injEq,Addr.mk.injEq] at e';obtain ⟨rfl,rfl,_⟩:=e';have hls':Op.bytesLess ts[m].nm.toList ts[m+1].nm.toList=false:=hls;have hmI:(m:Int) < 12:=by omega
    have hm0:(0:Int)<=(m:Int):=by omega
    have hml:(m:Int) < (ts.length:Int):=by omega
    have hmw:IntKind.i64.wrap (m:Int)=m:=by rw [IntKind.wrap_i64];omega
    clear hls;go_wp2_with fail
    go_quiet ((go_at_call 145;exact Calls.quiet_of_same (zf HNm.out (zG _ _ hsn))))
    go_wp2_with fail
    go_ret;exact ⟨ze (HN.out HF.out).symm,below_drewN (HBr.out.alloc (by omega) _) _⟩
   have hgd:(decide (k=0) || Gate.less (ts.getD (k - 1) Gate.zbn).nm ts[k].nm)=true:=by
    by_cases hk0:k=0
    ·simp [hk0]
    ·cases hq:Gate.less (ts.getD (k - 1) Gate.zbn).nm ts[k].nm
     ·exact absurd ⟨by omega,hq⟩ hbad
     ·simp
   have HA:Hid (Gate.qI ts k=(ts[k].ov.toList.isEmpty || Gate.yA ts ts[k].ov)):=by
    unfold Hid;rw [Gate.zcy ts k hlt true hgd,HNm.out];rfl
   have hgood:(decide (0 < k)=false) \/ (decide (0 < k)=true/\∃ m,k=m+1/\∃ h:m < ts.length,Op.bytesLess ts[m].nm.toList ts[k].nm.toList=true/\wr.cell? ⟨b,off+m * 2,none⟩=some (.string ts[m].nm)):=by
    by_cases hk0:k=0
    ·exact Or.inl (by simp;omega)
    ·refine Or.inr ⟨by simp;omega,k - 1,by omega,by omega,?_,?_⟩
     ·rw [decide_eq_false hk0,Gate.getD_at ts (k - 1) _ (by omega)] at hgd
      exact hgd
     ·obtain ⟨b',off',e',hb',d0,d1⟩:=HW0.out.load HB.out (k - 1) (by omega)
      simp only [Option.some.injEq,Addr.mk.injEq] at e';obtain ⟨rfl,rfl,_⟩:=e';exact d0
   clear hbad hgd;have HBx:Hid (∀ (ob:Obj) (n:Nat),Below wr.heap.size wr ((wr.alloc ob).drewN n)):=fun ob n=>below_drewN (bAl _ _) _
   by_cases hov:ts[k].ov.toList.isEmpty=true
   ·have HT:Hid (Gate.qI ts k=true):=by unfold Hid;rw [HA.out,hov];rfl
    rcases hgood with hg | ⟨hg,m,rfl,hm,hls',d0⟩
    ·go_wp2_with fail
     go_quiet ((go_at_call 145;exact Calls.quiet_of_same (zf HNm.out (zG _ _ hsn))))
     go_wp2_with fail
     exact ⟨⟨k+1,by omega,by go_num,HS.out HT.out,HB.out.trans ((HBx.out _ _).mono hsz)⟩,by simp [intOf];omega⟩
    ·have hmI:(m:Int) < 12:=by omega
     have hm0:(0:Int)<=(m:Int):=by omega
     have hml:(m:Int) < (ts.length:Int):=by omega
     have hmw:IntKind.i64.wrap (m:Int)=m:=by rw [IntKind.wrap_i64];omega
     go_wp2_with fail
     go_quiet ((go_at_call 145;exact Calls.quiet_of_same (zf HNm.out (zG _ _ hsn))))
     go_wp2_with fail
     exact ⟨⟨m+1+1,by omega,by go_num,HS.out HT.out,HB.out.trans ((HBx.out _ _).mono hsz)⟩,by simp [intOf];omega⟩
   ·have hov':ts[k].ov.toList.isEmpty=false:=by simpa using hov
    clear hov
    by_cases hit:Gate.yA ts ts[k].ov=true
    ·have HI:Hid (Gate.yA ts ts[k].ov=true):=hit
     have HT:Hid (Gate.qI ts k=true):=by unfold Hid;rw [HA.out,hit];simp
     clear hit
     rcases hgood with hg | ⟨hg,m,rfl,hm,hls',d0⟩
     ·go_wp2_with fail
      go_quiet ((go_at_call 145;exact Calls.quiet_of_same (zf HNm.out (zG _ _ hsn))))
      go_wp2_with fail
      refine (zf HI.out (zbU _ _ ts _ _ ((HW0.out.mono HB.out).mono (HBx.out _ _)))).mono ?_;rintro e w3 ⟨rfl,hb3⟩;have hB3:Below w0.heap.size w0 w3:=(HB.out.trans ((HBx.out _ _).mono hsz)).trans (hb3.mono (by simp;omega));clear hb3;go_wp2_with fail
      exact ⟨⟨k+1,by omega,by go_num,HS.out HT.out,hB3⟩,by simp [intOf];omega⟩
     ·have hmI:(m:Int) < 12:=by omega
      have hm0:(0:Int)<=(m:Int):=by omega
      have hml:(m:Int) < (ts.length:Int):=by omega
      have hmw:IntKind.i64.wrap (m:Int)=m:=by rw [IntKind.wrap_i64];omega
      go_wp2_with fail
      go_quiet ((go_at_call 145;exact Calls.quiet_of_same (zf HNm.out (zG _ _ hsn))))
      go_wp2_with fail
      refine (zf HI.out (zbU _ _ ts _ _ ((HW0.out.mono HB.out).mono (HBx.out _ _)))).mono ?_;rintro e w3 ⟨rfl,hb3⟩;have hB3:Below w0.heap.size w0 w3:=(HB.out.trans ((HBx.out _ _).mono hsz)).trans (hb3.mono (by simp;omega));clear hb3;go_wp2_with fail
      exact ⟨⟨m+1+1,by omega,by go_num,HS.out HT.out,hB3⟩,by simp [intOf];omega⟩
    ·have HI:Hid (Gate.yA ts ts[k].ov=false):=by simpa [Hid] using hit
     have HF:Hid (Gate.qI ts k=false):=by unfold Hid;rw [HA.out,HI.out,hov'];rfl
     clear hit
     rcases hgood with hg | ⟨hg,m,rfl,hm,hls',d0⟩
     ·go_wp2_with fail
      go_quiet ((go_at_call 145;exact Calls.quiet_of_same (zf HNm.out (zG _ _ hsn))))
      go_wp2_with fail
      refine (zf HI.out (zbU _ _ ts _ _ ((HW0.out.mono HB.out).mono (HBx.out _ _)))).mono ?_;rintro e w3 ⟨rfl,hb3⟩;have hB3:Below w.heap.size w w3:=(HBr.out.trans ((HBx.out _ _).mono (by omega))).trans (hb3.mono (by simp;omega));clear hb3;go_wp2_with fail
      go_ret;exact ⟨ze (HN.out HF.out).symm,hB3⟩
     ·have hmI:(m:Int) < 12:=by omega
      have hm0:(0:Int)<=(m:Int):=by omega
      have hml:(m:Int) < (ts.length:Int):=by omega
      have hmw:IntKind.i64.wrap (m:Int)=m:=by rw [IntKind.wrap_i64];omega
      go_wp2_with fail
      go_quiet ((go_at_call 145;exact Calls.quiet_of_same (zf HNm.out (zG _ _ hsn))))
      go_wp2_with fail
      refine (zf HI.out (zbU _ _ ts _ _ ((HW0.out.mono HB.out).mono (HBx.out _ _)))).mono ?_;rintro e w3 ⟨rfl,hb3⟩;have hB3:Below w.heap.size w w3:=(HBr.out.trans ((HBx.out _ _).mono (by omega))).trans (hb3.mono (by simp;omega));clear hb3;go_wp2_with fail
      go_ret;exact ⟨ze (HN.out HF.out).symm,hB3⟩
  ·have HF:Hid (Gate.zbJ ts=!(ts.any fun t=>!Gate.zd3 ts t)):=by
    have e:k=ts.length:=by omega
    subst e;rw [Hid,HG.out,hup,Gate.zpG];rfl
   have HWr:Hid (jk wr a ts):=HW0.out.mono hB;clear hup hB;go_wp2_with fail
   refine (zgg _ _ ts _ _ _ HWr.out (zpb _ _ ts _ _ HWr.out hzr hX0)).mono ?_;rintro e w3 ⟨rfl,hb3⟩;have hB3:Below w.heap.size w w3:=HBr.out.trans (hb3.mono (by omega));clear hb3;go_wp2_with fail
   go_ret;exact ⟨ze HF.out.symm,hB3⟩
theorem zbR (a:Option Addr) (cap:Nat) (ts:List Tm) (v:ByteArray) (w:World) (hw:jk w a ts) :
 Calls Tryz.prog 91 #[.slice a ts.length cap,.string v] w fun e w'=>e = .returned (.bool (Gate.yA ts v))/\w'=w:=by
 have hl:=hw.len;unfold maxLen at hl;go_enter Tryz.func91,Tryz.ntmps91;go_wp2_with fail
 go_loop [5] (fun i=>∃ k:Nat,k<=ts.length/\i = .int .i64 k/\Gate.yA (ts.take k) v=false) (fun i=>ts.length - (intOf i).toNat)
 case atStart=>exact ⟨0,Nat.zero_le _,rfl,rfl⟩
 case round =>
  obtain ⟨k,hk,rfl,hall⟩:=hrel
  by_cases hlt:k < ts.length
  ·obtain ⟨b,off,rfl,hb,c0,c1⟩:=hw.load (bRf _ _) k hlt
   clear hw;have HS:Hid (Gate.yA (ts.take (k+1)) v=(false || decide (ts[k].nm=v))):=by rw [Gate.zd4 ts v k hlt,hall];rfl
   have hltI:(k:Int) < (ts.length:Int):=by omega
   by_cases he:ts[k].nm=v
   ·have hbe:(ts[k].nm.toList == v.toList)=true:=by rw [Gate.beq_toList];simpa using he
    have HR:Hid (Gate.yA ts v=true):=Gate.zoa ts v k hlt he;clear he hall;go_wp2_with fail
    go_ret;exact ⟨ze HR.out.symm,rfl⟩
   ·have hbe:(ts[k].nm.toList == v.toList)=false:=by rw [Gate.beq_toList];simpa using he
    have HE:Hid (¬ ts[k].nm=v):=he;clear he hall;go_wp2_with fail
    go_round
    case rel=>exact ⟨k+1,by omega,by go_num,by rw [HS.out,decide_eq_false HE.out];rfl⟩
    case measure=>simp [intOf];omega
  ·have HR:Hid (Gate.yA ts v=false):=by rw [<- Gate.zeG ts v k (by omega)];exact hall
   clear hall hw;go_wp2_with fail
   go_ret;exact ⟨ze HR.out.symm,rfl⟩
theorem Gate.zcn (ts:List Tm) (m:Nat) (z:ByteArray) (h:z.size=0):Gate.qz ts m z=z:=by
 cases m with
 | zero=>rfl
 | succ m=>unfold Gate.qz;rw [if_pos h]
theorem Gate.zcX (ts:List Tm) (m:Nat) (z:ByteArray) (h:¬ z.size=0):Gate.qz ts (m+1) z=Gate.qz ts m (Gate.over ts z):=by
 rw [Gate.qz,if_neg h]
theorem zhQ (a:Option Addr) (cap:Nat) (ts:List Tm) (w:World) (hw:jk w a ts) :
 Calls Tryz.prog 89 #[.slice a ts.length cap] w fun e w'=>e = .returned (.bool (Gate.zaK ts))/\Below w.heap.size w w':=by
 have hl:=hw.len;unfold maxLen at hl
 by_cases h12:ts.length<=12
 rotate_left
 ·have HF:Hid (Gate.zaK ts=false):=by simp [Hid,Gate.zaK,h12]
  clear hw;go_enter Tryz.func89,Tryz.ntmps89;go_wp2_with fail
  go_ret;exact ⟨ze HF.out.symm,bRf _ _⟩
 have HG:Hid (Gate.zaK ts=Gate.up (Gate.zb5 ts) ts.length):=by simp [Hid,Gate.zaK,h12]
 have h12I:(ts.length:Int)<=12:=by omega
 have HW0:Hid (jk w a ts):=hw;clear hw;go_enter Tryz.func89,Tryz.ntmps89;go_wp2_with fail
 go_loopw [3] (fun i wr=>∃ k:Nat,k<=ts.length/\i = .int .i64 k/\Gate.up (Gate.zb5 ts) k=true/\Below w.heap.size w wr) (fun i _=>ts.length - (intOf i).toNat)
 case atStart=>exact ⟨0,Nat.zero_le _,rfl,rfl,bRf _ _⟩
 case round =>
  obtain ⟨k,hk,rfl,hup,hB⟩:=hrel;obtain ⟨W0,rfl⟩:∃ W0,W0=wr:=⟨wr,rfl⟩
  have hsz:=hB.size
  by_cases hlt:k < ts.length
  ·obtain ⟨b,off,rfl,hb,c0,c1⟩:=HW0.out.load hB k hlt
   have hbr:b < W0.heap.size:=by omega
   have hsm:=HW0.out.small k hlt;have hsn:=hsm.nm;have HS:Hid (Gate.qI ts k=true->Gate.zbK ts k=true->Gate.up (Gate.zb5 ts) (k+1)=true):=fun h h'=>by rw [Gate.q9,hup,Gate.zb5,h,h'];rfl
   have HN:Hid (Gate.qI ts k=false->Gate.zaK ts=false):=fun h=>by rw [HG.out];exact Gate.zaR hlt (by rw [Gate.zb5,h];rfl)
   have HD:Hid (Gate.zbK ts k=false->Gate.zaK ts=false):=fun h=>by rw [HG.out];exact Gate.zaR hlt (by rw [Gate.zb5,h,Bool.and_false])
   have HDS:Hid (Gate.zbK ts k=decide ((Gate.qz ts 5 ts[k].nm).size=0)):=by unfold Hid Gate.zbK;rw [Gate.getD_at ts k _ hlt]
   have hltI:(k:Int) < (ts.length:Int):=by omega
   have HB:Hid (Below w.heap.size w W0):=hB;have HBx:Hid (∀ (ob:Obj) (n:Nat),Below W0.heap.size W0 ((W0.alloc ob).drewN n)):=fun ob n=>below_drewN (bAl _ _) _
   have HWr:Hid (∀ (ob:Obj) (n:Nat),jk ((W0.alloc ob).drewN n) (some ⟨b,off,none⟩) ts):=fun ob n=>(HW0.out.mono hB).mono (below_drewN (bAl _ _) _)
   clear hup hsm hB
   by_cases hn:Gate.zy ts[k].nm=true
   rotate_left
   ·have HNm:Hid (Gate.zy ts[k].nm=false):=by simpa [Hid] using hn
    have HF:Hid (Gate.qI ts k=false):=by unfold Hid;rw [Gate.zcy ts k hlt _ rfl,HNm.out];rfl
    clear hn;go_wp2_with fail
    go_quiet ((go_at_call 97;exact Calls.quiet_of_same (zf HNm.out (zh _ _ hsn))))
    go_wp2_with fail
    go_ret;exact ⟨ze (HN.out HF.out).symm,HB.out.trans ((HBx.out _ _).mono hsz)⟩
   have HNm:Hid (Gate.zy ts[k].nm=true):=hn;clear hn
   by_cases hbad:0 < k/\Gate.less (ts.getD (k - 1) Gate.zbn).nm ts[k].nm=false
   ·obtain ⟨hkpos,hls⟩:=hbad
    have HF:Hid (Gate.qI ts k=false):=by
     unfold Hid;rw [Gate.zcy ts k hlt false (by rw [hls,decide_eq_false (show ¬ k=0 by omega)];rfl)];simp
    obtain ⟨m,rfl⟩:∃ m,k=m+1:=⟨k - 1,by omega⟩
    rw [Nat.add_sub_cancel,Gate.getD_at ts m _ (by omega)] at hls;obtain ⟨b',off',e',hb',d0,d1⟩:=HW0.out.load HB.out m (by omega);simp only [Option.some.injEq,Addr.mk.injEq] at e';obtain ⟨rfl,rfl,_⟩:=e';have hls':Op.bytesLess ts[m].nm.toList ts[m+1].nm.toList=false:=hls;have hmI:(m:Int) < 12:=by omega
    have hm0:(0:Int)<=(m:Int):=by omega
    have hml:(m:Int) < (ts.length:Int):=by omega
    have hmw:IntKind.i64.wrap (m:Int)=m:=by rw [IntKind.wrap_i64];omega
    clear hls;go_wp2_with fail
    go_quiet ((go_at_call 97;exact Calls.quiet_of_same (zf HNm.out (zh _ _ hsn))))
    go_wp2_with fail
    go_ret;exact ⟨ze (HN.out HF.out).symm,HB.out.trans ((HBx.out _ _).mono hsz)⟩
   have hgd:(decide (k=0) || Gate.less (ts.getD (k - 1) Gate.zbn).nm ts[k].nm)=true:=by
    by_cases hk0:k=0
    ·simp [hk0]
    ·cases hq:Gate.less (ts.getD (k - 1) Gate.zbn).nm ts[k].nm
     ·exact absurd ⟨by omega,hq⟩ hbad
     ·simp
   have HA:Hid (Gate.qI ts k=(ts[k].ov.toList.isEmpty || Gate.yA ts ts[k].ov)):=by
    unfold Hid;rw [Gate.zcy ts k hlt true hgd,HNm.out];rfl
   have hgood:(decide (0 < k)=false) \/ (decide (0 < k)=true/\(0:Int)<=(k:Int) - 1/\(k:Int) - 1 < (ts.length:Int)/\∃ h:k - 1 < ts.length,Op.bytesLess ts[k - 1].nm.toList ts[k].nm.toList=true/\W0.cell? ⟨b,off+(k - 1) * 2,none⟩=some (.string ts[k - 1].nm)):=by
    by_cases hk0:k=0
    ·exact Or.inl (by simp;omega)
    ·refine Or.inr ⟨by simp;omega,by omega,by omega,by omega,?_,?_⟩
     ·rw [decide_eq_false hk0,Gate.getD_at ts (k - 1) _ (by omega)] at hgd
      exact hgd
     ·obtain ⟨b',off',e',hb',d0,d1⟩:=HW0.out.load HB.out (k - 1) (by omega)
      simp only [Option.some.injEq,Addr.mk.injEq] at e';obtain ⟨rfl,rfl,_⟩:=e';exact d0
   clear hbad hgd
   by_cases hov:ts[k].ov.toList.isEmpty=true
   ·have HT:Hid (Gate.qI ts k=true):=by unfold Hid;rw [HA.out,hov];rfl
    rcases hgood with hg | ⟨hg,hk1,hk2,hkm,hls',d0⟩
    ·go_wp2_with fail
     go_quiet ((go_at_call 97;exact Calls.quiet_of_same (zf HNm.out (zh _ _ hsn))))
     go_wp2_with fail
     obtain ⟨W1,hW1⟩:∃ W1,W1=(W0.alloc (.cells #[.string ts[k].nm,.string ts[k].ov] 127)).drewN nq:=⟨_,rfl⟩
     have HB1:Hid (Below w.heap.size w W1):=by unfold Hid;rw [hW1];exact HB.out.trans ((HBx.out _ _).mono hsz)
     have HW1:Hid (jk W1 (some ⟨b,off,none⟩) ts):=HW0.out.mono HB1.out;rw [<- hW1];clear hW1
     go_loopw [5,6] (fun p i wi=>∃ (n:Nat) (z:ByteArray),n<=5/\p = .string z/\i = .int .i64 n/\Gate.qz ts 5 ts[k].nm=Gate.qz ts (5 - n) z/\wi=W1) (fun _ i _=>5 - (intOf i).toNat)
     case atStart=>exact ⟨0,ts[k].nm,Nat.zero_le _,rfl,rfl,rfl,rfl⟩
     case round =>
      obtain ⟨n,z,hn5,rfl,rfl,hz,rfl⟩:=hrel
      by_cases hn:n < 5
      ·have hnI:(n:Int)<=4:=by omega
       by_cases hz0:z.size=0
       ·have hze:z.toList.isEmpty=true:=by rw [Gate.zu];simpa using hz0
        have HDT:Hid (Gate.zbK ts (k)=true):=by unfold Hid;rw [HDS.out,hz,Gate.zcn ts _ z hz0];simpa using hz0
        clear hz hz0;go_wp2_with fail
        exact ⟨⟨k+1,by omega,by go_num,HS.out HT.out HDT.out,HB1.out⟩,by simp [intOf];omega⟩
       ·have hze:z.toList.isEmpty=false:=by rw [Gate.zu];simpa using hz0
        have HZ:Hid (Gate.qz ts 5 ts[k].nm=Gate.qz ts (5 - (n+1)) (Gate.over ts z)):=by
         obtain ⟨q,hq⟩:∃ q,5 - n=q+1:=⟨4 - n,by omega⟩
         rw [Hid,hz,hq,Gate.zcX ts q z hz0,show 5 - (n+1)=q by omega]
        clear hz hz0
        go_wp2_with (go_at_call 128;refine (zbp _ _ ts _ _ HW1.out).mono ?_;rintro e w' ⟨rfl,rfl⟩)
        exact ⟨⟨n+1,Gate.over ts z,by omega,rfl,by go_num,HZ.out,trivial⟩,by simp [intOf];omega⟩
      ·have e5:5 - n=0:=by omega
       rw [e5] at hz;have hnI:¬ (n:Int)<=4:=by omega
       by_cases hz0:z.size=0
       ·have hze:z.toList.isEmpty=true:=by rw [Gate.zu];simpa using hz0
        have HDT:Hid (Gate.zbK ts (k)=true):=by unfold Hid;rw [HDS.out,hz];simpa [Gate.qz] using hz0
        clear hz hz0;go_wp2_with fail
        exact ⟨⟨k+1,by omega,by go_num,HS.out HT.out HDT.out,HB1.out⟩,by simp [intOf];omega⟩
       ·have hze:z.toList.isEmpty=false:=by rw [Gate.zu];simpa using hz0
        have HDT:Hid (Gate.zbK ts (k)=false):=by unfold Hid;rw [HDS.out,hz];simpa [Gate.qz] using hz0
        clear hz hz0;go_wp2_with fail
        go_ret;exact ⟨ze (HD.out HDT.out).symm,HB1.out⟩
    ·go_wp2_with fail
     go_quiet ((go_at_call 97;exact Calls.quiet_of_same (zf HNm.out (zh _ _ hsn))))
     go_wp2_with fail
     obtain ⟨W1,hW1⟩:∃ W1,W1=(W0.alloc (.cells #[.string ts[k].nm,.string ts[k].ov] 127)).drewN nq:=⟨_,rfl⟩
     have HB1:Hid (Below w.heap.size w W1):=by unfold Hid;rw [hW1];exact HB.out.trans ((HBx.out _ _).mono hsz)
     have HW1:Hid (jk W1 (some ⟨b,off,none⟩) ts):=HW0.out.mono HB1.out;rw [<- hW1];clear hW1
     go_loopw [5,6] (fun p i wi=>∃ (n:Nat) (z:ByteArray),n<=5/\p = .string z/\i = .int .i64 n/\Gate.qz ts 5 ts[k].nm=Gate.qz ts (5 - n) z/\wi=W1) (fun _ i _=>5 - (intOf i).toNat)
     case atStart=>exact ⟨0,ts[k].nm,Nat.zero_le _,rfl,rfl,rfl,rfl⟩
     case round =>
      obtain ⟨n,z,hn5,rfl,rfl,hz,rfl⟩:=hrel
      by_cases hn:n < 5
      ·have hnI:(n:Int)<=4:=by omega
       by_cases hz0:z.size=0
       ·have hze:z.toList.isEmpty=true:=by rw [Gate.zu];simpa using hz0
        have HDT:Hid (Gate.zbK ts (k)=true):=by unfold Hid;rw [HDS.out,hz,Gate.zcn ts _ z hz0];simpa using hz0
        clear hz hz0;go_wp2_with fail
        exact ⟨⟨k+1,by omega,by go_num,HS.out HT.out HDT.out,HB1.out⟩,by simp [intOf];omega⟩
       ·have hze:z.toList.isEmpty=false:=by rw [Gate.zu];simpa using hz0
        have HZ:Hid (Gate.qz ts 5 ts[k].nm=Gate.qz ts (5 - (n+1)) (Gate.over ts z)):=by
         obtain ⟨q,hq⟩:∃ q,5 - n=q+1:=⟨4 - n,by omega⟩
         rw [Hid,hz,hq,Gate.zcX ts q z hz0,show 5 - (n+1)=q by omega]
        clear hz hz0
        go_wp2_with (go_at_call 128;refine (zbp _ _ ts _ _ HW1.out).mono ?_;rintro e w' ⟨rfl,rfl⟩)
        exact ⟨⟨n+1,Gate.over ts z,by omega,rfl,by go_num,HZ.out,trivial⟩,by simp [intOf];omega⟩
      ·have e5:5 - n=0:=by omega
       rw [e5] at hz;have hnI:¬ (n:Int)<=4:=by omega
       by_cases hz0:z.size=0
       ·have hze:z.toList.isEmpty=true:=by rw [Gate.zu];simpa using hz0
        have HDT:Hid (Gate.zbK ts (k)=true):=by unfold Hid;rw [HDS.out,hz];simpa [Gate.qz] using hz0
        clear hz hz0;go_wp2_with fail
        exact ⟨⟨k+1,by omega,by go_num,HS.out HT.out HDT.out,HB1.out⟩,by simp [intOf];omega⟩
       ·have hze:z.toList.isEmpty=false:=by rw [Gate.zu];simpa using hz0
        have HDT:Hid (Gate.zbK ts (k)=false):=by unfold Hid;rw [HDS.out,hz];simpa [Gate.qz] using hz0
        clear hz hz0;go_wp2_with fail
        go_ret;exact ⟨ze (HD.out HDT.out).symm,HB1.out⟩
   ·have hov':ts[k].ov.toList.isEmpty=false:=by simpa using hov
    clear hov
    by_cases hit:Gate.yA ts ts[k].ov=true
    ·have HI:Hid (Gate.yA ts ts[k].ov=true):=hit
     have HT:Hid (Gate.qI ts k=true):=by unfold Hid;rw [HA.out,hit];simp
     clear hit
     rcases hgood with hg | ⟨hg,hk1,hk2,hkm,hls',d0⟩
     ·go_wp2_with fail
      go_quiet (first | (go_at_call 97;exact Calls.quiet_of_same (zf HNm.out (zh _ _ hsn))) | (go_at_call 91;exact Calls.quiet_of_same (zf HI.out (zbR _ _ ts _ _ (by exact HWr.out _ _)))))
      go_wp2_with fail
      obtain ⟨W1,hW1⟩:∃ W1,W1=(W0.alloc (.cells #[.string ts[k].nm,.string ts[k].ov] 127)).drewN nq:=⟨_,rfl⟩
      have HB1:Hid (Below w.heap.size w W1):=by unfold Hid;rw [hW1];exact HB.out.trans ((HBx.out _ _).mono hsz)
      have HW1:Hid (jk W1 (some ⟨b,off,none⟩) ts):=HW0.out.mono HB1.out;rw [<- hW1];clear hW1
      go_loopw [5,6] (fun p i wi=>∃ (n:Nat) (z:ByteArray),n<=5/\p = .string z/\i = .int .i64 n/\Gate.qz ts 5 ts[k].nm=Gate.qz ts (5 - n) z/\wi=W1) (fun _ i _=>5 - (intOf i).toNat)
      case atStart=>exact ⟨0,ts[k].nm,Nat.zero_le _,rfl,rfl,rfl,rfl⟩
      case round =>
       obtain ⟨n,z,hn5,rfl,rfl,hz,rfl⟩:=hrel
       by_cases hn:n < 5
       ·have hnI:(n:Int)<=4:=by omega
        by_cases hz0:z.size=0
        ·have hze:z.toList.isEmpty=true:=by rw [Gate.zu];simpa using hz0
         have HDT:Hid (Gate.zbK ts (k)=true):=by unfold Hid;rw [HDS.out,hz,Gate.zcn ts _ z hz0];simpa using hz0
         clear hz hz0;go_wp2_with fail
         exact ⟨⟨k+1,by omega,by go_num,HS.out HT.out HDT.out,HB1.out⟩,by simp [intOf];omega⟩
        ·have hze:z.toList.isEmpty=false:=by rw [Gate.zu];simpa using hz0
         have HZ:Hid (Gate.qz ts 5 ts[k].nm=Gate.qz ts (5 - (n+1)) (Gate.over ts z)):=by
          obtain ⟨q,hq⟩:∃ q,5 - n=q+1:=⟨4 - n,by omega⟩
          rw [Hid,hz,hq,Gate.zcX ts q z hz0,show 5 - (n+1)=q by omega]
         clear hz hz0
         go_wp2_with (go_at_call 128;refine (zbp _ _ ts _ _ HW1.out).mono ?_;rintro e w' ⟨rfl,rfl⟩)
         exact ⟨⟨n+1,Gate.over ts z,by omega,rfl,by go_num,HZ.out,trivial⟩,by simp [intOf];omega⟩
       ·have e5:5 - n=0:=by omega
        rw [e5] at hz;have hnI:¬ (n:Int)<=4:=by omega
        by_cases hz0:z.size=0
        ·have hze:z.toList.isEmpty=true:=by rw [Gate.zu];simpa using hz0
         have HDT:Hid (Gate.zbK ts (k)=true):=by unfold Hid;rw [HDS.out,hz];simpa [Gate.qz] using hz0
         clear hz hz0;go_wp2_with fail
         exact ⟨⟨k+1,by omega,by go_num,HS.out HT.out HDT.out,HB1.out⟩,by simp [intOf];omega⟩
        ·have hze:z.toList.isEmpty=false:=by rw [Gate.zu];simpa using hz0
         have HDT:Hid (Gate.zbK ts (k)=false):=by unfold Hid;rw [HDS.out,hz];simpa [Gate.qz] using hz0
         clear hz hz0;go_wp2_with fail
         go_ret;exact ⟨ze (HD.out HDT.out).symm,HB1.out⟩
     ·go_wp2_with fail
      go_quiet (first | (go_at_call 97;exact Calls.quiet_of_same (zf HNm.out (zh _ _ hsn))) | (go_at_call 91;exact Calls.quiet_of_same (zf HI.out (zbR _ _ ts _ _ (by exact HWr.out _ _)))))
      go_wp2_with fail
      obtain ⟨W1,hW1⟩:∃ W1,W1=(W0.alloc (.cells #[.string ts[k].nm,.string ts[k].ov] 127)).drewN nq:=⟨_,rfl⟩
      have HB1:Hid (Below w.heap.size w W1):=by unfold Hid;rw [hW1];exact HB.out.trans ((HBx.out _ _).mono hsz)
      have HW1:Hid (jk W1 (some ⟨b,off,none⟩) ts):=HW0.out.mono HB1.out;rw [<- hW1];clear hW1
      go_loopw [5,6] (fun p i wi=>∃ (n:Nat) (z:ByteArray),n<=5/\p = .string z/\i = .int .i64 n/\Gate.qz ts 5 ts[k].nm=Gate.qz ts (5 - n) z/\wi=W1) (fun _ i _=>5 - (intOf i).toNat)
      case atStart=>exact ⟨0,ts[k].nm,Nat.zero_le _,rfl,rfl,rfl,rfl⟩
      case round =>
       obtain ⟨n,z,hn5,rfl,rfl,hz,rfl⟩:=hrel
       by_cases hn:n < 5
       ·have hnI:(n:Int)<=4:=by omega
        by_cases hz0:z.size=0
        ·have hze:z.toList.isEmpty=true:=by rw [Gate.zu];simpa using hz0
         have HDT:Hid (Gate.zbK ts (k)=true):=by unfold Hid;rw [HDS.out,hz,Gate.zcn ts _ z hz0];simpa using hz0
         clear hz hz0;go_wp2_with fail
         exact ⟨⟨k+1,by omega,by go_num,HS.out HT.out HDT.out,HB1.out⟩,by simp [intOf];omega⟩
        ·have hze:z.toList.isEmpty=false:=by rw [Gate.zu];simpa using hz0
         have HZ:Hid (Gate.qz ts 5 ts[k].nm=Gate.qz ts (5 - (n+1)) (Gate.over ts z)):=by
          obtain ⟨q,hq⟩:∃ q,5 - n=q+1:=⟨4 - n,by omega⟩
          rw [Hid,hz,hq,Gate.zcX ts q z hz0,show 5 - (n+1)=q by omega]
         clear hz hz0
         go_wp2_with (go_at_call 128;refine (zbp _ _ ts _ _ HW1.out).mono ?_;rintro e w' ⟨rfl,rfl⟩)
         exact ⟨⟨n+1,Gate.over ts z,by omega,rfl,by go_num,HZ.out,trivial⟩,by simp [intOf];omega⟩
       ·have e5:5 - n=0:=by omega
        rw [e5] at hz;have hnI:¬ (n:Int)<=4:=by omega
        by_cases hz0:z.size=0
        ·have hze:z.toList.isEmpty=true:=by rw [Gate.zu];simpa using hz0
         have HDT:Hid (Gate.zbK ts (k)=true):=by unfold Hid;rw [HDS.out,hz];simpa [Gate.qz] using hz0
         clear hz hz0;go_wp2_with fail
         exact ⟨⟨k+1,by omega,by go_num,HS.out HT.out HDT.out,HB1.out⟩,by simp [intOf];omega⟩
        ·have hze:z.toList.isEmpty=false:=by rw [Gate.zu];simpa using hz0
         have HDT:Hid (Gate.zbK ts (k)=false):=by unfold Hid;rw [HDS.out,hz];simpa [Gate.qz] using hz0
         clear hz hz0;go_wp2_with fail
         go_ret;exact ⟨ze (HD.out HDT.out).symm,HB1.out⟩
    ·have HI:Hid (Gate.yA ts ts[k].ov=false):=by simpa [Hid] using hit
     have HF:Hid (Gate.qI ts k=false):=by unfold Hid;rw [HA.out,HI.out,hov'];rfl
     clear hit
     rcases hgood with hg | ⟨hg,hk1,hk2,hkm,hls',d0⟩
     ·go_wp2_with fail
      go_quiet (first | (go_at_call 97;exact Calls.quiet_of_same (zf HNm.out (zh _ _ hsn))) | (go_at_call 91;exact Calls.quiet_of_same (zf HI.out (zbR _ _ ts _ _ (by exact HWr.out _ _)))))
      go_wp2_with fail
      go_ret;exact ⟨ze (HN.out HF.out).symm,HB.out.trans ((HBx.out _ _).mono hsz)⟩
     ·go_wp2_with fail
      go_quiet (first | (go_at_call 97;exact Calls.quiet_of_same (zf HNm.out (zh _ _ hsn))) | (go_at_call 91;exact Calls.quiet_of_same (zf HI.out (zbR _ _ ts _ _ (by exact HWr.out _ _)))))
      go_wp2_with fail
      go_ret;exact ⟨ze (HN.out HF.out).symm,HB.out.trans ((HBx.out _ _).mono hsz)⟩
  ·have HF:Hid (Gate.zaK ts=true):=by
    have e:k=ts.length:=by omega
    subst e;rw [Hid,HG.out,hup]
   clear hup;go_wp2_with fail
   go_ret;exact ⟨ze HF.out.symm,hB⟩
def Gate.zbN (l:Lw):Bool:=Gate.yt l.ss l.ms && Gate.zbJ l.ts
theorem zjV (l:Lw) (a b c:Option Addr) (ca cb cc:Nat) (w:World) (hl:y9 w l a b c) (hf:l.Few) :
 Calls Tryz.prog 71 #[.agg (l.cells a b c ca cb cc)] w fun e w'=>e = .returned (.bool (Gate.zbN l))/\Below w.heap.size w w':=by
 have HL:Hid (y9 w l a b c):=hl;have HF:Hid l.Few:=hf;clear hl hf;unfold Lw.cells
 by_cases h1:Gate.yt l.ss l.ms=true
 ·have HQ:Hid (Gate.zbN l=Gate.zbJ l.ts):=by unfold Hid Gate.zbN;rw [h1];rfl
  have HM:Hid (Gate.yt l.ss l.ms=true):=h1;clear h1;go_enter Tryz.func71,Tryz.ntmps71;go_wp2_with fail
  refine (zf HM.out (zem _ _ _ _ l.ss l.ms _ (HL.out.ss.mono (bAl _ _)) (HL.out.ms.mono (bAl _ _)) HF.out.ms)).mono ?_;rintro e w1 ⟨rfl,hb⟩;have hX1:=za (zm w #[.slice a l.ss.length ca,.slice b l.ms.length cb,.slice c l.ts.length cc] 41) (by simp) hb;have hz1:w.heap.size < w1.heap.size:=by have:=hb.size;simp at this;omega
  have hB1:Below w.heap.size w w1:=(bAl _ _).trans (hb.mono (by simp));clear hb;go_wp2_with fail
  refine (zhN _ _ l.ts _ (HL.out.ts.mono hB1)).mono ?_;rintro e w2 ⟨rfl,hb⟩;have hB2:=hB1.trans (hb.mono hB1.size);clear hb hX1 hz1 hB1;go_wp2_with fail
  go_ret;exact ⟨ze HQ.out.symm,hB2⟩
 ·have h1':Gate.yt l.ss l.ms=false:=by simpa using h1
  have HQ:Hid (Gate.zbN l=false):=by unfold Hid Gate.zbN;rw [h1'];rfl
  have HM:Hid (Gate.yt l.ss l.ms=false):=h1';clear h1 h1';go_enter Tryz.func71,Tryz.ntmps71;go_wp2_with fail
  refine (zf HM.out (zem _ _ _ _ l.ss l.ms _ (HL.out.ss.mono (bAl _ _)) (HL.out.ms.mono (bAl _ _)) HF.out.ms)).mono ?_;rintro e w1 ⟨rfl,hb⟩;have hB1:Below w.heap.size w w1:=(bAl _ _).trans (hb.mono (by simp));clear hb;go_wp2_with fail
  go_ret;exact ⟨ze HQ.out.symm,hB1⟩
theorem zkm (l:Lw) (a b c:Option Addr) (ca cb cc:Nat) (w:World) (hl:y9 w l a b c) :
 Calls Tryz.prog 58 #[.agg (l.cells a b c ca cb cc)] w fun e w'=>e = .returned (.bool (Gate.zbN l))/\Below w.heap.size w w':=by
 have HL:Hid (y9 w l a b c):=hl;clear hl;unfold Lw.cells
 by_cases h1:Gate.yt l.ss l.ms=true
 ·have HQ:Hid (Gate.zbN l=Gate.zaK l.ts):=by unfold Hid Gate.zbN;rw [h1,Gate.zlJ];rfl
  have HM:Hid (Gate.jo l.ss l.ms=true):=by unfold Hid;rw [<- Gate.zfF];exact h1
  clear h1;go_enter Tryz.func58,Tryz.ntmps58;go_wp2_with fail
  refine (zf HM.out (zek _ _ _ _ l.ss l.ms _ (HL.out.ss.mono (bAl _ _)) (HL.out.ms.mono (bAl _ _)))).mono ?_;rintro e w1 ⟨rfl,hb⟩;have hX1:=za (zm w #[.slice a l.ss.length ca,.slice b l.ms.length cb,.slice c l.ts.length cc] 41) (by simp) hb;have hz1:w.heap.size < w1.heap.size:=by have:=hb.size;simp at this;omega
  have hB1:Below w.heap.size w w1:=(bAl _ _).trans (hb.mono (by simp));clear hb;go_wp2_with fail
  refine (zhQ _ _ l.ts _ (HL.out.ts.mono hB1)).mono ?_;rintro e w2 ⟨rfl,hb⟩;have hB2:=hB1.trans (hb.mono hB1.size);clear hb hX1 hz1 hB1;go_wp2_with fail
  go_ret;exact ⟨ze HQ.out.symm,hB2⟩
 ·have h1':Gate.yt l.ss l.ms=false:=by simpa using h1
  have HQ:Hid (Gate.zbN l=false):=by unfold Hid Gate.zbN;rw [h1'];rfl
  have HM:Hid (Gate.jo l.ss l.ms=false):=by unfold Hid;rw [<- Gate.zfF];exact h1'
  clear h1 h1';go_enter Tryz.func58,Tryz.ntmps58;go_wp2_with fail
  refine (zf HM.out (zek _ _ _ _ l.ss l.ms _ (HL.out.ss.mono (bAl _ _)) (HL.out.ms.mono (bAl _ _)))).mono ?_;rintro e w1 ⟨rfl,hb⟩;have hB1:Below w.heap.size w w1:=(bAl _ _).trans (hb.mono (by simp));clear hb;go_wp2_with fail
  go_ret;exact ⟨ze HQ.out.symm,hB1⟩
namespace Gate
noncomputable def za1 (l:Lw) (b:Bk):Bool:=zay b && (zH l b && (yj b && (yP l.ts b && (yX b && zcJ l b))))
noncomputable def jN (l:Lw) (b:Bk):Bool:=zbN l && za1 l b
end Gate
theorem zdf {ts:List Tm} {b:Bk} (h:Gate.yP ts b=true):Gate.rising Gate.qC b.ls/\b.ls.length<=10/\∀ i (hi:i < b.ls.length),Gate.yN ts b.ls[i]=true:=by
 unfold Gate.yP at h;simp only [Bool.and_eq_true,decide_eq_true_eq] at h;exact ⟨(Gate.zjm _ _).1 h.2.1,h.1,fun i hi=>List.all_eq_true.1 h.2.2 _ (List.getElem_mem _)⟩
theorem zlK {b:Bk} (h:Gate.zay b=true):0<=b.tick/\b.tick<=1000000:=by
 unfold Gate.zay Gate.within at h;simp only [Bool.and_eq_true,decide_eq_true_eq] at h;exact h.2.1
theorem zlF {b:Bk} (h:Gate.yX b=true):b.ps.length<=24/\∀ i (hi:i < b.ps.length),Gate.yE b.ls b.tick b.ps[i]=true:=by
 unfold Gate.yX at h;simp only [Bool.and_eq_true,decide_eq_true_eq] at h;exact ⟨h.1,fun i hi=>List.all_eq_true.1 h.2.2 _ (List.getElem_mem _)⟩
theorem znm {b:Bk} (h:Gate.rising Gate.qC b.ls):∀ i j (hi:i < b.ls.length) (hj:j < b.ls.length),b.ls[i].tm=b.ls[j].tm->b.ls[i].rs=b.ls[j].rs->i=j:=by
 intro i j hi hj e1 e2
 have hz:∀ i j (hi:i < b.ls.length) (hj:j < b.ls.length),i < j->b.ls[i].tm=b.ls[j].tm->b.ls[i].rs=b.ls[j].rs->False:=by
  intro i j hi hj hlt e1 e2;have h1:=Gate.zcA (fun a b c=>Gate.zbx (a:=a) (b:=b) (c:=c)) h j hj i hlt;have h2:Gate.qC b.ls[i] b.ls[j]=0:=by unfold Gate.qC;rw [Gate.zeY];exact ⟨e1,e2⟩
  omega
 rcases Nat.lt_trichotomy i j with h1 | h1 | h1
 ·exact (hz i j hi hj h1 e1 e2).elim
 ·exact h1
 ·exact (hz j i hj hi h1 e1.symm e2.symm).elim
theorem zpw {ts:List Tm} {b:Bk} (h:Gate.yP ts b=true) (h':Gate.yX b=true) (hz:qF b.os<=1048576):zgs b:=by
 obtain ⟨h1,h2,h3⟩:=zdf h;obtain ⟨p1,p2⟩:=zlF h';refine ⟨znm h1,fun k hk=>?_,fun i hi=>?_,fun i hi=>?_,by omega,by omega,hz⟩
 ·have h4:=p2 k hk
  unfold Gate.yE Gate.jq at h4;simp only [Bool.and_eq_true] at h4;obtain ⟨g,hg,h5⟩:=List.any_eq_true.1 h4.1;obtain ⟨j,hj,rfl⟩:=List.mem_iff_getElem.1 hg;simp only [Bool.and_eq_true,decide_eq_true_eq] at h5;exact ⟨j,hj,h5.1,h5.2⟩
 ·have h4:=h3 i hi
  unfold Gate.yN Gate.jF at h4;simp only [Bool.and_eq_true,decide_eq_true_eq] at h4;omega
 ·have h4:=p2 i hi
  unfold Gate.yE Gate.within at h4;simp only [Bool.and_eq_true,decide_eq_true_eq] at h4;omega
set_option maxRecDepth 20000 in
theorem znN (l:Lw) (la lb lc:Option Addr) (lca lcb lcc:Nat) (b:Bk) (a0 a1 a2 a3:Option Addr) (c0 c1 c2 c3:Nat) (w:World) (hb:y7 w b a0 a1 a2 a3) (hl:y9 w l la lb lc) (hml:l.ms.length<=1048576) (hok:Gate.yt l.ss l.ms=true) (hfw:∀ i (h:i < b.os.length),b.os[i].vs.length<=1048576/\b.os[i].hs.length<=1048576) (hz:qF b.os<=1048576) :
 Calls Tryz.prog 72 #[.agg #[.slice la l.ss.length lca,.slice lb l.ms.length lcb,.slice lc l.ts.length lcc],.agg #[.int .i64 b.now,.int .i64 b.tick,.int .i64 b.given,.slice a0 b.os.length c0,.slice a1 b.gs.length c1,.slice a2 b.ls.length c2,.slice a3 b.ps.length c3]] w fun e w'=>e = .returned (.bool (Gate.za1 l b))/\Below w.heap.size w w':=by
 have HK:Hid (y7 w b a0 a1 a2 a3):=hb;have HL:Hid (y9 w l la lb lc):=hl;have HF:Hid (l.ms.length<=1048576/\Gate.yt l.ss l.ms=true/\(∀ i (h:i < b.os.length),b.os[i].vs.length<=1048576/\b.os[i].hs.length<=1048576)/\qF b.os<=1048576):=⟨hml,hok,hfw,hz⟩
 clear hb hl hml hok hfw hz;go_enter Tryz.func72,Tryz.ntmps72;go_wp2_with fail
 obtain ⟨hL0,hX0⟩:=qw w #[.slice la l.ss.length lca,.slice lb l.ms.length lcb,.slice lc l.ts.length lcc] #[.int .i64 b.now,.int .i64 b.tick,.int .i64 b.given,.slice a0 b.os.length c0,.slice a1 b.gs.length c1,.slice a2 b.ls.length c2,.slice a3 b.ps.length c3] 41 48;have HBi:Hid (Below w.heap.size w ((w.alloc (.cells #[.slice la l.ss.length lca,.slice lb l.ms.length lcb,.slice lc l.ts.length lcc] 41)).alloc (.cells #[.int .i64 b.now,.int .i64 b.tick,.int .i64 b.given,.slice a0 b.os.length c0,.slice a1 b.gs.length c1,.slice a2 b.ls.length c2,.slice a3 b.ps.length c3] 48))):=zA w _ _;obtain ⟨W0,hW0⟩:∃ W0,W0=(w.alloc (.cells #[.slice la l.ss.length lca,.slice lb l.ms.length lcb,.slice lc l.ts.length lcc] 41)).alloc (.cells #[.int .i64 b.now,.int .i64 b.tick,.int .i64 b.given,.slice a0 b.os.length c0,.slice a1 b.gs.length c1,.slice a2 b.ls.length c2,.slice a3 b.ps.length c3] 48):=⟨_,rfl⟩
 have hz0:w.heap.size+1 < W0.heap.size:=by rw [hW0];simp
 rw [<- hW0] at HBi hX0 hL0 ⊢;clear hW0;refine (zkl b a0 a1 a2 a3 c0 c1 c2 c3 _).mono ?_;rintro e w1 ⟨rfl,hb0⟩;have hX1:=za hX0 hz0 hb0;have hL1:=za hL0 (nSl hz0) hb0;have hz1:=nLt hz0 hb0.size;have hy1:=nSl hz1;have HBi:Hid (Below w.heap.size w w1):=HBi.out.trans (hb0.mono HBi.out.size);clear hb0 hX0 hL0 hz0
 by_cases t:Gate.zay b=true
 rotate_left
 ·have HN:Hid (Gate.za1 l b=false):=by unfold Hid Gate.za1;rw [bFi t];rfl
  rw [bFi t];clear t;go_wp2_with fail
  go_ret;exact ⟨ze HN.out.symm,HBi.out⟩
 have HT0:Hid (Gate.zay b=true):=t;rw [t];clear t;go_wp2_with fail
 refine (zi2 l la lb lc lca lcb lcc b a0 a1 a2 a3 c0 c1 c2 c3 _ (HK.out.mono HBi.out) (HL.out.mono HBi.out) HF.out.1 HF.out.2.1 HF.out.2.2.1).mono ?_;rintro e w2 ⟨rfl,hb1⟩;have hX2:=za hX1 hz1 hb1;have hL2:=za hL1 (nSl hz1) hb1;have hz2:=nLt hz1 hb1.size;have hy2:=nSl hz2;have HBi:Hid (Below w.heap.size w w2):=HBi.out.trans (hb1.mono HBi.out.size);clear hb1 hX1 hL1 hz1 hy1
 by_cases t:Gate.zH l b=true
 rotate_left
 ·have HN:Hid (Gate.za1 l b=false):=by unfold Hid Gate.za1;rw [HT0.out,bFi t];rfl
  rw [bFi t];clear t;go_wp2_with fail
  go_ret;exact ⟨ze HN.out.symm,HBi.out⟩
 have HT1:Hid (Gate.zH l b=true):=t;rw [t];clear t;go_wp2_with fail
 refine (zjQ b a0 a1 a2 a3 c0 c1 c2 c3 _ (HK.out.mono HBi.out)).mono ?_;rintro e w3 ⟨rfl,hb2⟩;have hX3:=za hX2 hz2 hb2;have hL3:=za hL2 (nSl hz2) hb2;have hz3:=nLt hz2 hb2.size;have hy3:=nSl hz3;have HBi:Hid (Below w.heap.size w w3):=HBi.out.trans (hb2.mono HBi.out.size);clear hb2 hX2 hL2 hz2 hy2
 by_cases t:Gate.yj b=true
 rotate_left
 ·have HN:Hid (Gate.za1 l b=false):=by unfold Hid Gate.za1;rw [HT0.out,HT1.out,bFi t];rfl
  rw [bFi t];clear t;go_wp2_with fail
  go_ret;exact ⟨ze HN.out.symm,HBi.out⟩
 have HT2:Hid (Gate.yj b=true):=t;rw [t];clear t;go_wp2_with fail
 refine (ziE l la lb lc lca lcb lcc b a0 a1 a2 a3 c0 c1 c2 c3 _ (HK.out.mono HBi.out) (HL.out.mono HBi.out)).mono ?_;rintro e w4 ⟨rfl,hb3⟩;have hX4:=za hX3 hz3 hb3;have hL4:=za hL3 (nSl hz3) hb3;have hz4:=nLt hz3 hb3.size;have hy4:=nSl hz4;have HBi:Hid (Below w.heap.size w w4):=HBi.out.trans (hb3.mono HBi.out.size);clear hb3 hX3 hL3 hz3 hy3
 by_cases t:Gate.yP l.ts b=true
 rotate_left
 ·have HN:Hid (Gate.za1 l b=false):=by unfold Hid Gate.za1;rw [HT0.out,HT1.out,HT2.out,bFi t];rfl
  rw [bFi t];clear t;go_wp2_with fail
  go_ret;exact ⟨ze HN.out.symm,HBi.out⟩
 have HT3:Hid (Gate.yP l.ts b=true):=t;rw [t];clear t;go_wp2_with fail
 refine (zj8 b a0 a1 a2 a3 c0 c1 c2 c3 _ (HK.out.mono HBi.out) (zdf HT3.out).1 (zdf HT3.out).2.1 (zlK HT0.out)).mono ?_;rintro e w5 ⟨rfl,hb4⟩;have hX5:=za hX4 hz4 hb4;have hL5:=za hL4 (nSl hz4) hb4;have hz5:=nLt hz4 hb4.size;have hy5:=nSl hz5;have HBi:Hid (Below w.heap.size w w5):=HBi.out.trans (hb4.mono HBi.out.size);clear hb4 hX4 hL4 hz4 hy4
 by_cases t:Gate.yX b=true
 rotate_left
 ·have HN:Hid (Gate.za1 l b=false):=by unfold Hid Gate.za1;rw [HT0.out,HT1.out,HT2.out,HT3.out,bFi t];rfl
  rw [bFi t];clear t;go_wp2_with fail
  go_ret;exact ⟨ze HN.out.symm,HBi.out⟩
 have HT4:Hid (Gate.yX b=true):=t;rw [t];clear t;go_wp2_with fail
 refine (zlV l la lb lc lca lcb lcc b a0 a1 a2 a3 c0 c1 c2 c3 _ (HL.out.mono HBi.out) (HK.out.mono HBi.out) (zpw HT3.out HT4.out HF.out.2.2.2)).mono ?_;rintro e w6 ⟨rfl,hb5⟩;have HBe:Hid (Below w.heap.size w w6):=HBi.out.trans (hb5.mono HBi.out.size);have HN:Hid (Gate.zcJ l b=Gate.za1 l b):=by unfold Hid Gate.za1;rw [HT0.out,HT1.out,HT2.out,HT3.out,HT4.out];rfl
 rw [HN.out];clear hb5 hX5 hL5 hz5 hy5;go_wp2_with fail
 go_ret;exact ⟨rfl,HBe.out⟩
set_option maxRecDepth 20000 in
theorem ziN (l:Lw) (la lb lc:Option Addr) (lca lcb lcc:Nat) (b:Bk) (a0 a1 a2 a3:Option Addr) (c0 c1 c2 c3:Nat) (w:World) (hl:y9 w l la lb lc) (hb:y7 w b a0 a1 a2 a3) (hlf:l.Few) (hbf:b.Few) (hz:qF b.os<=1048576) :
 Calls Tryz.prog 35 #[.agg (l.cells la lb lc lca lcb lcc),.agg (b.cells a0 a1 a2 a3 c0 c1 c2 c3)] w fun e w'=>e = .returned (.bool (Gate.jN l b))/\Below w.heap.size w w':=by
 have HK:Hid (y7 w b a0 a1 a2 a3):=hb;have HL:Hid (y9 w l la lb lc):=hl;have HF:Hid (l.Few/\b.Few/\qF b.os<=1048576):=⟨hlf,hbf,hz⟩
 clear hb hl hlf hbf hz;unfold Lw.cells Bk.cells;go_enter Tryz.func35,Tryz.ntmps35;go_wp2_with fail
 obtain ⟨hL0,hX0⟩:=qw w #[.slice la l.ss.length lca,.slice lb l.ms.length lcb,.slice lc l.ts.length lcc] #[.int .i64 b.now,.int .i64 b.tick,.int .i64 b.given,.slice a0 b.os.length c0,.slice a1 b.gs.length c1,.slice a2 b.ls.length c2,.slice a3 b.ps.length c3] 41 48;have HBi:Hid (Below w.heap.size w ((w.alloc (.cells #[.slice la l.ss.length lca,.slice lb l.ms.length lcb,.slice lc l.ts.length lcc] 41)).alloc (.cells #[.int .i64 b.now,.int .i64 b.tick,.int .i64 b.given,.slice a0 b.os.length c0,.slice a1 b.gs.length c1,.slice a2 b.ls.length c2,.slice a3 b.ps.length c3] 48))):=zA w _ _;obtain ⟨W0,hW0⟩:∃ W0,W0=(w.alloc (.cells #[.slice la l.ss.length lca,.slice lb l.ms.length lcb,.slice lc l.ts.length lcc] 41)).alloc (.cells #[.int .i64 b.now,.int .i64 b.tick,.int .i64 b.given,.slice a0 b.os.length c0,.slice a1 b.gs.length c1,.slice a2 b.ls.length c2,.slice a3 b.ps.length c3] 48):=⟨_,rfl⟩
 have hz0:w.heap.size+1 < W0.heap.size:=by rw [hW0];simp
 rw [<- hW0] at HBi hX0 hL0 ⊢;clear hW0;refine (zjV l la lb lc lca lcb lcc _ (HL.out.mono HBi.out) HF.out.1).mono ?_;rintro e w1 ⟨rfl,hb0⟩;have hX1:=za hX0 hz0 hb0;have hL1:=za hL0 (nSl hz0) hb0;have hz1:=nLt hz0 hb0.size;have hy1:=nSl hz1;have HBi:Hid (Below w.heap.size w w1):=HBi.out.trans (hb0.mono HBi.out.size);clear hb0 hX0 hL0 hz0
 by_cases t:Gate.zbN l=true
 rotate_left
 ·have HN:Hid (Gate.jN l b=false):=by unfold Hid Gate.jN;rw [bFi t];rfl
  rw [bFi t];clear t;go_wp2_with fail
  go_ret;exact ⟨ze HN.out.symm,HBi.out⟩
 have HN:Hid (Gate.za1 l b=Gate.jN l b):=by unfold Hid Gate.jN;rw [t];rfl
 have HM:Hid (Gate.yt l.ss l.ms=true):=by unfold Gate.zbN at t;simp only [Bool.and_eq_true] at t;exact t.1
 rw [t];clear t;go_wp2_with fail
 refine (znN l la lb lc lca lcb lcc b a0 a1 a2 a3 c0 c1 c2 c3 _ (HK.out.mono HBi.out) (HL.out.mono HBi.out) HF.out.1.ms HM.out HF.out.2.1.os.2 HF.out.2.2).mono ?_;rintro e w2 ⟨rfl,hb1⟩;have HBe:Hid (Below w.heap.size w w2):=HBi.out.trans (hb1.mono HBi.out.size);rw [HN.out];clear hb1 hX1 hL1 hz1 hy1;go_wp2_with fail
 go_ret;exact ⟨rfl,HBe.out⟩
end Go.Proofs.YtghnakljnhnenaaGreat
