import Derived.Test.YtihdafafigceiaaGreatM17
import Derived.Test.YtihdafafigceiaaGreatM16
import Derived.Test.YtihdafafigceiaaGreatM30
import Derived.Test.YtihdafafigceiaaGreatM26
import Derived.Test.YtihdafafigceiaaGreatM21
set_option maxHeartbeats 4000000
namespace Go.Proofs.YtihdafafigceiaaGreat
open Go.RowKit
set_option maxRecDepth 20000 in
theorem zd5 (a a':Option Addr) (cap cap':Nat) (ss:List Shp) (ms:List Mnd) (w:World) (hw:yI w a ss) (hm:yU w a' ms) (hml:ms.length<=1048576) :
 Calls Tryz.prog 104 #[.slice a ss.length cap,.slice a' ms.length cap'] w fun e w'=>e = .returned (.bool (Gate.yh ss ms))/\Below w.heap.size w w':=by
 have HW:Hid (yI w a ss/\yU w a' ms):=⟨hw,hm⟩
 have hl:=hw.len
 unfold maxLen at hl
 clear hw hm
 by_cases h12:ms.length<=12
 rotate_left
 ·have HF:Hid (Gate.yh ss ms=false):=by unfold Hid Gate.yh;rw [decide_eq_false h12];simp
  go_enter Tryz.func104,Tryz.ntmps104
  go_wp2_with fail
  go_ret
  exact ⟨by rw [HF.out];rfl,Below.refl _ _⟩
 have h12I:(ms.length:Int)<=12:=by omega
 by_cases hok:Gate.yg ss=true
 rotate_left
 ·have hokf:Gate.yg ss=false:=by simpa using hok
  have HF:Hid (Gate.yh ss ms=false):=by unfold Hid Gate.yh;rw [hokf];simp
  go_enter Tryz.func104,Tryz.ntmps104
  go_wp2_with fail
  have h:=zdi a cap ss w HW.out.1
  rw [hokf] at h
  refine h.mono ?_
  rintro e w1 ⟨rfl,hb1⟩
  clear h
  go_wp2_with fail
  go_ret
  exact ⟨by rw [HF.out];rfl,hb1⟩
 have HOK:Hid (Gate.yg ss=true):=hok
 go_enter Tryz.func104,Tryz.ntmps104
 go_wp2_with fail
 have h:=zdi a cap ss w HW.out.1
 rw [hok] at h
 refine h.mono ?_
 rintro e w1 ⟨rfl,hb1⟩
 have HB1:Hid (Below w.heap.size w w1):=hb1
 clear h hb1 hok
 go_wp2_with fail
 refine (zcp _).mono ?_
 rintro e w2 ⟨rfl,hw2⟩
 have HB2:Hid (Below w.heap.size w w2/\w2.heap[w1.heap.size]?=some (.map yM 4)/\w1.heap.size < w2.heap.size):=by
  rw [hw2];exact ⟨HB1.out.trans (((Below.refl _ _).alloc (Nat.le_refl _) _).mono HB1.out.size),alloc_at _ _,by simp⟩
 clear hw2
 go_wp2_with fail
 go_loopw [25] (fun iv wr=>∃ k:Nat,k<=ms.length/\iv = .int .i64 k/\(ms.take k).all (Gate.jJ ss)=true/\Below w2.heap.size w2 wr) (fun iv _=>ms.length - (intOf iv).toNat)
 case atStart=>exact ⟨0,Nat.zero_le _,rfl,rfl,Below.refl _ _⟩
 case round =>
  obtain ⟨k,hk,rfl,hall,hB⟩:=hrel
  have HB:Hid (Below w2.heap.size w2 wr/\Below w.heap.size w wr):=⟨hB,HB2.out.1.trans (hB.mono HB2.out.1.size)⟩
  have HA:Hid ((ms.take k).all (Gate.jJ ss)=true):=hall
  clear hall hB
  by_cases hlt:k < ms.length
  ·obtain ⟨b,off,rfl,hb,c0,c1,c2,c3,c4,c5⟩:=HW.out.2.load HB.out.2 k hlt
   have hltI:(k:Int) < (ms.length:Int):=by omega
   have hsm:=HW.out.2.small k hlt
   have HTK:Hid ((ms.take (k+1)).all (Gate.jJ ss)=Gate.jJ ss ms[k]):=by
    unfold Hid;rw [List.take_succ_eq_append_getElem hlt,List.all_append,HA.out];simp
   have HNO:Hid (Gate.jJ ss ms[k]=false->Gate.yh ss ms=false):=by
    intro h
    have:ms.all (Gate.jJ ss)=false:=by rw [List.all_eq_false];exact ⟨_,List.getElem_mem hlt,by rw [h];simp⟩
    unfold Gate.yh;rw [this];simp
   have hba:=(Below.refl wr.heap.size wr).alloc (Nat.le_refl _) (.cells #[.string ms[k].kd,.string ms[k].fd,.string ms[k].wh,.string ms[k].wi,.string ms[k].pt,.string ms[k].fr] 121)
   have HSM:Hid (ms[k].Small):=hsm
   clear hsm
   go_wp2_with fail
   have h:=qJ a cap ss ms[k].kd _ (HW.out.1.mono (HB.out.2.trans (hba.mono HB.out.2.size)))
   by_cases hkk:Gate.zG ss ms[k].kd=true
   rotate_left
   ·have hkf:Gate.zG ss ms[k].kd=false:=by simpa using hkk
    rw [hkf] at h
    refine h.mono ?_
    rintro e w3 ⟨fa,fcap,rfl,hfl,hb3⟩
    have HF:Hid (Gate.yh ss ms=false/\Below w.heap.size w w3):=⟨HNO.out (by unfold Gate.jJ;rw [hkf];rfl),HB.out.2.trans ((hba.trans (hb3.mono hba.size)).mono HB.out.2.size)⟩
    clear h hba hfl hb3 c0 c1 c2 c3 c4 c5
    go_wp2_with fail
    go_ret
    exact ⟨by rw [HF.out.1];rfl,HF.out.2.alloc HF.out.2.size _⟩
   rw [hkk] at h
   refine h.mono ?_
   rintro e w3 ⟨fa,fcap,rfl,hfl,hb3⟩
   have hX3:=za (zm wr _ _) (by simp) hb3
   have hz3:wr.heap.size < w3.heap.size:=by have:=hb3.size;simp at this;omega
   have HB3:Hid (Below wr.heap.size wr w3):=hba.trans (hb3.mono hba.size)
   have hbs:=(Below.refl w3.heap.size w3).alloc (Nat.le_refl _) (.cells #[.string (Gate.shapeOf ss ms[k].kd).kd,.slice fa (Gate.shapeOf ss ms[k].kd).fs.length fcap] 119)
   have HB4:Hid (Below wr.heap.size wr (w3.alloc (.cells #[.string (Gate.shapeOf ss ms[k].kd).kd,.slice fa (Gate.shapeOf ss ms[k].kd).fs.length fcap] 119))):=HB3.out.trans (hbs.mono HB3.out.size)
   have HFL:Hid (zP (w3.alloc (.cells #[.string (Gate.shapeOf ss ms[k].kd).kd,.slice fa (Gate.shapeOf ss ms[k].kd).fs.length fcap] 119)) fa (Gate.shapeOf ss ms[k].kd).fs):=(hfl.mono hb3).mono hbs
   have HMA:Hid (Gate.jJ ss ms[k]=Gate.zaT (Gate.shapeOf ss ms[k].kd).fs ms[k]):=by unfold Hid Gate.jJ;rw [hkk];simp
   have HRM:Hid ((w3.alloc (.cells #[.string (Gate.shapeOf ss ms[k].kd).kd,.slice fa (Gate.shapeOf ss ms[k].kd).fs.length fcap] 119)).heap[w1.heap.size]?=some (.map yM 4)):=by
    have h1:=HB.out.1.size
    have h2:=HB2.out.2.2
    exact (HB4.out.block w1.heap.size (by omega)).trans ((HB.out.1.block w1.heap.size h2).trans HB2.out.2.1)
   clear h hba hfl hb3 hbs hkk c0 c1 c2 c3 c4 c5
   go_wp2_with fail
   have h:=znj w1.heap.size fa fcap (Gate.shapeOf ss ms[k].kd).fs ms[k] _ HRM.out HFL.out HSM.out
   by_cases hmo:Gate.zaT (Gate.shapeOf ss ms[k].kd).fs ms[k]=true
   ·rw [hmo] at h
    refine h.mono ?_
    rintro e w5 ⟨rfl,hb5⟩
    have HY:Hid ((ms.take (k+1)).all (Gate.jJ ss)=true/\Below w2.heap.size w2 w5):=⟨by rw [HTK.out,HMA.out];exact hmo,HB.out.1.trans ((HB4.out.trans (hb5.mono HB4.out.size)).mono HB.out.1.size)⟩
    clear h hb5 hmo hX3
    go_wp2_with fail
    exact ⟨⟨k+1,by omega,by go_num,HY.out.1,HY.out.2⟩,zn hlt⟩
   ·have hmf:Gate.zaT (Gate.shapeOf ss ms[k].kd).fs ms[k]=false:=by simpa using hmo
    rw [hmf] at h
    refine h.mono ?_
    rintro e w5 ⟨rfl,hb5⟩
    have HF:Hid (Gate.yh ss ms=false/\Below w.heap.size w w5):=⟨HNO.out (by rw [HMA.out];exact hmf),HB.out.2.trans ((HB4.out.trans (hb5.mono HB4.out.size)).mono HB.out.2.size)⟩
    clear h hb5 hmo hX3
    go_wp2_with fail
    go_ret
    exact ⟨by rw [HF.out.1];rfl,HF.out.2⟩
  ·have e:k=ms.length:=by omega
   have hall:=HA.out
   rw [e,List.take_of_length_le (Nat.le_refl _)] at hall
   have HALL:Hid (ms.all (Gate.jJ ss)=true):=hall
   subst e
   clear hall HA
   go_wp2_with fail
   have HBw:Hid (Below w.heap.size w wr):=HB.out.2
   clear HB
   go_loopw [49] (fun iv wq=>∃ k:Nat,k<=ss.length/\iv = .int .i64 k/\(ss.take k).all (Gate.rowOk ms)=true/\Below w.heap.size w wq) (fun iv _=>ss.length - (intOf iv).toNat)
   case atStart=>exact ⟨0,Nat.zero_le _,rfl,rfl,HBw.out⟩
   case round =>
    obtain ⟨k,hk,rfl,hall,hB⟩:=hrel
    have HB:Hid (Below w.heap.size w wr):=hB
    have HA:Hid ((ss.take k).all (Gate.rowOk ms)=true):=hall
    clear hall hB
    by_cases hlt:k < ss.length
    ·obtain ⟨b,off,rfl,hb,hr⟩:=HW.out.1.rows (by rintro rfl;simp at hlt)
     obtain ⟨fa,fcap,hs0⟩:=hr k hlt
     have hs:=hs0.mono hb HB.out
     have hck:=hs.kind
     have hcl:=hs.list
     have hfl:=hs.zc8
     have hltI:(k:Int) < (ss.length:Int):=by omega
     have HTK:Hid ((ss.take (k+1)).all (Gate.rowOk ms)=Gate.rowOk ms ss[k]):=by
      unfold Hid;rw [List.take_succ_eq_append_getElem hlt,List.all_append,HA.out];simp
     have HNO:Hid (Gate.rowOk ms ss[k]=false->Gate.yh ss ms=false):=by
      intro h
      have:ss.all (Gate.rowOk ms)=false:=by rw [List.all_eq_false];exact ⟨_,List.getElem_mem hlt,by rw [h];simp⟩
      unfold Gate.yh;rw [this];simp
     have hba:=(Below.refl wr.heap.size wr).alloc (Nat.le_refl _) (.cells #[.string ss[k].kd,.slice fa ss[k].fs.length fcap] 119)
     have HFL:Hid (zP (wr.alloc (.cells #[.string ss[k].kd,.slice fa ss[k].fs.length fcap] 119)) fa ss[k].fs):=hfl.mono hba
     have HBA:Hid (Below w.heap.size w (wr.alloc (.cells #[.string ss[k].kd,.slice fa ss[k].fs.length fcap] 119))):=HB.out.trans (hba.mono HB.out.size)
     clear hr hs0 hs hfl hba
     go_wp2_with fail
     have h:=zg9 ss[k] ms a' fa cap' fcap _ (HW.out.2.mono HBA.out) HFL.out hml (Gate.zfa HOK.out k hlt) (Gate.ziB HOK.out HALL.out k hlt)
     by_cases hrk:Gate.rowOk ms ss[k]=true
     ·have hrk':(Gate.zH (Gate.zl ss[k] ms) ss[k].fs.length).1=true:=hrk
      refine h.mono ?_
      rintro e w5 ⟨v5,rfl,hb5,_⟩
      have HY:Hid ((ss.take (k+1)).all (Gate.rowOk ms)=true/\Below w.heap.size w w5):=⟨by rw [HTK.out];exact hrk,HBA.out.trans (hb5.mono HBA.out.size)⟩
      rw [hrk']
      clear h hb5 hrk hrk' hck hcl
      go_wp2_with fail
      exact ⟨⟨k+1,by omega,by go_num,HY.out.1,HY.out.2⟩,zn hlt⟩
     ·have hrf:Gate.rowOk ms ss[k]=false:=by simpa using hrk
      have hrk':(Gate.zH (Gate.zl ss[k] ms) ss[k].fs.length).1=false:=hrf
      refine h.mono ?_
      rintro e w5 ⟨v5,rfl,hb5,_⟩
      have HF:Hid (Gate.yh ss ms=false/\Below w.heap.size w w5):=⟨HNO.out hrf,HBA.out.trans (hb5.mono HBA.out.size)⟩
      rw [hrk']
      clear h hb5 hrk hrk' hck hcl
      go_wp2_with fail
      go_ret
      exact ⟨by rw [HF.out.1];rfl,HF.out.2⟩
    ·have e:k=ss.length:=by omega
     have hall:=HA.out
     rw [e,List.take_of_length_le (Nat.le_refl _)] at hall
     have HF:Hid (Gate.yh ss ms=true):=by unfold Hid Gate.yh;rw [HALL.out,HOK.out,hall,decide_eq_true h12];rfl
     subst e
     clear hall HA
     go_wp2_with fail
     go_ret
     exact ⟨by rw [HF.out];rfl,HB.out⟩
theorem Gate.zoC (ts:List Tm):(!(ts.any fun t=>!Gate.zdF ts t))=Gate.up (Gate.ze5 ts) ts.length:=by
 rw [Bool.eq_iff_iff,Gate.zcw]
 simp only [Bool.not_eq_true',List.any_eq_false]
 constructor
 ·intro h i hi
  have:=h ts[i] (List.getElem_mem hi)
  unfold Gate.ze5
  rw [Gate.getD_at ts i _ hi]
  simpa using this
 ·intro h x hx
  obtain ⟨k,hk,rfl⟩:=List.mem_iff_getElem.1 hx
  have:=h k hk
  unfold Gate.ze5 at this
  rw [Gate.getD_at ts k _ hk] at this
  simp [this]
theorem Gate.zcl (ts:List Tm) (k:Nat) (h:k < ts.length) (b:Bool) (hb:(decide (k=0) || Gate.less (ts.getD (k - 1) Gate.zbf).nm ts[k].nm)=b) :
 Gate.qF ts k=(Gate.zy ts[k].nm && b && (ts[k].ov.toList.isEmpty || Gate.yB ts ts[k].ov)):=by
 unfold Gate.qF;rw [Gate.getD_at ts k _ h,hb]
theorem zhQ (a:Option Addr) (cap:Nat) (ts:List Tm) (w:World) (hw:jl w a ts) :
 Calls Tryz.prog 105 #[.slice a ts.length cap] w fun e w'=>e = .returned (.bool (Gate.zbt ts))/\Below w.heap.size w w':=by
 have hl:=hw.len
 unfold maxLen at hl
 by_cases h12:ts.length<=12
 rotate_left
 ·have HF:Hid (Gate.zbt ts=false):=by simp [Hid,Gate.zbt,h12]
  clear hw
  go_enter Tryz.func105,Tryz.ntmps105
  go_wp2_with fail
  go_ret
  exact ⟨ze HF.out.symm,(Below.refl _ _).alloc (Nat.le_refl _) _⟩
 have HG:Hid (Gate.zbt ts=(Gate.up (Gate.qF ts) ts.length && Gate.up (Gate.ze5 ts) ts.length)):=by simp [Hid,Gate.zbt,h12]
 have h12I:(ts.length:Int)<=12:=by omega
 go_enter Tryz.func105,Tryz.ntmps105
 go_wp2_with fail
 have hB00:Below w.heap.size w (w.alloc (.cells #[.slice a ts.length cap] 39)):=(Below.refl _ _).alloc (Nat.le_refl _) _
 have hX00:=zm w #[.slice a ts.length cap] 39
 have hz00:w.heap.size < (w.alloc (.cells #[.slice a ts.length cap] 39)).heap.size:=by simp
 obtain ⟨w0,hw0⟩:∃ w0,w0=w.alloc (.cells #[.slice a ts.length cap] 39):=⟨_,rfl⟩
 rw [<- hw0] at hB00 hX00 hz00 ⊢
 have HW0:Hid (jl w0 a ts):=hw.mono hB00
 have HB00:Hid (Below w.heap.size w w0):=hB00
 clear hw0 hw hB00
 go_loopw [10] (fun i wr=>∃ k:Nat,k<=ts.length/\i = .int .i64 k/\Gate.up (Gate.qF ts) k=true/\Below w0.heap.size w0 wr) (fun i _=>ts.length - (intOf i).toNat)
 case atStart=>exact ⟨0,Nat.zero_le _,rfl,rfl,Below.refl _ _⟩
 case round =>
  obtain ⟨k,hk,rfl,hup,hB⟩:=hrel
  have hsz:=hB.size
  have hX:=za hX00 hz00 hB
  have hX0:wr.cell? ⟨w.heap.size,0,none⟩=some (.slice a ts.length cap):=hX 0
  have hzr:w.heap.size < wr.heap.size:=by omega
  have HBr:Hid (Below w.heap.size w wr):=HB00.out.trans (hB.mono (by omega))
  clear hX hX00
  by_cases hlt:k < ts.length
  ·obtain ⟨b,off,rfl,hb,c0,c1⟩:=HW0.out.load hB k hlt
   have hbr:b < wr.heap.size:=by omega
   have hsm:=HW0.out.small k hlt
   have hsn:=hsm.nm
   have HS:Hid (Gate.qF ts k=true->Gate.up (Gate.qF ts) (k+1)=true):=fun h=>by rw [Gate.qZ,hup,h];rfl
   have HN:Hid (Gate.qF ts k=false->Gate.zbt ts=false):=fun h=>by rw [HG.out,Gate.zaD hlt h];rfl
   have hltI:(k:Int) < (ts.length:Int):=by omega
   have HB:Hid (Below w0.heap.size w0 wr):=hB
   clear hup hsm hB
   by_cases hn:Gate.zy ts[k].nm=true
   rotate_left
   ·have HNm:Hid (Gate.zy ts[k].nm=false):=by simpa [Hid] using hn
    have HF:Hid (Gate.qF ts k=false):=by unfold Hid;rw [Gate.zcl ts k hlt _ rfl,HNm.out];rfl
    clear hn
    go_wp2_with fail
    go_quiet ((go_at_call 140;exact Calls.quiet_of_same (zf HNm.out (zF _ _ hsn))))
    go_wp2_with fail
    go_ret
    exact ⟨ze (HN.out HF.out).symm,below_drewN (HBr.out.alloc (by omega) _) _⟩
   have HNm:Hid (Gate.zy ts[k].nm=true):=hn
   clear hn
   by_cases hbad:0 < k/\Gate.less (ts.getD (k - 1) Gate.zbf).nm ts[k].nm=false
   ·obtain ⟨hkpos,hls⟩:=hbad
    have HF:Hid (Gate.qF ts k=false):=by
     unfold Hid;rw [Gate.zcl ts k hlt false (by rw [hls,decide_eq_false (show ¬ k=0 by omega)];rfl)];simp
    obtain ⟨m,rfl⟩:∃ m,k=m+1:=⟨k - 1,by omega⟩
    rw [Nat.add_sub_cancel,Gate.getD_at ts m _ (by omega)] at hls
    obtain ⟨b',off',e',hb',d0,d1⟩:=HW0.out.load HB.out m (by omega)
    simp only [Option.some.injEq,Addr.mk.injEq] at e'
    obtain ⟨rfl,rfl,_⟩:=e'
    have hls':Op.bytesLess ts[m].nm.toList ts[m+1].nm.toList=false:=hls
    have hmI:(m:Int) < 12:=by omega
    have hm0:(0:Int)<=(m:Int):=by omega
    have hml:(m:Int) < (ts.length:Int):=by omega
    have hmw:IntKind.i64.wrap (m:Int)=m:=by rw [IntKind.wrap_i64];omega
    clear hls
    go_wp2_with fail
    go_quiet ((go_at_call 140;exact Calls.quiet_of_same (zf HNm.out (zF _ _ hsn))))
    go_wp2_with fail
    go_ret
    exact ⟨ze (HN.out HF.out).symm,below_drewN (HBr.out.alloc (by omega) _) _⟩
   have hgd:(decide (k=0) || Gate.less (ts.getD (k - 1) Gate.zbf).nm ts[k].nm)=true:=by
    by_cases hk0:k=0
    ·simp [hk0]
    ·cases hq:Gate.less (ts.getD (k - 1) Gate.zbf).nm ts[k].nm
     ·exact absurd ⟨by omega,hq⟩ hbad
     ·simp
   have HA:Hid (Gate.qF ts k=(ts[k].ov.toList.isEmpty || Gate.yB ts ts[k].ov)):=by
    unfold Hid;rw [Gate.zcl ts k hlt true hgd,HNm.out];rfl
   have hgood:(decide (0 < k)=false) \/ (decide (0 < k)=true/\∃ m,k=m+1/\∃ h:m < ts.length,Op.bytesLess ts[m].nm.toList ts[k].nm.toList=true/\wr.cell? ⟨b,off+m * 2,none⟩=some (.string ts[m].nm)):=by
    by_cases hk0:k=0
    ·exact Or.inl (by simp;omega)
    ·refine Or.inr ⟨by simp;omega,k - 1,by omega,by omega,?_,?_⟩
     ·rw [decide_eq_false hk0,Gate.getD_at ts (k - 1) _ (by omega)] at hgd
      exact hgd
     ·obtain ⟨b',off',e',hb',d0,d1⟩:=HW0.out.load HB.out (k - 1) (by omega)
      simp only [Option.some.injEq,Addr.mk.injEq] at e'
      obtain ⟨rfl,rfl,_⟩:=e'
      exact d0
   clear hbad hgd
   have HBx:Hid (∀ (ob:Obj) (n:Nat),Below wr.heap.size wr ((wr.alloc ob).drewN n)):=fun ob n=>below_drewN ((Below.refl _ _).alloc (Nat.le_refl _) _) _
   by_cases hov:ts[k].ov.toList.isEmpty=true
   ·have HT:Hid (Gate.qF ts k=true):=by unfold Hid;rw [HA.out,hov];rfl
    rcases hgood with hg | ⟨hg,m,rfl,hm,hls',d0⟩
    ·go_wp2_with fail
     go_quiet ((go_at_call 140;exact Calls.quiet_of_same (zf HNm.out (zF _ _ hsn))))
     go_wp2_with fail
     exact ⟨⟨k+1,by omega,by go_num,HS.out HT.out,HB.out.trans ((HBx.out _ _).mono hsz)⟩,by simp [intOf];omega⟩
    ·have hmI:(m:Int) < 12:=by omega
     have hm0:(0:Int)<=(m:Int):=by omega
     have hml:(m:Int) < (ts.length:Int):=by omega
     have hmw:IntKind.i64.wrap (m:Int)=m:=by rw [IntKind.wrap_i64];omega
     go_wp2_with fail
     go_quiet ((go_at_call 140;exact Calls.quiet_of_same (zf HNm.out (zF _ _ hsn))))
     go_wp2_with fail
     exact ⟨⟨m+1+1,by omega,by go_num,HS.out HT.out,HB.out.trans ((HBx.out _ _).mono hsz)⟩,by simp [intOf];omega⟩
   ·have hov':ts[k].ov.toList.isEmpty=false:=by simpa using hov
    clear hov
    by_cases hit:Gate.yB ts ts[k].ov=true
    ·have HI:Hid (Gate.yB ts ts[k].ov=true):=hit
     have HT:Hid (Gate.qF ts k=true):=by unfold Hid;rw [HA.out,hit];simp
     clear hit
     rcases hgood with hg | ⟨hg,m,rfl,hm,hls',d0⟩
     ·go_wp2_with fail
      go_quiet ((go_at_call 140;exact Calls.quiet_of_same (zf HNm.out (zF _ _ hsn))))
      go_wp2_with fail
      refine (zf HI.out (zbL _ _ ts _ _ ((HW0.out.mono HB.out).mono (HBx.out _ _)))).mono ?_
      rintro e w3 ⟨rfl,hb3⟩
      have hB3:Below w0.heap.size w0 w3:=(HB.out.trans ((HBx.out _ _).mono hsz)).trans (hb3.mono (by simp;omega))
      clear hb3
      go_wp2_with fail
      exact ⟨⟨k+1,by omega,by go_num,HS.out HT.out,hB3⟩,by simp [intOf];omega⟩
     ·have hmI:(m:Int) < 12:=by omega
      have hm0:(0:Int)<=(m:Int):=by omega
      have hml:(m:Int) < (ts.length:Int):=by omega
      have hmw:IntKind.i64.wrap (m:Int)=m:=by rw [IntKind.wrap_i64];omega
      go_wp2_with fail
      go_quiet ((go_at_call 140;exact Calls.quiet_of_same (zf HNm.out (zF _ _ hsn))))
      go_wp2_with fail
      refine (zf HI.out (zbL _ _ ts _ _ ((HW0.out.mono HB.out).mono (HBx.out _ _)))).mono ?_
      rintro e w3 ⟨rfl,hb3⟩
      have hB3:Below w0.heap.size w0 w3:=(HB.out.trans ((HBx.out _ _).mono hsz)).trans (hb3.mono (by simp;omega))
      clear hb3
      go_wp2_with fail
      exact ⟨⟨m+1+1,by omega,by go_num,HS.out HT.out,hB3⟩,by simp [intOf];omega⟩
    ·have HI:Hid (Gate.yB ts ts[k].ov=false):=by simpa [Hid] using hit
     have HF:Hid (Gate.qF ts k=false):=by unfold Hid;rw [HA.out,HI.out,hov'];rfl
     clear hit
     rcases hgood with hg | ⟨hg,m,rfl,hm,hls',d0⟩
     ·go_wp2_with fail
      go_quiet ((go_at_call 140;exact Calls.quiet_of_same (zf HNm.out (zF _ _ hsn))))
      go_wp2_with fail
      refine (zf HI.out (zbL _ _ ts _ _ ((HW0.out.mono HB.out).mono (HBx.out _ _)))).mono ?_
      rintro e w3 ⟨rfl,hb3⟩
      have hB3:Below w.heap.size w w3:=(HBr.out.trans ((HBx.out _ _).mono (by omega))).trans (hb3.mono (by simp;omega))
      clear hb3
      go_wp2_with fail
      go_ret
      exact ⟨ze (HN.out HF.out).symm,hB3⟩
     ·have hmI:(m:Int) < 12:=by omega
      have hm0:(0:Int)<=(m:Int):=by omega
      have hml:(m:Int) < (ts.length:Int):=by omega
      have hmw:IntKind.i64.wrap (m:Int)=m:=by rw [IntKind.wrap_i64];omega
      go_wp2_with fail
      go_quiet ((go_at_call 140;exact Calls.quiet_of_same (zf HNm.out (zF _ _ hsn))))
      go_wp2_with fail
      refine (zf HI.out (zbL _ _ ts _ _ ((HW0.out.mono HB.out).mono (HBx.out _ _)))).mono ?_
      rintro e w3 ⟨rfl,hb3⟩
      have hB3:Below w.heap.size w w3:=(HBr.out.trans ((HBx.out _ _).mono (by omega))).trans (hb3.mono (by simp;omega))
      clear hb3
      go_wp2_with fail
      go_ret
      exact ⟨ze (HN.out HF.out).symm,hB3⟩
  ·have HF:Hid (Gate.zbt ts=!(ts.any fun t=>!Gate.zdF ts t)):=by
    have e:k=ts.length:=by omega
    subst e;rw [Hid,HG.out,hup,Gate.zoC];rfl
   have HWr:Hid (jl wr a ts):=HW0.out.mono hB
   clear hup hB
   go_wp2_with fail
   refine (zfI _ _ ts _ _ _ HWr.out (znR _ _ ts _ _ HWr.out hzr hX0)).mono ?_
   rintro e w3 ⟨rfl,hb3⟩
   have hB3:Below w.heap.size w w3:=HBr.out.trans (hb3.mono (by omega))
   clear hb3
   go_wp2_with fail
   go_ret
   exact ⟨ze HF.out.symm,hB3⟩
theorem zbE (a:Option Addr) (cap:Nat) (ts:List Tm) (v:ByteArray) (w:World) (hw:jl w a ts) :
 Calls Tryz.prog 89 #[.slice a ts.length cap,.string v] w fun e w'=>e = .returned (.bool (Gate.yB ts v))/\w'=w:=by
 have hl:=hw.len
 unfold maxLen at hl
 go_enter Tryz.func89,Tryz.ntmps89
 go_wp2_with fail
 go_loop [5] (fun i=>∃ k:Nat,k<=ts.length/\i = .int .i64 k/\Gate.yB (ts.take k) v=false) (fun i=>ts.length - (intOf i).toNat)
 case atStart=>exact ⟨0,Nat.zero_le _,rfl,rfl⟩
 case round =>
  obtain ⟨k,hk,rfl,hall⟩:=hrel
  by_cases hlt:k < ts.length
  ·obtain ⟨b,off,rfl,hb,c0,c1⟩:=hw.load (Below.refl _ _) k hlt
   clear hw
   have HS:Hid (Gate.yB (ts.take (k+1)) v=(false || decide (ts[k].nm=v))):=by rw [Gate.zdu ts v k hlt,hall];rfl
   have hltI:(k:Int) < (ts.length:Int):=by omega
   by_cases he:ts[k].nm=v
   ·have hbe:(ts[k].nm.toList == v.toList)=true:=by rw [Gate.beq_toList];simpa using he
    have HR:Hid (Gate.yB ts v=true):=Gate.zmC ts v k hlt he
    clear he hall
    go_wp2_with fail
    go_ret
    exact ⟨ze HR.out.symm,rfl⟩
   ·have hbe:(ts[k].nm.toList == v.toList)=false:=by rw [Gate.beq_toList];simpa using he
    have HE:Hid (¬ ts[k].nm=v):=he
    clear he hall
    go_wp2_with fail
    go_round
    case rel=>exact ⟨k+1,by omega,by go_num,by rw [HS.out,decide_eq_false HE.out];rfl⟩
    case measure=>simp [intOf];omega
  ·have HR:Hid (Gate.yB ts v=false):=by rw [<- Gate.zep ts v k (by omega)];exact hall
   clear hall hw
   go_wp2_with fail
   go_ret
   exact ⟨ze HR.out.symm,rfl⟩
theorem Gate.zcb (ts:List Tm) (m:Nat) (z:ByteArray) (h:z.size=0):Gate.qy ts m z=z:=by
 cases m with
 | zero=>rfl
 | succ m=>unfold Gate.qy;rw [if_pos h]
theorem Gate.zcC (ts:List Tm) (m:Nat) (z:ByteArray) (h:¬ z.size=0):Gate.qy ts (m+1) z=Gate.qy ts m (Gate.over ts z):=by
 rw [Gate.qy,if_neg h]
theorem zhU (a:Option Addr) (cap:Nat) (ts:List Tm) (w:World) (hw:jl w a ts) :
 Calls Tryz.prog 87 #[.slice a ts.length cap] w fun e w'=>e = .returned (.bool (Gate.zaK ts))/\Below w.heap.size w w':=by
 have hl:=hw.len
 unfold maxLen at hl
 by_cases h12:ts.length<=12
 rotate_left
 ·have HF:Hid (Gate.zaK ts=false):=by simp [Hid,Gate.zaK,h12]
  clear hw
  go_enter Tryz.func87,Tryz.ntmps87
  go_wp2_with fail
  go_ret
  exact ⟨ze HF.out.symm,Below.refl _ _⟩
 have HG:Hid (Gate.zaK ts=Gate.up (Gate.zbV ts) ts.length):=by simp [Hid,Gate.zaK,h12]
 have h12I:(ts.length:Int)<=12:=by omega
 have HW0:Hid (jl w a ts):=hw
 clear hw
 go_enter Tryz.func87,Tryz.ntmps87
 go_wp2_with fail
 go_loopw [3] (fun i wr=>∃ k:Nat,k<=ts.length/\i = .int .i64 k/\Gate.up (Gate.zbV ts) k=true/\Below w.heap.size w wr) (fun i _=>ts.length - (intOf i).toNat)
 case atStart=>exact ⟨0,Nat.zero_le _,rfl,rfl,Below.refl _ _⟩
 case round =>
  obtain ⟨k,hk,rfl,hup,hB⟩:=hrel
  obtain ⟨W0,rfl⟩:∃ W0,W0=wr:=⟨wr,rfl⟩
  have hsz:=hB.size
  by_cases hlt:k < ts.length
  ·obtain ⟨b,off,rfl,hb,c0,c1⟩:=HW0.out.load hB k hlt
   have hbr:b < W0.heap.size:=by omega
   have hsm:=HW0.out.small k hlt
   have hsn:=hsm.nm
   have HS:Hid (Gate.qF ts k=true->Gate.zby ts k=true->Gate.up (Gate.zbV ts) (k+1)=true):=fun h h'=>by rw [Gate.qZ,hup,Gate.zbV,h,h'];rfl
   have HN:Hid (Gate.qF ts k=false->Gate.zaK ts=false):=fun h=>by rw [HG.out];exact Gate.zaD hlt (by rw [Gate.zbV,h];rfl)
   have HD:Hid (Gate.zby ts k=false->Gate.zaK ts=false):=fun h=>by rw [HG.out];exact Gate.zaD hlt (by rw [Gate.zbV,h,Bool.and_false])
   have HDS:Hid (Gate.zby ts k=decide ((Gate.qy ts 5 ts[k].nm).size=0)):=by unfold Hid Gate.zby;rw [Gate.getD_at ts k _ hlt]
   have hltI:(k:Int) < (ts.length:Int):=by omega
   have HB:Hid (Below w.heap.size w W0):=hB
   have HBx:Hid (∀ (ob:Obj) (n:Nat),Below W0.heap.size W0 ((W0.alloc ob).drewN n)):=fun ob n=>below_drewN ((Below.refl _ _).alloc (Nat.le_refl _) _) _
   have HWr:Hid (∀ (ob:Obj) (n:Nat),jl ((W0.alloc ob).drewN n) (some ⟨b,off,none⟩) ts):=fun ob n=>(HW0.out.mono hB).mono (below_drewN ((Below.refl _ _).alloc (Nat.le_refl _) _) _)
   clear hup hsm hB
   by_cases hn:Gate.zy ts[k].nm=true
   rotate_left
   ·have HNm:Hid (Gate.zy ts[k].nm=false):=by simpa [Hid] using hn
    have HF:Hid (Gate.qF ts k=false):=by unfold Hid;rw [Gate.zcl ts k hlt _ rfl,HNm.out];rfl
    clear hn
    go_wp2_with fail
    go_quiet ((go_at_call 95;exact Calls.quiet_of_same (zf HNm.out (zh _ _ hsn))))
    go_wp2_with fail
    go_ret
    exact ⟨ze (HN.out HF.out).symm,HB.out.trans ((HBx.out _ _).mono hsz)⟩
   have HNm:Hid (Gate.zy ts[k].nm=true):=hn
   clear hn
   by_cases hbad:0 < k/\Gate.less (ts.getD (k - 1) Gate.zbf).nm ts[k].nm=false
   ·obtain ⟨hkpos,hls⟩:=hbad
    have HF:Hid (Gate.qF ts k=false):=by
     unfold Hid;rw [Gate.zcl ts k hlt false (by rw [hls,decide_eq_false (show ¬ k=0 by omega)];rfl)];simp
    obtain ⟨m,rfl⟩:∃ m,k=m+1:=⟨k - 1,by omega⟩
    rw [Nat.add_sub_cancel,Gate.getD_at ts m _ (by omega)] at hls
    obtain ⟨b',off',e',hb',d0,d1⟩:=HW0.out.load HB.out m (by omega)
    simp only [Option.some.injEq,Addr.mk.injEq] at e'
    obtain ⟨rfl,rfl,_⟩:=e'
    have hls':Op.bytesLess ts[m].nm.toList ts[m+1].nm.toList=false:=hls
    have hmI:(m:Int) < 12:=by omega
    have hm0:(0:Int)<=(m:Int):=by omega
    have hml:(m:Int) < (ts.length:Int):=by omega
    have hmw:IntKind.i64.wrap (m:Int)=m:=by rw [IntKind.wrap_i64];omega
    clear hls
    go_wp2_with fail
    go_quiet ((go_at_call 95;exact Calls.quiet_of_same (zf HNm.out (zh _ _ hsn))))
    go_wp2_with fail
    go_ret
    exact ⟨ze (HN.out HF.out).symm,HB.out.trans ((HBx.out _ _).mono hsz)⟩
   have hgd:(decide (k=0) || Gate.less (ts.getD (k - 1) Gate.zbf).nm ts[k].nm)=true:=by
    by_cases hk0:k=0
    ·simp [hk0]
    ·cases hq:Gate.less (ts.getD (k - 1) Gate.zbf).nm ts[k].nm
     ·exact absurd ⟨by omega,hq⟩ hbad
     ·simp
   have HA:Hid (Gate.qF ts k=(ts[k].ov.toList.isEmpty || Gate.yB ts ts[k].ov)):=by
    unfold Hid;rw [Gate.zcl ts k hlt true hgd,HNm.out];rfl
   have hgood:(decide (0 < k)=false) \/ (decide (0 < k)=true/\(0:Int)<=(k:Int) - 1/\(k:Int) - 1 < (ts.length:Int)/\∃ h:k - 1 < ts.length,Op.bytesLess ts[k - 1].nm.toList ts[k].nm.toList=true/\W0.cell? ⟨b,off+(k - 1) * 2,none⟩=some (.string ts[k - 1].nm)):=by
    by_cases hk0:k=0
    ·exact Or.inl (by simp;omega)
    ·refine Or.inr ⟨by simp;omega,by omega,by omega,by omega,?_,?_⟩
     ·rw [decide_eq_false hk0,Gate.getD_at ts (k - 1) _ (by omega)] at hgd
      exact hgd
     ·obtain ⟨b',off',e',hb',d0,d1⟩:=HW0.out.load HB.out (k - 1) (by omega)
      simp only [Option.some.injEq,Addr.mk.injEq] at e'
      obtain ⟨rfl,rfl,_⟩:=e'
      exact d0
   clear hbad hgd
   by_cases hov:ts[k].ov.toList.isEmpty=true
   ·have HT:Hid (Gate.qF ts k=true):=by unfold Hid;rw [HA.out,hov];rfl
    rcases hgood with hg | ⟨hg,hk1,hk2,hkm,hls',d0⟩
    ·go_wp2_with fail
     go_quiet ((go_at_call 95;exact Calls.quiet_of_same (zf HNm.out (zh _ _ hsn))))
     go_wp2_with fail
     obtain ⟨W1,hW1⟩:∃ W1,W1=(W0.alloc (.cells #[.string ts[k].nm,.string ts[k].ov] 123)).drewN nq:=⟨_,rfl⟩
     have HB1:Hid (Below w.heap.size w W1):=by unfold Hid;rw [hW1];exact HB.out.trans ((HBx.out _ _).mono hsz)
     have HW1:Hid (jl W1 (some ⟨b,off,none⟩) ts):=HW0.out.mono HB1.out
     rw [<- hW1]
     clear hW1
     go_loopw [5,6] (fun p i wi=>∃ (n:Nat) (z:ByteArray),n<=5/\p = .string z/\i = .int .i64 n/\Gate.qy ts 5 ts[k].nm=Gate.qy ts (5 - n) z/\wi=W1) (fun _ i _=>5 - (intOf i).toNat)
     case atStart=>exact ⟨0,ts[k].nm,Nat.zero_le _,rfl,rfl,rfl,rfl⟩
     case round =>
      obtain ⟨n,z,hn5,rfl,rfl,hz,rfl⟩:=hrel
      by_cases hn:n < 5
      ·have hnI:(n:Int)<=4:=by omega
       by_cases hz0:z.size=0
       ·have hze:z.toList.isEmpty=true:=by rw [Gate.zu];simpa using hz0
        have HDT:Hid (Gate.zby ts (k)=true):=by unfold Hid;rw [HDS.out,hz,Gate.zcb ts _ z hz0];simpa using hz0
        clear hz hz0
        go_wp2_with fail
        exact ⟨⟨k+1,by omega,by go_num,HS.out HT.out HDT.out,HB1.out⟩,by simp [intOf];omega⟩
       ·have hze:z.toList.isEmpty=false:=by rw [Gate.zu];simpa using hz0
        have HZ:Hid (Gate.qy ts 5 ts[k].nm=Gate.qy ts (5 - (n+1)) (Gate.over ts z)):=by
         obtain ⟨q,hq⟩:∃ q,5 - n=q+1:=⟨4 - n,by omega⟩
         rw [Hid,hz,hq,Gate.zcC ts q z hz0,show 5 - (n+1)=q by omega]
        clear hz hz0
        go_wp2_with (go_at_call 123;refine (zbe _ _ ts _ _ HW1.out).mono ?_;rintro e w' ⟨rfl,rfl⟩)
        exact ⟨⟨n+1,Gate.over ts z,by omega,rfl,by go_num,HZ.out,trivial⟩,by simp [intOf];omega⟩
      ·have e5:5 - n=0:=by omega
       rw [e5] at hz
       have hnI:¬ (n:Int)<=4:=by omega
       by_cases hz0:z.size=0
       ·have hze:z.toList.isEmpty=true:=by rw [Gate.zu];simpa using hz0
        have HDT:Hid (Gate.zby ts (k)=true):=by unfold Hid;rw [HDS.out,hz];simpa [Gate.qy] using hz0
        clear hz hz0
        go_wp2_with fail
        exact ⟨⟨k+1,by omega,by go_num,HS.out HT.out HDT.out,HB1.out⟩,by simp [intOf];omega⟩
       ·have hze:z.toList.isEmpty=false:=by rw [Gate.zu];simpa using hz0
        have HDT:Hid (Gate.zby ts (k)=false):=by unfold Hid;rw [HDS.out,hz];simpa [Gate.qy] using hz0
        clear hz hz0
        go_wp2_with fail
        go_ret
        exact ⟨ze (HD.out HDT.out).symm,HB1.out⟩
    ·go_wp2_with fail
     go_quiet ((go_at_call 95;exact Calls.quiet_of_same (zf HNm.out (zh _ _ hsn))))
     go_wp2_with fail
     obtain ⟨W1,hW1⟩:∃ W1,W1=(W0.alloc (.cells #[.string ts[k].nm,.string ts[k].ov] 123)).drewN nq:=⟨_,rfl⟩
     have HB1:Hid (Below w.heap.size w W1):=by unfold Hid;rw [hW1];exact HB.out.trans ((HBx.out _ _).mono hsz)
     have HW1:Hid (jl W1 (some ⟨b,off,none⟩) ts):=HW0.out.mono HB1.out
     rw [<- hW1]
     clear hW1
     go_loopw [5,6] (fun p i wi=>∃ (n:Nat) (z:ByteArray),n<=5/\p = .string z/\i = .int .i64 n/\Gate.qy ts 5 ts[k].nm=Gate.qy ts (5 - n) z/\wi=W1) (fun _ i _=>5 - (intOf i).toNat)
     case atStart=>exact ⟨0,ts[k].nm,Nat.zero_le _,rfl,rfl,rfl,rfl⟩
     case round =>
      obtain ⟨n,z,hn5,rfl,rfl,hz,rfl⟩:=hrel
      by_cases hn:n < 5
      ·have hnI:(n:Int)<=4:=by omega
       by_cases hz0:z.size=0
       ·have hze:z.toList.isEmpty=true:=by rw [Gate.zu];simpa using hz0
        have HDT:Hid (Gate.zby ts (k)=true):=by unfold Hid;rw [HDS.out,hz,Gate.zcb ts _ z hz0];simpa using hz0
        clear hz hz0
        go_wp2_with fail
        exact ⟨⟨k+1,by omega,by go_num,HS.out HT.out HDT.out,HB1.out⟩,by simp [intOf];omega⟩
       ·have hze:z.toList.isEmpty=false:=by rw [Gate.zu];simpa using hz0
        have HZ:Hid (Gate.qy ts 5 ts[k].nm=Gate.qy ts (5 - (n+1)) (Gate.over ts z)):=by
         obtain ⟨q,hq⟩:∃ q,5 - n=q+1:=⟨4 - n,by omega⟩
         rw [Hid,hz,hq,Gate.zcC ts q z hz0,show 5 - (n+1)=q by omega]
        clear hz hz0
        go_wp2_with (go_at_call 123;refine (zbe _ _ ts _ _ HW1.out).mono ?_;rintro e w' ⟨rfl,rfl⟩)
        exact ⟨⟨n+1,Gate.over ts z,by omega,rfl,by go_num,HZ.out,trivial⟩,by simp [intOf];omega⟩
      ·have e5:5 - n=0:=by omega
       rw [e5] at hz
       have hnI:¬ (n:Int)<=4:=by omega
       by_cases hz0:z.size=0
       ·have hze:z.toList.isEmpty=true:=by rw [Gate.zu];simpa using hz0
        have HDT:Hid (Gate.zby ts (k)=true):=by unfold Hid;rw [HDS.out,hz];simpa [Gate.qy] using hz0
        clear hz hz0
        go_wp2_with fail
        exact ⟨⟨k+1,by omega,by go_num,HS.out HT.out HDT.out,HB1.out⟩,by simp [intOf];omega⟩
       ·have hze:z.toList.isEmpty=false:=by rw [Gate.zu];simpa using hz0
        have HDT:Hid (Gate.zby ts (k)=false):=by unfold Hid;rw [HDS.out,hz];simpa [Gate.qy] using hz0
        clear hz hz0
        go_wp2_with fail
        go_ret
        exact ⟨ze (HD.out HDT.out).symm,HB1.out⟩
   ·have hov':ts[k].ov.toList.isEmpty=false:=by simpa using hov
    clear hov
    by_cases hit:Gate.yB ts ts[k].ov=true
    ·have HI:Hid (Gate.yB ts ts[k].ov=true):=hit
     have HT:Hid (Gate.qF ts k=true):=by unfold Hid;rw [HA.out,hit];simp
     clear hit
     rcases hgood with hg | ⟨hg,hk1,hk2,hkm,hls',d0⟩
     ·go_wp2_with fail
      go_quiet (first | (go_at_call 95;exact Calls.quiet_of_same (zf HNm.out (zh _ _ hsn))) | (go_at_call 89;exact Calls.quiet_of_same (zf HI.out (zbE _ _ ts _ _ (by exact HWr.out _ _)))))
      go_wp2_with fail
      obtain ⟨W1,hW1⟩:∃ W1,W1=(W0.alloc (.cells #[.string ts[k].nm,.string ts[k].ov] 123)).drewN nq:=⟨_,rfl⟩
      have HB1:Hid (Below w.heap.size w W1):=by unfold Hid;rw [hW1];exact HB.out.trans ((HBx.out _ _).mono hsz)
      have HW1:Hid (jl W1 (some ⟨b,off,none⟩) ts):=HW0.out.mono HB1.out
      rw [<- hW1]
      clear hW1
      go_loopw [5,6] (fun p i wi=>∃ (n:Nat) (z:ByteArray),n<=5/\p = .string z/\i = .int .i64 n/\Gate.qy ts 5 ts[k].nm=Gate.qy ts (5 - n) z/\wi=W1) (fun _ i _=>5 - (intOf i).toNat)
      case atStart=>exact ⟨0,ts[k].nm,Nat.zero_le _,rfl,rfl,rfl,rfl⟩
      case round =>
       obtain ⟨n,z,hn5,rfl,rfl,hz,rfl⟩:=hrel
       by_cases hn:n < 5
       ·have hnI:(n:Int)<=4:=by omega
        by_cases hz0:z.size=0
        ·have hze:z.toList.isEmpty=true:=by rw [Gate.zu];simpa using hz0
         have HDT:Hid (Gate.zby ts (k)=true):=by unfold Hid;rw [HDS.out,hz,Gate.zcb ts _ z hz0];simpa using hz0
         clear hz hz0
         go_wp2_with fail
         exact ⟨⟨k+1,by omega,by go_num,HS.out HT.out HDT.out,HB1.out⟩,by simp [intOf];omega⟩
        ·have hze:z.toList.isEmpty=false:=by rw [Gate.zu];simpa using hz0
         have HZ:Hid (Gate.qy ts 5 ts[k].nm=Gate.qy ts (5 - (n+1)) (Gate.over ts z)):=by
          obtain ⟨q,hq⟩:∃ q,5 - n=q+1:=⟨4 - n,by omega⟩
          rw [Hid,hz,hq,Gate.zcC ts q z hz0,show 5 - (n+1)=q by omega]
         clear hz hz0
         go_wp2_with (go_at_call 123;refine (zbe _ _ ts _ _ HW1.out).mono ?_;rintro e w' ⟨rfl,rfl⟩)
         exact ⟨⟨n+1,Gate.over ts z,by omega,rfl,by go_num,HZ.out,trivial⟩,by simp [intOf];omega⟩
       ·have e5:5 - n=0:=by omega
        rw [e5] at hz
        have hnI:¬ (n:Int)<=4:=by omega
        by_cases hz0:z.size=0
        ·have hze:z.toList.isEmpty=true:=by rw [Gate.zu];simpa using hz0
         have HDT:Hid (Gate.zby ts (k)=true):=by unfold Hid;rw [HDS.out,hz];simpa [Gate.qy] using hz0
         clear hz hz0
         go_wp2_with fail
         exact ⟨⟨k+1,by omega,by go_num,HS.out HT.out HDT.out,HB1.out⟩,by simp [intOf];omega⟩
        ·have hze:z.toList.isEmpty=false:=by rw [Gate.zu];simpa using hz0
         have HDT:Hid (Gate.zby ts (k)=false):=by unfold Hid;rw [HDS.out,hz];simpa [Gate.qy] using hz0
         clear hz hz0
         go_wp2_with fail
         go_ret
         exact ⟨ze (HD.out HDT.out).symm,HB1.out⟩
     ·go_wp2_with fail
      go_quiet (first | (go_at_call 95;exact Calls.quiet_of_same (zf HNm.out (zh _ _ hsn))) | (go_at_call 89;exact Calls.quiet_of_same (zf HI.out (zbE _ _ ts _ _ (by exact HWr.out _ _)))))
      go_wp2_with fail
      obtain ⟨W1,hW1⟩:∃ W1,W1=(W0.alloc (.cells #[.string ts[k].nm,.string ts[k].ov] 123)).drewN nq:=⟨_,rfl⟩
      have HB1:Hid (Below w.heap.size w W1):=by unfold Hid;rw [hW1];exact HB.out.trans ((HBx.out _ _).mono hsz)
      have HW1:Hid (jl W1 (some ⟨b,off,none⟩) ts):=HW0.out.mono HB1.out
      rw [<- hW1]
      clear hW1
      go_loopw [5,6] (fun p i wi=>∃ (n:Nat) (z:ByteArray),n<=5/\p = .string z/\i = .int .i64 n/\Gate.qy ts 5 ts[k].nm=Gate.qy ts (5 - n) z/\wi=W1) (fun _ i _=>5 - (intOf i).toNat)
      case atStart=>exact ⟨0,ts[k].nm,Nat.zero_le _,rfl,rfl,rfl,rfl⟩
      case round =>
       obtain ⟨n,z,hn5,rfl,rfl,hz,rfl⟩:=hrel
       by_cases hn:n < 5
       ·have hnI:(n:Int)<=4:=by omega
        by_cases hz0:z.size=0
        ·have hze:z.toList.isEmpty=true:=by rw [Gate.zu];simpa using hz0
         have HDT:Hid (Gate.zby ts (k)=true):=by unfold Hid;rw [HDS.out,hz,Gate.zcb ts _ z hz0];simpa using hz0
         clear hz hz0
         go_wp2_with fail
         exact ⟨⟨k+1,by omega,by go_num,HS.out HT.out HDT.out,HB1.out⟩,by simp [intOf];omega⟩
        ·have hze:z.toList.isEmpty=false:=by rw [Gate.zu];simpa using hz0
         have HZ:Hid (Gate.qy ts 5 ts[k].nm=Gate.qy ts (5 - (n+1)) (Gate.over ts z)):=by
          obtain ⟨q,hq⟩:∃ q,5 - n=q+1:=⟨4 - n,by omega⟩
          rw [Hid,hz,hq,Gate.zcC ts q z hz0,show 5 - (n+1)=q by omega]
         clear hz hz0
         go_wp2_with (go_at_call 123;refine (zbe _ _ ts _ _ HW1.out).mono ?_;rintro e w' ⟨rfl,rfl⟩)
         exact ⟨⟨n+1,Gate.over ts z,by omega,rfl,by go_num,HZ.out,trivial⟩,by simp [intOf];omega⟩
       ·have e5:5 - n=0:=by omega
        rw [e5] at hz
        have hnI:¬ (n:Int)<=4:=by omega
        by_cases hz0:z.size=0
        ·have hze:z.toList.isEmpty=true:=by rw [Gate.zu];simpa using hz0
         have HDT:Hid (Gate.zby ts (k)=true):=by unfold Hid;rw [HDS.out,hz];simpa [Gate.qy] using hz0
         clear hz hz0
         go_wp2_with fail
         exact ⟨⟨k+1,by omega,by go_num,HS.out HT.out HDT.out,HB1.out⟩,by simp [intOf];omega⟩
        ·have hze:z.toList.isEmpty=false:=by rw [Gate.zu];simpa using hz0
         have HDT:Hid (Gate.zby ts (k)=false):=by unfold Hid;rw [HDS.out,hz];simpa [Gate.qy] using hz0
         clear hz hz0
         go_wp2_with fail
         go_ret
         exact ⟨ze (HD.out HDT.out).symm,HB1.out⟩
    ·have HI:Hid (Gate.yB ts ts[k].ov=false):=by simpa [Hid] using hit
     have HF:Hid (Gate.qF ts k=false):=by unfold Hid;rw [HA.out,HI.out,hov'];rfl
     clear hit
     rcases hgood with hg | ⟨hg,hk1,hk2,hkm,hls',d0⟩
     ·go_wp2_with fail
      go_quiet (first | (go_at_call 95;exact Calls.quiet_of_same (zf HNm.out (zh _ _ hsn))) | (go_at_call 89;exact Calls.quiet_of_same (zf HI.out (zbE _ _ ts _ _ (by exact HWr.out _ _)))))
      go_wp2_with fail
      go_ret
      exact ⟨ze (HN.out HF.out).symm,HB.out.trans ((HBx.out _ _).mono hsz)⟩
     ·go_wp2_with fail
      go_quiet (first | (go_at_call 95;exact Calls.quiet_of_same (zf HNm.out (zh _ _ hsn))) | (go_at_call 89;exact Calls.quiet_of_same (zf HI.out (zbE _ _ ts _ _ (by exact HWr.out _ _)))))
      go_wp2_with fail
      go_ret
      exact ⟨ze (HN.out HF.out).symm,HB.out.trans ((HBx.out _ _).mono hsz)⟩
  ·have HF:Hid (Gate.zaK ts=true):=by
    have e:k=ts.length:=by omega
    subst e;rw [Hid,HG.out,hup]
   clear hup
   go_wp2_with fail
   go_ret
   exact ⟨ze HF.out.symm,hB⟩
def Gate.zbB (l:Lw):Bool:=Gate.yh l.ss l.ms && Gate.zbt l.ts
theorem zjq (l:Lw) (a b c:Option Addr) (ca cb cc:Nat) (w:World) (hl:y9 w l a b c) (hf:l.Few) :
 Calls Tryz.prog 69 #[.agg (l.cells a b c ca cb cc)] w fun e w'=>e = .returned (.bool (Gate.zbB l))/\Below w.heap.size w w':=by
 have HL:Hid (y9 w l a b c):=hl
 have HF:Hid l.Few:=hf
 clear hl hf
 unfold Lw.cells
 by_cases h1:Gate.yh l.ss l.ms=true
 ·have HQ:Hid (Gate.zbB l=Gate.zbt l.ts):=by unfold Hid Gate.zbB;rw [h1];rfl
  have HM:Hid (Gate.yh l.ss l.ms=true):=h1
  clear h1
  go_enter Tryz.func69,Tryz.ntmps69
  go_wp2_with fail
  refine (zf HM.out (zd5 _ _ _ _ l.ss l.ms _ (HL.out.ss.mono ((Below.refl _ _).alloc (Nat.le_refl _) _)) (HL.out.ms.mono ((Below.refl _ _).alloc (Nat.le_refl _) _)) HF.out.ms)).mono ?_
  rintro e w1 ⟨rfl,hb⟩
  have hX1:=za (zm w #[.slice a l.ss.length ca,.slice b l.ms.length cb,.slice c l.ts.length cc] 41) (by simp) hb
  have hz1:w.heap.size < w1.heap.size:=by have:=hb.size;simp at this;omega
  have hB1:Below w.heap.size w w1:=((Below.refl _ _).alloc (Nat.le_refl _) _).trans (hb.mono (by simp))
  clear hb
  go_wp2_with fail
  refine (zhQ _ _ l.ts _ (HL.out.ts.mono hB1)).mono ?_
  rintro e w2 ⟨rfl,hb⟩
  have hB2:=hB1.trans (hb.mono hB1.size)
  clear hb hX1 hz1 hB1
  go_wp2_with fail
  go_ret
  exact ⟨ze HQ.out.symm,hB2⟩
 ·have h1':Gate.yh l.ss l.ms=false:=by simpa using h1
  have HQ:Hid (Gate.zbB l=false):=by unfold Hid Gate.zbB;rw [h1'];rfl
  have HM:Hid (Gate.yh l.ss l.ms=false):=h1'
  clear h1 h1'
  go_enter Tryz.func69,Tryz.ntmps69
  go_wp2_with fail
  refine (zf HM.out (zd5 _ _ _ _ l.ss l.ms _ (HL.out.ss.mono ((Below.refl _ _).alloc (Nat.le_refl _) _)) (HL.out.ms.mono ((Below.refl _ _).alloc (Nat.le_refl _) _)) HF.out.ms)).mono ?_
  rintro e w1 ⟨rfl,hb⟩
  have hB1:Below w.heap.size w w1:=((Below.refl _ _).alloc (Nat.le_refl _) _).trans (hb.mono (by simp))
  clear hb
  go_wp2_with fail
  go_ret
  exact ⟨ze HQ.out.symm,hB1⟩
theorem zjF (l:Lw) (a b c:Option Addr) (ca cb cc:Nat) (w:World) (hl:y9 w l a b c) :
 Calls Tryz.prog 56 #[.agg (l.cells a b c ca cb cc)] w fun e w'=>e = .returned (.bool (Gate.zbB l))/\Below w.heap.size w w':=by
 have HL:Hid (y9 w l a b c):=hl
 clear hl
 unfold Lw.cells
 by_cases h1:Gate.yh l.ss l.ms=true
 ·have HQ:Hid (Gate.zbB l=Gate.zaK l.ts):=by unfold Hid Gate.zbB;rw [h1,Gate.zkw];rfl
  have HM:Hid (Gate.jm l.ss l.ms=true):=by unfold Hid;rw [<- Gate.zfA];exact h1
  clear h1
  go_enter Tryz.func56,Tryz.ntmps56
  go_wp2_with fail
  refine (zf HM.out (zd4 _ _ _ _ l.ss l.ms _ (HL.out.ss.mono ((Below.refl _ _).alloc (Nat.le_refl _) _)) (HL.out.ms.mono ((Below.refl _ _).alloc (Nat.le_refl _) _)))).mono ?_
  rintro e w1 ⟨rfl,hb⟩
  have hX1:=za (zm w #[.slice a l.ss.length ca,.slice b l.ms.length cb,.slice c l.ts.length cc] 41) (by simp) hb
  have hz1:w.heap.size < w1.heap.size:=by have:=hb.size;simp at this;omega
  have hB1:Below w.heap.size w w1:=((Below.refl _ _).alloc (Nat.le_refl _) _).trans (hb.mono (by simp))
  clear hb
  go_wp2_with fail
  refine (zhU _ _ l.ts _ (HL.out.ts.mono hB1)).mono ?_
  rintro e w2 ⟨rfl,hb⟩
  have hB2:=hB1.trans (hb.mono hB1.size)
  clear hb hX1 hz1 hB1
  go_wp2_with fail
  go_ret
  exact ⟨ze HQ.out.symm,hB2⟩
 ·have h1':Gate.yh l.ss l.ms=false:=by simpa using h1
  have HQ:Hid (Gate.zbB l=false):=by unfold Hid Gate.zbB;rw [h1'];rfl
  have HM:Hid (Gate.jm l.ss l.ms=false):=by unfold Hid;rw [<- Gate.zfA];exact h1'
  clear h1 h1'
  go_enter Tryz.func56,Tryz.ntmps56
  go_wp2_with fail
  refine (zf HM.out (zd4 _ _ _ _ l.ss l.ms _ (HL.out.ss.mono ((Below.refl _ _).alloc (Nat.le_refl _) _)) (HL.out.ms.mono ((Below.refl _ _).alloc (Nat.le_refl _) _)))).mono ?_
  rintro e w1 ⟨rfl,hb⟩
  have hB1:Below w.heap.size w w1:=((Below.refl _ _).alloc (Nat.le_refl _) _).trans (hb.mono (by simp))
  clear hb
  go_wp2_with fail
  go_ret
  exact ⟨ze HQ.out.symm,hB1⟩
end Go.Proofs.YtihdafafigceiaaGreat
