import Derived.Test.YtkficnallnpjnaaGreatM12
set_option maxHeartbeats 4000000
namespace Go.Proofs.YtkficnallnpjnaaGreat
open Go.RowKit
theorem zdA (s:ByteArray):s.toList.isEmpty=true \/ (s.toList.isEmpty=false/\Hid (zA s=true)) \/ (s.toList.isEmpty=false/\Hid (zA s=false)):=by
 by_cases h:s.toList.isEmpty=true
 ·exact Or.inl h
 ·by_cases h2:zA s=true
  ·exact Or.inr (Or.inl ⟨by simpa using h,h2⟩)
  ·exact Or.inr (Or.inr ⟨by simpa using h,by simpa[Hid] using h2⟩)
theorem zok (r:Rl)(a:Option Addr)(cap:Nat)(w:World)(hm:r.Small)(hw:ql w a r.vs) :
 Calls Tryz.prog 167 #[.agg (r.cells a cap)] w fun e w'=>e=.returned (.bool (zQ r))/\Below w.heap.size w w':=by
 have hskd:=hm.kd;have hstm:=hm.tm;have hspx:=hm.px;have hpx:=hm.px;unfold maxLen at hpx;unfold Rl.cells;have HB:Hid (∀ob,Below w.heap.size w (w.alloc ob)):=fun ob=>bAl _ _
 have HI:Hid (∀ob,ql (w.alloc ob) a r.vs):=fun ob=>hw.mono (HB.out ob)
 clear hw hm
 rcases zdA r.kd with hk|⟨hk,HK⟩|⟨hk,HK⟩
 ·rcases zdA r.tm with ht|⟨ht,HT⟩|⟨ht,HT⟩
  ·have HKD:Hid (qJ r=true):=by unfold Hid qJ;rw[hk,ht];simp
   by_cases hv:jd r.vs=true
   rotate_left
   ·have HV:Hid (jd r.vs=false):=by simpa[Hid] using hv
    have HF:Hid (zQ r=false):=by unfold Hid zQ;rw[HV.out];simp
    clear hv;go_enter Tryz.func167,Tryz.ntmps167
    go_wp2_with (first|(go_at_call 207;refine(zf HV.out (qD _ _ r.vs _ (by exact HI.out _))).mono ?_;rintro e w'⟨rfl,rfl⟩))
    go_ret;exact⟨ze HF.out.symm,HB.out _⟩
   have HV:Hid (jd r.vs=true):=hv;clear hv
   by_cases h16:r.px.size<=16
   ·have HF:Hid (zQ r=yV r.px):=by unfold Hid zQ;rw[HKD.out,HV.out,decide_eq_true h16];rfl
    have h16I:(r.px.size:Int)<=16:=by omega
    clear h16;go_enter Tryz.func167,Tryz.ntmps167
    go_wp2_with (first|(go_at_call 207;refine(zf HV.out (qD _ _ r.vs _ (by exact HI.out _))).mono ?_;rintro e w'⟨rfl,rfl⟩)|(go_at_call 197;refine(jS r.px _ hspx).mono ?_;rintro e w'⟨rfl,rfl⟩))
    go_ret;exact⟨ze HF.out.symm,HB.out _⟩
   ·have HF:Hid (zQ r=false):=by unfold Hid zQ;rw[decide_eq_false h16];simp
    have h16I:decide ((r.px.size:Int)<=16)=false:=by simp;omega
    clear h16;go_enter Tryz.func167,Tryz.ntmps167
    go_wp2_with (first|(go_at_call 207;refine(zf HV.out (qD _ _ r.vs _ (by exact HI.out _))).mono ?_;rintro e w'⟨rfl,rfl⟩))
    go_ret;exact⟨ze HF.out.symm,HB.out _⟩
  ·have HKD:Hid (qJ r=true):=by unfold Hid qJ;rw[hk,HT.out];simp
   by_cases hv:jd r.vs=true
   rotate_left
   ·have HV:Hid (jd r.vs=false):=by simpa[Hid] using hv
    have HF:Hid (zQ r=false):=by unfold Hid zQ;rw[HV.out];simp
    clear hv;go_enter Tryz.func167,Tryz.ntmps167
    go_wp2_with (first|(go_at_call_of 154 (Value.string r.tm);refine(zf HT.out (zH r.tm _ hstm)).mono ?_;rintro e w'⟨rfl,rfl⟩)|(go_at_call 207;refine(zf HV.out (qD _ _ r.vs _ (by exact HI.out _))).mono ?_;rintro e w'⟨rfl,rfl⟩))
    go_ret;exact⟨ze HF.out.symm,HB.out _⟩
   have HV:Hid (jd r.vs=true):=hv;clear hv
   by_cases h16:r.px.size<=16
   ·have HF:Hid (zQ r=yV r.px):=by unfold Hid zQ;rw[HKD.out,HV.out,decide_eq_true h16];rfl
    have h16I:(r.px.size:Int)<=16:=by omega
    clear h16;go_enter Tryz.func167,Tryz.ntmps167
    go_wp2_with (first|(go_at_call_of 154 (Value.string r.tm);refine(zf HT.out (zH r.tm _ hstm)).mono ?_;rintro e w'⟨rfl,rfl⟩)|(go_at_call 207;refine(zf HV.out (qD _ _ r.vs _ (by exact HI.out _))).mono ?_;rintro e w'⟨rfl,rfl⟩)|(go_at_call 197;refine(jS r.px _ hspx).mono ?_;rintro e w'⟨rfl,rfl⟩))
    go_ret;exact⟨ze HF.out.symm,HB.out _⟩
   ·have HF:Hid (zQ r=false):=by unfold Hid zQ;rw[decide_eq_false h16];simp
    have h16I:decide ((r.px.size:Int)<=16)=false:=by simp;omega
    clear h16;go_enter Tryz.func167,Tryz.ntmps167
    go_wp2_with (first|(go_at_call_of 154 (Value.string r.tm);refine(zf HT.out (zH r.tm _ hstm)).mono ?_;rintro e w'⟨rfl,rfl⟩)|(go_at_call 207;refine(zf HV.out (qD _ _ r.vs _ (by exact HI.out _))).mono ?_;rintro e w'⟨rfl,rfl⟩))
    go_ret;exact⟨ze HF.out.symm,HB.out _⟩
  ·have HF:Hid (zQ r=false):=by unfold Hid zQ qJ;rw[ht,HT.out];simp
   go_enter Tryz.func167,Tryz.ntmps167
   go_wp2_with (first|(go_at_call_of 154 (Value.string r.tm);refine(zf HT.out (zH r.tm _ hstm)).mono ?_;rintro e w'⟨rfl,rfl⟩))
   go_ret;exact⟨ze HF.out.symm,HB.out _⟩
 ·rcases zdA r.tm with ht|⟨ht,HT⟩|⟨ht,HT⟩
  ·have HKD:Hid (qJ r=true):=by unfold Hid qJ;rw[HK.out,ht];simp
   by_cases hv:jd r.vs=true
   rotate_left
   ·have HV:Hid (jd r.vs=false):=by simpa[Hid] using hv
    have HF:Hid (zQ r=false):=by unfold Hid zQ;rw[HV.out];simp
    clear hv;go_enter Tryz.func167,Tryz.ntmps167
    go_wp2_with (first|(go_at_call_of 154 (Value.string r.kd);refine(zf HK.out (zH r.kd _ hskd)).mono ?_;rintro e w'⟨rfl,rfl⟩)|(go_at_call 207;refine(zf HV.out (qD _ _ r.vs _ (by exact HI.out _))).mono ?_;rintro e w'⟨rfl,rfl⟩))
    go_ret;exact⟨ze HF.out.symm,HB.out _⟩
   have HV:Hid (jd r.vs=true):=hv;clear hv
   by_cases h16:r.px.size<=16
   ·have HF:Hid (zQ r=yV r.px):=by unfold Hid zQ;rw[HKD.out,HV.out,decide_eq_true h16];rfl
    have h16I:(r.px.size:Int)<=16:=by omega
    clear h16;go_enter Tryz.func167,Tryz.ntmps167
    go_wp2_with (first|(go_at_call_of 154 (Value.string r.kd);refine(zf HK.out (zH r.kd _ hskd)).mono ?_;rintro e w'⟨rfl,rfl⟩)|(go_at_call 207;refine(zf HV.out (qD _ _ r.vs _ (by exact HI.out _))).mono ?_;rintro e w'⟨rfl,rfl⟩)|(go_at_call 197;refine(jS r.px _ hspx).mono ?_;rintro e w'⟨rfl,rfl⟩))
    go_ret;exact⟨ze HF.out.symm,HB.out _⟩
   ·have HF:Hid (zQ r=false):=by unfold Hid zQ;rw[decide_eq_false h16];simp
    have h16I:decide ((r.px.size:Int)<=16)=false:=by simp;omega
    clear h16;go_enter Tryz.func167,Tryz.ntmps167
    go_wp2_with (first|(go_at_call_of 154 (Value.string r.kd);refine(zf HK.out (zH r.kd _ hskd)).mono ?_;rintro e w'⟨rfl,rfl⟩)|(go_at_call 207;refine(zf HV.out (qD _ _ r.vs _ (by exact HI.out _))).mono ?_;rintro e w'⟨rfl,rfl⟩))
    go_ret;exact⟨ze HF.out.symm,HB.out _⟩
  ·have HKD:Hid (qJ r=true):=by unfold Hid qJ;rw[HK.out,HT.out];simp
   by_cases hv:jd r.vs=true
   rotate_left
   ·have HV:Hid (jd r.vs=false):=by simpa[Hid] using hv
    have HF:Hid (zQ r=false):=by unfold Hid zQ;rw[HV.out];simp
    clear hv;go_enter Tryz.func167,Tryz.ntmps167
    go_wp2_with (first|(go_at_call_of 154 (Value.string r.kd);refine(zf HK.out (zH r.kd _ hskd)).mono ?_;rintro e w'⟨rfl,rfl⟩)|(go_at_call_of 154 (Value.string r.tm);refine(zf HT.out (zH r.tm _ hstm)).mono ?_;rintro e w'⟨rfl,rfl⟩)|(go_at_call 207;refine(zf HV.out (qD _ _ r.vs _ (by exact HI.out _))).mono ?_;rintro e w'⟨rfl,rfl⟩))
    go_ret;exact⟨ze HF.out.symm,HB.out _⟩
   have HV:Hid (jd r.vs=true):=hv;clear hv
   by_cases h16:r.px.size<=16
   ·have HF:Hid (zQ r=yV r.px):=by unfold Hid zQ;rw[HKD.out,HV.out,decide_eq_true h16];rfl
    have h16I:(r.px.size:Int)<=16:=by omega
    clear h16;go_enter Tryz.func167,Tryz.ntmps167
    go_wp2_with (first|(go_at_call_of 154 (Value.string r.kd);refine(zf HK.out (zH r.kd _ hskd)).mono ?_;rintro e w'⟨rfl,rfl⟩)|(go_at_call_of 154 (Value.string r.tm);refine(zf HT.out (zH r.tm _ hstm)).mono ?_;rintro e w'⟨rfl,rfl⟩)|(go_at_call 207;refine(zf HV.out (qD _ _ r.vs _ (by exact HI.out _))).mono ?_;rintro e w'⟨rfl,rfl⟩)|(go_at_call 197;refine(jS r.px _ hspx).mono ?_;rintro e w'⟨rfl,rfl⟩))
    go_ret;exact⟨ze HF.out.symm,HB.out _⟩
   ·have HF:Hid (zQ r=false):=by unfold Hid zQ;rw[decide_eq_false h16];simp
    have h16I:decide ((r.px.size:Int)<=16)=false:=by simp;omega
    clear h16;go_enter Tryz.func167,Tryz.ntmps167
    go_wp2_with (first|(go_at_call_of 154 (Value.string r.kd);refine(zf HK.out (zH r.kd _ hskd)).mono ?_;rintro e w'⟨rfl,rfl⟩)|(go_at_call_of 154 (Value.string r.tm);refine(zf HT.out (zH r.tm _ hstm)).mono ?_;rintro e w'⟨rfl,rfl⟩)|(go_at_call 207;refine(zf HV.out (qD _ _ r.vs _ (by exact HI.out _))).mono ?_;rintro e w'⟨rfl,rfl⟩))
    go_ret;exact⟨ze HF.out.symm,HB.out _⟩
  ·have HF:Hid (zQ r=false):=by unfold Hid zQ qJ;rw[ht,HT.out];simp
   go_enter Tryz.func167,Tryz.ntmps167
   go_wp2_with (first|(go_at_call_of 154 (Value.string r.kd);refine(zf HK.out (zH r.kd _ hskd)).mono ?_;rintro e w'⟨rfl,rfl⟩)|(go_at_call_of 154 (Value.string r.tm);refine(zf HT.out (zH r.tm _ hstm)).mono ?_;rintro e w'⟨rfl,rfl⟩))
   go_ret;exact⟨ze HF.out.symm,HB.out _⟩
 ·have HF:Hid (zQ r=false):=by unfold Hid zQ qJ;rw[hk,HK.out];simp
  go_enter Tryz.func167,Tryz.ntmps167
  go_wp2_with (first|(go_at_call_of 154 (Value.string r.kd);refine(zf HK.out (zH r.kd _ hskd)).mono ?_;rintro e w'⟨rfl,rfl⟩))
  go_ret;exact⟨ze HF.out.symm,HB.out _⟩
theorem zqQ (ts:List Tm):(!(ts.any fun t=>!zeh ts t))=up (zfV ts) ts.length:=by
 rw[Bool.eq_iff_iff,zcY];simp only[Bool.not_eq_true',List.any_eq_false]
 constructor
 ·intro h i hi
  have:=h ts[i] (List.getElem_mem hi)
  unfold zfV;rw[getD_at ts i _ hi]
  simpa using this
 ·intro h x hx
  obtain⟨k,hk,rfl⟩:=List.mem_iff_getElem.1 hx
  have:=h k hk
  unfold zfV at this;rw[getD_at ts k _ hk]at this
  simp[this]
theorem zcD (ts:List Tm)(k:Nat)(h:k<ts.length)(b:Bool)(hb:(decide (k=0)||less (ts.getD (k-1) zbd).nm ts[k].nm)=b) :
 qB ts k=(zA ts[k].nm&&b&&(ts[k].ov.toList.isEmpty||yB ts ts[k].ov)):=by
 unfold qB;rw[getD_at ts k _ h,hb]
theorem ziA (a:Option Addr)(cap:Nat)(ts:List Tm)(w:World)(hw:jO w a ts) :
 Calls Tryz.prog 118 #[.slice a ts.length cap] w fun e w'=>e=.returned (.bool (zbH ts))/\Below w.heap.size w w':=by
 have hl:=hw.len;unfold maxLen at hl
 by_cases h12:ts.length<=12
 rotate_left
 ·have HF:Hid (zbH ts=false):=by simp[Hid,zbH,h12]
  clear hw;go_enter Tryz.func118,Tryz.ntmps118;go_wp2_with fail
  go_ret;exact⟨ze HF.out.symm,bAl _ _⟩
 have HG:Hid (zbH ts=(up (qB ts) ts.length&&up (zfV ts) ts.length)):=by simp[Hid,zbH,h12]
 have h12I:(ts.length:Int)<=12:=by omega
 go_enter Tryz.func118,Tryz.ntmps118;go_wp2_with fail
 have hB00:Below w.heap.size w (w.alloc (.cells #[.slice a ts.length cap] 45)):=bAl _ _;have hX00:=zl w #[.slice a ts.length cap] 45;have hz00:w.heap.size<(w.alloc (.cells #[.slice a ts.length cap] 45)).heap.size:=by simp
 obtain⟨w0,hw0⟩:∃w0,w0=w.alloc (.cells #[.slice a ts.length cap] 45):=⟨_,rfl⟩
 rw[<- hw0]at hB00 hX00 hz00 ⊢;have HW0:Hid (jO w0 a ts):=hw.mono hB00;have HB00:Hid (Below w.heap.size w w0):=hB00;clear hw0 hw hB00
 go_loopw [10] (fun i wr=>∃k:Nat,k<=ts.length/\i=.int .i64 k/\up (qB ts) k=true/\Below w0.heap.size w0 wr) (fun i _=>ts.length-(intOf i).toNat)
 case atStart=>exact⟨0,Nat.zero_le _,rfl,rfl,bRf _ _⟩
 case round=>
  obtain⟨k,hk,rfl,hup,hB⟩:=hrel;have hsz:=hB.size;have hX:=za hX00 hz00 hB;have hX0:wr.cell? ⟨w.heap.size,0,none⟩=some (.slice a ts.length cap):=hX 0;have hzr:w.heap.size<wr.heap.size:=by omega
  have HBr:Hid (Below w.heap.size w wr):=HB00.out.trans (hB.mono (by omega));clear hX hX00
  by_cases hlt:k<ts.length
  ·obtain⟨b,off,rfl,hb,c0,c1⟩:=HW0.out.load hB k hlt
   have hbr:b<wr.heap.size:=by omega
   have hsm:=HW0.out.small k hlt;have hsn:=hsm.nm;have HS:Hid (qB ts k=true->up (qB ts) (k+1)=true):=fun h=>by rw[qZ,hup,h];rfl
   have HN:Hid (qB ts k=false->zbH ts=false):=fun h=>by rw[HG.out,zaG hlt h];rfl
   have hltI:(k:Int)<(ts.length:Int):=by omega
   have HB:Hid (Below w0.heap.size w0 wr):=hB;clear hup hsm hB
   by_cases hn:zA ts[k].nm=true
   rotate_left
   ·have HNm:Hid (zA ts[k].nm=false):=by simpa[Hid] using hn
    have HF:Hid (qB ts k=false):=by unfold Hid;rw[zcD ts k hlt _ rfl,HNm.out];rfl
    clear hn;go_wp2_with fail
    go_quiet ((go_at_call 154;exact Calls.quiet_of_same (zf HNm.out (zH _ _ hsn))))
    go_wp2_with fail
    go_ret;exact⟨ze (HN.out HF.out).symm,below_drewN (HBr.out.alloc (by omega) _) _⟩
   have HNm:Hid (zA ts[k].nm=true):=hn;clear hn
   by_cases hbad:0<k/\less (ts.getD (k-1) zbd).nm ts[k].nm=false
   ·obtain⟨hkpos,hls⟩:=hbad
    have HF:Hid (qB ts k=false):=by
     unfold Hid;rw[zcD ts k hlt false (by rw[hls,decide_eq_false (show ¬k=0 by omega)];rfl)];simp
    obtain⟨m,rfl⟩:∃m,k=m+1:=⟨k-1,by omega⟩
    rw[Nat.add_sub_cancel,getD_at ts m _ (by omega)]at hls;obtain⟨b',off',e',hb',d0,d1⟩:=HW0.out.load HB.out m (by omega);simp only[Option.some.injEq,Addr.mk.injEq]at e';obtain⟨rfl,rfl,_⟩:=e';have hls':Op.bytesLess ts[m].nm.toList ts[m+1].nm.toList=false:=hls;have hmI:(m:Int)<12:=by omega
    have hm0:(0:Int)<=(m:Int):=by omega
    have hml:(m:Int)<(ts.length:Int):=by omega
    have hmw:IntKind.i64.wrap (m:Int)=m:=by rw[IntKind.wrap_i64];omega
    clear hls;go_wp2_with fail
    go_quiet ((go_at_call 154;exact Calls.quiet_of_same (zf HNm.out (zH _ _ hsn))))
    go_wp2_with fail
    go_ret;exact⟨ze (HN.out HF.out).symm,below_drewN (HBr.out.alloc (by omega) _) _⟩
   have hgd:(decide (k=0)||less (ts.getD (k-1) zbd).nm ts[k].nm)=true:=by
    by_cases hk0:k=0
    ·simp[hk0]
    ·cases hq:less (ts.getD (k-1) zbd).nm ts[k].nm
     ·exact absurd ⟨by omega,hq⟩ hbad
     ·simp
   have HA:Hid (qB ts k=(ts[k].ov.toList.isEmpty||yB ts ts[k].ov)):=by
    unfold Hid;rw[zcD ts k hlt true hgd,HNm.out];rfl
   have hgood:(decide (0<k)=false) \/ (decide (0<k)=true/\∃m,k=m+1/\∃h:m<ts.length,Op.bytesLess ts[m].nm.toList ts[k].nm.toList=true/\wr.cell? ⟨b,off+m*2,none⟩=some (.string ts[m].nm)):=by
    by_cases hk0:k=0
    ·exact Or.inl (by simp;omega)
    ·refine Or.inr ⟨by simp;omega,k-1,by omega,by omega,?_,?_⟩
     ·rw[decide_eq_false hk0,getD_at ts (k-1) _ (by omega)]at hgd
      exact hgd
     ·obtain⟨b',off',e',hb',d0,d1⟩:=HW0.out.load HB.out (k-1) (by omega)
      simp only[Option.some.injEq,Addr.mk.injEq]at e';obtain⟨rfl,rfl,_⟩:=e';exact d0
   clear hbad hgd;have HBx:Hid (∀(ob:Obj) (n:Nat),Below wr.heap.size wr ((wr.alloc ob).drewN n)):=fun ob n=>below_drewN (bAl _ _) _
   by_cases hov:ts[k].ov.toList.isEmpty=true
   ·have HT:Hid (qB ts k=true):=by unfold Hid;rw[HA.out,hov];rfl
    rcases hgood with hg|⟨hg,m,rfl,hm,hls',d0⟩
    ·go_wp2_with fail
     go_quiet ((go_at_call 154;exact Calls.quiet_of_same (zf HNm.out (zH _ _ hsn))))
     go_wp2_with fail
     exact⟨⟨k+1,by omega,by go_num,HS.out HT.out,HB.out.trans ((HBx.out _ _).mono hsz)⟩,by simp[intOf];omega⟩
    ·have hmI:(m:Int)<12:=by omega
     have hm0:(0:Int)<=(m:Int):=by omega
     have hml:(m:Int)<(ts.length:Int):=by omega
     have hmw:IntKind.i64.wrap (m:Int)=m:=by rw[IntKind.wrap_i64];omega
     go_wp2_with fail
     go_quiet ((go_at_call 154;exact Calls.quiet_of_same (zf HNm.out (zH _ _ hsn))))
     go_wp2_with fail
     exact⟨⟨m+1+1,by omega,by go_num,HS.out HT.out,HB.out.trans ((HBx.out _ _).mono hsz)⟩,by simp[intOf];omega⟩
   ·have hov':ts[k].ov.toList.isEmpty=false:=by simpa using hov
    clear hov
    by_cases hit:yB ts ts[k].ov=true
    ·have HI:Hid (yB ts ts[k].ov=true):=hit
     have HT:Hid (qB ts k=true):=by unfold Hid;rw[HA.out,hit];simp
     clear hit
     rcases hgood with hg|⟨hg,m,rfl,hm,hls',d0⟩
     ·go_wp2_with fail
      go_quiet ((go_at_call 154;exact Calls.quiet_of_same (zf HNm.out (zH _ _ hsn))))
      go_wp2_with fail
      refine(zf HI.out (zcN _ _ ts _ _ ((HW0.out.mono HB.out).mono (HBx.out _ _)))).mono ?_;rintro e w3⟨rfl,hb3⟩;have hB3:Below w0.heap.size w0 w3:=(HB.out.trans ((HBx.out _ _).mono hsz)).trans (hb3.mono (by simp;omega));clear hb3;go_wp2_with fail
      exact⟨⟨k+1,by omega,by go_num,HS.out HT.out,hB3⟩,by simp[intOf];omega⟩
     ·have hmI:(m:Int)<12:=by omega
      have hm0:(0:Int)<=(m:Int):=by omega
      have hml:(m:Int)<(ts.length:Int):=by omega
      have hmw:IntKind.i64.wrap (m:Int)=m:=by rw[IntKind.wrap_i64];omega
      go_wp2_with fail
      go_quiet ((go_at_call 154;exact Calls.quiet_of_same (zf HNm.out (zH _ _ hsn))))
      go_wp2_with fail
      refine(zf HI.out (zcN _ _ ts _ _ ((HW0.out.mono HB.out).mono (HBx.out _ _)))).mono ?_;rintro e w3⟨rfl,hb3⟩;have hB3:Below w0.heap.size w0 w3:=(HB.out.trans ((HBx.out _ _).mono hsz)).trans (hb3.mono (by simp;omega));clear hb3;go_wp2_with fail
      exact⟨⟨m+1+1,by omega,by go_num,HS.out HT.out,hB3⟩,by simp[intOf];omega⟩
    ·have HI:Hid (yB ts ts[k].ov=false):=by simpa[Hid] using hit
     have HF:Hid (qB ts k=false):=by unfold Hid;rw[HA.out,HI.out,hov'];rfl
     clear hit
     rcases hgood with hg|⟨hg,m,rfl,hm,hls',d0⟩
     focus
      go_wp2_with fail
     rotate_left
     focus
      have hmI:(m:Int)<12:=by omega
      have hm0:(0:Int)<=(m:Int):=by omega
      have hml:(m:Int)<(ts.length:Int):=by omega
      have hmw:IntKind.i64.wrap (m:Int)=m:=by rw[IntKind.wrap_i64];omega
      go_wp2_with fail
     all_goals
      go_quiet ((go_at_call 154;exact Calls.quiet_of_same (zf HNm.out (zH _ _ hsn))))
      go_wp2_with fail
      refine(zf HI.out (zcN _ _ ts _ _ ((HW0.out.mono HB.out).mono (HBx.out _ _)))).mono ?_;rintro e w3⟨rfl,hb3⟩;have hB3:Below w.heap.size w w3:=(HBr.out.trans ((HBx.out _ _).mono (by omega))).trans (hb3.mono (by simp;omega));clear hb3;go_wp2_with fail
      go_ret;exact⟨ze (HN.out HF.out).symm,hB3⟩
  ·have HF:Hid (zbH ts=!(ts.any fun t=>!zeh ts t)):=by
    have e:k=ts.length:=by omega
    subst e;rw[Hid,HG.out,hup,zqQ];rfl
   have HWr:Hid (jO wr a ts):=HW0.out.mono hB;clear hup hB;go_wp2_with fail
   refine(zgI _ _ ts _ _ _ HWr.out (zpB _ _ ts _ _ HWr.out hzr hX0)).mono ?_;rintro e w3⟨rfl,hb3⟩;have hB3:Below w.heap.size w w3:=HBr.out.trans (hb3.mono (by omega));clear hb3;go_wp2_with fail
   go_ret;exact⟨ze HF.out.symm,hB3⟩
end Go.Proofs.YtkficnallnpjnaaGreat
