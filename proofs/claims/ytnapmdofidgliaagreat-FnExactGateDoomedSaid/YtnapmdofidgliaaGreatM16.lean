import Derived.Test.YtnapmdofidgliaaGreatM13
import Derived.Test.YtnapmdofidgliaaGreatM12
set_option maxHeartbeats 4000000
namespace Go.Proofs.YtnapmdofidgliaaGreat
open Go.RowKit
theorem zdQ (s:ByteArray):s.toList.isEmpty=true \/ (s.toList.isEmpty=false/\Hid (zB s=true)) \/ (s.toList.isEmpty=false/\Hid (zB s=false)):=by
 by_cases h:s.toList.isEmpty=true
 ·exact Or.inl h
 ·by_cases h2:zB s=true
  ·exact Or.inr (Or.inl ⟨by simpa using h,h2⟩)
  ·exact Or.inr (Or.inr ⟨by simpa using h,by simpa[Hid] using h2⟩)
theorem zob (r:Rl)(a:Option Addr)(cap:Nat)(w:World)(hm:r.Small)(hw:qy w a r.vs) :
 Calls Tryz.prog 159 #[.agg (r.cells a cap)] w fun e w'=>e=.returned (.bool (zS r))/\Below w.heap.size w w':=by
 have hskd:=hm.kd;have hstm:=hm.tm;have hspx:=hm.px;have hpx:=hm.px;unfold maxLen at hpx;unfold Rl.cells;have HB:Hid (∀ob,Below w.heap.size w (w.alloc ob)):=fun ob=>bAl _ _
 have HI:Hid (∀ob,qy (w.alloc ob) a r.vs):=fun ob=>hw.mono (HB.out ob)
 clear hw hm
 rcases zdQ r.kd with hk|⟨hk,HK⟩|⟨hk,HK⟩
 ·rcases zdQ r.tm with ht|⟨ht,HT⟩|⟨ht,HT⟩
  ·have HKD:Hid (qL r=true):=by unfold Hid qL;rw[hk,ht];simp
   by_cases hv:jc r.vs=true
   rotate_left
   ·have HV:Hid (jc r.vs=false):=by simpa[Hid] using hv
    have HF:Hid (zS r=false):=by unfold Hid zS;rw[HV.out];simp
    clear hv;go_enter Tryz.func159,Tryz.ntmps159
    go_wp2_with (first|(go_at_call 200;refine(zf HV.out (qE _ _ r.vs _ (by exact HI.out _))).mono ?_;rintro e w'⟨rfl,rfl⟩))
    go_ret;exact⟨ze HF.out.symm,HB.out _⟩
   have HV:Hid (jc r.vs=true):=hv;clear hv
   by_cases h16:r.px.size<=16
   ·have HF:Hid (zS r=y5 r.px):=by unfold Hid zS;rw[HKD.out,HV.out,decide_eq_true h16];rfl
    have h16I:(r.px.size:Int)<=16:=by omega
    clear h16;go_enter Tryz.func159,Tryz.ntmps159
    go_wp2_with (first|(go_at_call 200;refine(zf HV.out (qE _ _ r.vs _ (by exact HI.out _))).mono ?_;rintro e w'⟨rfl,rfl⟩)|(go_at_call 190;refine(jZ r.px _ hspx).mono ?_;rintro e w'⟨rfl,rfl⟩))
    go_ret;exact⟨ze HF.out.symm,HB.out _⟩
   ·have HF:Hid (zS r=false):=by unfold Hid zS;rw[decide_eq_false h16];simp
    have h16I:decide ((r.px.size:Int)<=16)=false:=by simp;omega
    clear h16;go_enter Tryz.func159,Tryz.ntmps159
    go_wp2_with (first|(go_at_call 200;refine(zf HV.out (qE _ _ r.vs _ (by exact HI.out _))).mono ?_;rintro e w'⟨rfl,rfl⟩))
    go_ret;exact⟨ze HF.out.symm,HB.out _⟩
  ·have HKD:Hid (qL r=true):=by unfold Hid qL;rw[hk,HT.out];simp
   by_cases hv:jc r.vs=true
   rotate_left
   ·have HV:Hid (jc r.vs=false):=by simpa[Hid] using hv
    have HF:Hid (zS r=false):=by unfold Hid zS;rw[HV.out];simp
    clear hv;go_enter Tryz.func159,Tryz.ntmps159
    go_wp2_with (first|(go_at_call_of 147 (Value.string r.tm);refine(zf HT.out (zF r.tm _ hstm)).mono ?_;rintro e w'⟨rfl,rfl⟩)|(go_at_call 200;refine(zf HV.out (qE _ _ r.vs _ (by exact HI.out _))).mono ?_;rintro e w'⟨rfl,rfl⟩))
    go_ret;exact⟨ze HF.out.symm,HB.out _⟩
   have HV:Hid (jc r.vs=true):=hv;clear hv
   by_cases h16:r.px.size<=16
   ·have HF:Hid (zS r=y5 r.px):=by unfold Hid zS;rw[HKD.out,HV.out,decide_eq_true h16];rfl
    have h16I:(r.px.size:Int)<=16:=by omega
    clear h16;go_enter Tryz.func159,Tryz.ntmps159
    go_wp2_with (first|(go_at_call_of 147 (Value.string r.tm);refine(zf HT.out (zF r.tm _ hstm)).mono ?_;rintro e w'⟨rfl,rfl⟩)|(go_at_call 200;refine(zf HV.out (qE _ _ r.vs _ (by exact HI.out _))).mono ?_;rintro e w'⟨rfl,rfl⟩)|(go_at_call 190;refine(jZ r.px _ hspx).mono ?_;rintro e w'⟨rfl,rfl⟩))
    go_ret;exact⟨ze HF.out.symm,HB.out _⟩
   ·have HF:Hid (zS r=false):=by unfold Hid zS;rw[decide_eq_false h16];simp
    have h16I:decide ((r.px.size:Int)<=16)=false:=by simp;omega
    clear h16;go_enter Tryz.func159,Tryz.ntmps159
    go_wp2_with (first|(go_at_call_of 147 (Value.string r.tm);refine(zf HT.out (zF r.tm _ hstm)).mono ?_;rintro e w'⟨rfl,rfl⟩)|(go_at_call 200;refine(zf HV.out (qE _ _ r.vs _ (by exact HI.out _))).mono ?_;rintro e w'⟨rfl,rfl⟩))
    go_ret;exact⟨ze HF.out.symm,HB.out _⟩
  ·have HF:Hid (zS r=false):=by unfold Hid zS qL;rw[ht,HT.out];simp
   go_enter Tryz.func159,Tryz.ntmps159
   go_wp2_with (first|(go_at_call_of 147 (Value.string r.tm);refine(zf HT.out (zF r.tm _ hstm)).mono ?_;rintro e w'⟨rfl,rfl⟩))
   go_ret;exact⟨ze HF.out.symm,HB.out _⟩
 ·rcases zdQ r.tm with ht|⟨ht,HT⟩|⟨ht,HT⟩
  ·have HKD:Hid (qL r=true):=by unfold Hid qL;rw[HK.out,ht];simp
   by_cases hv:jc r.vs=true
   rotate_left
   ·have HV:Hid (jc r.vs=false):=by simpa[Hid] using hv
    have HF:Hid (zS r=false):=by unfold Hid zS;rw[HV.out];simp
    clear hv;go_enter Tryz.func159,Tryz.ntmps159
    go_wp2_with (first|(go_at_call_of 147 (Value.string r.kd);refine(zf HK.out (zF r.kd _ hskd)).mono ?_;rintro e w'⟨rfl,rfl⟩)|(go_at_call 200;refine(zf HV.out (qE _ _ r.vs _ (by exact HI.out _))).mono ?_;rintro e w'⟨rfl,rfl⟩))
    go_ret;exact⟨ze HF.out.symm,HB.out _⟩
   have HV:Hid (jc r.vs=true):=hv;clear hv
   by_cases h16:r.px.size<=16
   ·have HF:Hid (zS r=y5 r.px):=by unfold Hid zS;rw[HKD.out,HV.out,decide_eq_true h16];rfl
    have h16I:(r.px.size:Int)<=16:=by omega
    clear h16;go_enter Tryz.func159,Tryz.ntmps159
    go_wp2_with (first|(go_at_call_of 147 (Value.string r.kd);refine(zf HK.out (zF r.kd _ hskd)).mono ?_;rintro e w'⟨rfl,rfl⟩)|(go_at_call 200;refine(zf HV.out (qE _ _ r.vs _ (by exact HI.out _))).mono ?_;rintro e w'⟨rfl,rfl⟩)|(go_at_call 190;refine(jZ r.px _ hspx).mono ?_;rintro e w'⟨rfl,rfl⟩))
    go_ret;exact⟨ze HF.out.symm,HB.out _⟩
   ·have HF:Hid (zS r=false):=by unfold Hid zS;rw[decide_eq_false h16];simp
    have h16I:decide ((r.px.size:Int)<=16)=false:=by simp;omega
    clear h16;go_enter Tryz.func159,Tryz.ntmps159
    go_wp2_with (first|(go_at_call_of 147 (Value.string r.kd);refine(zf HK.out (zF r.kd _ hskd)).mono ?_;rintro e w'⟨rfl,rfl⟩)|(go_at_call 200;refine(zf HV.out (qE _ _ r.vs _ (by exact HI.out _))).mono ?_;rintro e w'⟨rfl,rfl⟩))
    go_ret;exact⟨ze HF.out.symm,HB.out _⟩
  ·have HKD:Hid (qL r=true):=by unfold Hid qL;rw[HK.out,HT.out];simp
   by_cases hv:jc r.vs=true
   rotate_left
   ·have HV:Hid (jc r.vs=false):=by simpa[Hid] using hv
    have HF:Hid (zS r=false):=by unfold Hid zS;rw[HV.out];simp
    clear hv;go_enter Tryz.func159,Tryz.ntmps159
    go_wp2_with (first|(go_at_call_of 147 (Value.string r.kd);refine(zf HK.out (zF r.kd _ hskd)).mono ?_;rintro e w'⟨rfl,rfl⟩)|(go_at_call_of 147 (Value.string r.tm);refine(zf HT.out (zF r.tm _ hstm)).mono ?_;rintro e w'⟨rfl,rfl⟩)|(go_at_call 200;refine(zf HV.out (qE _ _ r.vs _ (by exact HI.out _))).mono ?_;rintro e w'⟨rfl,rfl⟩))
    go_ret;exact⟨ze HF.out.symm,HB.out _⟩
   have HV:Hid (jc r.vs=true):=hv;clear hv
   by_cases h16:r.px.size<=16
   ·have HF:Hid (zS r=y5 r.px):=by unfold Hid zS;rw[HKD.out,HV.out,decide_eq_true h16];rfl
    have h16I:(r.px.size:Int)<=16:=by omega
    clear h16;go_enter Tryz.func159,Tryz.ntmps159
    go_wp2_with (first|(go_at_call_of 147 (Value.string r.kd);refine(zf HK.out (zF r.kd _ hskd)).mono ?_;rintro e w'⟨rfl,rfl⟩)|(go_at_call_of 147 (Value.string r.tm);refine(zf HT.out (zF r.tm _ hstm)).mono ?_;rintro e w'⟨rfl,rfl⟩)|(go_at_call 200;refine(zf HV.out (qE _ _ r.vs _ (by exact HI.out _))).mono ?_;rintro e w'⟨rfl,rfl⟩)|(go_at_call 190;refine(jZ r.px _ hspx).mono ?_;rintro e w'⟨rfl,rfl⟩))
    go_ret;exact⟨ze HF.out.symm,HB.out _⟩
   ·have HF:Hid (zS r=false):=by unfold Hid zS;rw[decide_eq_false h16];simp
    have h16I:decide ((r.px.size:Int)<=16)=false:=by simp;omega
    clear h16;go_enter Tryz.func159,Tryz.ntmps159
    go_wp2_with (first|(go_at_call_of 147 (Value.string r.kd);refine(zf HK.out (zF r.kd _ hskd)).mono ?_;rintro e w'⟨rfl,rfl⟩)|(go_at_call_of 147 (Value.string r.tm);refine(zf HT.out (zF r.tm _ hstm)).mono ?_;rintro e w'⟨rfl,rfl⟩)|(go_at_call 200;refine(zf HV.out (qE _ _ r.vs _ (by exact HI.out _))).mono ?_;rintro e w'⟨rfl,rfl⟩))
    go_ret;exact⟨ze HF.out.symm,HB.out _⟩
  ·have HF:Hid (zS r=false):=by unfold Hid zS qL;rw[ht,HT.out];simp
   go_enter Tryz.func159,Tryz.ntmps159
   go_wp2_with (first|(go_at_call_of 147 (Value.string r.kd);refine(zf HK.out (zF r.kd _ hskd)).mono ?_;rintro e w'⟨rfl,rfl⟩)|(go_at_call_of 147 (Value.string r.tm);refine(zf HT.out (zF r.tm _ hstm)).mono ?_;rintro e w'⟨rfl,rfl⟩))
   go_ret;exact⟨ze HF.out.symm,HB.out _⟩
 ·have HF:Hid (zS r=false):=by unfold Hid zS qL;rw[hk,HK.out];simp
  go_enter Tryz.func159,Tryz.ntmps159
  go_wp2_with (first|(go_at_call_of 147 (Value.string r.kd);refine(zf HK.out (zF r.kd _ hskd)).mono ?_;rintro e w'⟨rfl,rfl⟩))
  go_ret;exact⟨ze HF.out.symm,HB.out _⟩
theorem zqf (ts:List Tm):(!(ts.any fun t=>!zd7 ts t))=up (zf8 ts) ts.length:=by
 rw[Bool.eq_iff_iff,zcN];simp only[Bool.not_eq_true',List.any_eq_false]
 constructor
 ·intro h i hi
  have:=h ts[i] (List.getElem_mem hi)
  unfold zf8;rw[getD_at ts i _ hi]
  simpa using this
 ·intro h x hx
  obtain⟨k,hk,rfl⟩:=List.mem_iff_getElem.1 hx
  have:=h k hk
  unfold zf8 at this;rw[getD_at ts k _ hk]at this
  simp[this]
theorem zcK (ts:List Tm)(k:Nat)(h:k<ts.length)(b:Bool)(hb:(decide (k=0)||less (ts.getD (k-1) zbx).nm ts[k].nm)=b) :
 qD ts k=(zB ts[k].nm&&b&&(ts[k].ov.toList.isEmpty||yG ts ts[k].ov)):=by
 unfold qD;rw[getD_at ts k _ h,hb]
theorem zio (a:Option Addr)(cap:Nat)(ts:List Tm)(w:World)(hw:jX w a ts) :
 Calls Tryz.prog 115 #[.slice a ts.length cap] w fun e w'=>e=.returned (.bool (zbU ts))/\Below w.heap.size w w':=by
 have hl:=hw.len;unfold maxLen at hl
 by_cases h12:ts.length<=12
 rotate_left
 ·have HF:Hid (zbU ts=false):=by simp[Hid,zbU,h12]
  clear hw;go_enter Tryz.func115,Tryz.ntmps115;go_wp2_with fail
  go_ret;exact⟨ze HF.out.symm,bAl _ _⟩
 have HG:Hid (zbU ts=(up (qD ts) ts.length&&up (zf8 ts) ts.length)):=by simp[Hid,zbU,h12]
 have h12I:(ts.length:Int)<=12:=by omega
 go_enter Tryz.func115,Tryz.ntmps115;go_wp2_with fail
 have hB00:Below w.heap.size w (w.alloc (.cells #[.slice a ts.length cap] 39)):=bAl _ _;have hX00:=zl w #[.slice a ts.length cap] 39;have hz00:w.heap.size<(w.alloc (.cells #[.slice a ts.length cap] 39)).heap.size:=by simp
 obtain⟨w0,hw0⟩:∃w0,w0=w.alloc (.cells #[.slice a ts.length cap] 39):=⟨_,rfl⟩
 rw[<- hw0]at hB00 hX00 hz00 ⊢;have HW0:Hid (jX w0 a ts):=hw.mono hB00;have HB00:Hid (Below w.heap.size w w0):=hB00;clear hw0 hw hB00
 go_loopw [10] (fun i wr=>∃k:Nat,k<=ts.length/\i=.int .i64 k/\up (qD ts) k=true/\Below w0.heap.size w0 wr) (fun i _=>ts.length-(intOf i).toNat)
 case atStart=>exact⟨0,Nat.zero_le _,rfl,rfl,bRf _ _⟩
 case round=>
  obtain⟨k,hk,rfl,hup,hB⟩:=hrel;have hsz:=hB.size;have hX:=za hX00 hz00 hB;have hX0:wr.cell? ⟨w.heap.size,0,none⟩=some (.slice a ts.length cap):=hX 0;have hzr:w.heap.size<wr.heap.size:=by omega
  have HBr:Hid (Below w.heap.size w wr):=HB00.out.trans (hB.mono (by omega));clear hX hX00
  by_cases hlt:k<ts.length
  ·obtain⟨b,off,rfl,hb,c0,c1⟩:=HW0.out.load hB k hlt
   have hbr:b<wr.heap.size:=by omega
   have hsm:=HW0.out.small k hlt;have hsn:=hsm.nm;have HS:Hid (qD ts k=true->up (qD ts) (k+1)=true):=fun h=>by rw[q9,hup,h];rfl
   have HN:Hid (qD ts k=false->zbU ts=false):=fun h=>by rw[HG.out,zaP hlt h];rfl
   have hltI:(k:Int)<(ts.length:Int):=by omega
   have HB:Hid (Below w0.heap.size w0 wr):=hB;clear hup hsm hB
   by_cases hn:zB ts[k].nm=true
   rotate_left
   ·have HNm:Hid (zB ts[k].nm=false):=by simpa[Hid] using hn
    have HF:Hid (qD ts k=false):=by unfold Hid;rw[zcK ts k hlt _ rfl,HNm.out];rfl
    clear hn;go_wp2_with fail
    go_quiet ((go_at_call 147;exact Calls.quiet_of_same (zf HNm.out (zF _ _ hsn))))
    go_wp2_with fail
    go_ret;exact⟨ze (HN.out HF.out).symm,below_drewN (HBr.out.alloc (by omega) _) _⟩
   have HNm:Hid (zB ts[k].nm=true):=hn;clear hn
   by_cases hbad:0<k/\less (ts.getD (k-1) zbx).nm ts[k].nm=false
   ·obtain⟨hkpos,hls⟩:=hbad
    have HF:Hid (qD ts k=false):=by
     unfold Hid;rw[zcK ts k hlt false (by rw[hls,decide_eq_false (show ¬k=0 by omega)];rfl)];simp
    obtain⟨m,rfl⟩:∃m,k=m+1:=⟨k-1,by omega⟩
    rw[Nat.add_sub_cancel,getD_at ts m _ (by omega)]at hls;obtain⟨b',off',e',hb',d0,d1⟩:=HW0.out.load HB.out m (by omega);simp only[Option.some.injEq,Addr.mk.injEq]at e';obtain⟨rfl,rfl,_⟩:=e';have hls':Op.bytesLess ts[m].nm.toList ts[m+1].nm.toList=false:=hls;have hmI:(m:Int)<12:=by omega
    have hm0:(0:Int)<=(m:Int):=by omega
    have hml:(m:Int)<(ts.length:Int):=by omega
    have hmw:IntKind.i64.wrap (m:Int)=m:=by rw[IntKind.wrap_i64];omega
    clear hls;go_wp2_with fail
    go_quiet ((go_at_call 147;exact Calls.quiet_of_same (zf HNm.out (zF _ _ hsn))))
    go_wp2_with fail
    go_ret;exact⟨ze (HN.out HF.out).symm,below_drewN (HBr.out.alloc (by omega) _) _⟩
   have hgd:(decide (k=0)||less (ts.getD (k-1) zbx).nm ts[k].nm)=true:=by
    by_cases hk0:k=0
    ·simp[hk0]
    ·cases hq:less (ts.getD (k-1) zbx).nm ts[k].nm
     ·exact absurd ⟨by omega,hq⟩ hbad
     ·simp
   have HA:Hid (qD ts k=(ts[k].ov.toList.isEmpty||yG ts ts[k].ov)):=by
    unfold Hid;rw[zcK ts k hlt true hgd,HNm.out];rfl
   have hgood:(decide (0<k)=false) \/ (decide (0<k)=true/\∃m,k=m+1/\∃h:m<ts.length,Op.bytesLess ts[m].nm.toList ts[k].nm.toList=true/\wr.cell? ⟨b,off+m*2,none⟩=some (.string ts[m].nm)):=by
    by_cases hk0:k=0
    ·exact Or.inl (by simp;omega)
    ·refine Or.inr ⟨by simp;omega,k-1,by omega,by omega,?_,?_⟩
     ·rw[decide_eq_false hk0,getD_at ts (k-1) _ (by omega)]at hgd
      exact hgd
     ·obtain⟨b',off',e',hb',d0,d1⟩:=HW0.out.load HB.out (k-1) (by omega)
      simp only[Option.some.injEq,Addr.mk.injEq]at e';obtain⟨rfl,rfl,_⟩:=e';exact d0
   clear hbad hgd;have HBx:Hid (∀(ob:Obj) (n:Nat),Below wr.heap.size wr ((wr.alloc ob).drewN n)):=fun ob n=>below_drewN (bAl _ _) _
   by_cases hov:ts[k].ov.toList.isEmpty=true
   ·have HT:Hid (qD ts k=true):=by unfold Hid;rw[HA.out,hov];rfl
    rcases hgood with hg|⟨hg,m,rfl,hm,hls',d0⟩
    ·go_wp2_with fail
     go_quiet ((go_at_call 147;exact Calls.quiet_of_same (zf HNm.out (zF _ _ hsn))))
     go_wp2_with fail
     exact⟨⟨k+1,by omega,by go_num,HS.out HT.out,HB.out.trans ((HBx.out _ _).mono hsz)⟩,by simp[intOf];omega⟩
    ·have hmI:(m:Int)<12:=by omega
     have hm0:(0:Int)<=(m:Int):=by omega
     have hml:(m:Int)<(ts.length:Int):=by omega
     have hmw:IntKind.i64.wrap (m:Int)=m:=by rw[IntKind.wrap_i64];omega
     go_wp2_with fail
     go_quiet ((go_at_call 147;exact Calls.quiet_of_same (zf HNm.out (zF _ _ hsn))))
     go_wp2_with fail
     exact⟨⟨m+1+1,by omega,by go_num,HS.out HT.out,HB.out.trans ((HBx.out _ _).mono hsz)⟩,by simp[intOf];omega⟩
   ·have hov':ts[k].ov.toList.isEmpty=false:=by simpa using hov
    clear hov
    by_cases hit:yG ts ts[k].ov=true
    ·have HI:Hid (yG ts ts[k].ov=true):=hit
     have HT:Hid (qD ts k=true):=by unfold Hid;rw[HA.out,hit];simp
     clear hit
     rcases hgood with hg|⟨hg,m,rfl,hm,hls',d0⟩
     ·go_wp2_with fail
      go_quiet ((go_at_call 147;exact Calls.quiet_of_same (zf HNm.out (zF _ _ hsn))))
      go_wp2_with fail
      refine(zf HI.out (zb4 _ _ ts _ _ ((HW0.out.mono HB.out).mono (HBx.out _ _)))).mono ?_;rintro e w3⟨rfl,hb3⟩;have hB3:Below w0.heap.size w0 w3:=(HB.out.trans ((HBx.out _ _).mono hsz)).trans (hb3.mono (by simp;omega));clear hb3;go_wp2_with fail
      exact⟨⟨k+1,by omega,by go_num,HS.out HT.out,hB3⟩,by simp[intOf];omega⟩
     ·have hmI:(m:Int)<12:=by omega
      have hm0:(0:Int)<=(m:Int):=by omega
      have hml:(m:Int)<(ts.length:Int):=by omega
      have hmw:IntKind.i64.wrap (m:Int)=m:=by rw[IntKind.wrap_i64];omega
      go_wp2_with fail
      go_quiet ((go_at_call 147;exact Calls.quiet_of_same (zf HNm.out (zF _ _ hsn))))
      go_wp2_with fail
      refine(zf HI.out (zb4 _ _ ts _ _ ((HW0.out.mono HB.out).mono (HBx.out _ _)))).mono ?_;rintro e w3⟨rfl,hb3⟩;have hB3:Below w0.heap.size w0 w3:=(HB.out.trans ((HBx.out _ _).mono hsz)).trans (hb3.mono (by simp;omega));clear hb3;go_wp2_with fail
      exact⟨⟨m+1+1,by omega,by go_num,HS.out HT.out,hB3⟩,by simp[intOf];omega⟩
    ·have HI:Hid (yG ts ts[k].ov=false):=by simpa[Hid] using hit
     have HF:Hid (qD ts k=false):=by unfold Hid;rw[HA.out,HI.out,hov'];rfl
     clear hit
     rcases hgood with hg|⟨hg,m,rfl,hm,hls',d0⟩
     ·go_wp2_with fail
      go_quiet ((go_at_call 147;exact Calls.quiet_of_same (zf HNm.out (zF _ _ hsn))))
      go_wp2_with fail
      refine(zf HI.out (zb4 _ _ ts _ _ ((HW0.out.mono HB.out).mono (HBx.out _ _)))).mono ?_;rintro e w3⟨rfl,hb3⟩;have hB3:Below w.heap.size w w3:=(HBr.out.trans ((HBx.out _ _).mono (by omega))).trans (hb3.mono (by simp;omega));clear hb3;go_wp2_with fail
      go_ret;exact⟨ze (HN.out HF.out).symm,hB3⟩
     ·have hmI:(m:Int)<12:=by omega
      have hm0:(0:Int)<=(m:Int):=by omega
      have hml:(m:Int)<(ts.length:Int):=by omega
      have hmw:IntKind.i64.wrap (m:Int)=m:=by rw[IntKind.wrap_i64];omega
      go_wp2_with fail
      go_quiet ((go_at_call 147;exact Calls.quiet_of_same (zf HNm.out (zF _ _ hsn))))
      go_wp2_with fail
      refine(zf HI.out (zb4 _ _ ts _ _ ((HW0.out.mono HB.out).mono (HBx.out _ _)))).mono ?_;rintro e w3⟨rfl,hb3⟩;have hB3:Below w.heap.size w w3:=(HBr.out.trans ((HBx.out _ _).mono (by omega))).trans (hb3.mono (by simp;omega));clear hb3;go_wp2_with fail
      go_ret;exact⟨ze (HN.out HF.out).symm,hB3⟩
  ·have HF:Hid (zbU ts=!(ts.any fun t=>!zd7 ts t)):=by
    have e:k=ts.length:=by omega
    subst e;rw[Hid,HG.out,hup,zqf];rfl
   have HWr:Hid (jX wr a ts):=HW0.out.mono hB;clear hup hB;go_wp2_with fail
   refine(zgq _ _ ts _ _ _ HWr.out (zpN _ _ ts _ _ HWr.out hzr hX0)).mono ?_;rintro e w3⟨rfl,hb3⟩;have hB3:Below w.heap.size w w3:=HBr.out.trans (hb3.mono (by omega));clear hb3;go_wp2_with fail
   go_ret;exact⟨ze HF.out.symm,hB3⟩
end Go.Proofs.YtnapmdofidgliaaGreat
namespace Go.Proofs.YtnapmdofidgliaaGreat
open Go.ChangeShapes Go.WideShapes Go.ChangeAt Go.RowKit
theorem Tryz.zqn:Tryz.prog.cellsOf 26=3:=by kernel_rfl
theorem Tryz.zm1:Tryz.prog.cellsOf 22=1:=by kernel_rfl
theorem Tryz.zoq:Tryz.prog.cellsOf 23=1:=by kernel_rfl
theorem Tryz.zoU:Tryz.prog.cellsOf 24=1:=by kernel_rfl
theorem zqw {H:Type}{enc:TypeId × Value->H}{w:World}{base:Nat}{spare:Nat->Bool}{held:Bool}{fuel:Nat}{cs:List Value}{x:DataW H × List MemPlace}
 (h:DataW.trod enc Tryz.prog w base spare held fuel 26 cs=some x) :
 ∃(l:Lw) (a b c:Option Addr) (ca cb cc:Nat),cs=(l.cells a b c ca cb cc).toList/\jh w l a b c:=by
 have hlen:cs.length=3:=by
  obtain⟨_,_,_,_,hl,_,_⟩:=DataW.trod_struct Tryz.underlying26 h;rw[hl];exact Tryz.zqn
 match cs,hlen with
 | [c0,c1,c2],_=>
  have hf:=zak Tryz.underlying26 h;obtain⟨_,_,f0⟩:=hf 0 22 0 c0 rfl Tryz.zm1 rfl;obtain⟨_,_,f1⟩:=hf 1 23 1 c1 rfl Tryz.zoq rfl;obtain⟨_,_,f2⟩:=hf 2 24 2 c2 rfl Tryz.zoU rfl;obtain⟨a,ca,ss,e0,hS⟩:=znf f0;obtain⟨b,cb,ms,e1,hM⟩:=zoE f1;obtain⟨c,cc,ts,e2,hT⟩:=zoj f2;simp only[List.cons.injEq,and_true]at e0 e1 e2;subst e0 e1 e2;exact⟨⟨ss,ms,ts⟩,a,b,c,ca,cb,cc,rfl,⟨hS,hM,hT⟩⟩
end Go.Proofs.YtnapmdofidgliaaGreat
