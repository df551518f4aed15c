import Derived.Test.YtcgpjfcocmcodaaGreatM11
set_option maxHeartbeats 4000000
namespace Go.Proofs.YtcgpjfcocmcodaaGreat
open Go.RowKit
theorem zdH (s:BA):s.toList.isEmpty=true \/ (s.toList.isEmpty=false/\Hid (zx s=true)) \/ (s.toList.isEmpty=false/\Hid (zx s=false)):=by
 by_cases h:s.toList.isEmpty=true
 ·exact Or.inl h
 ·by_cases h2:zx s=true
  ·exact Or.inr (Or.inl ⟨by simpa using h,h2⟩)
  ·exact Or.inr (Or.inr ⟨by simpa using h,by simpa[Hid] using h2⟩)
theorem zot (r:Rl)(a:OA)(cap:Nat)(w:World)(hm:r.Small)(hw:qm w a r.vs) :
 Calls Tryz.prog 178 #[.agg (r.cells a cap)] w fun e w'=>e=.returned (.bool (zR r))/\Bw w w':=by
 have hskd:=hm.kd;have hstm:=hm.tm;have hspx:=hm.px;have hpx:=hm.px;unfold maxLen at hpx;unfold Rl.cells;have HB:Hid (∀ob,Bw w (w.alloc ob)):=fun ob=>bAl _ _
 have HI:Hid (∀ob,qm (w.alloc ob) a r.vs):=fun ob=>hw.mono (HB.o ob)
 clear hw hm
 rcases zdH r.kd with hk|⟨hk,HK⟩|⟨hk,HK⟩
 ·rcases zdH r.tm with ht|⟨ht,HT⟩|⟨ht,HT⟩
  ·have HKD:Hid (qK r=true):=by unfold Hid qK;rw[hk,ht];simp
   by_cases hv:jc r.vs=true
   rotate_left
   ·have HV:Hid (jc r.vs=false):=by simpa[Hid] using hv
    have HF:Hid (zR r=false):=by unfold Hid zR;rw[HV.o];simp
    clear hv;go_enter Tryz.func178,Tryz.ntmps178
    go_wp2_with (first|(go_at_call 214;refine(zf HV.o (qE _ _ r.vs _ (by exact HI.o _))).mono ?_;rintro e w'⟨rfl,rfl⟩))
    go_ret;exact⟨ze HF.o.symm,HB.o _⟩
   have HV:Hid (jc r.vs=true):=hv;clear hv
   by_cases h16:r.px.size<=16
   ·have HF:Hid (zR r=yV r.px):=by unfold Hid zR;rw[HKD.o,HV.o,decide_eq_true h16];rfl
    have h16I:(r.px.size:Int)<=16:=by omega
    clear h16;go_enter Tryz.func178,Tryz.ntmps178
    go_wp2_with (first|(go_at_call 214;refine(zf HV.o (qE _ _ r.vs _ (by exact HI.o _))).mono ?_;rintro e w'⟨rfl,rfl⟩)|(go_at_call 94;refine(jV r.px _ hspx).mono ?_;rintro e w'⟨rfl,rfl⟩))
    go_ret;exact⟨ze HF.o.symm,HB.o _⟩
   ·have HF:Hid (zR r=false):=by unfold Hid zR;rw[decide_eq_false h16];simp
    have h16I:decide ((r.px.size:Int)<=16)=false:=by simp;omega
    clear h16;go_enter Tryz.func178,Tryz.ntmps178
    go_wp2_with (first|(go_at_call 214;refine(zf HV.o (qE _ _ r.vs _ (by exact HI.o _))).mono ?_;rintro e w'⟨rfl,rfl⟩))
    go_ret;exact⟨ze HF.o.symm,HB.o _⟩
  ·have HKD:Hid (qK r=true):=by unfold Hid qK;rw[hk,HT.o];simp
   by_cases hv:jc r.vs=true
   rotate_left
   ·have HV:Hid (jc r.vs=false):=by simpa[Hid] using hv
    have HF:Hid (zR r=false):=by unfold Hid zR;rw[HV.o];simp
    clear hv;go_enter Tryz.func178,Tryz.ntmps178
    go_wp2_with (first|(go_at_call_of 40 (Value.s r.tm);refine(zf HT.o (zH r.tm _ hstm)).mono ?_;rintro e w'⟨rfl,rfl⟩)|(go_at_call 214;refine(zf HV.o (qE _ _ r.vs _ (by exact HI.o _))).mono ?_;rintro e w'⟨rfl,rfl⟩))
    go_ret;exact⟨ze HF.o.symm,HB.o _⟩
   have HV:Hid (jc r.vs=true):=hv;clear hv
   by_cases h16:r.px.size<=16
   ·have HF:Hid (zR r=yV r.px):=by unfold Hid zR;rw[HKD.o,HV.o,decide_eq_true h16];rfl
    have h16I:(r.px.size:Int)<=16:=by omega
    clear h16;go_enter Tryz.func178,Tryz.ntmps178
    go_wp2_with (first|(go_at_call_of 40 (Value.s r.tm);refine(zf HT.o (zH r.tm _ hstm)).mono ?_;rintro e w'⟨rfl,rfl⟩)|(go_at_call 214;refine(zf HV.o (qE _ _ r.vs _ (by exact HI.o _))).mono ?_;rintro e w'⟨rfl,rfl⟩)|(go_at_call 94;refine(jV r.px _ hspx).mono ?_;rintro e w'⟨rfl,rfl⟩))
    go_ret;exact⟨ze HF.o.symm,HB.o _⟩
   ·have HF:Hid (zR r=false):=by unfold Hid zR;rw[decide_eq_false h16];simp
    have h16I:decide ((r.px.size:Int)<=16)=false:=by simp;omega
    clear h16;go_enter Tryz.func178,Tryz.ntmps178
    go_wp2_with (first|(go_at_call_of 40 (Value.s r.tm);refine(zf HT.o (zH r.tm _ hstm)).mono ?_;rintro e w'⟨rfl,rfl⟩)|(go_at_call 214;refine(zf HV.o (qE _ _ r.vs _ (by exact HI.o _))).mono ?_;rintro e w'⟨rfl,rfl⟩))
    go_ret;exact⟨ze HF.o.symm,HB.o _⟩
  ·have HF:Hid (zR r=false):=by unfold Hid zR qK;rw[ht,HT.o];simp
   go_enter Tryz.func178,Tryz.ntmps178
   go_wp2_with (first|(go_at_call_of 40 (Value.s r.tm);refine(zf HT.o (zH r.tm _ hstm)).mono ?_;rintro e w'⟨rfl,rfl⟩))
   go_ret;exact⟨ze HF.o.symm,HB.o _⟩
 ·rcases zdH r.tm with ht|⟨ht,HT⟩|⟨ht,HT⟩
  ·have HKD:Hid (qK r=true):=by unfold Hid qK;rw[HK.o,ht];simp
   by_cases hv:jc r.vs=true
   rotate_left
   ·have HV:Hid (jc r.vs=false):=by simpa[Hid] using hv
    have HF:Hid (zR r=false):=by unfold Hid zR;rw[HV.o];simp
    clear hv;go_enter Tryz.func178,Tryz.ntmps178
    go_wp2_with (first|(go_at_call_of 40 (Value.s r.kd);refine(zf HK.o (zH r.kd _ hskd)).mono ?_;rintro e w'⟨rfl,rfl⟩)|(go_at_call 214;refine(zf HV.o (qE _ _ r.vs _ (by exact HI.o _))).mono ?_;rintro e w'⟨rfl,rfl⟩))
    go_ret;exact⟨ze HF.o.symm,HB.o _⟩
   have HV:Hid (jc r.vs=true):=hv;clear hv
   by_cases h16:r.px.size<=16
   ·have HF:Hid (zR r=yV r.px):=by unfold Hid zR;rw[HKD.o,HV.o,decide_eq_true h16];rfl
    have h16I:(r.px.size:Int)<=16:=by omega
    clear h16;go_enter Tryz.func178,Tryz.ntmps178
    go_wp2_with (first|(go_at_call_of 40 (Value.s r.kd);refine(zf HK.o (zH r.kd _ hskd)).mono ?_;rintro e w'⟨rfl,rfl⟩)|(go_at_call 214;refine(zf HV.o (qE _ _ r.vs _ (by exact HI.o _))).mono ?_;rintro e w'⟨rfl,rfl⟩)|(go_at_call 94;refine(jV r.px _ hspx).mono ?_;rintro e w'⟨rfl,rfl⟩))
    go_ret;exact⟨ze HF.o.symm,HB.o _⟩
   ·have HF:Hid (zR r=false):=by unfold Hid zR;rw[decide_eq_false h16];simp
    have h16I:decide ((r.px.size:Int)<=16)=false:=by simp;omega
    clear h16;go_enter Tryz.func178,Tryz.ntmps178
    go_wp2_with (first|(go_at_call_of 40 (Value.s r.kd);refine(zf HK.o (zH r.kd _ hskd)).mono ?_;rintro e w'⟨rfl,rfl⟩)|(go_at_call 214;refine(zf HV.o (qE _ _ r.vs _ (by exact HI.o _))).mono ?_;rintro e w'⟨rfl,rfl⟩))
    go_ret;exact⟨ze HF.o.symm,HB.o _⟩
  ·have HKD:Hid (qK r=true):=by unfold Hid qK;rw[HK.o,HT.o];simp
   by_cases hv:jc r.vs=true
   rotate_left
   ·have HV:Hid (jc r.vs=false):=by simpa[Hid] using hv
    have HF:Hid (zR r=false):=by unfold Hid zR;rw[HV.o];simp
    clear hv;go_enter Tryz.func178,Tryz.ntmps178
    go_wp2_with (first|(go_at_call_of 40 (Value.s r.kd);refine(zf HK.o (zH r.kd _ hskd)).mono ?_;rintro e w'⟨rfl,rfl⟩)|(go_at_call_of 40 (Value.s r.tm);refine(zf HT.o (zH r.tm _ hstm)).mono ?_;rintro e w'⟨rfl,rfl⟩)|(go_at_call 214;refine(zf HV.o (qE _ _ r.vs _ (by exact HI.o _))).mono ?_;rintro e w'⟨rfl,rfl⟩))
    go_ret;exact⟨ze HF.o.symm,HB.o _⟩
   have HV:Hid (jc r.vs=true):=hv;clear hv
   by_cases h16:r.px.size<=16
   ·have HF:Hid (zR r=yV r.px):=by unfold Hid zR;rw[HKD.o,HV.o,decide_eq_true h16];rfl
    have h16I:(r.px.size:Int)<=16:=by omega
    clear h16;go_enter Tryz.func178,Tryz.ntmps178
    go_wp2_with (first|(go_at_call_of 40 (Value.s r.kd);refine(zf HK.o (zH r.kd _ hskd)).mono ?_;rintro e w'⟨rfl,rfl⟩)|(go_at_call_of 40 (Value.s r.tm);refine(zf HT.o (zH r.tm _ hstm)).mono ?_;rintro e w'⟨rfl,rfl⟩)|(go_at_call 214;refine(zf HV.o (qE _ _ r.vs _ (by exact HI.o _))).mono ?_;rintro e w'⟨rfl,rfl⟩)|(go_at_call 94;refine(jV r.px _ hspx).mono ?_;rintro e w'⟨rfl,rfl⟩))
    go_ret;exact⟨ze HF.o.symm,HB.o _⟩
   ·have HF:Hid (zR r=false):=by unfold Hid zR;rw[decide_eq_false h16];simp
    have h16I:decide ((r.px.size:Int)<=16)=false:=by simp;omega
    clear h16;go_enter Tryz.func178,Tryz.ntmps178
    go_wp2_with (first|(go_at_call_of 40 (Value.s r.kd);refine(zf HK.o (zH r.kd _ hskd)).mono ?_;rintro e w'⟨rfl,rfl⟩)|(go_at_call_of 40 (Value.s r.tm);refine(zf HT.o (zH r.tm _ hstm)).mono ?_;rintro e w'⟨rfl,rfl⟩)|(go_at_call 214;refine(zf HV.o (qE _ _ r.vs _ (by exact HI.o _))).mono ?_;rintro e w'⟨rfl,rfl⟩))
    go_ret;exact⟨ze HF.o.symm,HB.o _⟩
  ·have HF:Hid (zR r=false):=by unfold Hid zR qK;rw[ht,HT.o];simp
   go_enter Tryz.func178,Tryz.ntmps178
   go_wp2_with (first|(go_at_call_of 40 (Value.s r.kd);refine(zf HK.o (zH r.kd _ hskd)).mono ?_;rintro e w'⟨rfl,rfl⟩)|(go_at_call_of 40 (Value.s r.tm);refine(zf HT.o (zH r.tm _ hstm)).mono ?_;rintro e w'⟨rfl,rfl⟩))
   go_ret;exact⟨ze HF.o.symm,HB.o _⟩
 ·have HF:Hid (zR r=false):=by unfold Hid zR qK;rw[hk,HK.o];simp
  go_enter Tryz.func178,Tryz.ntmps178
  go_wp2_with (first|(go_at_call_of 40 (Value.s r.kd);refine(zf HK.o (zH r.kd _ hskd)).mono ?_;rintro e w'⟨rfl,rfl⟩))
  go_ret;exact⟨ze HF.o.symm,HB.o _⟩
theorem zqG (ts:List Tm):(!(ts.any fun t=>!zek ts t))=up (zf4 ts) ts.length:=by
 rw[Bool.eq_iff_iff,zcN];simp only[Bool.not_eq_true',List.any_eq_false]
 constructor
 ·intro h i hi
  have:=h ts[i] (List.getElem_mem hi)
  unfold zf4;rw[getD_at ts i _ hi]
  simpa using this
 ·intro h x hx
  obtain⟨k,hk,rfl⟩:=List.mem_iff_getElem.1 hx
  have:=h k hk
  unfold zf4 at this;rw[getD_at ts k _ hk]at this
  simp[this]
theorem zcL (ts:List Tm)(k:Nat)(h:k<ts.length)(b:Bool)(hb:(decide (k=0)||less (ts.getD (k-1) zbf).nm ts[k].nm)=b) :
 qC ts k=(zx ts[k].nm&&b&&(ts[k].ov.toList.isEmpty||z8 ts ts[k].ov)):=by
 unfold qC;rw[getD_at ts k _ h,hb]
theorem ziy (a:OA)(cap:Nat)(ts:List Tm)(w:World)(hw:jR w a ts) :
 Calls Tryz.prog 132 #[.l a ts.length cap] w fun e w'=>e=.returned (.bool (zbN ts))/\Bw w w':=by
 have hl:=hw.len;unfold maxLen at hl
 by_cases h12:ts.length<=12
 rotate_left
 ·have HF:Hid (zbN ts=false):=by simp[Hid,zbN,h12]
  clear hw;go_enter Tryz.func132,Tryz.ntmps132;go_wp2_with fail
  go_ret;exact⟨ze HF.o.symm,bAl _ _⟩
 have HG:Hid (zbN ts=(up (qC ts) ts.length&&up (zf4 ts) ts.length)):=by simp[Hid,zbN,h12]
 have h12I:(ts.length:Int)<=12:=by omega
 go_enter Tryz.func132,Tryz.ntmps132;go_wp2_with fail
 have hB00:Bw w (w.alloc (.cells #[.l a ts.length cap] 45)):=bAl _ _;have hX00:=zl w #[.l a ts.length cap] 45;have hz00:w.heap.size<(w.alloc (.cells #[.l a ts.length cap] 45)).heap.size:=by simp
 obtain⟨w0,hw0⟩:=xN (w.alloc (.cells #[.l a ts.length cap] 45));rw[<- hw0]at hB00 hX00 hz00 ⊢;have HW0:Hid (jR w0 a ts):=hw.mono hB00;have HB00:Hid (Bw w w0):=hB00;clear hw0 hw hB00
 go_loopw [10] (fun i wr=>∃k:Nat,k<=ts.length/\i=.i k/\up (qC ts) k=true/\Bw w0 wr) (fun i _=>ts.length-(intOf i).toNat)
 case atStart=>exact⟨0,Nat.zero_le _,rfl,rfl,bRf _ _⟩
 case round=>
  obtain⟨k,hk,rfl,hup,hB⟩:=hrel;have hsz:=hB.size;have hX:=za hX00 hz00 hB;have hX0:wr.cell? (aD w.heap.size 0)=some (.l a ts.length cap):=hX 0;have hzr:w.heap.size<wr.heap.size:=by omega
  have HBr:Hid (Bw w wr):=HB00.o.trans (hB.mono (by omega));clear hX hX00
  by_cases hlt:k<ts.length
  ·obtain⟨b,off,rfl,hb,c0,c1⟩:=HW0.o.load hB k hlt
   have hbr:b<wr.heap.size:=by omega
   have hsm:=HW0.o.small k hlt;have hsn:=hsm.nm;have HS:Hid (qC ts k=true->up (qC ts) (k+1)=true):=fun h=>by rw[q8,hup,h];rfl
   have HN:Hid (qC ts k=false->zbN ts=false):=fun h=>by rw[HG.o,zaK hlt h];rfl
   have hltI:(k:Int)<(ts.length:Int):=by omega
   have HB:Hid (Bw w0 wr):=hB;clear hup hsm hB
   by_cases hn:zx ts[k].nm=true
   rotate_left
   ·have HNm:Hid (zx ts[k].nm=false):=by simpa[Hid] using hn
    have HF:Hid (qC ts k=false):=by unfold Hid;rw[zcL ts k hlt _ rfl,HNm.o];rfl
    clear hn;go_wp2_with fail
    go_quiet ((go_at_call 40;exact Calls.quiet_of_same (zf HNm.o (zH _ _ hsn))))
    go_wp2_with fail
    go_ret;exact⟨ze (HN.o HF.o).symm,below_drewN (HBr.o.alloc (by omega) _) _⟩
   have HNm:Hid (zx ts[k].nm=true):=hn;clear hn
   by_cases hbad:0<k/\less (ts.getD (k-1) zbf).nm ts[k].nm=false
   ·obtain⟨hkpos,hls⟩:=hbad
    have HF:Hid (qC ts k=false):=by
     unfold Hid;rw[zcL ts k hlt false (by rw[hls,decide_eq_false (show ¬k=0 by omega)];rfl)];simp
    obtain⟨m,rfl⟩:∃m,k=m+1:=⟨k-1,by omega⟩
    rw[Nat.add_sub_cancel,getD_at ts m _ (by omega)]at hls;obtain⟨b',off',e',hb',d0,d1⟩:=HW0.o.load HB.o m (by omega);simp only[Option.some.injEq,Addr.mk.injEq]at e';obtain⟨rfl,rfl,_⟩:=e';have hls':Op.bytesLess ts[m].nm.toList ts[m+1].nm.toList=false:=hls;have hmI:(m:Int)<12:=by omega
    have hm0:(0:Int)<=(m:Int):=by omega
    have hml:(m:Int)<(ts.length:Int):=by omega
    have hmw:IntKind.i64.wrap (m:Int)=m:=by rw[IntKind.wrap_i64];omega
    clear hls;go_wp2_with fail
    go_quiet ((go_at_call 40;exact Calls.quiet_of_same (zf HNm.o (zH _ _ hsn))))
    go_wp2_with fail
    go_ret;exact⟨ze (HN.o HF.o).symm,below_drewN (HBr.o.alloc (by omega) _) _⟩
   have hgd:(decide (k=0)||less (ts.getD (k-1) zbf).nm ts[k].nm)=true:=by
    by_cases hk0:k=0
    ·simp[hk0]
    ·cases hq:less (ts.getD (k-1) zbf).nm ts[k].nm
     ·exact absurd ⟨by omega,hq⟩ hbad
     ·simp
   have HA:Hid (qC ts k=(ts[k].ov.toList.isEmpty||z8 ts ts[k].ov)):=by
    unfold Hid;rw[zcL ts k hlt true hgd,HNm.o];rfl
   have hgood:(decide (0<k)=false) \/ (decide (0<k)=true/\∃m,k=m+1/\∃h:m<ts.length,Op.bytesLess ts[m].nm.toList ts[k].nm.toList=true/\wr.cell? (aD b (off+m*2))=some (.s ts[m].nm)):=by
    by_cases hk0:k=0
    ·exact Or.inl (by simp;omega)
    ·refine Or.inr ⟨by simp;omega,k-1,by omega,by omega,?_,?_⟩
     ·rw[decide_eq_false hk0,getD_at ts (k-1) _ (by omega)]at hgd
      exact hgd
     ·obtain⟨b',off',e',hb',d0,d1⟩:=HW0.o.load HB.o (k-1) (by omega)
      simp only[Option.some.injEq,Addr.mk.injEq]at e';obtain⟨rfl,rfl,_⟩:=e';exact d0
   clear hbad hgd;have HBx:Hid (∀(ob:Obj) (n:Nat),Bw wr ((wr.alloc ob).drewN n)):=fun ob n=>below_drewN (bAl _ _) _
   by_cases hov:ts[k].ov.toList.isEmpty=true
   ·have HT:Hid (qC ts k=true):=by unfold Hid;rw[HA.o,hov];rfl
    rcases hgood with hg|⟨hg,m,rfl,hm,hls',d0⟩
    ·go_wp2_with fail
     go_quiet ((go_at_call 40;exact Calls.quiet_of_same (zf HNm.o (zH _ _ hsn))))
     go_wp2_with fail
     exact⟨⟨k+1,by omega,by go_num,HS.o HT.o,HB.o.trans ((HBx.o _ _).mono hsz)⟩,by simp[intOf];omega⟩
    ·have hmI:(m:Int)<12:=by omega
     have hm0:(0:Int)<=(m:Int):=by omega
     have hml:(m:Int)<(ts.length:Int):=by omega
     have hmw:IntKind.i64.wrap (m:Int)=m:=by rw[IntKind.wrap_i64];omega
     go_wp2_with fail
     go_quiet ((go_at_call 40;exact Calls.quiet_of_same (zf HNm.o (zH _ _ hsn))))
     go_wp2_with fail
     exact⟨⟨m+1+1,by omega,by go_num,HS.o HT.o,HB.o.trans ((HBx.o _ _).mono hsz)⟩,by simp[intOf];omega⟩
   ·have hov':ts[k].ov.toList.isEmpty=false:=by simpa using hov
    clear hov
    by_cases hit:z8 ts ts[k].ov=true
    ·have HI:Hid (z8 ts ts[k].ov=true):=hit
     have HT:Hid (qC ts k=true):=by unfold Hid;rw[HA.o,hit];simp
     clear hit
     rcases hgood with hg|⟨hg,m,rfl,hm,hls',d0⟩
     ·go_wp2_with fail
      go_quiet ((go_at_call 40;exact Calls.quiet_of_same (zf HNm.o (zH _ _ hsn))))
      go_wp2_with fail
      refine(zf HI.o (zbW _ _ ts _ _ ((HW0.o.mono HB.o).mono (HBx.o _ _)))).mono ?_;rintro e w3⟨rfl,hb3⟩;have hB3:Bw w0 w3:=(HB.o.trans ((HBx.o _ _).mono hsz)).trans (hb3.mono (by simp;omega));clear hb3;go_wp2_with fail
      exact⟨⟨k+1,by omega,by go_num,HS.o HT.o,hB3⟩,by simp[intOf];omega⟩
     ·have hmI:(m:Int)<12:=by omega
      have hm0:(0:Int)<=(m:Int):=by omega
      have hml:(m:Int)<(ts.length:Int):=by omega
      have hmw:IntKind.i64.wrap (m:Int)=m:=by rw[IntKind.wrap_i64];omega
      go_wp2_with fail
      go_quiet ((go_at_call 40;exact Calls.quiet_of_same (zf HNm.o (zH _ _ hsn))))
      go_wp2_with fail
      refine(zf HI.o (zbW _ _ ts _ _ ((HW0.o.mono HB.o).mono (HBx.o _ _)))).mono ?_;rintro e w3⟨rfl,hb3⟩;have hB3:Bw w0 w3:=(HB.o.trans ((HBx.o _ _).mono hsz)).trans (hb3.mono (by simp;omega));clear hb3;go_wp2_with fail
      exact⟨⟨m+1+1,by omega,by go_num,HS.o HT.o,hB3⟩,by simp[intOf];omega⟩
    ·have HI:Hid (z8 ts ts[k].ov=false):=by simpa[Hid] using hit
     have HF:Hid (qC ts k=false):=by unfold Hid;rw[HA.o,HI.o,hov'];rfl
     clear hit
     rcases hgood with hg|⟨hg,m,rfl,hm,hls',d0⟩
     focus
      go_wp2_with fail
     rotate_left
     focus
      have hmI:(m:Int)<12:=by omega
      have hm0:(0:Int)<=(m:Int):=by omega
      have hml:(m:Int)<(ts.length:Int):=by omega
      have hmw:IntKind.i64.wrap (m:Int)=m:=by rw[IntKind.wrap_i64];omega
      go_wp2_with fail
     all_goals
      go_quiet ((go_at_call 40;exact Calls.quiet_of_same (zf HNm.o (zH _ _ hsn))))
      go_wp2_with fail
      refine(zf HI.o (zbW _ _ ts _ _ ((HW0.o.mono HB.o).mono (HBx.o _ _)))).mono ?_;rintro e w3⟨rfl,hb3⟩;have hB3:Bw w w3:=(HBr.o.trans ((HBx.o _ _).mono (by omega))).trans (hb3.mono (by simp;omega));clear hb3;go_wp2_with fail
      go_ret;exact⟨ze (HN.o HF.o).symm,hB3⟩
  ·have HF:Hid (zbN ts=!(ts.any fun t=>!zek ts t)):=by
    have e:k=ts.length:=by omega
    subst e;rw[Hid,HG.o,hup,zqG];rfl
   have HWr:Hid (jR wr a ts):=HW0.o.mono hB;clear hup hB;go_wp2_with fail
   refine(zhg _ _ ts _ _ _ HWr.o (zqd _ _ ts _ _ HWr.o hzr hX0)).mono ?_;rintro e w3⟨rfl,hb3⟩;have hB3:Bw w w3:=HBr.o.trans (hb3.mono (by omega));clear hb3;go_wp2_with fail
   go_ret;exact⟨ze HF.o.symm,hB3⟩
end Go.Proofs.YtcgpjfcocmcodaaGreat
