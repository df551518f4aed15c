import Derived.Test.YtecncindgjdbiaaGreatM13
import Derived.Test.YtecncindgjdbiaaGreatM12
set_option maxHeartbeats 4000000
namespace Go.Proofs.YtecncindgjdbiaaGreat
open Go.RowKit
theorem zn.setCell {lo:Nat}{w:World}{a:OA}{ws:List BA}(h:zn lo w a ws)(p:Addr)(hp:p.block<lo)(v:Value):zn lo (w.setCell p v) a ws:=by
 rcases h with⟨rfl,rfl⟩|⟨g,C,rfl,hg,hh,hc⟩
 ·exact Or.inl ⟨rfl,rfl⟩
 ·exact Or.inr ⟨g,C,rfl,hg,(Below.heap_setCell _ _ _ _ (by omega)).trans hh,hc⟩
theorem zn.low {lo lo':Nat}{w:World}{a:OA}{ws:List BA}(h:zn lo w a ws)(hl:lo'<=lo):zn lo' w a ws:=by
 rcases h with⟨rfl,rfl⟩|⟨g,C,rfl,hg,hh,hc⟩
 ·exact Or.inl ⟨rfl,rfl⟩
 ·exact Or.inr ⟨g,C,rfl,by omega,hh,hc⟩
theorem zqa (ts:List Tm):(!(ts.any fun t=>!zee ts t))=up (zfV ts) ts.length:=by
 rw[Bool.eq_iff_iff,zcZ];simp only[Bool.not_eq_true',List.any_eq_false]
 constructor
 ·intro h i hi
  have:=h ts[i] (List.getElem_mem hi)
  unfold zfV;rw[getD_at ts i _ hi]
  simpa using this
 ·intro h x hx
  obtain⟨k,hk,rfl⟩:=List.mem_iff_getElem.1 hx
  have:=h k hk
  unfold zfV at this;rw[getD_at ts k _ hk]at this
  simp[this]
theorem zcE (ts:List Tm)(k:Nat)(h:k<ts.length)(b:Bool)(hb:(decide (k=0)||less (ts.getD (k-1) zbe).nm ts[k].nm)=b) :
 qE ts k=(zy ts[k].nm&&b&&(ts[k].ov.toList.isEmpty||yB ts ts[k].ov)):=by
 unfold qE;rw[getD_at ts k _ h,hb]
theorem ziL (a:OA)(cap:Nat)(ts:List Tm)(w:World)(hw:jQ w a ts) :
 Calls Tryz.prog 123 #[.l a ts.length cap] w fun e w'=>e=.returned (.bool (zbu ts))/\Bw w w':=by
 have hl:=hw.len;unfold maxLen at hl
 by_cases h12:ts.length<=12
 rotate_left
 ·have HF:Hid (zbu ts=false):=by simp[Hid,zbu,h12]
  clear hw;go_enter Tryz.func123,Tryz.ntmps123;go_wp2_with fail
  go_ret;exact⟨ze HF.o.symm,bAl _ _⟩
 have HG:Hid (zbu ts=(up (qE ts) ts.length&&up (zfV ts) ts.length)):=by simp[Hid,zbu,h12]
 have h12I:(ts.length:Int)<=12:=by omega
 go_enter Tryz.func123,Tryz.ntmps123;go_wp2_with fail
 have hB00:Bw w (w.alloc (.cells #[.l a ts.length cap] 45)):=bAl _ _;have hX00:=zl w #[.l a ts.length cap] 45;have hz00:w.heap.size<(w.alloc (.cells #[.l a ts.length cap] 45)).heap.size:=by simp
 obtain⟨w0,hw0⟩:=nm (w.alloc (.cells #[.l a ts.length cap] 45));rw[<- hw0]at hB00 hX00 hz00 ⊢;have HW0:Hid (jQ w0 a ts):=hw.mono hB00;have HB00:Hid (Bw w w0):=hB00;clear hw0 hw hB00
 go_loopw [10] (fun i wr=>∃k:Nat,k<=ts.length/\i=.i k/\up (qE ts) k=true/\Bw w0 wr) (fun i _=>ts.length-(intOf i).toNat)
 case atStart=>exact⟨0,Nat.zero_le _,rfl,rfl,bRf _ _⟩
 case round=>
  obtain⟨k,hk,rfl,hup,hB⟩:=hrel;have hsz:=hB.size;have hX:=za hX00 hz00 hB;have hX0:wr.cell? (aD w.heap.size 0)=some (.l a ts.length cap):=hX 0;have hzr:w.heap.size<wr.heap.size:=by omega
  have HBr:Hid (Bw w wr):=HB00.o.trans (hB.mono (by omega));clear hX hX00
  by_cases hlt:k<ts.length
  ·obtain⟨b,off,rfl,hb,c0,c1⟩:=HW0.o.load hB k hlt
   have hbr:b<wr.heap.size:=by omega
   have hsm:=HW0.o.small k hlt;have hsn:=hsm.nm;have HS:Hid (qE ts k=true->up (qE ts) (k+1)=true):=fun h=>by rw[q8,hup,h];rfl
   have HN:Hid (qE ts k=false->zbu ts=false):=fun h=>by rw[HG.o,zaH hlt h];rfl
   have hltI:(k:Int)<(ts.length:Int):=by omega
   have HB:Hid (Bw w0 wr):=hB;clear hup hsm hB
   by_cases hn:zy ts[k].nm=true
   rotate_left
   ·have HNm:Hid (zy ts[k].nm=false):=by simpa[Hid] using hn
    have HF:Hid (qE ts k=false):=by unfold Hid;rw[zcE ts k hlt _ rfl,HNm.o];rfl
    clear hn;go_wp2_with fail
    go_quiet ((go_at_call 161;exact Calls.quiet_of_same (zf HNm.o (zH _ _ hsn))))
    go_wp2_with fail
    go_ret;exact⟨ze (HN.o HF.o).symm,below_drewN (HBr.o.alloc (by omega) _) _⟩
   have HNm:Hid (zy ts[k].nm=true):=hn;clear hn
   by_cases hbad:0<k/\less (ts.getD (k-1) zbe).nm ts[k].nm=false
   ·obtain⟨hkpos,hls⟩:=hbad
    have HF:Hid (qE ts k=false):=by
     unfold Hid;rw[zcE ts k hlt false (by rw[hls,decide_eq_false (show ¬k=0 by omega)];rfl)];simp
    obtain⟨m,rfl⟩:∃m,k=m+1:=⟨k-1,by omega⟩
    rw[Nat.add_sub_cancel,getD_at ts m _ (by omega)]at hls;obtain⟨b',off',e',hb',d0,d1⟩:=HW0.o.load HB.o m (by omega);simp only[Option.some.injEq,Addr.mk.injEq]at e';obtain⟨rfl,rfl,_⟩:=e';have hls':Op.bytesLess ts[m].nm.toList ts[m+1].nm.toList=false:=hls;have hmI:(m:Int)<12:=by omega
    have hm0:(0:Int)<=(m:Int):=by omega
    have hml:(m:Int)<(ts.length:Int):=by omega
    have hmw:IntKind.i64.wrap (m:Int)=m:=by rw[IntKind.wrap_i64];omega
    clear hls;go_wp2_with fail
    go_quiet ((go_at_call 161;exact Calls.quiet_of_same (zf HNm.o (zH _ _ hsn))))
    go_wp2_with fail
    go_ret;exact⟨ze (HN.o HF.o).symm,below_drewN (HBr.o.alloc (by omega) _) _⟩
   have hgd:(decide (k=0)||less (ts.getD (k-1) zbe).nm ts[k].nm)=true:=by
    by_cases hk0:k=0
    ·simp[hk0]
    ·cases hq:less (ts.getD (k-1) zbe).nm ts[k].nm
     ·exact absurd ⟨by omega,hq⟩ hbad
     ·simp
   have HA:Hid (qE ts k=(ts[k].ov.toList.isEmpty||yB ts ts[k].ov)):=by
    unfold Hid;rw[zcE ts k hlt true hgd,HNm.o];rfl
   have hgood:(decide (0<k)=false) \/ (decide (0<k)=true/\∃m,k=m+1/\∃h:m<ts.length,Op.bytesLess ts[m].nm.toList ts[k].nm.toList=true/\wr.cell? (aD b (off+m*2))=some (.s ts[m].nm)):=by
    by_cases hk0:k=0
    ·exact Or.inl (by simp;omega)
    ·refine Or.inr ⟨by simp;omega,k-1,by omega,by omega,?_,?_⟩
     ·rw[decide_eq_false hk0,getD_at ts (k-1) _ (by omega)]at hgd
      exact hgd
     ·obtain⟨b',off',e',hb',d0,d1⟩:=HW0.o.load HB.o (k-1) (by omega)
      simp only[Option.some.injEq,Addr.mk.injEq]at e';obtain⟨rfl,rfl,_⟩:=e';exact d0
   clear hbad hgd;have HBx:Hid (∀(ob:Obj) (n:Nat),Bw wr ((wr.alloc ob).drewN n)):=fun ob n=>below_drewN (bAl _ _) _
   by_cases hov:ts[k].ov.toList.isEmpty=true
   ·have HT:Hid (qE ts k=true):=by unfold Hid;rw[HA.o,hov];rfl
    rcases hgood with hg|⟨hg,m,rfl,hm,hls',d0⟩
    ·go_wp2_with fail
     go_quiet ((go_at_call 161;exact Calls.quiet_of_same (zf HNm.o (zH _ _ hsn))))
     go_wp2_with fail
     exact⟨⟨k+1,by omega,by go_num,HS.o HT.o,HB.o.trans ((HBx.o _ _).mono hsz)⟩,by simp[intOf];omega⟩
    ·have hmI:(m:Int)<12:=by omega
     have hm0:(0:Int)<=(m:Int):=by omega
     have hml:(m:Int)<(ts.length:Int):=by omega
     have hmw:IntKind.i64.wrap (m:Int)=m:=by rw[IntKind.wrap_i64];omega
     go_wp2_with fail
     go_quiet ((go_at_call 161;exact Calls.quiet_of_same (zf HNm.o (zH _ _ hsn))))
     go_wp2_with fail
     exact⟨⟨m+1+1,by omega,by go_num,HS.o HT.o,HB.o.trans ((HBx.o _ _).mono hsz)⟩,by simp[intOf];omega⟩
   ·have hov':ts[k].ov.toList.isEmpty=false:=by simpa using hov
    clear hov
    by_cases hit:yB ts ts[k].ov=true
    ·have HI:Hid (yB ts ts[k].ov=true):=hit
     have HT:Hid (qE ts k=true):=by unfold Hid;rw[HA.o,hit];simp
     clear hit
     rcases hgood with hg|⟨hg,m,rfl,hm,hls',d0⟩
     ·go_wp2_with fail
      go_quiet ((go_at_call 161;exact Calls.quiet_of_same (zf HNm.o (zH _ _ hsn))))
      go_wp2_with fail
      refine(zf HI.o (zcY _ _ ts _ _ ((HW0.o.mono HB.o).mono (HBx.o _ _)))).mono ?_;rintro e w3⟨rfl,hb3⟩;have hB3:Bw w0 w3:=(HB.o.trans ((HBx.o _ _).mono hsz)).trans (hb3.mono (by simp;omega));clear hb3;go_wp2_with fail
      exact⟨⟨k+1,by omega,by go_num,HS.o HT.o,hB3⟩,by simp[intOf];omega⟩
     ·have hmI:(m:Int)<12:=by omega
      have hm0:(0:Int)<=(m:Int):=by omega
      have hml:(m:Int)<(ts.length:Int):=by omega
      have hmw:IntKind.i64.wrap (m:Int)=m:=by rw[IntKind.wrap_i64];omega
      go_wp2_with fail
      go_quiet ((go_at_call 161;exact Calls.quiet_of_same (zf HNm.o (zH _ _ hsn))))
      go_wp2_with fail
      refine(zf HI.o (zcY _ _ ts _ _ ((HW0.o.mono HB.o).mono (HBx.o _ _)))).mono ?_;rintro e w3⟨rfl,hb3⟩;have hB3:Bw w0 w3:=(HB.o.trans ((HBx.o _ _).mono hsz)).trans (hb3.mono (by simp;omega));clear hb3;go_wp2_with fail
      exact⟨⟨m+1+1,by omega,by go_num,HS.o HT.o,hB3⟩,by simp[intOf];omega⟩
    ·have HI:Hid (yB ts ts[k].ov=false):=by simpa[Hid] using hit
     have HF:Hid (qE ts k=false):=by unfold Hid;rw[HA.o,HI.o,hov'];rfl
     clear hit
     rcases hgood with hg|⟨hg,m,rfl,hm,hls',d0⟩
     focus
      go_wp2_with fail
     rotate_left
     focus
      have hmI:(m:Int)<12:=by omega
      have hm0:(0:Int)<=(m:Int):=by omega
      have hml:(m:Int)<(ts.length:Int):=by omega
      have hmw:IntKind.i64.wrap (m:Int)=m:=by rw[IntKind.wrap_i64];omega
      go_wp2_with fail
     all_goals
      go_quiet ((go_at_call 161;exact Calls.quiet_of_same (zf HNm.o (zH _ _ hsn))))
      go_wp2_with fail
      refine(zf HI.o (zcY _ _ ts _ _ ((HW0.o.mono HB.o).mono (HBx.o _ _)))).mono ?_;rintro e w3⟨rfl,hb3⟩;have hB3:Bw w w3:=(HBr.o.trans ((HBx.o _ _).mono (by omega))).trans (hb3.mono (by simp;omega));clear hb3;go_wp2_with fail
      go_ret;exact⟨ze (HN.o HF.o).symm,hB3⟩
  ·have HF:Hid (zbu ts=!(ts.any fun t=>!zee ts t)):=by
    have e:k=ts.length:=by omega
    subst e;rw[Hid,HG.o,hup,zqa];rfl
   have HWr:Hid (jQ wr a ts):=HW0.o.mono hB;clear hup hB;go_wp2_with fail
   refine(zgl _ _ ts _ _ _ HWr.o (zp2 _ _ ts _ _ HWr.o hzr hX0)).mono ?_;rintro e w3⟨rfl,hb3⟩;have hB3:Bw w w3:=HBr.o.trans (hb3.mono (by omega));clear hb3;go_wp2_with fail
   go_ret;exact⟨ze HF.o.symm,hB3⟩
end Go.Proofs.YtecncindgjdbiaaGreat
