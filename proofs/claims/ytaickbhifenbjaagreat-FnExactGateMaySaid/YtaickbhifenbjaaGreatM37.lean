import Derived.Test.YtaickbhifenbjaaGreatM36
import Derived.Test.YtaickbhifenbjaaGreatM19
import Derived.Test.YtaickbhifenbjaaGreatM33
import Derived.Test.YtaickbhifenbjaaGreatM18
set_option maxHeartbeats 4000000
namespace Go.Proofs.YtaickbhifenbjaaGreat
open Go.RowKit
namespace Gate
def zaJ (l:Lw) (b:Bk) (g:Lg):Bool:=decide (sumTo l b g b.ps.length=g.mo)
def zct (l:Lw) (b:Bk):Bool:=b.ls.all (zaJ l b)
end Gate
set_option maxRecDepth 20000 in
theorem zkT (l:Lw) (la lb lc:Option Addr) (lca lcb lcc:Nat) (b:Bk) (a0 a1 a2 a3:Option Addr) (c0 c1 c2 c3:Nat) (w:World) (hl:qp w l la lb lc) (hb:qA w b a0 a1 a2 a3) (hs:zfE b) :
 Calls Tryz.prog 105 #[.agg #[.slice la l.ss.length lca,.slice lb l.ms.length lcb,.slice lc l.ts.length lcc],.agg #[.int .i64 b.now,.int .i64 b.tick,.int .i64 b.given,.slice a0 b.os.length c0,.slice a1 b.gs.length c1,.slice a2 b.ls.length c2,.slice a3 b.ps.length c3]] w fun e w'=>e = .returned (.bool (Gate.zct l b))/\Below w.heap.size w w':=by
 have HH:Hid (qp w l la lb lc/\qA w b a0 a1 a2 a3/\zfE b):=⟨hl,hb,hs⟩
 have hll:=hs.ll
 clear hl hb hs
 have HG:Hid (Gate.zct l b=b.ls.all (Gate.zaJ l b)):=rfl
 go_enter Tryz.func105,Tryz.ntmps105
 go_wp2_with fail
 have hb2:=zC w (.cells #[.slice la l.ss.length lca,.slice lb l.ms.length lcb,.slice lc l.ts.length lcc] 43) (.cells #[.int .i64 b.now,.int .i64 b.tick,.int .i64 b.given,.slice a0 b.os.length c0,.slice a1 b.gs.length c1,.slice a2 b.ls.length c2,.slice a3 b.ps.length c3] 50)
 refine (zl8 l la lb lc lca lcb lcc b a0 a1 a2 a3 c0 c1 c2 c3 _ (HH.out.1.mono hb2) (HH.out.2.1.mono hb2) HH.out.2.2).mono ?_
 rintro e w1 ⟨⟨r,f,rfl,hr,hf,hfk⟩,hb1⟩
 have hX1:∀ j,w1.cell? ⟨w.heap.size+1,j,none⟩=(#[.int .i64 b.now,.int .i64 b.tick,.int .i64 b.given,.slice a0 b.os.length c0,.slice a1 b.gs.length c1,.slice a2 b.ls.length c2,.slice a3 b.ps.length c3]:Array Value)[j]?:=fun j=>cell_of_block ((hb1.block (w.heap.size+1) (by simp)).trans (yw _ _ _).2)
 have hz1:w.heap.size+1 < w1.heap.size:=by have:=hb1.size;simp at this;omega
 have HB1:Hid (Below w.heap.size w w1):=hb2.trans (hb1.mono (by simp;omega))
 have HM:Hid (yK w1 r f/\∀ i (hi:i < b.ls.length),f b.ls[i].tm b.ls[i].rs=some (Gate.sumTo l b b.ls[i] b.ps.length)):=⟨hf,hfk⟩
 clear hb1 hb2 hf hfk hr
 go_wp2_with fail
 go_loopw [14] (fun iv wr=>∃ k:Nat,k<=b.ls.length/\iv = .int .i64 k/\Hid ((b.ls.take k).all (Gate.zaJ l b)=true/\Below w1.heap.size w1 wr)) (fun iv _=>b.ls.length - (intOf iv).toNat)
 case atStart=>exact ⟨0,Nat.zero_le _,rfl,by simp,Below.refl _ _⟩
 case round =>
  obtain ⟨k,hk,rfl,HQ⟩:=hrel
  have hkn:k<=1000:=by omega
  by_cases hlt:k < b.ls.length
  ·have hBr:=HQ.out.2
   have hBw:=HB1.out.trans (hBr.mono HB1.out.size)
   obtain ⟨ob,off,rfl,hob,d0,d1,d2,d3⟩:=HH.out.2.1.ls.load hBw k hlt
   have hsm:=HH.out.2.1.ls.small k hlt
   have hltI:(k:Int) < (b.ls.length:Int):=by omega
   have hob':ob < wr.heap.size:=Nat.lt_of_lt_of_le hob hBw.size
   have HSn:Hid ((b.ls.take (k+1)).all (Gate.zaJ l b)=((b.ls.take k).all (Gate.zaJ l b) && (Gate.zaJ l b) b.ls[k])):=Gate.qR _ _ _ hlt
   have HNo:Hid ((Gate.zaJ l b) b.ls[k]=false->Gate.zct l b=false):=fun h=>by rw [HG.out];exact Gate.zar _ _ _ hlt h
   have HYes:Hid ((Gate.zaJ l b) b.ls[k]=true->(b.ls.take (k+1)).all (Gate.zaJ l b)=true):=fun h=>by rw [HSn.out,HQ.out.1,h];rfl
   obtain ⟨v,hv⟩:∃ v,v=Gate.sumTo l b b.ls[k] b.ps.length:=⟨_,rfl⟩
   have HM2:Hid (yK wr r f/\Below w1.heap.size w1 wr/\f b.ls[k].tm b.ls[k].rs=some v):=⟨HM.out.1.mono hBr,hBr,by rw [hv];exact HM.out.2 k hlt⟩
   have HV:Hid (v=Gate.sumTo l b b.ls[k] b.ps.length):=hv
   clear hBr hBw HQ hv
   by_cases he:v=b.ls[k].mo
   ·have e2:(v != b.ls[k].mo)=false:=by simp [he]
    have HN:Hid ((b.ls.take (k+1)).all (Gate.zaJ l b)=true):=HYes.out (by unfold Gate.zaJ;rw [decide_eq_true_eq,<- HV.out];exact he)
    clear he
    go_wp2_with fail
    have hba:=(Below.refl wr.heap.size wr).alloc (Nat.le_refl _) (.cells #[.string b.ls[k].tm,.string b.ls[k].rs,.int .i64 b.ls[k].mo,.int .i64 b.ls[k].fr] 126)
    have hT2:=zl wr #[.string b.ls[k].tm,.string b.ls[k].rs,.int .i64 b.ls[k].mo,.int .i64 b.ls[k].fr] 126
    have hzg:wr.heap.size < (wr.alloc (.cells #[.string b.ls[k].tm,.string b.ls[k].rs,.int .i64 b.ls[k].mo,.int .i64 b.ls[k].fr] 126)).heap.size:=by simp
    obtain ⟨W2,hW2⟩:∃ W2,W2=wr.alloc (.cells #[.string b.ls[k].tm,.string b.ls[k].rs,.int .i64 b.ls[k].mo,.int .i64 b.ls[k].fr] 126):=⟨_,rfl⟩
    rw [<- hW2] at hba hT2 hzg ⊢
    clear hW2 d0 d1 d2 d3
    have hS2:=za hT2 hzg (Below.refl W2.heap.size W2).drew
    have hb:=hba.trans ((Below.refl W2.heap.size W2).drew.mono hba.size)
    have hy2:wr.heap.size < W2.drew.heap.size:=hzg
    clear hT2 hba
    go_region_held3 (fun w'=>∀ j,w'.cell? ⟨wr.heap.size,j,none⟩=(#[.string b.ls[k].tm,.string b.ls[k].rs,.int .i64 b.ls[k].mo,.int .i64 b.ls[k].fr]:Array Value)[j]?) (exact fun j=>by rw [hS2]) (first
     | (go_at_call 156;refine (zbq b.ls[k] _).mono ?_;rintro e w5 ⟨rfl,hb5⟩;have hS2:=za hS2 hy2 hb5;have hb:=hb.trans (hb5.mono hb.size);have hf5:=HM2.out.1.mono hb;have hlk:=hf5.look zcr Tryz.underlying219 b.ls[k].tm b.ls[k].rs hsm.tm hsm.rs false;rw [HM2.out.2.2] at hlk;unfold q8 at hlk ⊢;simp only [Option.getD_some,Bool.false_eq_true,if_false] at hlk;clear hb5))
    go_wp2_with fail
    exact ⟨⟨k+1,by omega,by go_num,HN.out,HM2.out.2.1.trans (hb.mono HM2.out.2.1.size)⟩,zw hlt⟩
   ·have e2:(v != b.ls[k].mo)=true:=by simp [he]
    have HN:Hid (Gate.zct l b=false):=HNo.out (by unfold Gate.zaJ;rw [decide_eq_false_iff_not,<- HV.out];exact he)
    clear he
    go_wp2_with fail
    have hba:=(Below.refl wr.heap.size wr).alloc (Nat.le_refl _) (.cells #[.string b.ls[k].tm,.string b.ls[k].rs,.int .i64 b.ls[k].mo,.int .i64 b.ls[k].fr] 126)
    have hT2:=zl wr #[.string b.ls[k].tm,.string b.ls[k].rs,.int .i64 b.ls[k].mo,.int .i64 b.ls[k].fr] 126
    have hzg:wr.heap.size < (wr.alloc (.cells #[.string b.ls[k].tm,.string b.ls[k].rs,.int .i64 b.ls[k].mo,.int .i64 b.ls[k].fr] 126)).heap.size:=by simp
    obtain ⟨W2,hW2⟩:∃ W2,W2=wr.alloc (.cells #[.string b.ls[k].tm,.string b.ls[k].rs,.int .i64 b.ls[k].mo,.int .i64 b.ls[k].fr] 126):=⟨_,rfl⟩
    rw [<- hW2] at hba hT2 hzg ⊢
    clear hW2 d0 d1 d2 d3
    have hS2:=za hT2 hzg (Below.refl W2.heap.size W2).drew
    have hb:=hba.trans ((Below.refl W2.heap.size W2).drew.mono hba.size)
    have hy2:wr.heap.size < W2.drew.heap.size:=hzg
    clear hT2 hba
    go_region_held3 (fun w'=>∀ j,w'.cell? ⟨wr.heap.size,j,none⟩=(#[.string b.ls[k].tm,.string b.ls[k].rs,.int .i64 b.ls[k].mo,.int .i64 b.ls[k].fr]:Array Value)[j]?) (exact fun j=>by rw [hS2]) (first
     | (go_at_call 156;refine (zbq b.ls[k] _).mono ?_;rintro e w5 ⟨rfl,hb5⟩;have hS2:=za hS2 hy2 hb5;have hb:=hb.trans (hb5.mono hb.size);have hf5:=HM2.out.1.mono hb;have hlk:=hf5.look zcr Tryz.underlying219 b.ls[k].tm b.ls[k].rs hsm.tm hsm.rs false;rw [HM2.out.2.2] at hlk;unfold q8 at hlk ⊢;simp only [Option.getD_some,Bool.false_eq_true,if_false] at hlk;clear hb5))
    go_wp2_with fail
    go_ret
    have h9:=HM2.out.2.1.trans (hb.mono HM2.out.2.1.size)
    exact ⟨ze HN.out.symm,HB1.out.trans (h9.mono HB1.out.size)⟩
  ·have e:k=b.ls.length:=by omega
   subst e
   have HE:Hid (Gate.zct l b=true):=by have:=HQ.out.1;rw [List.take_of_length_le (Nat.le_refl _)] at this;unfold Hid;rw [HG.out];exact this
   have HB:Hid (Below w1.heap.size w1 wr):=HQ.out.2
   clear HQ hlt hk
   go_wp2_with fail
   go_ret
   exact ⟨ze HE.out.symm,HB1.out.trans (HB.out.mono HB1.out.size)⟩
namespace Gate
theorem zew {α:Type} {key:α->α->Int} {ms:List α} {k:Nat} (h:jC key ms k) (hk:k < ms.length) (hn:∀ m (e:k=m+1),key (ms[m]'(by omega)) ms[k] < 0):jC key ms (k+1):=by
 intro i hi hik
 rcases Nat.lt_or_ge (i+1) k with hlt | hge
 ·exact h i hi hlt
 ·have e:k=i+1:=by omega
  subst e
  exact hn i rfl
theorem zfP {α:Type} {key:α->α->Int} {ms:List α} {k:Nat} (hk:k < ms.length) (h:∀ h0:0 < k,key (ms[k - 1]'(by omega)) ms[k] < 0):∀ m (e:k=m+1),key (ms[m]'(by omega)) ms[k] < 0:=by
 intro m e;subst e;exact h (by omega)
theorem zfB {α:Type} {key:α->α->Int} {ms:List α} {k:Nat} (h:jC key ms k) (hk:ms.length<=k):zaV key ms=true:=by
 rw [zlV];exact fun i hi=>h i hi (by omega)
theorem zdn {α:Type} {key:α->α->Int} {ms:List α} {k:Nat} (hk:k < ms.length) (h0:0 < k) (hn:¬ key (ms[k - 1]'(by omega)) ms[k] < 0):zaV key ms=false:=by
 obtain ⟨m,rfl⟩:∃ m,k=m+1:=⟨k - 1,by omega⟩
 exact zfz hk hn
theorem zh7 (a b:Gr):zbl a b < 0 ↔ a.no < b.no:=by
 unfold zbl zdr;split
 ·simp_all
 ·split <;> simp_all
end Gate
theorem sA {α:Type} (l:List α) (i:Nat) (x:α):l.toArray.setIfInBounds i x=(l.set i x).toArray:=List.setIfInBounds_toArray ..
theorem s0 {α:Type} (x y:α) (l:List α):(x :: l).set 0 y=y :: l:=rfl
theorem sS {α:Type} (x y:α) (l:List α) (n:Nat):(x :: l).set (n+1) y=x :: l.set n y:=rfl
section
variable {P:Program} {ops:Array Oper} {Q:Exit->Act->World->Prop} {md:Region.Mode} {S:World->Prop}
theorem tH (i:Nat) {oi:Oper} {v:Value} {fuel:Nat} {listed:Array Bool} {a a':Act} {w:World} (hi:nth ops.toList i=some oi) (hS:S w)
 (h:wpAnyH P md ops Q S fuel (listed.setIfInBounds i true) a' w) (hs:Region.noSelect ops=true:=by kernel_rfl) (hf:Region.free md ops listed i=true:=by kernel_rfl) (hr:(Region.ready md ops listed).contains i=true:=by kernel_rfl)
 (hw:Region.wanted oi (yielded ops a.tmps)=true:=by rfl)
 (hy:∀ w,S w->(execOp a.eval oi).run P w = .ok (.value v) w:=by (intro w hSw;(try dsimp only at hSw);go_simp;try with_reducible rfl))
 (ha:a.put oi.dst v=a':=by ((try simp only [Act.put,sA,s0,sS]);rfl))
 (hQ:∀ c a w,Q (.panic c) (a.put oi.dst v) w->Q (.panic c) a w:=by exact fun _ _ _ h=>h):wpAnyH P md ops Q S (fuel+1) listed a w :=
 zo3 hi hs hf hr hQ hw hS hy (ha ▸ h)
theorem kH (i:Nat) {oi:Oper} {fuel:Nat} {listed:Array Bool} {a a':Act} {w:World} (hi:nth ops.toList i=some oi) (hS:S w)
 (h:wpAnyH P md ops Q S fuel (listed.setIfInBounds i true) a' w) (hs:Region.noSelect ops=true:=by kernel_rfl) (hf:Region.free md ops listed i=true:=by kernel_rfl) (hr:(Region.ready md ops listed).contains i=true:=by kernel_rfl)
 (hw:Region.wanted oi (yielded ops a.tmps)=false:=by rfl)
 (ha:a.put oi.dst undef=a':=by ((try simp only [Act.put,sA,s0,sS]);rfl))
 (hQ:∀ c a w,Q (.panic c) (a.put oi.dst undef) w->Q (.panic c) a w:=by exact fun _ _ _ h=>h):wpAnyH P md ops Q S (fuel+1) listed a w :=
 zo2 hi hs hf hr hQ hw hS (ha ▸ h)
theorem cH (i:Nat) {oi:Oper} {fuel:Nat} {listed:Array Bool} {a:Act} {w:World} (hi:nth ops.toList i=some oi)
 (h:∀ K:Act->World->Prop,Shut (∀ a w,S w->(S w->wpAnyH P md ops Q S fuel (listed.setIfInBounds i true) a w)->K a w)->Oper.wp P oi a w K Q)
 (hr:Region.ready md ops listed=[i]:=by kernel_rfl) (hw:Region.wanted oi (yielded ops a.tmps)=true:=by rfl):wpAnyH P md ops Q S (fuel+1) listed a w :=
 zoX hi hr hw h
end
theorem Gate.zop (ts:List Tm):(!(ts.any fun t=>!Gate.zdq ts t))=Gate.up (Gate.zeV ts) ts.length:=by
 rw [Bool.eq_iff_iff,Gate.zch]
 simp only [Bool.not_eq_true',List.any_eq_false]
 constructor
 ·intro h i hi
  have:=h ts[i] (List.getElem_mem hi)
  unfold Gate.zeV
  rw [Gate.getD_at ts i _ hi]
  simpa using this
 ·intro h x hx
  obtain ⟨k,hk,rfl⟩:=List.mem_iff_getElem.1 hx
  have:=h k hk
  unfold Gate.zeV at this
  rw [Gate.getD_at ts k _ hk] at this
  simp [this]
theorem Gate.zcd (ts:List Tm) (k:Nat) (h:k < ts.length) (b:Bool) (hb:(decide (k=0) || Gate.less (ts.getD (k - 1) Gate.za4).nm ts[k].nm)=b) :
 Gate.qD ts k=(Gate.zx ts[k].nm && b && (ts[k].ov.toList.isEmpty || Gate.yC ts ts[k].ov)):=by
 unfold Gate.qD;rw [Gate.getD_at ts k _ h,hb]
theorem zhg (a:Option Addr) (cap:Nat) (ts:List Tm) (w:World) (hw:qJ w a ts) :
 Calls Tryz.prog 99 #[.slice a ts.length cap] w fun e w'=>e = .returned (.bool (Gate.zbh ts))/\Below w.heap.size w w':=by
 have hl:=hw.len
 unfold maxLen at hl
 by_cases h12:ts.length<=12
 rotate_left
 ·have HF:Hid (Gate.zbh ts=false):=by simp [Hid,Gate.zbh,h12]
  clear hw
  go_enter Tryz.func99,Tryz.ntmps99
  go_wp2_with fail
  go_ret
  exact ⟨ze HF.out.symm,(Below.refl _ _).alloc (Nat.le_refl _) _⟩
 have HG:Hid (Gate.zbh ts=(Gate.up (Gate.qD ts) ts.length && Gate.up (Gate.zeV ts) ts.length)):=by simp [Hid,Gate.zbh,h12]
 have h12I:(ts.length:Int)<=12:=by omega
 go_enter Tryz.func99,Tryz.ntmps99
 go_wp2_with fail
 have hB00:Below w.heap.size w (w.alloc (.cells #[.slice a ts.length cap] 41)):=(Below.refl _ _).alloc (Nat.le_refl _) _
 have hX00:=zl w #[.slice a ts.length cap] 41
 have hz00:w.heap.size < (w.alloc (.cells #[.slice a ts.length cap] 41)).heap.size:=by simp
 obtain ⟨w0,hw0⟩:∃ w0,w0=w.alloc (.cells #[.slice a ts.length cap] 41):=⟨_,rfl⟩
 rw [<- hw0] at hB00 hX00 hz00 ⊢
 have HW0:Hid (qJ w0 a ts):=hw.mono hB00
 have HB00:Hid (Below w.heap.size w w0):=hB00
 clear hw0 hw hB00
 go_loopw [10] (fun i wr=>∃ k:Nat,k<=ts.length/\i = .int .i64 k/\Gate.up (Gate.qD ts) k=true/\Below w0.heap.size w0 wr) (fun i _=>ts.length - (intOf i).toNat)
 case atStart=>exact ⟨0,Nat.zero_le _,rfl,rfl,Below.refl _ _⟩
 case round =>
  obtain ⟨k,hk,rfl,hup,hB⟩:=hrel
  have hsz:=hB.size
  have hX:=za hX00 hz00 hB
  have hX0:wr.cell? ⟨w.heap.size,0,none⟩=some (.slice a ts.length cap):=hX 0
  have hzr:w.heap.size < wr.heap.size:=by omega
  have HBr:Hid (Below w.heap.size w wr):=HB00.out.trans (hB.mono (by omega))
  clear hX hX00
  by_cases hlt:k < ts.length
  ·obtain ⟨b,off,rfl,hb,c0,c1⟩:=HW0.out.load hB k hlt
   have hbr:b < wr.heap.size:=by omega
   have hsm:=HW0.out.small k hlt
   have hsn:=hsm.nm
   have HS:Hid (Gate.qD ts k=true->Gate.up (Gate.qD ts) (k+1)=true):=fun h=>by rw [Gate.jc,hup,h];rfl
   have HN:Hid (Gate.qD ts k=false->Gate.zbh ts=false):=fun h=>by rw [HG.out,Gate.zaw hlt h];rfl
   have hltI:(k:Int) < (ts.length:Int):=by omega
   have HB:Hid (Below w0.heap.size w0 wr):=hB
   clear hup hsm hB
   by_cases hn:Gate.zx ts[k].nm=true
   rotate_left
   ·have HNm:Hid (Gate.zx ts[k].nm=false):=by simpa [Hid] using hn
    have HF:Hid (Gate.qD ts k=false):=by unfold Hid;rw [Gate.zcd ts k hlt _ rfl,HNm.out];rfl
    clear hn
    go_wp2_with fail
    go_quiet ((go_at_call 134;exact Calls.quiet_of_same (zf HNm.out (zG _ _ hsn))))
    go_wp2_with fail
    go_ret
    exact ⟨ze (HN.out HF.out).symm,below_drewN (HBr.out.alloc (by omega) _) _⟩
   have HNm:Hid (Gate.zx ts[k].nm=true):=hn
   clear hn
   by_cases hbad:0 < k/\Gate.less (ts.getD (k - 1) Gate.za4).nm ts[k].nm=false
   ·obtain ⟨hkpos,hls⟩:=hbad
    have HF:Hid (Gate.qD ts k=false):=by
     unfold Hid;rw [Gate.zcd ts k hlt false (by rw [hls,decide_eq_false (show ¬ k=0 by omega)];rfl)];simp
    obtain ⟨m,rfl⟩:∃ m,k=m+1:=⟨k - 1,by omega⟩
    rw [Nat.add_sub_cancel,Gate.getD_at ts m _ (by omega)] at hls
    obtain ⟨b',off',e',hb',d0,d1⟩:=HW0.out.load HB.out m (by omega)
    simp only [Option.some.injEq,Addr.mk.injEq] at e'
    obtain ⟨rfl,rfl,_⟩:=e'
    have hls':Op.bytesLess ts[m].nm.toList ts[m+1].nm.toList=false:=hls
    have hmI:(m:Int) < 12:=by omega
    have hm0:(0:Int)<=(m:Int):=by omega
    have hml:(m:Int) < (ts.length:Int):=by omega
    have hmw:IntKind.i64.wrap (m:Int)=m:=by rw [IntKind.wrap_i64];omega
    clear hls
    go_wp2_with fail
    go_quiet ((go_at_call 134;exact Calls.quiet_of_same (zf HNm.out (zG _ _ hsn))))
    go_wp2_with fail
    go_ret
    exact ⟨ze (HN.out HF.out).symm,below_drewN (HBr.out.alloc (by omega) _) _⟩
   have hgd:(decide (k=0) || Gate.less (ts.getD (k - 1) Gate.za4).nm ts[k].nm)=true:=by
    by_cases hk0:k=0
    ·simp [hk0]
    ·cases hq:Gate.less (ts.getD (k - 1) Gate.za4).nm ts[k].nm
     ·exact absurd ⟨by omega,hq⟩ hbad
     ·simp
   have HA:Hid (Gate.qD ts k=(ts[k].ov.toList.isEmpty || Gate.yC ts ts[k].ov)):=by
    unfold Hid;rw [Gate.zcd ts k hlt true hgd,HNm.out];rfl
   have hgood:(decide (0 < k)=false) \/ (decide (0 < k)=true/\∃ m,k=m+1/\∃ h:m < ts.length,Op.bytesLess ts[m].nm.toList ts[k].nm.toList=true/\wr.cell? ⟨b,off+m * 2,none⟩=some (.string ts[m].nm)):=by
    by_cases hk0:k=0
    ·exact Or.inl (by simp;omega)
    ·refine Or.inr ⟨by simp;omega,k - 1,by omega,by omega,?_,?_⟩
     ·rw [decide_eq_false hk0,Gate.getD_at ts (k - 1) _ (by omega)] at hgd
      exact hgd
     ·obtain ⟨b',off',e',hb',d0,d1⟩:=HW0.out.load HB.out (k - 1) (by omega)
      simp only [Option.some.injEq,Addr.mk.injEq] at e'
      obtain ⟨rfl,rfl,_⟩:=e'
      exact d0
   clear hbad hgd
   have HBx:Hid (∀ (ob:Obj) (n:Nat),Below wr.heap.size wr ((wr.alloc ob).drewN n)):=fun ob n=>below_drewN ((Below.refl _ _).alloc (Nat.le_refl _) _) _
   by_cases hov:ts[k].ov.toList.isEmpty=true
   ·have HT:Hid (Gate.qD ts k=true):=by unfold Hid;rw [HA.out,hov];rfl
    rcases hgood with hg | ⟨hg,m,rfl,hm,hls',d0⟩
    ·go_wp2_with fail
     go_quiet ((go_at_call 134;exact Calls.quiet_of_same (zf HNm.out (zG _ _ hsn))))
     go_wp2_with fail
     exact ⟨⟨k+1,by omega,by go_num,HS.out HT.out,HB.out.trans ((HBx.out _ _).mono hsz)⟩,by simp [intOf];omega⟩
    ·have hmI:(m:Int) < 12:=by omega
     have hm0:(0:Int)<=(m:Int):=by omega
     have hml:(m:Int) < (ts.length:Int):=by omega
     have hmw:IntKind.i64.wrap (m:Int)=m:=by rw [IntKind.wrap_i64];omega
     go_wp2_with fail
     go_quiet ((go_at_call 134;exact Calls.quiet_of_same (zf HNm.out (zG _ _ hsn))))
     go_wp2_with fail
     exact ⟨⟨m+1+1,by omega,by go_num,HS.out HT.out,HB.out.trans ((HBx.out _ _).mono hsz)⟩,by simp [intOf];omega⟩
   ·have hov':ts[k].ov.toList.isEmpty=false:=by simpa using hov
    clear hov
    by_cases hit:Gate.yC ts ts[k].ov=true
    ·have HI:Hid (Gate.yC ts ts[k].ov=true):=hit
     have HT:Hid (Gate.qD ts k=true):=by unfold Hid;rw [HA.out,hit];simp
     clear hit
     rcases hgood with hg | ⟨hg,m,rfl,hm,hls',d0⟩
     ·go_wp2_with fail
      go_quiet ((go_at_call 134;exact Calls.quiet_of_same (zf HNm.out (zG _ _ hsn))))
      go_wp2_with fail
      refine (zf HI.out (zbv _ _ ts _ _ ((HW0.out.mono HB.out).mono (HBx.out _ _)))).mono ?_
      rintro e w3 ⟨rfl,hb3⟩
      have hB3:Below w0.heap.size w0 w3:=(HB.out.trans ((HBx.out _ _).mono hsz)).trans (hb3.mono (by simp;omega))
      clear hb3
      go_wp2_with fail
      exact ⟨⟨k+1,by omega,by go_num,HS.out HT.out,hB3⟩,by simp [intOf];omega⟩
     ·have hmI:(m:Int) < 12:=by omega
      have hm0:(0:Int)<=(m:Int):=by omega
      have hml:(m:Int) < (ts.length:Int):=by omega
      have hmw:IntKind.i64.wrap (m:Int)=m:=by rw [IntKind.wrap_i64];omega
      go_wp2_with fail
      go_quiet ((go_at_call 134;exact Calls.quiet_of_same (zf HNm.out (zG _ _ hsn))))
      go_wp2_with fail
      refine (zf HI.out (zbv _ _ ts _ _ ((HW0.out.mono HB.out).mono (HBx.out _ _)))).mono ?_
      rintro e w3 ⟨rfl,hb3⟩
      have hB3:Below w0.heap.size w0 w3:=(HB.out.trans ((HBx.out _ _).mono hsz)).trans (hb3.mono (by simp;omega))
      clear hb3
      go_wp2_with fail
      exact ⟨⟨m+1+1,by omega,by go_num,HS.out HT.out,hB3⟩,by simp [intOf];omega⟩
    ·have HI:Hid (Gate.yC ts ts[k].ov=false):=by simpa [Hid] using hit
     have HF:Hid (Gate.qD ts k=false):=by unfold Hid;rw [HA.out,HI.out,hov'];rfl
     clear hit
     rcases hgood with hg | ⟨hg,m,rfl,hm,hls',d0⟩
     ·go_wp2_with fail
      go_quiet ((go_at_call 134;exact Calls.quiet_of_same (zf HNm.out (zG _ _ hsn))))
      go_wp2_with fail
      refine (zf HI.out (zbv _ _ ts _ _ ((HW0.out.mono HB.out).mono (HBx.out _ _)))).mono ?_
      rintro e w3 ⟨rfl,hb3⟩
      have hB3:Below w.heap.size w w3:=(HBr.out.trans ((HBx.out _ _).mono (by omega))).trans (hb3.mono (by simp;omega))
      clear hb3
      go_wp2_with fail
      go_ret
      exact ⟨ze (HN.out HF.out).symm,hB3⟩
     ·have hmI:(m:Int) < 12:=by omega
      have hm0:(0:Int)<=(m:Int):=by omega
      have hml:(m:Int) < (ts.length:Int):=by omega
      have hmw:IntKind.i64.wrap (m:Int)=m:=by rw [IntKind.wrap_i64];omega
      go_wp2_with fail
      go_quiet ((go_at_call 134;exact Calls.quiet_of_same (zf HNm.out (zG _ _ hsn))))
      go_wp2_with fail
      refine (zf HI.out (zbv _ _ ts _ _ ((HW0.out.mono HB.out).mono (HBx.out _ _)))).mono ?_
      rintro e w3 ⟨rfl,hb3⟩
      have hB3:Below w.heap.size w w3:=(HBr.out.trans ((HBx.out _ _).mono (by omega))).trans (hb3.mono (by simp;omega))
      clear hb3
      go_wp2_with fail
      go_ret
      exact ⟨ze (HN.out HF.out).symm,hB3⟩
  ·have HF:Hid (Gate.zbh ts=!(ts.any fun t=>!Gate.zdq ts t)):=by
    have e:k=ts.length:=by omega
    subst e;rw [Hid,HG.out,hup,Gate.zop];rfl
   have HWr:Hid (qJ wr a ts):=HW0.out.mono hB
   clear hup hB
   go_wp2_with fail
   refine (zfp _ _ ts _ _ _ HWr.out (znT _ _ ts _ _ HWr.out hzr hX0)).mono ?_
   rintro e w3 ⟨rfl,hb3⟩
   have hB3:Below w.heap.size w w3:=HBr.out.trans (hb3.mono (by omega))
   clear hb3
   go_wp2_with fail
   go_ret
   exact ⟨ze HF.out.symm,hB3⟩
end Go.Proofs.YtaickbhifenbjaaGreat
