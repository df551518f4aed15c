import Derived.Test.YtecncindgjdbiaaGreatM12
import Derived.Test.YtecncindgjdbiaaGreatM13
set_option maxHeartbeats 2000000
namespace Go.Proofs.YtecncindgjdbiaaGreat
open Go.RowKit
structure Lw where
 ss:List Shp
 ms:List Mnd
 ts:List Tm
def Lw.cells (l:Lw)(a b c:OA)(ca cb cc:Nat):AV:=#[.l a l.ss.length ca,.l b l.ms.length cb,.l c l.ts.length cc]
structure jr (w:World)(l:Lw)(a b c:OA):Prop where
 ss:yR w a l.ss
 ms:qL w b l.ms
 ts:jQ w c l.ts
theorem jr.mono {w w':World}{l:Lw}{a b c:OA}(h:jr w l a b c)(hb:Bw w w'):jr w' l a b c:=⟨h.ss.mono hb,h.ms.mono hb,h.ts.mono hb⟩
def Lw.sz (l:Lw):Nat:=zaR l.ss+zbg l.ms+zdc l.ts
structure Lw.Few (l:Lw):Prop where
 ss:l.ss.length<=1048576/\∀i (h:i<l.ss.length),l.ss[i].fs.length<=1048576/\∀j (h':j<l.ss[i].fs.length),l.ss[i].fs[j].ws.length<=1048576
 ms:l.ms.length<=1048576
 ts:l.ts.length<=1048576
theorem Lw.few {l:Lw}(h:(l.sz:Int)<=1048576):l.Few:=by
 unfold Lw.sz at h;refine⟨zqk (by omega),?_,?_⟩
 ·unfold zbg at h;omega
 ·unfold zdc at h;omega
theorem zkG (l:Lw)(a b c:OA)(ca cb cc:Nat)(left:Int)(w:World)(hl:jr w l a b c)(h0:0<=left)(h1:left<=1048576) :
 Calls Tryz.prog 4 #[.agg (l.cells a b c ca cb cc),.i left] w fun e w'=>e=.returned (.i (zL l.sz left))/\Bw w w':=by
 have HL:Hid (jr w l a b c):=hl;clear hl;unfold Lw.cells;go_enter Tryz.func4,Tryz.ntmps4;go_wp2_with fail
 refine(zhn _ _ l.ss _ _ (HL.o.ss.mono (bAl _ _)) h0 h1).mono ?_;rintro e w1⟨rfl,hb⟩;have hX1:=za (zl w #[.l a l.ss.length ca,.l b l.ms.length cb,.l c l.ts.length cc] 26) (by simp) hb;have hz1:w.heap.size<w1.heap.size:=by have:=hb.size;simp at this;omega
 have hB1:Bw w w1:=(bAl _ _).trans (hb.mono (by simp));clear hb
 by_cases c1:(zaR l.ss:Int)<=left
 rotate_left
 ·have HF:Hid (zL l.sz left=-1):=zC (by unfold Lw.sz;omega)
  rw[zC c1];go_wp2_with fail
  go_ret;exact⟨zo HF.o.symm,hB1⟩
 rw[zM c1];go_wp2_with fail
 refine(zin _ _ l.ms _ _ (HL.o.ms.mono hB1) (by omega) (by omega)).mono ?_;rintro e w2⟨rfl,hb⟩;have hX2:=za hX1 hz1 hb;have hz2:=nLt hz1 hb.size;have hB2:=hB1.trans (hb.mono hB1.size);clear hb hX1 hz1 hB1
 by_cases c2:(zbg l.ms:Int)<=left-zaR l.ss
 rotate_left
 ·have HF:Hid (zL l.sz left=-1):=zC (by unfold Lw.sz;omega)
  rw[zC c2];go_wp2_with fail
  go_ret;exact⟨zo HF.o.symm,hB2⟩
 rw[zM c2];go_wp2_with fail
 refine(zik _ _ l.ts _ _ (HL.o.ts.mono hB2) (by omega) (by omega)).mono ?_;rintro e w3⟨rfl,hb⟩;have hB3:=hB2.trans (hb.mono hB2.size);clear hb hX2 hz2 hB2
 by_cases c3:(zdc l.ts:Int)<=left-zaR l.ss-zbg l.ms
 rotate_left
 ·have HF:Hid (zL l.sz left=-1):=zC (by unfold Lw.sz;omega)
  rw[zC c3];go_wp2_with fail
  go_ret;exact⟨zo HF.o.symm,hB3⟩
 have HF:Hid (zL l.sz left=left-zaR l.ss-zbg l.ms-zdc l.ts):=by
  unfold Hid;rw[zM (by unfold Lw.sz;omega)];unfold Lw.sz;omega
 rw[zM c3];go_wp2_with fail
 go_ret;exact⟨zo HF.o.symm,hB3⟩
theorem zkz (l:Lw)(a b c a' b' c':OA)(ca cb cc ca' cb' cc':Nat)(w:World)(hl:jr w l a b c)(hl':jr w l a' b' c') :
 Calls Tryz.prog 11 #[.agg (l.cells a b c ca cb cc),.agg (l.cells a' b' c' ca' cb' cc')] w fun e w'=>e=.returned (.bool true)/\Bw w w':=by
 unfold Lw.cells;go_enter Tryz.func11,Tryz.ntmps11;go_wp2_with fail
 refine(zhx _ _ _ _ l.ss _ (hl.ss.mono (zw _ _ _)) (hl'.ss.mono (zw _ _ _))).mono ?_;rintro e w1⟨rfl,hb⟩;have hX1:=za (za (zl w _ _) (by simp) (bAl _ _)) (by simp;omega) hb;have hY1:=za (zl (w.alloc (.cells #[.l a l.ss.length ca,.l b l.ms.length cb,.l c l.ts.length cc] 47)) #[.l a' l.ss.length ca',.l b' l.ms.length cb',.l c' l.ts.length cc'] 47) (by simp) hb;have hz1:w.heap.size+1<w1.heap.size:=by have:=hb.size;simp at this;omega
 have hB1:=(zw w _ _).trans (hb.mono (by simp;omega));rw[World.size_alloc]at hY1;clear hb;go_wp2_with fail
 refine(ziS _ _ _ _ l.ms _ (hl.ms.mono hB1) (hl'.ms.mono hB1)).mono ?_;rintro e w2⟨rfl,hb⟩;have hX2:=za hX1 (nSl hz1) hb;have hY2:=za hY1 hz1 hb;have hz2:=nLt hz1 hb.size;have hB2:=hB1.trans (hb.mono hB1.size);clear hb hX1 hY1 hz1 hB1;go_wp2_with fail
 refine(ziG _ _ _ _ l.ts _ (hl.ts.mono hB2) (hl'.ts.mono hB2)).mono ?_;rintro e w3⟨rfl,hb⟩;have hB3:=hB2.trans (hb.mono hB2.size);clear hb hX2 hY2 hz2 hB2;go_wp2_with fail
 go_ret;exact⟨rfl,hB3⟩
theorem below3' (w:World)(o o' o'':Obj):Bw w (((w.alloc o).alloc o').alloc o''):=((bAl _ _).alloc (by simp) _).alloc (by simp;omega) _
theorem zmR (w:World)(o1 o2 o3:Obj):(((w.alloc o1).alloc o2).alloc o3).heap[w.heap.size]?=some o1/\(((w.alloc o1).alloc o2).alloc o3).heap[w.heap.size+1]?=some o2/\(((w.alloc o1).alloc o2).alloc o3).heap[w.heap.size+1+1]?=some o3:=by
 have h1:=(MapKept.heap_alloc w o1).1;have h2:=(MapKept.heap_alloc (w.alloc o1) o2).1;have h3:=(MapKept.heap_alloc ((w.alloc o1).alloc o2) o3).1;simp only[World.size_alloc]at h2 h3;exact⟨(Below.heap_alloc _ _ _ (by simp;omega)).trans ((Below.heap_alloc _ _ _ (by simp)).trans h1),(Below.heap_alloc _ _ _ (by simp)).trans h2,h3⟩
structure yL (lo:Nat)(w w':World):Prop where
 size:w.heap.size<=w'.heap.size
 same:∀b,lo<=b->b<w.heap.size->w'.heap[b]?=w.heap[b]?
theorem yL.trans {lo:Nat}{w w1 w2:World}(h:yL lo w w1)(h':yL lo w1 w2):yL lo w w2:=
 ⟨Nat.le_trans h.size h'.size,fun b h1 h2=>(h'.same b h1 (nLt h2 h.size)).trans (h.same b h1 h2)⟩
theorem yL.mono {lo lo':Nat}{w w':World}(h:yL lo w w')(hl:lo<=lo'):yL lo' w w':=⟨h.size,fun b h1 h2=>h.same b (Nat.le_trans hl h1) h2⟩
theorem yL.below {lo:Nat}{w w':World}(h:Bw w w'):yL lo w w':=⟨h.size,fun b _ h2=>h.block b h2⟩
theorem yL.setCell {lo:Nat}{w:World}{p:Addr}(hp:p.block<lo)(v:Value):yL lo w (w.setCell p v):=
 ⟨by rw[World.size_setCell];exact Nat.le_refl _,fun b h1 _=>Below.heap_setCell _ _ _ _ (by omega)⟩
theorem qF.above {lo:Nat}{w w':World}{bf:Nat}{fs:List Fld}{k:Nat}(h:qF lo w bf fs k)(ha:yL lo w w'):qF lo w' bf fs k:=by
 obtain⟨C,hC,hsz,hr⟩:=h.rows;refine⟨h.low,C,(ha.same _ h.low (gES hC).1).trans hC,hsz,fun i hi hk=>?_⟩;obtain⟨bk,h1,h2,h3,h4⟩:=hr i hi hk;exact⟨bk,h1,h2,(ha.same _ h1 (gES h3).1).trans h3,h4⟩
theorem jO.above {lo:Nat}{w w':World}{bo:Nat}{ss:List Shp}{k:Nat}(h:jO lo w bo ss k)(ha:yL lo w w'):jO lo w' bo ss k:=by
 obtain⟨C,hC,hsz,hr⟩:=h.rows;refine⟨h.low,C,(ha.same _ h.low (gES hC).1).trans hC,hsz,fun i hi hk=>?_⟩;obtain⟨bf,h1,h2,h3,h4⟩:=hr i hi hk;exact⟨bf,h1,h2,h3.above (ha.mono (Nat.le_succ_of_le h.low)),h4⟩
theorem je.above {lo:Nat}{w w':World}{bo:Nat}{ms:List Mnd}{k:Nat}(h:je lo w bo ms k)(ha:yL lo w w'):je lo w' bo ms k:=by
 obtain⟨C,hC,hr⟩:=h.rows;exact⟨h.low,C,(ha.same _ h.low (gES hC).1).trans hC,hr⟩
theorem zae.above {ty:TypeId}{lo:Nat}{w w':World}{bo:Nat}{ts:List Tm}{k:Nat}(h:zae ty lo w bo ts k)(ha:yL lo w w'):zae ty lo w' bo ts k:=by
 obtain⟨C,hC,hr⟩:=h.rows;exact⟨h.low,C,(ha.same _ h.low (gES hC).1).trans hC,hr⟩
structure zmZ (lo:Nat)(w:World)(l:Lw)(a b c:Nat):Prop where
 ss:jO lo w a l.ss l.ss.length
 ms:je lo w b l.ms l.ms.length
 ts:zae 138 lo w c l.ts l.ts.length
structure Lw.Small (l:Lw):Prop where
 ss:zdF l.ss
 ls:l.ss.length<=maxLen
 ms:∀i (h:i<l.ms.length),l.ms[i].Small
 lm:l.ms.length<=maxLen
 ts:∀i (h:i<l.ts.length),l.ts[i].Small
 lt:l.ts.length<=maxLen
theorem jr.small {w:World}{l:Lw}{a b c:OA}(h:jr w l a b c):l.Small:=⟨h.ss.smalls,h.ss.len,h.ms.small,h.ms.len,h.ts.small,h.ts.len⟩
theorem zmZ.at {lo:Nat}{w:World}{l:Lw}{a b c:Nat}(h:zmZ lo w l a b c)(hs:l.Small):jr w l (some (aD a 0)) (some (aD b 0)) (some (aD c 0)):=⟨h.ss.at hs.ss hs.ls,h.ms.at hs.ms hs.lm,h.ts.at hs.ts hs.lt⟩
theorem zdJ (s:BA):s.toList.isEmpty=true \/ (s.toList.isEmpty=false/\Hid (zy s=true)) \/ (s.toList.isEmpty=false/\Hid (zy s=false)):=by
 by_cases h:s.toList.isEmpty=true
 ·exact Or.inl h
 ·by_cases h2:zy s=true
  ·exact Or.inr (Or.inl ⟨by simpa using h,h2⟩)
  ·exact Or.inr (Or.inr ⟨by simpa using h,by simpa[Hid] using h2⟩)
theorem zoS (r:Rl)(a:OA)(cap:Nat)(w:World)(hm:r.Small)(hw:y9 w a r.vs) :
 Calls Tryz.prog 174 #[.agg (r.cells a cap)] w fun e w'=>e=.returned (.bool (zQ r))/\Bw w w':=by
 have hskd:=hm.kd;have hstm:=hm.tm;have hspx:=hm.px;have hpx:=hm.px;unfold maxLen at hpx;unfold Rl.cells;have HB:Hid (∀ob,Bw w (w.alloc ob)):=fun ob=>bAl _ _
 have HI:Hid (∀ob,y9 (w.alloc ob) a r.vs):=fun ob=>hw.mono (HB.o ob)
 clear hw hm
 rcases zdJ r.kd with hk|⟨hk,HK⟩|⟨hk,HK⟩
 ·rcases zdJ r.tm with ht|⟨ht,HT⟩|⟨ht,HT⟩
  ·have HKD:Hid (qK r=true):=by unfold Hid qK;rw[hk,ht];simp
   by_cases hv:jh r.vs=true
   rotate_left
   ·have HV:Hid (jh r.vs=false):=by simpa[Hid] using hv
    have HF:Hid (zQ r=false):=by unfold Hid zQ;rw[HV.o];simp
    clear hv;go_enter Tryz.func174,Tryz.ntmps174
    go_wp2_with (first|(go_at_call 212;refine(zf HV.o (qG _ _ r.vs _ (by exact HI.o _))).mono ?_;rintro e w'⟨rfl,rfl⟩))
    go_ret;exact⟨ze HF.o.symm,HB.o _⟩
   have HV:Hid (jh r.vs=true):=hv;clear hv
   by_cases h16:r.px.size<=16
   ·have HF:Hid (zQ r=yV r.px):=by unfold Hid zQ;rw[HKD.o,HV.o,decide_eq_true h16];rfl
    have h16I:(r.px.size:Int)<=16:=by omega
    clear h16;go_enter Tryz.func174,Tryz.ntmps174
    go_wp2_with (first|(go_at_call 212;refine(zf HV.o (qG _ _ r.vs _ (by exact HI.o _))).mono ?_;rintro e w'⟨rfl,rfl⟩)|(go_at_call 202;refine(jU r.px _ hspx).mono ?_;rintro e w'⟨rfl,rfl⟩))
    go_ret;exact⟨ze HF.o.symm,HB.o _⟩
   ·have HF:Hid (zQ r=false):=by unfold Hid zQ;rw[decide_eq_false h16];simp
    have h16I:decide ((r.px.size:Int)<=16)=false:=by simp;omega
    clear h16;go_enter Tryz.func174,Tryz.ntmps174
    go_wp2_with (first|(go_at_call 212;refine(zf HV.o (qG _ _ r.vs _ (by exact HI.o _))).mono ?_;rintro e w'⟨rfl,rfl⟩))
    go_ret;exact⟨ze HF.o.symm,HB.o _⟩
  ·have HKD:Hid (qK r=true):=by unfold Hid qK;rw[hk,HT.o];simp
   by_cases hv:jh r.vs=true
   rotate_left
   ·have HV:Hid (jh r.vs=false):=by simpa[Hid] using hv
    have HF:Hid (zQ r=false):=by unfold Hid zQ;rw[HV.o];simp
    clear hv;go_enter Tryz.func174,Tryz.ntmps174
    go_wp2_with (first|(go_at_call_of 161 (Value.s r.tm);refine(zf HT.o (zH r.tm _ hstm)).mono ?_;rintro e w'⟨rfl,rfl⟩)|(go_at_call 212;refine(zf HV.o (qG _ _ r.vs _ (by exact HI.o _))).mono ?_;rintro e w'⟨rfl,rfl⟩))
    go_ret;exact⟨ze HF.o.symm,HB.o _⟩
   have HV:Hid (jh r.vs=true):=hv;clear hv
   by_cases h16:r.px.size<=16
   ·have HF:Hid (zQ r=yV r.px):=by unfold Hid zQ;rw[HKD.o,HV.o,decide_eq_true h16];rfl
    have h16I:(r.px.size:Int)<=16:=by omega
    clear h16;go_enter Tryz.func174,Tryz.ntmps174
    go_wp2_with (first|(go_at_call_of 161 (Value.s r.tm);refine(zf HT.o (zH r.tm _ hstm)).mono ?_;rintro e w'⟨rfl,rfl⟩)|(go_at_call 212;refine(zf HV.o (qG _ _ r.vs _ (by exact HI.o _))).mono ?_;rintro e w'⟨rfl,rfl⟩)|(go_at_call 202;refine(jU r.px _ hspx).mono ?_;rintro e w'⟨rfl,rfl⟩))
    go_ret;exact⟨ze HF.o.symm,HB.o _⟩
   ·have HF:Hid (zQ r=false):=by unfold Hid zQ;rw[decide_eq_false h16];simp
    have h16I:decide ((r.px.size:Int)<=16)=false:=by simp;omega
    clear h16;go_enter Tryz.func174,Tryz.ntmps174
    go_wp2_with (first|(go_at_call_of 161 (Value.s r.tm);refine(zf HT.o (zH r.tm _ hstm)).mono ?_;rintro e w'⟨rfl,rfl⟩)|(go_at_call 212;refine(zf HV.o (qG _ _ r.vs _ (by exact HI.o _))).mono ?_;rintro e w'⟨rfl,rfl⟩))
    go_ret;exact⟨ze HF.o.symm,HB.o _⟩
  ·have HF:Hid (zQ r=false):=by unfold Hid zQ qK;rw[ht,HT.o];simp
   go_enter Tryz.func174,Tryz.ntmps174
   go_wp2_with (first|(go_at_call_of 161 (Value.s r.tm);refine(zf HT.o (zH r.tm _ hstm)).mono ?_;rintro e w'⟨rfl,rfl⟩))
   go_ret;exact⟨ze HF.o.symm,HB.o _⟩
 ·rcases zdJ r.tm with ht|⟨ht,HT⟩|⟨ht,HT⟩
  ·have HKD:Hid (qK r=true):=by unfold Hid qK;rw[HK.o,ht];simp
   by_cases hv:jh r.vs=true
   rotate_left
   ·have HV:Hid (jh r.vs=false):=by simpa[Hid] using hv
    have HF:Hid (zQ r=false):=by unfold Hid zQ;rw[HV.o];simp
    clear hv;go_enter Tryz.func174,Tryz.ntmps174
    go_wp2_with (first|(go_at_call_of 161 (Value.s r.kd);refine(zf HK.o (zH r.kd _ hskd)).mono ?_;rintro e w'⟨rfl,rfl⟩)|(go_at_call 212;refine(zf HV.o (qG _ _ r.vs _ (by exact HI.o _))).mono ?_;rintro e w'⟨rfl,rfl⟩))
    go_ret;exact⟨ze HF.o.symm,HB.o _⟩
   have HV:Hid (jh r.vs=true):=hv;clear hv
   by_cases h16:r.px.size<=16
   ·have HF:Hid (zQ r=yV r.px):=by unfold Hid zQ;rw[HKD.o,HV.o,decide_eq_true h16];rfl
    have h16I:(r.px.size:Int)<=16:=by omega
    clear h16;go_enter Tryz.func174,Tryz.ntmps174
    go_wp2_with (first|(go_at_call_of 161 (Value.s r.kd);refine(zf HK.o (zH r.kd _ hskd)).mono ?_;rintro e w'⟨rfl,rfl⟩)|(go_at_call 212;refine(zf HV.o (qG _ _ r.vs _ (by exact HI.o _))).mono ?_;rintro e w'⟨rfl,rfl⟩)|(go_at_call 202;refine(jU r.px _ hspx).mono ?_;rintro e w'⟨rfl,rfl⟩))
    go_ret;exact⟨ze HF.o.symm,HB.o _⟩
   ·have HF:Hid (zQ r=false):=by unfold Hid zQ;rw[decide_eq_false h16];simp
    have h16I:decide ((r.px.size:Int)<=16)=false:=by simp;omega
    clear h16;go_enter Tryz.func174,Tryz.ntmps174
    go_wp2_with (first|(go_at_call_of 161 (Value.s r.kd);refine(zf HK.o (zH r.kd _ hskd)).mono ?_;rintro e w'⟨rfl,rfl⟩)|(go_at_call 212;refine(zf HV.o (qG _ _ r.vs _ (by exact HI.o _))).mono ?_;rintro e w'⟨rfl,rfl⟩))
    go_ret;exact⟨ze HF.o.symm,HB.o _⟩
  ·have HKD:Hid (qK r=true):=by unfold Hid qK;rw[HK.o,HT.o];simp
   by_cases hv:jh r.vs=true
   rotate_left
   ·have HV:Hid (jh r.vs=false):=by simpa[Hid] using hv
    have HF:Hid (zQ r=false):=by unfold Hid zQ;rw[HV.o];simp
    clear hv;go_enter Tryz.func174,Tryz.ntmps174
    go_wp2_with (first|(go_at_call_of 161 (Value.s r.kd);refine(zf HK.o (zH r.kd _ hskd)).mono ?_;rintro e w'⟨rfl,rfl⟩)|(go_at_call_of 161 (Value.s r.tm);refine(zf HT.o (zH r.tm _ hstm)).mono ?_;rintro e w'⟨rfl,rfl⟩)|(go_at_call 212;refine(zf HV.o (qG _ _ r.vs _ (by exact HI.o _))).mono ?_;rintro e w'⟨rfl,rfl⟩))
    go_ret;exact⟨ze HF.o.symm,HB.o _⟩
   have HV:Hid (jh r.vs=true):=hv;clear hv
   by_cases h16:r.px.size<=16
   ·have HF:Hid (zQ r=yV r.px):=by unfold Hid zQ;rw[HKD.o,HV.o,decide_eq_true h16];rfl
    have h16I:(r.px.size:Int)<=16:=by omega
    clear h16;go_enter Tryz.func174,Tryz.ntmps174
    go_wp2_with (first|(go_at_call_of 161 (Value.s r.kd);refine(zf HK.o (zH r.kd _ hskd)).mono ?_;rintro e w'⟨rfl,rfl⟩)|(go_at_call_of 161 (Value.s r.tm);refine(zf HT.o (zH r.tm _ hstm)).mono ?_;rintro e w'⟨rfl,rfl⟩)|(go_at_call 212;refine(zf HV.o (qG _ _ r.vs _ (by exact HI.o _))).mono ?_;rintro e w'⟨rfl,rfl⟩)|(go_at_call 202;refine(jU r.px _ hspx).mono ?_;rintro e w'⟨rfl,rfl⟩))
    go_ret;exact⟨ze HF.o.symm,HB.o _⟩
   ·have HF:Hid (zQ r=false):=by unfold Hid zQ;rw[decide_eq_false h16];simp
    have h16I:decide ((r.px.size:Int)<=16)=false:=by simp;omega
    clear h16;go_enter Tryz.func174,Tryz.ntmps174
    go_wp2_with (first|(go_at_call_of 161 (Value.s r.kd);refine(zf HK.o (zH r.kd _ hskd)).mono ?_;rintro e w'⟨rfl,rfl⟩)|(go_at_call_of 161 (Value.s r.tm);refine(zf HT.o (zH r.tm _ hstm)).mono ?_;rintro e w'⟨rfl,rfl⟩)|(go_at_call 212;refine(zf HV.o (qG _ _ r.vs _ (by exact HI.o _))).mono ?_;rintro e w'⟨rfl,rfl⟩))
    go_ret;exact⟨ze HF.o.symm,HB.o _⟩
  ·have HF:Hid (zQ r=false):=by unfold Hid zQ qK;rw[ht,HT.o];simp
   go_enter Tryz.func174,Tryz.ntmps174
   go_wp2_with (first|(go_at_call_of 161 (Value.s r.kd);refine(zf HK.o (zH r.kd _ hskd)).mono ?_;rintro e w'⟨rfl,rfl⟩)|(go_at_call_of 161 (Value.s r.tm);refine(zf HT.o (zH r.tm _ hstm)).mono ?_;rintro e w'⟨rfl,rfl⟩))
   go_ret;exact⟨ze HF.o.symm,HB.o _⟩
 ·have HF:Hid (zQ r=false):=by unfold Hid zQ qK;rw[hk,HK.o];simp
  go_enter Tryz.func174,Tryz.ntmps174
  go_wp2_with (first|(go_at_call_of 161 (Value.s r.kd);refine(zf HK.o (zH r.kd _ hskd)).mono ?_;rintro e w'⟨rfl,rfl⟩))
  go_ret;exact⟨ze HF.o.symm,HB.o _⟩
theorem zdr (nm:BA)(ls ms:Int)(a:OA)(cap:Nat)(ws:List BA)(to:BA)(rl:Int)(mu fx:Bool)(df wg:BA)(a0:OA)(cap0:Nat)(ss:List Shp)(w:World)(hw:yR w a0 ss) :
 Calls Tryz.prog 269 #[.agg #[.s nm,.i 4,.i ls,.i ms,.l a ws.length cap,.s to,.i rl,.bool mu,.bool fx,.s df,.s wg],.l a0 ss.length cap0] w fun e w'=>e=.returned (.bool (zW ss ⟨nm,4,ls,ms,ws,to,rl,mu,fx,df,wg⟩))/\Bw w w':=by
 have HF:Hid (zW ss ⟨nm,4,ls,ms,ws,to,rl,mu,fx,df,wg⟩=(zJ ss to&&(decide (1<=rl)&&decide (rl<=3))&&df.toList.isEmpty&&(decide (rl≠2)||!mu))):=by simp[zW,Hid]
 by_cases hk:zJ ss to=true
 rotate_left
 ·have hk':zJ ss to=false:=by simpa using hk
  have HK:Hid (zJ ss to=false):=hk';clear hk hk';go_enter Tryz.func269,Tryz.ntmps269;go_wp2_with fail
  refine(qJ _ _ _ _ _ (hw.mono (bAl _ _))).mono ?_;rintro e w1⟨fa,fcap,rfl,_,hb1⟩;rw[HK.o];have hX1:=za (zl w _ _) (by simp) hb1;have hz1:w.heap.size<w1.heap.size:=by have:=hb1.size;simp at this;omega
  have hB1:Bw w w1:=(bAl _ _).trans (hb1.mono (by simp));clear hb1 hw;go_wp2_with fail
  go_ret;exact⟨ze (by rw[HF.o,HK.o];rfl),hB1.alloc (by omega) _⟩
 have HK:Hid (zJ ss to=true):=hk;clear hk
 by_cases hd:df.toList.isEmpty=true
 rotate_left
 ·have hd':df.toList.isEmpty=false:=by simpa using hd
  clear hd;go_enter Tryz.func269,Tryz.ntmps269;go_wp2_with fail
  refine(qJ _ _ _ _ _ (hw.mono (bAl _ _))).mono ?_;rintro e w1⟨fa,fcap,rfl,_,hb1⟩;rw[HK.o];have hX1:=za (zl w _ _) (by simp) hb1;have hz1:w.heap.size<w1.heap.size:=by have:=hb1.size;simp at this;omega
  have hB1:Bw w w1:=(bAl _ _).trans (hb1.mono (by simp));clear hb1 hw;go_wp2_with fail
  go_ret;exact⟨ze (by rw[HF.o,HK.o,hd'];simp),hB1.alloc (by omega) _⟩
 by_cases h1:rl=1
 ·subst h1
  go_enter Tryz.func269,Tryz.ntmps269;go_wp2_with fail
  refine(qJ _ _ _ _ _ (hw.mono (bAl _ _))).mono ?_;rintro e w1⟨fa,fcap,rfl,_,hb1⟩;rw[HK.o];have hX1:=za (zl w _ _) (by simp) hb1;have hz1:w.heap.size<w1.heap.size:=by have:=hb1.size;simp at this;omega
  have hB1:Bw w w1:=(bAl _ _).trans (hb1.mono (by simp));clear hb1 hw;go_wp2_with fail
  go_ret;exact⟨ze (by rw[HF.o,HK.o,hd];rfl),hB1.alloc (by omega) _⟩
 by_cases h3:rl=3
 ·subst h3
  go_enter Tryz.func269,Tryz.ntmps269;go_wp2_with fail
  refine(qJ _ _ _ _ _ (hw.mono (bAl _ _))).mono ?_;rintro e w1⟨fa,fcap,rfl,_,hb1⟩;rw[HK.o];have hX1:=za (zl w _ _) (by simp) hb1;have hz1:w.heap.size<w1.heap.size:=by have:=hb1.size;simp at this;omega
  have hB1:Bw w w1:=(bAl _ _).trans (hb1.mono (by simp));clear hb1 hw;go_wp2_with fail
  go_ret;exact⟨ze (by rw[HF.o,HK.o,hd];rfl),hB1.alloc (by omega) _⟩
 by_cases h2:rl=2
 ·subst h2
  clear h1 h3;go_enter Tryz.func269,Tryz.ntmps269;go_wp2_with fail
  refine(qJ _ _ _ _ _ (hw.mono (bAl _ _))).mono ?_;rintro e w1⟨fa,fcap,rfl,_,hb1⟩;rw[HK.o];have hX1:=za (zl w _ _) (by simp) hb1;have hz1:w.heap.size<w1.heap.size:=by have:=hb1.size;simp at this;omega
  have hB1:Bw w w1:=(bAl _ _).trans (hb1.mono (by simp));clear hb1 hw;go_wp2_with fail
  go_ret;exact⟨ze (by rw[HF.o,HK.o,hd];rfl),hB1.alloc (by omega) _⟩
 ·have HR:Hid ((decide (1<=rl)&&decide (rl<=3))=false):=by unfold Hid;rw[Bool.eq_false_iff];simp;omega
  have e1:(rl == 1)=false:=by simpa using h1
  have e2:(rl == 2)=false:=by simpa using h2
  have e3:(rl == 3)=false:=by simpa using h3
  clear h1 h2 h3;go_enter Tryz.func269,Tryz.ntmps269;go_wp2_with fail
  refine(qJ _ _ _ _ _ (hw.mono (bAl _ _))).mono ?_;rintro e w1⟨fa,fcap,rfl,_,hb1⟩;rw[HK.o];have hX1:=za (zl w _ _) (by simp) hb1;have hz1:w.heap.size<w1.heap.size:=by have:=hb1.size;simp at this;omega
  have hB1:Bw w w1:=(bAl _ _).trans (hb1.mono (by simp));clear hb1 hw;go_wp2_with fail
  go_ret;exact⟨ze (by rw[HF.o,HK.o,HR.o];simp),hB1.alloc (by omega) _⟩
def yM:Array MapEntry:=#[⟨.i 1,.func (.func 191) #[] #[],0⟩,⟨.i 2,.func (.func 192) #[] #[],1⟩,⟨.i 3,.func (.func 193) #[] #[],2⟩,⟨.i 4,.func (.func 194) #[] #[],3⟩]
theorem zc0 (w:World) :
 Calls Tryz.prog 157 #[] w fun e w'=>e=.returned (.map (some w.heap.size))/\w'=w.alloc (.map yM 4):=by
 have hmm:=@run_makeMap Tryz.prog;have i1:=za8 (P:=Tryz.prog) Tryz.underlying207 Tryz.underlying3 (.i 1) (.func (.func 191) #[] #[]) rfl #[] 0 rfl;have i2:=za8 (P:=Tryz.prog) Tryz.underlying207 Tryz.underlying3 (.i 2) (.func (.func 192) #[] #[]) rfl #[⟨.i 1,.func (.func 191) #[] #[],0⟩] 1 rfl;have i3:=za8 (P:=Tryz.prog) Tryz.underlying207 Tryz.underlying3 (.i 3) (.func (.func 193) #[] #[]) rfl #[⟨.i 1,.func (.func 191) #[] #[],0⟩,⟨.i 2,.func (.func 192) #[] #[],1⟩] 2 rfl;have i4:=za8 (P:=Tryz.prog) Tryz.underlying207 Tryz.underlying3 (.i 4) (.func (.func 194) #[] #[]) rfl #[⟨.i 1,.func (.func 191) #[] #[],0⟩,⟨.i 2,.func (.func 192) #[] #[],1⟩,⟨.i 3,.func (.func 193) #[] #[],2⟩] 3 rfl;simp only[List.push_toArray,List.cons_append,List.nil_append,Nat.zero_add,Nat.reduceAdd]at i1 i2 i3 i4;go_enter Tryz.func157,Tryz.ntmps157
 go_wp2
 go_ret;exact⟨rfl,rfl⟩
theorem zdN (nm:BA)(kd ls ms:Int)(a:OA)(n cap:Nat)(to:BA)(rl:Int)(mu fx:Bool)(df wg:BA)(w:World) :
 Calls Tryz.prog 191 #[.agg #[.s nm,.i kd,.i ls,.i ms,.l a n cap,.s to,.i rl,.bool mu,.bool fx,.s df,.s wg]] w
  fun e w'=>e=.returned (.iface 242 (.agg #[.s nm,.i kd,.i ls,.i ms,.l a n cap,.s to,.i rl,.bool mu,.bool fx,.s df,.s wg]))/\Bw w w':=by
 go_enter Tryz.func191,Tryz.ntmps191
 go_wp2
 go_ret;exact⟨rfl,bAl _ _⟩
theorem zdC (nm:BA)(kd ls ms:Int)(a:OA)(n cap:Nat)(to:BA)(rl:Int)(mu fx:Bool)(df wg:BA)(w:World) :
 Calls Tryz.prog 192 #[.agg #[.s nm,.i kd,.i ls,.i ms,.l a n cap,.s to,.i rl,.bool mu,.bool fx,.s df,.s wg]] w
  fun e w'=>e=.returned (.iface 244 (.agg #[.s nm,.i kd,.i ls,.i ms,.l a n cap,.s to,.i rl,.bool mu,.bool fx,.s df,.s wg]))/\Bw w w':=by
 go_enter Tryz.func192,Tryz.ntmps192
 go_wp2
 go_ret;exact⟨rfl,bAl _ _⟩
theorem zdw (nm:BA)(kd ls ms:Int)(a:OA)(n cap:Nat)(to:BA)(rl:Int)(mu fx:Bool)(df wg:BA)(w:World) :
 Calls Tryz.prog 193 #[.agg #[.s nm,.i kd,.i ls,.i ms,.l a n cap,.s to,.i rl,.bool mu,.bool fx,.s df,.s wg]] w
  fun e w'=>e=.returned (.iface 245 (.agg #[.s nm,.i kd,.i ls,.i ms,.l a n cap,.s to,.i rl,.bool mu,.bool fx,.s df,.s wg]))/\Bw w w':=by
 go_enter Tryz.func193,Tryz.ntmps193
 go_wp2
 go_ret;exact⟨rfl,bAl _ _⟩
theorem zdz (nm:BA)(kd ls ms:Int)(a:OA)(n cap:Nat)(to:BA)(rl:Int)(mu fx:Bool)(df wg:BA)(w:World) :
 Calls Tryz.prog 194 #[.agg #[.s nm,.i kd,.i ls,.i ms,.l a n cap,.s to,.i rl,.bool mu,.bool fx,.s df,.s wg]] w
  fun e w'=>e=.returned (.iface 246 (.agg #[.s nm,.i kd,.i ls,.i ms,.l a n cap,.s to,.i rl,.bool mu,.bool fx,.s df,.s wg]))/\Bw w w':=by
 go_enter Tryz.func194,Tryz.ntmps194
 go_wp2
 go_ret;exact⟨rfl,bAl _ _⟩
theorem zgi (x:Value)(w:World):(method 418 242 x "loop.example/wharfgate/impl.fits").run Tryz.prog w=.ok (257,x) w:=by kernel_rfl
theorem zgM (x:Value)(w:World):(method 418 244 x "loop.example/wharfgate/impl.fits").run Tryz.prog w=.ok (260,x) w:=by kernel_rfl
theorem zgW (x:Value)(w:World):(method 418 245 x "loop.example/wharfgate/impl.fits").run Tryz.prog w=.ok (265,x) w:=by kernel_rfl
theorem zgN (x:Value)(w:World):(method 418 246 x "loop.example/wharfgate/impl.fits").run Tryz.prog w=.ok (268,x) w:=by kernel_rfl
theorem zmB (r:Nat)(nm:BA)(ls ms:Int)(a:OA)(cap:Nat)(ws:List BA)(to:BA)(rl:Int)(mu fx:Bool)(df wg:BA)(v:BA)(w:World)(hr:w.heap[r]?=some (.map yM 4))(hv:v.size<=maxLen)(hz:¬v.size=0) :
 Calls Tryz.prog 197 #[.map (some r),.agg #[.s nm,.i 1,.i ls,.i ms,.l a ws.length cap,.s to,.i rl,.bool mu,.bool fx,.s df,.s wg],.s v] w
  fun e w'=>e=.returned (.bool (fits 1 ls ms ws v))/\Bw w w':=by
 rw[zoi ls ms ws v hz];have hne:v.toList.isEmpty=false:=by rw[zx];simp[hz]
 have hlt:r<w.heap.size:=(gES hr).1
 have hlk:∀o,(Instr.lookup 207 (.map (some r)) (.i 1) true).run Tryz.prog (w.alloc o)=.ok (.tuple #[.func (.func 191) #[] #[],.bool true]) (w.alloc o):=
  fun o=>yP Tryz.underlying207 Tryz.underlying3 (.i 1) _ rfl yM 4 0 rfl (w.alloc o) r ((Below.heap_alloc w o r hlt).trans hr)
 clear hr;have hmt:=zgi;go_enter Tryz.func197,Tryz.ntmps197
 go_wp2_with (first
  | (go_at_call 191;refine(zdN _ _ _ _ _ _ _ _ _ _ _ _ _ _).mono ?_;rintro e w1⟨rfl,hb1⟩)
  | (go_at_call 257;refine(zfa _ _ _ _ _ _ _ _ _ _ _ _ _ hv).mono ?_;rintro e w2⟨rfl,hb2⟩))
 go_ret;exact⟨rfl,((bAl _ _).trans (hb1.mono (by simp))).trans (hb2.mono (by have:=hb1.size;simp at this;omega))⟩
theorem zna (r:Nat)(nm:BA)(ls ms:Int)(a:OA)(cap:Nat)(ws:List BA)(to:BA)(rl:Int)(mu fx:Bool)(df wg:BA)(v:BA)(w:World)(hr:w.heap[r]?=some (.map yM 4))(hws:zF w a ws)(hz:¬v.size=0) :
 Calls Tryz.prog 197 #[.map (some r),.agg #[.s nm,.i 2,.i ls,.i ms,.l a ws.length cap,.s to,.i rl,.bool mu,.bool fx,.s df,.s wg],.s v] w
  fun e w'=>e=.returned (.bool (fits 2 ls ms ws v))/\Bw w w':=by
 rw[zoG ls ms ws v hz];have hne:v.toList.isEmpty=false:=by rw[zx];simp[hz]
 have hlt:r<w.heap.size:=(gES hr).1
 have hlk:∀o,(Instr.lookup 207 (.map (some r)) (.i 2) true).run Tryz.prog (w.alloc o)=.ok (.tuple #[.func (.func 192) #[] #[],.bool true]) (w.alloc o):=
  fun o=>yP Tryz.underlying207 Tryz.underlying3 (.i 2) _ rfl yM 4 1 rfl (w.alloc o) r ((Below.heap_alloc w o r hlt).trans hr)
 clear hr;have hmt:=zgM;go_enter Tryz.func197,Tryz.ntmps197
 go_wp2_with (first
  | (go_at_call 192;refine(zdC _ _ _ _ _ _ _ _ _ _ _ _ _ _).mono ?_;rintro e w1⟨rfl,hb1⟩;have hws1:=(hws.mono (bAl _ _)).mono hb1)
  | (go_at_call 260;refine(zg3 _ _ _ _ _ _ _ _ _ _ _ _ _ _ _ (by exact hws1)).mono ?_;rintro e w2⟨rfl,hb2⟩))
 go_ret;exact⟨rfl,((bAl _ _).trans (hb1.mono (by simp))).trans (hb2.mono (by have:=hb1.size;simp at this;omega))⟩
theorem zmU (r:Nat)(nm:BA)(ls ms:Int)(a:OA)(cap:Nat)(ws:List BA)(to:BA)(rl:Int)(mu fx:Bool)(df wg:BA)(v:BA)(w:World)(hr:w.heap[r]?=some (.map yM 4))(hv:v.size<=maxLen)(hz:¬v.size=0) :
 Calls Tryz.prog 197 #[.map (some r),.agg #[.s nm,.i 3,.i ls,.i ms,.l a ws.length cap,.s to,.i rl,.bool mu,.bool fx,.s df,.s wg],.s v] w
  fun e w'=>e=.returned (.bool (fits 3 ls ms ws v))/\Bw w w':=by
 rw[zl3 ls ms ws v hz];have hne:v.toList.isEmpty=false:=by rw[zx];simp[hz]
 have hlt:r<w.heap.size:=(gES hr).1
 have hlk:∀o,(Instr.lookup 207 (.map (some r)) (.i 3) true).run Tryz.prog (w.alloc o)=.ok (.tuple #[.func (.func 193) #[] #[],.bool true]) (w.alloc o):=
  fun o=>yP Tryz.underlying207 Tryz.underlying3 (.i 3) _ rfl yM 4 2 rfl (w.alloc o) r ((Below.heap_alloc w o r hlt).trans hr)
 clear hr;have hmt:=zgW;go_enter Tryz.func197,Tryz.ntmps197
 go_wp2_with (first
  | (go_at_call 193;refine(zdw _ _ _ _ _ _ _ _ _ _ _ _ _ _).mono ?_;rintro e w1⟨rfl,hb1⟩)
  | (go_at_call 265;refine(zgv _ _ _ _ _ _ _ _ _ _ _ _ _ hv).mono ?_;rintro e w2⟨rfl,hb2⟩))
 go_ret;exact⟨rfl,((bAl _ _).trans (hb1.mono (by simp))).trans (hb2.mono (by have:=hb1.size;simp at this;omega))⟩
theorem zmW (r:Nat)(nm:BA)(ls ms:Int)(a:OA)(cap:Nat)(ws:List BA)(to:BA)(rl:Int)(mu fx:Bool)(df wg:BA)(v:BA)(w:World)(hr:w.heap[r]?=some (.map yM 4))(hv:v.size<=maxLen)(hz:¬v.size=0) :
 Calls Tryz.prog 197 #[.map (some r),.agg #[.s nm,.i 4,.i ls,.i ms,.l a ws.length cap,.s to,.i rl,.bool mu,.bool fx,.s df,.s wg],.s v] w
  fun e w'=>e=.returned (.bool (fits 4 ls ms ws v))/\Bw w w':=by
 rw[zoy ls ms ws v hz];have hne:v.toList.isEmpty=false:=by rw[zx];simp[hz]
 have hlt:r<w.heap.size:=(gES hr).1
 have hlk:∀o,(Instr.lookup 207 (.map (some r)) (.i 4) true).run Tryz.prog (w.alloc o)=.ok (.tuple #[.func (.func 194) #[] #[],.bool true]) (w.alloc o):=
  fun o=>yP Tryz.underlying207 Tryz.underlying3 (.i 4) _ rfl yM 4 3 rfl (w.alloc o) r ((Below.heap_alloc w o r hlt).trans hr)
 clear hr;have hmt:=zgN;go_enter Tryz.func197,Tryz.ntmps197
 go_wp2_with (first
  | (go_at_call 194;refine(zdz _ _ _ _ _ _ _ _ _ _ _ _ _ _).mono ?_;rintro e w1⟨rfl,hb1⟩)
  | (go_at_call 268;refine(zgk _ _ _ _ _ _ _ _ _ _ _ _ _ hv).mono ?_;rintro e w2⟨rfl,hb2⟩))
 go_ret;exact⟨rfl,((bAl _ _).trans (hb1.mono (by simp))).trans (hb2.mono (by have:=hb1.size;simp at this;omega))⟩
theorem zlg (w:World):(zeroValue 243).run Tryz.prog w=.ok .nilFunc w:=by kernel_rfl
theorem zlh (kd:Int)(h1:kd≠1)(h2:kd≠2)(h3:kd≠3)(h4:kd≠4):Instr.findNow (.int .i64) (.i kd) yM.toList 0=some none:=by
 have e1:(kd == 1)=false:=by simpa using h1
 have e2:(kd == 2)=false:=by simpa using h2
 have e3:(kd == 3)=false:=by simpa using h3
 have e4:(kd == 4)=false:=by simpa using h4
 simp[Instr.findNow,Instr.sameNow,yM,e1,e2,e3,e4]
theorem ziI (r:Nat)(nm:BA)(kd ls ms:Int)(a:OA)(cap:Nat)(ws:List BA)(to:BA)(rl:Int)(mu fx:Bool)(df wg:BA)(v:BA)(w:World)(hr:w.heap[r]?=some (.map yM 4))(h1:kd≠1)(h2:kd≠2)(h3:kd≠3)(h4:kd≠4) :
 Calls Tryz.prog 197 #[.map (some r),.agg #[.s nm,.i kd,.i ls,.i ms,.l a ws.length cap,.s to,.i rl,.bool mu,.bool fx,.s df,.s wg],.s v] w
  fun e w'=>e=.returned (.bool (fits kd ls ms ws v))/\Bw w w':=by
 rw[zfO kd ls ms ws v h1 h2 h3 h4];have hlt:r<w.heap.size:=(gES hr).1
 have hlk:∀o,(Instr.lookup 207 (.map (some r)) (.i kd) true).run Tryz.prog (w.alloc o)=.ok (.tuple #[.nilFunc,.bool false]) (w.alloc o):=
  fun o=>zcp Tryz.underlying207 Tryz.underlying3 (.i kd) _ rfl yM 4 (zlh kd h1 h2 h3 h4) (w.alloc o) (zlg _) r ((Below.heap_alloc w o r hlt).trans hr)
 clear hr h1 h2 h3 h4;go_enter Tryz.func197,Tryz.ntmps197;go_wp2_with fail
 go_ret;exact⟨rfl,bAl _ _⟩
theorem zgt (r:Nat)(nm:BA)(ls ms:Int)(a:OA)(cap:Nat)(ws:List BA)(to:BA)(rl:Int)(mu fx:Bool)(df wg:BA)(v:BA)(w:World)(hr:w.heap[r]?=some (.map yM 4))(hz:v.size=0) :
 Calls Tryz.prog 197 #[.map (some r),.agg #[.s nm,.i 1,.i ls,.i ms,.l a ws.length cap,.s to,.i rl,.bool mu,.bool fx,.s df,.s wg],.s v] w
  fun e w'=>e=.returned (.bool (fits 1 ls ms ws v))/\Bw w w':=by
 rw[zal 1 ls ms ws v hz];have hne:v.toList.isEmpty=true:=by rw[zx];simp[hz]
 clear hz;have hlt:r<w.heap.size:=(gES hr).1
 have hlk:∀o,(Instr.lookup 207 (.map (some r)) (.i 1) true).run Tryz.prog (w.alloc o)=.ok (.tuple #[.func (.func 191) #[] #[],.bool true]) (w.alloc o):=
  fun o=>yP Tryz.underlying207 Tryz.underlying3 (.i 1) _ rfl yM 4 0 rfl (w.alloc o) r ((Below.heap_alloc w o r hlt).trans hr)
 clear hr;go_enter Tryz.func197,Tryz.ntmps197;go_wp2_with fail
 go_ret;exact⟨rfl,bAl _ _⟩
theorem zgs (r:Nat)(nm:BA)(ls ms:Int)(a:OA)(cap:Nat)(ws:List BA)(to:BA)(rl:Int)(mu fx:Bool)(df wg:BA)(v:BA)(w:World)(hr:w.heap[r]?=some (.map yM 4))(hz:v.size=0) :
 Calls Tryz.prog 197 #[.map (some r),.agg #[.s nm,.i 2,.i ls,.i ms,.l a ws.length cap,.s to,.i rl,.bool mu,.bool fx,.s df,.s wg],.s v] w
  fun e w'=>e=.returned (.bool (fits 2 ls ms ws v))/\Bw w w':=by
 rw[zal 2 ls ms ws v hz];have hne:v.toList.isEmpty=true:=by rw[zx];simp[hz]
 clear hz;have hlt:r<w.heap.size:=(gES hr).1
 have hlk:∀o,(Instr.lookup 207 (.map (some r)) (.i 2) true).run Tryz.prog (w.alloc o)=.ok (.tuple #[.func (.func 192) #[] #[],.bool true]) (w.alloc o):=
  fun o=>yP Tryz.underlying207 Tryz.underlying3 (.i 2) _ rfl yM 4 1 rfl (w.alloc o) r ((Below.heap_alloc w o r hlt).trans hr)
 clear hr;go_enter Tryz.func197,Tryz.ntmps197;go_wp2_with fail
 go_ret;exact⟨rfl,bAl _ _⟩
theorem zgf (r:Nat)(nm:BA)(ls ms:Int)(a:OA)(cap:Nat)(ws:List BA)(to:BA)(rl:Int)(mu fx:Bool)(df wg:BA)(v:BA)(w:World)(hr:w.heap[r]?=some (.map yM 4))(hz:v.size=0) :
 Calls Tryz.prog 197 #[.map (some r),.agg #[.s nm,.i 3,.i ls,.i ms,.l a ws.length cap,.s to,.i rl,.bool mu,.bool fx,.s df,.s wg],.s v] w
  fun e w'=>e=.returned (.bool (fits 3 ls ms ws v))/\Bw w w':=by
 rw[zal 3 ls ms ws v hz];have hne:v.toList.isEmpty=true:=by rw[zx];simp[hz]
 clear hz;have hlt:r<w.heap.size:=(gES hr).1
 have hlk:∀o,(Instr.lookup 207 (.map (some r)) (.i 3) true).run Tryz.prog (w.alloc o)=.ok (.tuple #[.func (.func 193) #[] #[],.bool true]) (w.alloc o):=
  fun o=>yP Tryz.underlying207 Tryz.underlying3 (.i 3) _ rfl yM 4 2 rfl (w.alloc o) r ((Below.heap_alloc w o r hlt).trans hr)
 clear hr;go_enter Tryz.func197,Tryz.ntmps197;go_wp2_with fail
 go_ret;exact⟨rfl,bAl _ _⟩
theorem zgp (r:Nat)(nm:BA)(ls ms:Int)(a:OA)(cap:Nat)(ws:List BA)(to:BA)(rl:Int)(mu fx:Bool)(df wg:BA)(v:BA)(w:World)(hr:w.heap[r]?=some (.map yM 4))(hz:v.size=0) :
 Calls Tryz.prog 197 #[.map (some r),.agg #[.s nm,.i 4,.i ls,.i ms,.l a ws.length cap,.s to,.i rl,.bool mu,.bool fx,.s df,.s wg],.s v] w
  fun e w'=>e=.returned (.bool (fits 4 ls ms ws v))/\Bw w w':=by
 rw[zal 4 ls ms ws v hz];have hne:v.toList.isEmpty=true:=by rw[zx];simp[hz]
 clear hz;have hlt:r<w.heap.size:=(gES hr).1
 have hlk:∀o,(Instr.lookup 207 (.map (some r)) (.i 4) true).run Tryz.prog (w.alloc o)=.ok (.tuple #[.func (.func 194) #[] #[],.bool true]) (w.alloc o):=
  fun o=>yP Tryz.underlying207 Tryz.underlying3 (.i 4) _ rfl yM 4 3 rfl (w.alloc o) r ((Below.heap_alloc w o r hlt).trans hr)
 clear hr;go_enter Tryz.func197,Tryz.ntmps197;go_wp2_with fail
 go_ret;exact⟨rfl,bAl _ _⟩
theorem zfF (r:Nat)(nm:BA)(kd ls ms:Int)(a:OA)(cap:Nat)(ws:List BA)(to:BA)(rl:Int)(mu fx:Bool)(df wg:BA)(v:BA)(w:World)(hr:w.heap[r]?=some (.map yM 4))(hv:v.size<=maxLen)(hws:zF w a ws) :
 Calls Tryz.prog 197 #[.map (some r),.agg #[.s nm,.i kd,.i ls,.i ms,.l a ws.length cap,.s to,.i rl,.bool mu,.bool fx,.s df,.s wg],.s v] w
  fun e w'=>e=.returned (.bool (fits kd ls ms ws v))/\Bw w w':=by
 by_cases h1:kd=1
 ·subst h1;by_cases hz:v.size=0
  ·exact zgt r nm ls ms a cap ws to rl mu fx df wg v w hr hz
  ·exact zmB r nm ls ms a cap ws to rl mu fx df wg v w hr hv hz
 by_cases h2:kd=2
 ·subst h2;by_cases hz:v.size=0
  ·exact zgs r nm ls ms a cap ws to rl mu fx df wg v w hr hz
  ·exact zna r nm ls ms a cap ws to rl mu fx df wg v w hr hws hz
 by_cases h3:kd=3
 ·subst h3;by_cases hz:v.size=0
  ·exact zgf r nm ls ms a cap ws to rl mu fx df wg v w hr hz
  ·exact zmU r nm ls ms a cap ws to rl mu fx df wg v w hr hv hz
 by_cases h4:kd=4
 ·subst h4;by_cases hz:v.size=0
  ·exact zgp r nm ls ms a cap ws to rl mu fx df wg v w hr hz
  ·exact zmW r nm ls ms a cap ws to rl mu fx df wg v w hr hv hz
 exact ziI r nm kd ls ms a cap ws to rl mu fx df wg v w hr h1 h2 h3 h4
theorem zoK (nm:BA)(ls ms:Int)(a:OA)(cap:Nat)(ws:List BA)(to:BA)(rl:Int)(mu fx:Bool)(df wg:BA)(v:BA)(w:World)(hv:v.size<=maxLen) :
 Calls Tryz.prog 146 #[.agg #[.s nm,.i 1,.i ls,.i ms,.l a ws.length cap,.s to,.i rl,.bool mu,.bool fx,.s df,.s wg],.s v] w
  fun e w'=>e=.returned (.bool (fits 1 ls ms ws v))/\Bw w w':=by
 rw[zqe]
 by_cases hd:zaj v=true
 ·have HE:Hid (qW v=zgd v):=by unfold qW Hid;rw[hd];rfl
  have HF:Hid (zaC ls ms v=(decide (ls<=qW v)&&decide (qW v<=ms))):=by rw[HE.o];exact zmC _ _ _ hd
  have h0:0<=qW v:=by rw[HE.o];exact zdb v hd
  go_enter Tryz.func146,Tryz.ntmps146
  go_wp2_with (first
   | (go_at_call 188;refine(zej _ _ hv).mono ?_;rintro e w'⟨rfl,rfl⟩)
   | (go_at_call 64;refine(yw _ _ _ _).mono ?_;rintro e w'⟨rfl,rfl⟩))
  go_ret;exact⟨ze HF.o.symm,bAl _ _⟩
 ·have hd':zaj v=false:=by simpa using hd
  have HF:Hid (zaC ls ms v=false):=zjg _ _ _ hd';have h0:qW v<0:=by unfold qW;rw[hd'];simp
  go_enter Tryz.func146,Tryz.ntmps146
  go_wp2_with (first
   | (go_at_call 188;refine(zej _ _ hv).mono ?_;rintro e w'⟨rfl,rfl⟩)
   | (go_at_call 64;refine(yw _ _ _ _).mono ?_;rintro e w'⟨rfl,rfl⟩))
  go_ret;exact⟨ze HF.o.symm,bAl _ _⟩
theorem zox (nm:BA)(ls ms:Int)(a:OA)(cap:Nat)(ws:List BA)(to:BA)(rl:Int)(mu fx:Bool)(df wg:BA)(v:BA)(w:World)(hws:zF w a ws) :
 Calls Tryz.prog 146 #[.agg #[.s nm,.i 2,.i ls,.i ms,.l a ws.length cap,.s to,.i rl,.bool mu,.bool fx,.s df,.s wg],.s v] w
  fun e w'=>e=.returned (.bool (fits 2 ls ms ws v))/\Bw w w':=by
 by_cases hz:v.size=0
 ·rw[zal _ _ _ _ _ hz]
  have hne:v.toList.isEmpty=true:=by rw[zx];simp[hz]
  clear hz hws;go_enter Tryz.func146,Tryz.ntmps146;go_wp2_with fail
  go_ret;exact⟨rfl,bAl _ _⟩
 ·rw[zoG _ _ _ _ hz]
  have hne:v.toList.isEmpty=false:=by rw[zx];simp[hz]
  go_enter Tryz.func146,Tryz.ntmps146
  go_wp2_with (go_at_call 186;refine(zcH _ _ _ _ _ (by exact hws.mono (bAl _ _))).mono ?_;rintro e w'⟨rfl,rfl⟩)
  go_ret;exact⟨rfl,bAl _ _⟩
theorem zou (nm:BA)(ls ms:Int)(a:OA)(cap:Nat)(ws:List BA)(to:BA)(rl:Int)(mu fx:Bool)(df wg:BA)(v:BA)(w:World)(hv:v.size<=maxLen) :
 Calls Tryz.prog 146 #[.agg #[.s nm,.i 4,.i ls,.i ms,.l a ws.length cap,.s to,.i rl,.bool mu,.bool fx,.s df,.s wg],.s v] w
  fun e w'=>e=.returned (.bool (fits 4 ls ms ws v))/\Bw w w':=by
 rw[zpT];go_enter Tryz.func146,Tryz.ntmps146
 go_wp2_with (go_at_call 114;refine(zk _ _ hv).mono ?_;rintro e w'⟨rfl,rfl⟩)
 go_ret;exact⟨rfl,bAl _ _⟩
theorem zjW (nm:BA)(kd ls ms:Int)(a:OA)(cap:Nat)(ws:List BA)(to:BA)(rl:Int)(mu fx:Bool)(df wg:BA)(v:BA)(w:World)(h1:kd≠1)(h2:kd≠2)(h3:kd≠3)(h4:kd≠4) :
 Calls Tryz.prog 146 #[.agg #[.s nm,.i kd,.i ls,.i ms,.l a ws.length cap,.s to,.i rl,.bool mu,.bool fx,.s df,.s wg],.s v] w
  fun e w'=>e=.returned (.bool (fits kd ls ms ws v))/\Bw w w':=by
 rw[zfO kd ls ms ws v h1 h2 h3 h4];have e1:(kd == 1)=false:=by simpa using h1
 have e2:(kd == 2)=false:=by simpa using h2
 have e3:(kd == 3)=false:=by simpa using h3
 have e4:(kd == 4)=false:=by simpa using h4
 clear h1 h2 h3 h4;go_enter Tryz.func146,Tryz.ntmps146;go_wp2_with fail
 go_ret;exact⟨rfl,bAl _ _⟩
theorem znS (nm:BA)(ls ms:Int)(a:OA)(cap:Nat)(ws:List BA)(to:BA)(rl:Int)(mu fx:Bool)(df wg:BA)(v:BA)(w:World)(hv:v.size<=maxLen) :
 Calls Tryz.prog 146 #[.agg #[.s nm,.i 3,.i ls,.i ms,.l a ws.length cap,.s to,.i rl,.bool mu,.bool fx,.s df,.s wg],.s v] w
  fun e w'=>e=.returned (.bool (fits 3 ls ms ws v))/\Bw w w':=by
 unfold maxLen at hv;go_enter Tryz.func146,Tryz.ntmps146;go_wp2_with fail
 go_loop [6] (fun i=>∃k:Nat,k<=v.size/\i=.i k/\(v.data.toList.take k).all y8=true) (fun i=>v.size-(intOf i).toNat)
 case atStart=>exact⟨0,Nat.zero_le _,rfl,rfl⟩
 case round=>
  obtain⟨k,hk,rfl,hall⟩:=hrel
  by_cases hlt:k<v.size
  ·have HS:Hid ((v.data.toList.take (k+1)).all y8=(true&&y8 v[k])):=by rw[zaP _ v k hlt,hall];rfl
   have HN:Hid (y8 v[k]=false->fits 3 ls ms ws v=false):=fun h=>zkC ls ms ws v (zb3 y8 v k hlt h)
   clear hall
   by_cases h33:33<=(v[k].toNat:Int)/\(v[k].toNat:Int)<=126
   ·have HC:Hid (y8 v[k]=true):=by simp[y8,Hid];omega
    obtain⟨ha,hb⟩:=h33
    go_wp2_with (go_at_call 64;refine(zbF _ _ _ _ (by omega) (by omega)).mono ?_;rintro e w'⟨rfl,rfl⟩)
    go_round
    case rel=>exact⟨k+1,by omega,by go_num,by rw[HS.o,HC.o];rfl⟩
    case measure=>simp[intOf];omega
   ·have HC:Hid (y8 v[k]=false):=by simp[y8,Hid];omega
    have HD:Hid (¬(33<=(v[k].toNat:Int)/\(v[k].toNat:Int)<=126)):=h33;clear h33;have hby:(v[k].toNat:Int)<256:=by have:=v[k].toNat_lt;omega
    go_wp2_with (go_at_call 64;refine(zdh _ _ _ _ (by have:=HD.o;omega)).mono ?_;rintro e w'⟨rfl,rfl⟩)
    go_ret;exact⟨ze (HN.o HC.o).symm,bAl _ _⟩
  ·have HA:Hid (zby v=true):=by unfold zby Hid;rw[<- zao v k (by omega)];exact hall
   clear hall
   by_cases hz:v.size=0
   ·have HF:Hid (fits 3 ls ms ws v=false):=zal _ _ _ _ _ hz
    have hne:v.toList.isEmpty=true:=by rw[zx];simp[hz]
    clear hz;go_wp2_with fail
    go_ret;exact⟨ze HF.o.symm,bAl _ _⟩
   ·have HF:Hid (fits 3 ls ms ws v=(decide (ls<=v.size)&&decide ((v.size:Int)<=ms))):=zkX ls ms ws v HA.o hz
    have hne:v.toList.isEmpty=false:=by rw[zx];simp[hz]
    go_wp2_with (go_at_call 64;refine(yw _ _ _ _).mono ?_;rintro e w'⟨rfl,rfl⟩)
    go_ret;exact⟨ze HF.o.symm,bAl _ _⟩
theorem yU (nm:BA)(kd ls ms:Int)(a:OA)(cap:Nat)(ws:List BA)(to:BA)(rl:Int)(mu fx:Bool)(df wg:BA)(v:BA)(w:World)(hv:v.size<=maxLen)(hws:zF w a ws) :
 Calls Tryz.prog 146 #[.agg #[.s nm,.i kd,.i ls,.i ms,.l a ws.length cap,.s to,.i rl,.bool mu,.bool fx,.s df,.s wg],.s v] w
  fun e w'=>e=.returned (.bool (fits kd ls ms ws v))/\Bw w w':=by
 by_cases h1:kd=1
 ·subst h1;exact zoK nm ls ms a cap ws to rl mu fx df wg v w hv
 by_cases h2:kd=2
 ·subst h2;exact zox nm ls ms a cap ws to rl mu fx df wg v w hws
 by_cases h3:kd=3
 ·subst h3;exact znS nm ls ms a cap ws to rl mu fx df wg v w hv
 by_cases h4:kd=4
 ·subst h4;exact zou nm ls ms a cap ws to rl mu fx df wg v w hv
 exact zjW nm kd ls ms a cap ws to rl mu fx df wg v w h1 h2 h3 h4
end Go.Proofs.YtecncindgjdbiaaGreat
