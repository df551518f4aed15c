import Derived.Test.YthdfpinbnncghaaGreatM09
set_option maxHeartbeats 4000000
namespace Go.Proofs.YthdfpinbnncghaaGreat
open Go.RowKit
structure Lw where
 ss:List Shp
 ms:List Mnd
 ts:List Tm
def Lw.cells (l:Lw)(a b c:OA)(ca cb cc:Nat):AV:=#[.l a l.ss.length ca,.l b l.ms.length cb,.l c l.ts.length cc]
structure yH (w:World)(l:Lw)(a b c:OA):Prop where
 ss:yR w a l.ss
 ms:qZ w b l.ms
 ts:jB w c l.ts
theorem yH.mono {w w':World}{l:Lw}{a b c:OA}(h:yH w l a b c)(hb:Bw w w'):yH w' l a b c:=⟨h.ss.mono hb,h.ms.mono hb,h.ts.mono hb⟩
def Lw.sz (l:Lw):Nat:=zaR l.ss+zbz l.ms+zdv l.ts
structure Lw.Few (l:Lw):Prop where
 ss:l.ss.length<=1048576/\∀i (h:i<l.ss.length),l.ss[i].fs.length<=1048576/\∀j (h':j<l.ss[i].fs.length),l.ss[i].fs[j].ws.length<=1048576
 ms:l.ms.length<=1048576
 ts:l.ts.length<=1048576
theorem Lw.few {l:Lw}(h:(l.sz:Int)<=1048576):l.Few:=by
 unfold Lw.sz at h;refine⟨zqZ (by omega),?_,?_⟩
 ·unfold zbz at h;omega
 ·unfold zdv at h;omega
theorem zk5 (l:Lw)(a b c:OA)(ca cb cc:Nat)(left:Int)(w:World)(hl:yH w l a b c)(h0:0<=left)(h1:left<=1048576) :
 Calls Tryz.prog 4 #[.agg (l.cells a b c ca cb cc),.i left] w fun e w'=>e=.returned (.i (zD l.sz left))/\Bw w w':=by
 have HL:Hid (yH w l a b c):=hl;clear hl;unfold Lw.cells;go_enter Tryz.func4,Tryz.ntmps4;go_wp2_with fail
 refine(zh4 _ _ l.ss _ _ (HL.o.ss.mono (bAl _ _)) h0 h1).mono ?_;rintro e w1⟨rfl,hb⟩;have hX1:=za (zn w #[.l a l.ss.length ca,.l b l.ms.length cb,.l c l.ts.length cc] 26) (by simp) hb;have hz1:w.heap.size<w1.heap.size:=by have:=hb.size;simp at this;omega
 have hB1:Bw w w1:=(bAl _ _).trans (hb.mono (by simp));clear hb
 by_cases c1:(zaR l.ss:Int)<=left
 rotate_left
 ·have HF:Hid (zD l.sz left=-1):=zq (by unfold Lw.sz;omega)
  rw[zq c1];go_wp2_with fail
  go_ret;exact⟨zk HF.o.symm,hB1⟩
 rw[zF c1];go_wp2_with fail
 refine(ziC _ _ l.ms _ _ (HL.o.ms.mono hB1) (by omega) (by omega)).mono ?_;rintro e w2⟨rfl,hb⟩;have hX2:=za hX1 hz1 hb;have hz2:=nLt hz1 hb.size;have hB2:=hB1.trans (hb.mono hB1.size);clear hb hX1 hz1 hB1
 by_cases c2:(zbz l.ms:Int)<=left-zaR l.ss
 rotate_left
 ·have HF:Hid (zD l.sz left=-1):=zq (by unfold Lw.sz;omega)
  rw[zq c2];go_wp2_with fail
  go_ret;exact⟨zk HF.o.symm,hB2⟩
 rw[zF c2];go_wp2_with fail
 refine(ziL _ _ l.ts _ _ (HL.o.ts.mono hB2) (by omega) (by omega)).mono ?_;rintro e w3⟨rfl,hb⟩;have hB3:=hB2.trans (hb.mono hB2.size);clear hb hX2 hz2 hB2
 by_cases c3:(zdv l.ts:Int)<=left-zaR l.ss-zbz l.ms
 rotate_left
 ·have HF:Hid (zD l.sz left=-1):=zq (by unfold Lw.sz;omega)
  rw[zq c3];go_wp2_with fail
  go_ret;exact⟨zk HF.o.symm,hB3⟩
 have HF:Hid (zD l.sz left=left-zaR l.ss-zbz l.ms-zdv l.ts):=by
  unfold Hid;rw[zF (by unfold Lw.sz;omega)];unfold Lw.sz;omega
 rw[zF c3];go_wp2_with fail
 go_ret;exact⟨zk HF.o.symm,hB3⟩
theorem zlt (l:Lw)(a b c a' b' c':OA)(ca cb cc ca' cb' cc':Nat)(w:World)(hl:yH w l a b c)(hl':yH w l a' b' c') :
 Calls Tryz.prog 12 #[.agg (l.cells a b c ca cb cc),.agg (l.cells a' b' c' ca' cb' cc')] w fun e w'=>e=.returned (.bool true)/\Bw w w':=by
 unfold Lw.cells;go_enter Tryz.func12,Tryz.ntmps12;go_wp2_with fail
 refine(zhU _ _ _ _ l.ss _ (hl.ss.mono (zx _ _ _)) (hl'.ss.mono (zx _ _ _))).mono ?_;rintro e w1⟨rfl,hb⟩;have hX1:=za (za (zn w _ _) (by simp) (bAl _ _)) (by simp;omega) hb;have hY1:=za (zn (w.alloc (.cells #[.l a l.ss.length ca,.l b l.ms.length cb,.l c l.ts.length cc] 44)) #[.l a' l.ss.length ca',.l b' l.ms.length cb',.l c' l.ts.length cc'] 44) (by simp) hb;have hz1:w.heap.size+1<w1.heap.size:=by have:=hb.size;simp at this;omega
 have hB1:=(zx w _ _).trans (hb.mono (by simp;omega));rw[World.size_alloc]at hY1;clear hb;go_wp2_with fail
 refine(ziR _ _ _ _ l.ms _ (hl.ms.mono hB1) (hl'.ms.mono hB1)).mono ?_;rintro e w2⟨rfl,hb⟩;have hX2:=za hX1 (nSl hz1) hb;have hY2:=za hY1 hz1 hb;have hz2:=nLt hz1 hb.size;have hB2:=hB1.trans (hb.mono hB1.size);clear hb hX1 hY1 hz1 hB1;go_wp2_with fail
 refine(ziH _ _ _ _ l.ts _ (hl.ts.mono hB2) (hl'.ts.mono hB2)).mono ?_;rintro e w3⟨rfl,hb⟩;have hB3:=hB2.trans (hb.mono hB2.size);clear hb hX2 hY2 hz2 hB2;go_wp2_with fail
 go_ret;exact⟨rfl,hB3⟩
theorem below3' (w:World)(o o' o'':Obj):Bw w (((w.alloc o).alloc o').alloc o''):=((bAl _ _).alloc (by simp) _).alloc (by simp;omega) _
theorem zkK (w:World)(o1 o2 o3:Obj):(((w.alloc o1).alloc o2).alloc o3).heap[w.heap.size]?=some o1/\(((w.alloc o1).alloc o2).alloc o3).heap[w.heap.size+1]?=some o2/\(((w.alloc o1).alloc o2).alloc o3).heap[w.heap.size+1+1]?=some o3:=by
 have h1:=(MapKept.heap_alloc w o1).1;have h2:=(MapKept.heap_alloc (w.alloc o1) o2).1;have h3:=(MapKept.heap_alloc ((w.alloc o1).alloc o2) o3).1;simp only[World.size_alloc]at h2 h3;exact⟨(Below.heap_alloc _ _ _ (by simp;omega)).trans ((Below.heap_alloc _ _ _ (by simp)).trans h1),(Below.heap_alloc _ _ _ (by simp)).trans h2,h3⟩
structure yw (lo:Nat)(w w':World):Prop where
 size:w.heap.size<=w'.heap.size
 same:∀b,lo<=b->b<w.heap.size->w'.heap[b]?=w.heap[b]?
theorem yw.refl (lo:Nat)(w:World):yw lo w w:=⟨Nat.le_refl _,fun _ _ _=>rfl⟩
theorem yw.trans {lo:Nat}{w w1 w2:World}(h:yw lo w w1)(h':yw lo w1 w2):yw lo w w2:=
 ⟨Nat.le_trans h.size h'.size,fun b h1 h2=>(h'.same b h1 (nLt h2 h.size)).trans (h.same b h1 h2)⟩
theorem yw.mono {lo lo':Nat}{w w':World}(h:yw lo w w')(hl:lo<=lo'):yw lo' w w':=⟨h.size,fun b h1 h2=>h.same b (Nat.le_trans hl h1) h2⟩
theorem yw.below {lo:Nat}{w w':World}(h:Bw w w'):yw lo w w':=⟨h.size,fun b _ h2=>h.block b h2⟩
theorem yw.setCell {lo:Nat}{w:World}{p:Addr}(hp:p.block<lo)(v:Value):yw lo w (w.setCell p v):=
 ⟨by rw[World.size_setCell];exact Nat.le_refl _,fun b h1 _=>Below.heap_setCell _ _ _ _ (by omega)⟩
theorem jl.above {lo:Nat}{w w':World}{bf:Nat}{fs:List Fld}{k:Nat}(h:jl lo w bf fs k)(ha:yw lo w w'):jl lo w' bf fs k:=by
 obtain⟨C,hC,hsz,hr⟩:=h.rows;refine⟨h.low,C,(ha.same _ h.low (gES hC).1).trans hC,hsz,fun i hi hk=>?_⟩;obtain⟨bk,h1,h2,h3,h4⟩:=hr i hi hk;exact⟨bk,h1,h2,(ha.same _ h1 (gES h3).1).trans h3,h4⟩
theorem zao.above {lo:Nat}{w w':World}{bo:Nat}{ss:List Shp}{k:Nat}(h:zao lo w bo ss k)(ha:yw lo w w'):zao lo w' bo ss k:=by
 obtain⟨C,hC,hsz,hr⟩:=h.rows;refine⟨h.low,C,(ha.same _ h.low (gES hC).1).trans hC,hsz,fun i hi hk=>?_⟩;obtain⟨bf,h1,h2,h3,h4⟩:=hr i hi hk;exact⟨bf,h1,h2,h3.above (ha.mono (Nat.le_succ_of_le h.low)),h4⟩
theorem jM.above {lo:Nat}{w w':World}{bo:Nat}{ms:List Mnd}{k:Nat}(h:jM lo w bo ms k)(ha:yw lo w w'):jM lo w' bo ms k:=by
 obtain⟨C,hC,hr⟩:=h.rows;exact⟨h.low,C,(ha.same _ h.low (gES hC).1).trans hC,hr⟩
theorem zaL.above {ty:TypeId}{lo:Nat}{w w':World}{bo:Nat}{ts:List Tm}{k:Nat}(h:zaL ty lo w bo ts k)(ha:yw lo w w'):zaL ty lo w' bo ts k:=by
 obtain⟨C,hC,hr⟩:=h.rows;exact⟨h.low,C,(ha.same _ h.low (gES hC).1).trans hC,hr⟩
structure zrw (lo:Nat)(w:World)(l:Lw)(a b c:Nat):Prop where
 ss:zao lo w a l.ss l.ss.length
 ms:jM lo w b l.ms l.ms.length
 ts:zaL 143 lo w c l.ts l.ts.length
structure Lw.Small (l:Lw):Prop where
 ss:zdQ l.ss
 ls:l.ss.length<=maxLen
 ms:∀i (h:i<l.ms.length),l.ms[i].Small
 lm:l.ms.length<=maxLen
 ts:∀i (h:i<l.ts.length),l.ts[i].Small
 lt:l.ts.length<=maxLen
theorem yH.small {w:World}{l:Lw}{a b c:OA}(h:yH w l a b c):l.Small:=⟨h.ss.smalls,h.ss.len,h.ms.small,h.ms.len,h.ts.small,h.ts.len⟩
theorem zrw.at {lo:Nat}{w:World}{l:Lw}{a b c:Nat}(h:zrw lo w l a b c)(hs:l.Small):yH w l (some (aD a 0)) (some (aD b 0)) (some (aD c 0)):=⟨h.ss.at hs.ss hs.ls,h.ms.at hs.ms hs.lm,h.ts.at hs.ts hs.lt⟩
theorem zed (s:BA):s.toList.isEmpty=true \/ (s.toList.isEmpty=false/\Hid (zm s=true)) \/ (s.toList.isEmpty=false/\Hid (zm s=false)):=by
 by_cases h:s.toList.isEmpty=true
 ·exact Or.inl h
 ·by_cases h2:zm s=true
  ·exact Or.inr (Or.inl ⟨by simpa using h,h2⟩)
  ·exact Or.inr (Or.inr ⟨by simpa using h,by simpa[Hid] using h2⟩)
theorem zkR (r:Rl)(a:OA)(cap:Nat)(w:World)(hm:r.Small)(hw:yJ w a r.vs) :
 Calls Tryz.prog 166 #[.agg (r.cells a cap)] w fun e w'=>e=.returned (.bool (zQ r))/\Bw w w':=by
 have hskd:=hm.kd;have hstm:=hm.tm;have hspx:=hm.px;have hpx:=hm.px;unfold maxLen at hpx;unfold Rl.cells;have HB:Hid (∀ob,Bw w (w.alloc ob)):=fun ob=>bAl _ _
 have HI:Hid (∀ob,yJ (w.alloc ob) a r.vs):=fun ob=>hw.mono (HB.o ob)
 clear hw hm
 rcases zed r.kd with hk|⟨hk,HK⟩|⟨hk,HK⟩
 ·rcases zed r.tm with ht|⟨ht,HT⟩|⟨ht,HT⟩
  ·have HKD:Hid (qY r=true):=by unfold Hid qY;rw[hk,ht];simp
   by_cases hv:yZ r.vs=true
   rotate_left
   ·have HV:Hid (yZ r.vs=false):=by simpa[Hid] using hv
    have HF:Hid (zQ r=false):=by unfold Hid zQ;rw[HV.o];simp
    clear hv;go_enter Tryz.func166,Tryz.ntmps166
    go_wp2_with (first|(go_at_call 223;refine(zf HV.o (qQ _ _ r.vs _ (by exact HI.o _))).mono ?_;rintro e w'⟨rfl,rfl⟩))
    go_ret;exact⟨ze HF.o.symm,HB.o _⟩
   have HV:Hid (yZ r.vs=true):=hv;clear hv
   by_cases h16:r.px.size<=16
   ·have HF:Hid (zQ r=qw r.px):=by unfold Hid zQ;rw[HKD.o,HV.o,decide_eq_true h16];rfl
    have h16I:(r.px.size:Int)<=16:=by omega
    clear h16;go_enter Tryz.func166,Tryz.ntmps166
    go_wp2_with (first|(go_at_call 223;refine(zf HV.o (qQ _ _ r.vs _ (by exact HI.o _))).mono ?_;rintro e w'⟨rfl,rfl⟩)|(go_at_call 212;refine(zaf r.px _ hspx).mono ?_;rintro e w'⟨rfl,rfl⟩))
    go_ret;exact⟨ze HF.o.symm,HB.o _⟩
   ·have HF:Hid (zQ r=false):=by unfold Hid zQ;rw[decide_eq_false h16];simp
    have h16I:decide ((r.px.size:Int)<=16)=false:=by simp;omega
    clear h16;go_enter Tryz.func166,Tryz.ntmps166
    go_wp2_with (first|(go_at_call 223;refine(zf HV.o (qQ _ _ r.vs _ (by exact HI.o _))).mono ?_;rintro e w'⟨rfl,rfl⟩))
    go_ret;exact⟨ze HF.o.symm,HB.o _⟩
  ·have HKD:Hid (qY r=true):=by unfold Hid qY;rw[hk,HT.o];simp
   by_cases hv:yZ r.vs=true
   rotate_left
   ·have HV:Hid (yZ r.vs=false):=by simpa[Hid] using hv
    have HF:Hid (zQ r=false):=by unfold Hid zQ;rw[HV.o];simp
    clear hv;go_enter Tryz.func166,Tryz.ntmps166
    go_wp2_with (first|(go_at_call_of 153 (Value.s r.tm);refine(zf HT.o (zB r.tm _ hstm)).mono ?_;rintro e w'⟨rfl,rfl⟩)|(go_at_call 223;refine(zf HV.o (qQ _ _ r.vs _ (by exact HI.o _))).mono ?_;rintro e w'⟨rfl,rfl⟩))
    go_ret;exact⟨ze HF.o.symm,HB.o _⟩
   have HV:Hid (yZ r.vs=true):=hv;clear hv
   by_cases h16:r.px.size<=16
   ·have HF:Hid (zQ r=qw r.px):=by unfold Hid zQ;rw[HKD.o,HV.o,decide_eq_true h16];rfl
    have h16I:(r.px.size:Int)<=16:=by omega
    clear h16;go_enter Tryz.func166,Tryz.ntmps166
    go_wp2_with (first|(go_at_call_of 153 (Value.s r.tm);refine(zf HT.o (zB r.tm _ hstm)).mono ?_;rintro e w'⟨rfl,rfl⟩)|(go_at_call 223;refine(zf HV.o (qQ _ _ r.vs _ (by exact HI.o _))).mono ?_;rintro e w'⟨rfl,rfl⟩)|(go_at_call 212;refine(zaf r.px _ hspx).mono ?_;rintro e w'⟨rfl,rfl⟩))
    go_ret;exact⟨ze HF.o.symm,HB.o _⟩
   ·have HF:Hid (zQ r=false):=by unfold Hid zQ;rw[decide_eq_false h16];simp
    have h16I:decide ((r.px.size:Int)<=16)=false:=by simp;omega
    clear h16;go_enter Tryz.func166,Tryz.ntmps166
    go_wp2_with (first|(go_at_call_of 153 (Value.s r.tm);refine(zf HT.o (zB r.tm _ hstm)).mono ?_;rintro e w'⟨rfl,rfl⟩)|(go_at_call 223;refine(zf HV.o (qQ _ _ r.vs _ (by exact HI.o _))).mono ?_;rintro e w'⟨rfl,rfl⟩))
    go_ret;exact⟨ze HF.o.symm,HB.o _⟩
  ·have HF:Hid (zQ r=false):=by unfold Hid zQ qY;rw[ht,HT.o];simp
   go_enter Tryz.func166,Tryz.ntmps166
   go_wp2_with (first|(go_at_call_of 153 (Value.s r.tm);refine(zf HT.o (zB r.tm _ hstm)).mono ?_;rintro e w'⟨rfl,rfl⟩))
   go_ret;exact⟨ze HF.o.symm,HB.o _⟩
 ·rcases zed r.tm with ht|⟨ht,HT⟩|⟨ht,HT⟩
  ·have HKD:Hid (qY r=true):=by unfold Hid qY;rw[HK.o,ht];simp
   by_cases hv:yZ r.vs=true
   rotate_left
   ·have HV:Hid (yZ r.vs=false):=by simpa[Hid] using hv
    have HF:Hid (zQ r=false):=by unfold Hid zQ;rw[HV.o];simp
    clear hv;go_enter Tryz.func166,Tryz.ntmps166
    go_wp2_with (first|(go_at_call_of 153 (Value.s r.kd);refine(zf HK.o (zB r.kd _ hskd)).mono ?_;rintro e w'⟨rfl,rfl⟩)|(go_at_call 223;refine(zf HV.o (qQ _ _ r.vs _ (by exact HI.o _))).mono ?_;rintro e w'⟨rfl,rfl⟩))
    go_ret;exact⟨ze HF.o.symm,HB.o _⟩
   have HV:Hid (yZ r.vs=true):=hv;clear hv
   by_cases h16:r.px.size<=16
   ·have HF:Hid (zQ r=qw r.px):=by unfold Hid zQ;rw[HKD.o,HV.o,decide_eq_true h16];rfl
    have h16I:(r.px.size:Int)<=16:=by omega
    clear h16;go_enter Tryz.func166,Tryz.ntmps166
    go_wp2_with (first|(go_at_call_of 153 (Value.s r.kd);refine(zf HK.o (zB r.kd _ hskd)).mono ?_;rintro e w'⟨rfl,rfl⟩)|(go_at_call 223;refine(zf HV.o (qQ _ _ r.vs _ (by exact HI.o _))).mono ?_;rintro e w'⟨rfl,rfl⟩)|(go_at_call 212;refine(zaf r.px _ hspx).mono ?_;rintro e w'⟨rfl,rfl⟩))
    go_ret;exact⟨ze HF.o.symm,HB.o _⟩
   ·have HF:Hid (zQ r=false):=by unfold Hid zQ;rw[decide_eq_false h16];simp
    have h16I:decide ((r.px.size:Int)<=16)=false:=by simp;omega
    clear h16;go_enter Tryz.func166,Tryz.ntmps166
    go_wp2_with (first|(go_at_call_of 153 (Value.s r.kd);refine(zf HK.o (zB r.kd _ hskd)).mono ?_;rintro e w'⟨rfl,rfl⟩)|(go_at_call 223;refine(zf HV.o (qQ _ _ r.vs _ (by exact HI.o _))).mono ?_;rintro e w'⟨rfl,rfl⟩))
    go_ret;exact⟨ze HF.o.symm,HB.o _⟩
  ·have HKD:Hid (qY r=true):=by unfold Hid qY;rw[HK.o,HT.o];simp
   by_cases hv:yZ r.vs=true
   rotate_left
   ·have HV:Hid (yZ r.vs=false):=by simpa[Hid] using hv
    have HF:Hid (zQ r=false):=by unfold Hid zQ;rw[HV.o];simp
    clear hv;go_enter Tryz.func166,Tryz.ntmps166
    go_wp2_with (first|(go_at_call_of 153 (Value.s r.kd);refine(zf HK.o (zB r.kd _ hskd)).mono ?_;rintro e w'⟨rfl,rfl⟩)|(go_at_call_of 153 (Value.s r.tm);refine(zf HT.o (zB r.tm _ hstm)).mono ?_;rintro e w'⟨rfl,rfl⟩)|(go_at_call 223;refine(zf HV.o (qQ _ _ r.vs _ (by exact HI.o _))).mono ?_;rintro e w'⟨rfl,rfl⟩))
    go_ret;exact⟨ze HF.o.symm,HB.o _⟩
   have HV:Hid (yZ r.vs=true):=hv;clear hv
   by_cases h16:r.px.size<=16
   ·have HF:Hid (zQ r=qw r.px):=by unfold Hid zQ;rw[HKD.o,HV.o,decide_eq_true h16];rfl
    have h16I:(r.px.size:Int)<=16:=by omega
    clear h16;go_enter Tryz.func166,Tryz.ntmps166
    go_wp2_with (first|(go_at_call_of 153 (Value.s r.kd);refine(zf HK.o (zB r.kd _ hskd)).mono ?_;rintro e w'⟨rfl,rfl⟩)|(go_at_call_of 153 (Value.s r.tm);refine(zf HT.o (zB r.tm _ hstm)).mono ?_;rintro e w'⟨rfl,rfl⟩)|(go_at_call 223;refine(zf HV.o (qQ _ _ r.vs _ (by exact HI.o _))).mono ?_;rintro e w'⟨rfl,rfl⟩)|(go_at_call 212;refine(zaf r.px _ hspx).mono ?_;rintro e w'⟨rfl,rfl⟩))
    go_ret;exact⟨ze HF.o.symm,HB.o _⟩
   ·have HF:Hid (zQ r=false):=by unfold Hid zQ;rw[decide_eq_false h16];simp
    have h16I:decide ((r.px.size:Int)<=16)=false:=by simp;omega
    clear h16;go_enter Tryz.func166,Tryz.ntmps166
    go_wp2_with (first|(go_at_call_of 153 (Value.s r.kd);refine(zf HK.o (zB r.kd _ hskd)).mono ?_;rintro e w'⟨rfl,rfl⟩)|(go_at_call_of 153 (Value.s r.tm);refine(zf HT.o (zB r.tm _ hstm)).mono ?_;rintro e w'⟨rfl,rfl⟩)|(go_at_call 223;refine(zf HV.o (qQ _ _ r.vs _ (by exact HI.o _))).mono ?_;rintro e w'⟨rfl,rfl⟩))
    go_ret;exact⟨ze HF.o.symm,HB.o _⟩
  ·have HF:Hid (zQ r=false):=by unfold Hid zQ qY;rw[ht,HT.o];simp
   go_enter Tryz.func166,Tryz.ntmps166
   go_wp2_with (first|(go_at_call_of 153 (Value.s r.kd);refine(zf HK.o (zB r.kd _ hskd)).mono ?_;rintro e w'⟨rfl,rfl⟩)|(go_at_call_of 153 (Value.s r.tm);refine(zf HT.o (zB r.tm _ hstm)).mono ?_;rintro e w'⟨rfl,rfl⟩))
   go_ret;exact⟨ze HF.o.symm,HB.o _⟩
 ·have HF:Hid (zQ r=false):=by unfold Hid zQ qY;rw[hk,HK.o];simp
  go_enter Tryz.func166,Tryz.ntmps166
  go_wp2_with (first|(go_at_call_of 153 (Value.s r.kd);refine(zf HK.o (zB r.kd _ hskd)).mono ?_;rintro e w'⟨rfl,rfl⟩))
  go_ret;exact⟨ze HF.o.symm,HB.o _⟩
theorem zqW (ts:List Tm):(!(ts.any fun t=>!zeE ts t))=up (zf4 ts) ts.length:=by
 rw[Bool.eq_iff_iff,zc3];simp only[Bool.not_eq_true',List.any_eq_false]
 constructor
 ·intro h i hi
  have:=h ts[i] (List.getElem_mem hi)
  unfold zf4;rw[getD_at ts i _ hi]
  simpa using this
 ·intro h x hx
  obtain⟨k,hk,rfl⟩:=List.mem_iff_getElem.1 hx
  have:=h k hk
  unfold zf4 at this;rw[getD_at ts k _ hk]at this
  simp[this]
theorem zcX (ts:List Tm)(k:Nat)(h:k<ts.length)(b:Bool)(hb:(decide (k=0)||less (ts.getD (k-1) zbA).nm ts[k].nm)=b) :
 qH ts k=(zm ts[k].nm&&b&&(ts[k].ov.toList.isEmpty||yD ts ts[k].ov)):=by
 unfold qH;rw[getD_at ts k _ h,hb]
theorem ziP (a:OA)(cap:Nat)(ts:List Tm)(w:World)(hw:jB w a ts) :
 Calls Tryz.prog 113 #[.l a ts.length cap] w fun e w'=>e=.returned (.bool (j6 ts))/\Bw w w':=by
 have hl:=hw.len;unfold maxLen at hl
 by_cases h12:ts.length<=12
 rotate_left
 ·have HF:Hid (j6 ts=false):=by simp[Hid,j6,h12]
  clear hw;go_enter Tryz.func113,Tryz.ntmps113;go_wp2_with fail
  go_ret;exact⟨ze HF.o.symm,bAl _ _⟩
 have HG:Hid (j6 ts=(up (qH ts) ts.length&&up (zf4 ts) ts.length)):=by simp[Hid,j6,h12]
 have h12I:(ts.length:Int)<=12:=by omega
 go_enter Tryz.func113,Tryz.ntmps113;go_wp2_with fail
 have hB00:Bw w (w.alloc (.cells #[.l a ts.length cap] 42)):=bAl _ _;have hX00:=zn w #[.l a ts.length cap] 42;have hz00:w.heap.size<(w.alloc (.cells #[.l a ts.length cap] 42)).heap.size:=by simp
 obtain⟨w0,hw0⟩:=xN (w.alloc (.cells #[.l a ts.length cap] 42));rw[<- hw0]at hB00 hX00 hz00 ⊢;have HW0:Hid (jB w0 a ts):=hw.mono hB00;have HB00:Hid (Bw w w0):=hB00;clear hw0 hw hB00
 go_loopw [10] (fun i wr=>∃k:Nat,k<=ts.length/\i=.i k/\up (qH ts) k=true/\Bw w0 wr) (fun i _=>ts.length-(intOf i).toNat)
 case atStart=>exact⟨0,Nat.zero_le _,rfl,rfl,bRf _ _⟩
 case round=>
  obtain⟨k,hk,rfl,hup,hB⟩:=hrel;have hsz:=hB.size;have hX:=za hX00 hz00 hB;have hX0:wr.cell? (aD w.heap.size 0)=some (.l a ts.length cap):=hX 0;have hzr:w.heap.size<wr.heap.size:=by omega
  have HBr:Hid (Bw w wr):=HB00.o.trans (hB.mono (by omega));clear hX hX00
  by_cases hlt:k<ts.length
  ·obtain⟨b,off,rfl,hb,c0,c1⟩:=HW0.o.load hB k hlt
   have hbr:b<wr.heap.size:=by omega
   have hsm:=HW0.o.small k hlt;have hsn:=hsm.nm;have HS:Hid (qH ts k=true->up (qH ts) (k+1)=true):=fun h=>by rw[jA,hup,h];rfl
   have HN:Hid (qH ts k=false->j6 ts=false):=fun h=>by rw[HG.o,za2 hlt h];rfl
   have hltI:(k:Int)<(ts.length:Int):=by omega
   have HB:Hid (Bw w0 wr):=hB;clear hup hsm hB
   by_cases hn:zm ts[k].nm=true
   rotate_left
   ·have HNm:Hid (zm ts[k].nm=false):=by simpa[Hid] using hn
    have HF:Hid (qH ts k=false):=by unfold Hid;rw[zcX ts k hlt _ rfl,HNm.o];rfl
    clear hn;go_wp2_with fail
    go_quiet ((go_at_call 153;exact Calls.quiet_of_same (zf HNm.o (zB _ _ hsn))))
    go_wp2_with fail
    go_ret;exact⟨ze (HN.o HF.o).symm,below_drewN (HBr.o.alloc (by omega) _) _⟩
   have HNm:Hid (zm ts[k].nm=true):=hn;clear hn
   by_cases hbad:0<k/\less (ts.getD (k-1) zbA).nm ts[k].nm=false
   ·obtain⟨hkpos,hls⟩:=hbad
    have HF:Hid (qH ts k=false):=by
     unfold Hid;rw[zcX ts k hlt false (by rw[hls,decide_eq_false (show ¬k=0 by omega)];rfl)];simp
    obtain⟨m,rfl⟩:∃m,k=m+1:=⟨k-1,by omega⟩
    rw[Nat.add_sub_cancel,getD_at ts m _ (by omega)]at hls;obtain⟨b',off',e',hb',d0,d1⟩:=HW0.o.load HB.o m (by omega);simp only[Option.some.injEq,Addr.mk.injEq]at e';obtain⟨rfl,rfl,_⟩:=e';have hls':Op.bytesLess ts[m].nm.toList ts[m+1].nm.toList=false:=hls;have hmI:(m:Int)<12:=by omega
    have hm0:(0:Int)<=(m:Int):=by omega
    have hml:(m:Int)<(ts.length:Int):=by omega
    have hmw:IntKind.i64.wrap (m:Int)=m:=by rw[IntKind.wrap_i64];omega
    clear hls;go_wp2_with fail
    go_quiet ((go_at_call 153;exact Calls.quiet_of_same (zf HNm.o (zB _ _ hsn))))
    go_wp2_with fail
    go_ret;exact⟨ze (HN.o HF.o).symm,below_drewN (HBr.o.alloc (by omega) _) _⟩
   have hgd:(decide (k=0)||less (ts.getD (k-1) zbA).nm ts[k].nm)=true:=by
    by_cases hk0:k=0
    ·simp[hk0]
    ·cases hq:less (ts.getD (k-1) zbA).nm ts[k].nm
     ·exact absurd ⟨by omega,hq⟩ hbad
     ·simp
   have HA:Hid (qH ts k=(ts[k].ov.toList.isEmpty||yD ts ts[k].ov)):=by
    unfold Hid;rw[zcX ts k hlt true hgd,HNm.o];rfl
   have hgood:(decide (0<k)=false) \/ (decide (0<k)=true/\∃m,k=m+1/\∃h:m<ts.length,Op.bytesLess ts[m].nm.toList ts[k].nm.toList=true/\wr.cell? (aD b (off+m*2))=some (.s ts[m].nm)):=by
    by_cases hk0:k=0
    ·exact Or.inl (by simp;omega)
    ·refine Or.inr ⟨by simp;omega,k-1,by omega,by omega,?_,?_⟩
     ·rw[decide_eq_false hk0,getD_at ts (k-1) _ (by omega)]at hgd
      exact hgd
     ·obtain⟨b',off',e',hb',d0,d1⟩:=HW0.o.load HB.o (k-1) (by omega)
      simp only[Option.some.injEq,Addr.mk.injEq]at e';obtain⟨rfl,rfl,_⟩:=e';exact d0
   clear hbad hgd;have HBx:Hid (∀(ob:Obj) (n:Nat),Bw wr ((wr.alloc ob).drewN n)):=fun ob n=>below_drewN (bAl _ _) _
   by_cases hov:ts[k].ov.toList.isEmpty=true
   ·have HT:Hid (qH ts k=true):=by unfold Hid;rw[HA.o,hov];rfl
    rcases hgood with hg|⟨hg,m,rfl,hm,hls',d0⟩
    ·go_wp2_with fail
     go_quiet ((go_at_call 153;exact Calls.quiet_of_same (zf HNm.o (zB _ _ hsn))))
     go_wp2_with fail
     exact⟨⟨k+1,by omega,by go_num,HS.o HT.o,HB.o.trans ((HBx.o _ _).mono hsz)⟩,by simp[intOf];omega⟩
    ·have hmI:(m:Int)<12:=by omega
     have hm0:(0:Int)<=(m:Int):=by omega
     have hml:(m:Int)<(ts.length:Int):=by omega
     have hmw:IntKind.i64.wrap (m:Int)=m:=by rw[IntKind.wrap_i64];omega
     go_wp2_with fail
     go_quiet ((go_at_call 153;exact Calls.quiet_of_same (zf HNm.o (zB _ _ hsn))))
     go_wp2_with fail
     exact⟨⟨m+1+1,by omega,by go_num,HS.o HT.o,HB.o.trans ((HBx.o _ _).mono hsz)⟩,by simp[intOf];omega⟩
   ·have hov':ts[k].ov.toList.isEmpty=false:=by simpa using hov
    clear hov
    by_cases hit:yD ts ts[k].ov=true
    ·have HI:Hid (yD ts ts[k].ov=true):=hit
     have HT:Hid (qH ts k=true):=by unfold Hid;rw[HA.o,hit];simp
     clear hit
     rcases hgood with hg|⟨hg,m,rfl,hm,hls',d0⟩
     ·go_wp2_with fail
      go_quiet ((go_at_call 153;exact Calls.quiet_of_same (zf HNm.o (zB _ _ hsn))))
      go_wp2_with fail
      refine(zf HI.o (zcc _ _ ts _ _ ((HW0.o.mono HB.o).mono (HBx.o _ _)))).mono ?_;rintro e w3⟨rfl,hb3⟩;have hB3:Bw w0 w3:=(HB.o.trans ((HBx.o _ _).mono hsz)).trans (hb3.mono (by simp;omega));clear hb3;go_wp2_with fail
      exact⟨⟨k+1,by omega,by go_num,HS.o HT.o,hB3⟩,by simp[intOf];omega⟩
     ·have hmI:(m:Int)<12:=by omega
      have hm0:(0:Int)<=(m:Int):=by omega
      have hml:(m:Int)<(ts.length:Int):=by omega
      have hmw:IntKind.i64.wrap (m:Int)=m:=by rw[IntKind.wrap_i64];omega
      go_wp2_with fail
      go_quiet ((go_at_call 153;exact Calls.quiet_of_same (zf HNm.o (zB _ _ hsn))))
      go_wp2_with fail
      refine(zf HI.o (zcc _ _ ts _ _ ((HW0.o.mono HB.o).mono (HBx.o _ _)))).mono ?_;rintro e w3⟨rfl,hb3⟩;have hB3:Bw w0 w3:=(HB.o.trans ((HBx.o _ _).mono hsz)).trans (hb3.mono (by simp;omega));clear hb3;go_wp2_with fail
      exact⟨⟨m+1+1,by omega,by go_num,HS.o HT.o,hB3⟩,by simp[intOf];omega⟩
    ·have HI:Hid (yD ts ts[k].ov=false):=by simpa[Hid] using hit
     have HF:Hid (qH ts k=false):=by unfold Hid;rw[HA.o,HI.o,hov'];rfl
     clear hit
     rcases hgood with hg|⟨hg,m,rfl,hm,hls',d0⟩
     focus
      go_wp2_with fail
     rotate_left
     focus
      have hmI:(m:Int)<12:=by omega
      have hm0:(0:Int)<=(m:Int):=by omega
      have hml:(m:Int)<(ts.length:Int):=by omega
      have hmw:IntKind.i64.wrap (m:Int)=m:=by rw[IntKind.wrap_i64];omega
      go_wp2_with fail
     all_goals
      go_quiet ((go_at_call 153;exact Calls.quiet_of_same (zf HNm.o (zB _ _ hsn))))
      go_wp2_with fail
      refine(zf HI.o (zcc _ _ ts _ _ ((HW0.o.mono HB.o).mono (HBx.o _ _)))).mono ?_;rintro e w3⟨rfl,hb3⟩;have hB3:Bw w w3:=(HBr.o.trans ((HBx.o _ _).mono (by omega))).trans (hb3.mono (by simp;omega));clear hb3;go_wp2_with fail
      go_ret;exact⟨ze (HN.o HF.o).symm,hB3⟩
  ·have HF:Hid (j6 ts=!(ts.any fun t=>!zeE ts t)):=by
    have e:k=ts.length:=by omega
    subst e;rw[Hid,HG.o,hup,zqW];rfl
   have HWr:Hid (jB wr a ts):=HW0.o.mono hB;clear hup hB;go_wp2_with fail
   refine(zhd _ _ ts _ _ _ HWr.o (zqv _ _ ts _ _ HWr.o hzr hX0)).mono ?_;rintro e w3⟨rfl,hb3⟩;have hB3:Bw w w3:=HBr.o.trans (hb3.mono (by omega));clear hb3;go_wp2_with fail
   go_ret;exact⟨ze HF.o.symm,hB3⟩
theorem zdM (nm:BA)(ls ms:Int)(a:OA)(cap:Nat)(ws:List BA)(to:BA)(rl:Int)(mu fx:Bool)(df wg:BA)(a0:OA)(cap0:Nat)(ss:List Shp)(w:World)(hw:yR w a0 ss) :
 Calls Tryz.prog 296 #[.agg #[.s nm,.i 4,.i ls,.i ms,.l a ws.length cap,.s to,.i rl,.bool mu,.bool fx,.s df,.s wg],.l a0 ss.length cap0] w fun e w'=>e=.returned (.bool (zZ ss ⟨nm,4,ls,ms,ws,to,rl,mu,fx,df,wg⟩))/\Bw w w':=by
 have HF:Hid (zZ ss ⟨nm,4,ls,ms,ws,to,rl,mu,fx,df,wg⟩=(zC ss to&&(decide (1<=rl)&&decide (rl<=3))&&df.toList.isEmpty&&(decide (rl≠2)||!mu))):=by simp[zZ,Hid]
 by_cases hk:zC ss to=true
 rotate_left
 ·have hk':zC ss to=false:=by simpa using hk
  have HK:Hid (zC ss to=false):=hk';clear hk hk';go_enter Tryz.func296,Tryz.ntmps296;go_wp2_with fail
  refine(qB _ _ _ _ _ (hw.mono (bAl _ _))).mono ?_;rintro e w1⟨fa,fcap,rfl,_,hb1⟩;rw[HK.o];have hX1:=za (zn w _ _) (by simp) hb1;have hz1:w.heap.size<w1.heap.size:=by have:=hb1.size;simp at this;omega
  have hB1:Bw w w1:=(bAl _ _).trans (hb1.mono (by simp));clear hb1 hw;go_wp2_with fail
  go_ret;exact⟨ze (by rw[HF.o,HK.o];rfl),hB1.alloc (by omega) _⟩
 have HK:Hid (zC ss to=true):=hk;clear hk
 by_cases hd:df.toList.isEmpty=true
 rotate_left
 ·have hd':df.toList.isEmpty=false:=by simpa using hd
  clear hd;go_enter Tryz.func296,Tryz.ntmps296;go_wp2_with fail
  refine(qB _ _ _ _ _ (hw.mono (bAl _ _))).mono ?_;rintro e w1⟨fa,fcap,rfl,_,hb1⟩;rw[HK.o];have hX1:=za (zn w _ _) (by simp) hb1;have hz1:w.heap.size<w1.heap.size:=by have:=hb1.size;simp at this;omega
  have hB1:Bw w w1:=(bAl _ _).trans (hb1.mono (by simp));clear hb1 hw;go_wp2_with fail
  go_ret;exact⟨ze (by rw[HF.o,HK.o,hd'];simp),hB1.alloc (by omega) _⟩
 by_cases h1:rl=1
 ·subst h1
  go_enter Tryz.func296,Tryz.ntmps296;go_wp2_with fail
  refine(qB _ _ _ _ _ (hw.mono (bAl _ _))).mono ?_;rintro e w1⟨fa,fcap,rfl,_,hb1⟩;rw[HK.o];have hX1:=za (zn w _ _) (by simp) hb1;have hz1:w.heap.size<w1.heap.size:=by have:=hb1.size;simp at this;omega
  have hB1:Bw w w1:=(bAl _ _).trans (hb1.mono (by simp));clear hb1 hw;go_wp2_with fail
  go_ret;exact⟨ze (by rw[HF.o,HK.o,hd];rfl),hB1.alloc (by omega) _⟩
 by_cases h3:rl=3
 ·subst h3
  go_enter Tryz.func296,Tryz.ntmps296;go_wp2_with fail
  refine(qB _ _ _ _ _ (hw.mono (bAl _ _))).mono ?_;rintro e w1⟨fa,fcap,rfl,_,hb1⟩;rw[HK.o];have hX1:=za (zn w _ _) (by simp) hb1;have hz1:w.heap.size<w1.heap.size:=by have:=hb1.size;simp at this;omega
  have hB1:Bw w w1:=(bAl _ _).trans (hb1.mono (by simp));clear hb1 hw;go_wp2_with fail
  go_ret;exact⟨ze (by rw[HF.o,HK.o,hd];rfl),hB1.alloc (by omega) _⟩
 by_cases h2:rl=2
 ·subst h2
  clear h1 h3;go_enter Tryz.func296,Tryz.ntmps296;go_wp2_with fail
  refine(qB _ _ _ _ _ (hw.mono (bAl _ _))).mono ?_;rintro e w1⟨fa,fcap,rfl,_,hb1⟩;rw[HK.o];have hX1:=za (zn w _ _) (by simp) hb1;have hz1:w.heap.size<w1.heap.size:=by have:=hb1.size;simp at this;omega
  have hB1:Bw w w1:=(bAl _ _).trans (hb1.mono (by simp));clear hb1 hw;go_wp2_with fail
  go_ret;exact⟨ze (by rw[HF.o,HK.o,hd];rfl),hB1.alloc (by omega) _⟩
 ·have HR:Hid ((decide (1<=rl)&&decide (rl<=3))=false):=by unfold Hid;rw[Bool.eq_false_iff];simp;omega
  have e1:(rl == 1)=false:=by simpa using h1
  have e2:(rl == 2)=false:=by simpa using h2
  have e3:(rl == 3)=false:=by simpa using h3
  clear h1 h2 h3;go_enter Tryz.func296,Tryz.ntmps296;go_wp2_with fail
  refine(qB _ _ _ _ _ (hw.mono (bAl _ _))).mono ?_;rintro e w1⟨fa,fcap,rfl,_,hb1⟩;rw[HK.o];have hX1:=za (zn w _ _) (by simp) hb1;have hz1:w.heap.size<w1.heap.size:=by have:=hb1.size;simp at this;omega
  have hB1:Bw w w1:=(bAl _ _).trans (hb1.mono (by simp));clear hb1 hw;go_wp2_with fail
  go_ret;exact⟨ze (by rw[HF.o,HK.o,HR.o];simp),hB1.alloc (by omega) _⟩
def yY:Array MapEntry:=#[⟨.i 1,.func (.func 201) #[] #[],0⟩,⟨.i 2,.func (.func 202) #[] #[],1⟩,⟨.i 3,.func (.func 203) #[] #[],2⟩,⟨.i 4,.func (.func 204) #[] #[],3⟩]
theorem zdh (w:World) :
 Calls Tryz.prog 149 #[] w fun e w'=>e=.returned (.map (some w.heap.size))/\w'=w.alloc (.map yY 4):=by
 have hmm:=@run_makeMap Tryz.prog;have i1:=zbn (P:=Tryz.prog) Tryz.underlying234 Tryz.underlying3 (.i 1) (.func (.func 201) #[] #[]) rfl #[] 0 rfl;have i2:=zbn (P:=Tryz.prog) Tryz.underlying234 Tryz.underlying3 (.i 2) (.func (.func 202) #[] #[]) rfl #[⟨.i 1,.func (.func 201) #[] #[],0⟩] 1 rfl;have i3:=zbn (P:=Tryz.prog) Tryz.underlying234 Tryz.underlying3 (.i 3) (.func (.func 203) #[] #[]) rfl #[⟨.i 1,.func (.func 201) #[] #[],0⟩,⟨.i 2,.func (.func 202) #[] #[],1⟩] 2 rfl;have i4:=zbn (P:=Tryz.prog) Tryz.underlying234 Tryz.underlying3 (.i 4) (.func (.func 204) #[] #[]) rfl #[⟨.i 1,.func (.func 201) #[] #[],0⟩,⟨.i 2,.func (.func 202) #[] #[],1⟩,⟨.i 3,.func (.func 203) #[] #[],2⟩] 3 rfl;simp only[List.push_toArray,List.cons_append,List.nil_append,Nat.zero_add,Nat.reduceAdd]at i1 i2 i3 i4;go_enter Tryz.func149,Tryz.ntmps149
 go_wp2
 go_ret;exact⟨rfl,rfl⟩
theorem zd2 (nm:BA)(kd ls ms:Int)(a:OA)(n cap:Nat)(to:BA)(rl:Int)(mu fx:Bool)(df wg:BA)(w:World) :
 Calls Tryz.prog 201 #[.agg #[.s nm,.i kd,.i ls,.i ms,.l a n cap,.s to,.i rl,.bool mu,.bool fx,.s df,.s wg]] w
  fun e w'=>e=.returned (.iface 286 (.agg #[.s nm,.i kd,.i ls,.i ms,.l a n cap,.s to,.i rl,.bool mu,.bool fx,.s df,.s wg]))/\Bw w w':=by
 go_enter Tryz.func201,Tryz.ntmps201
 go_wp2
 go_ret;exact⟨rfl,bAl _ _⟩
theorem zdS (nm:BA)(kd ls ms:Int)(a:OA)(n cap:Nat)(to:BA)(rl:Int)(mu fx:Bool)(df wg:BA)(w:World) :
 Calls Tryz.prog 202 #[.agg #[.s nm,.i kd,.i ls,.i ms,.l a n cap,.s to,.i rl,.bool mu,.bool fx,.s df,.s wg]] w
  fun e w'=>e=.returned (.iface 288 (.agg #[.s nm,.i kd,.i ls,.i ms,.l a n cap,.s to,.i rl,.bool mu,.bool fx,.s df,.s wg]))/\Bw w w':=by
 go_enter Tryz.func202,Tryz.ntmps202
 go_wp2
 go_ret;exact⟨rfl,bAl _ _⟩
theorem zdR (nm:BA)(kd ls ms:Int)(a:OA)(n cap:Nat)(to:BA)(rl:Int)(mu fx:Bool)(df wg:BA)(w:World) :
 Calls Tryz.prog 203 #[.agg #[.s nm,.i kd,.i ls,.i ms,.l a n cap,.s to,.i rl,.bool mu,.bool fx,.s df,.s wg]] w
  fun e w'=>e=.returned (.iface 289 (.agg #[.s nm,.i kd,.i ls,.i ms,.l a n cap,.s to,.i rl,.bool mu,.bool fx,.s df,.s wg]))/\Bw w w':=by
 go_enter Tryz.func203,Tryz.ntmps203
 go_wp2
 go_ret;exact⟨rfl,bAl _ _⟩
theorem zd0 (nm:BA)(kd ls ms:Int)(a:OA)(n cap:Nat)(to:BA)(rl:Int)(mu fx:Bool)(df wg:BA)(w:World) :
 Calls Tryz.prog 204 #[.agg #[.s nm,.i kd,.i ls,.i ms,.l a n cap,.s to,.i rl,.bool mu,.bool fx,.s df,.s wg]] w
  fun e w'=>e=.returned (.iface 290 (.agg #[.s nm,.i kd,.i ls,.i ms,.l a n cap,.s to,.i rl,.bool mu,.bool fx,.s df,.s wg]))/\Bw w w':=by
 go_enter Tryz.func204,Tryz.ntmps204
 go_wp2
 go_ret;exact⟨rfl,bAl _ _⟩
theorem zg2 (x:Value)(w:World):(method 477 286 x "loop.example/wharfgate/impl.fits").run Tryz.prog w=.ok (284,x) w:=by kernel_rfl
theorem zgp (x:Value)(w:World):(method 477 288 x "loop.example/wharfgate/impl.fits").run Tryz.prog w=.ok (287,x) w:=by kernel_rfl
theorem zgx (x:Value)(w:World):(method 477 289 x "loop.example/wharfgate/impl.fits").run Tryz.prog w=.ok (292,x) w:=by kernel_rfl
theorem zgG (x:Value)(w:World):(method 477 290 x "loop.example/wharfgate/impl.fits").run Tryz.prog w=.ok (295,x) w:=by kernel_rfl
theorem zng (r:Nat)(nm:BA)(ls ms:Int)(a:OA)(cap:Nat)(ws:List BA)(to:BA)(rl:Int)(mu fx:Bool)(df wg:BA)(v:BA)(w:World)(hr:w.heap[r]?=some (.map yY 4))(hv:v.size<=maxLen)(hz:¬v.size=0) :
 Calls Tryz.prog 207 #[.map (some r),.agg #[.s nm,.i 1,.i ls,.i ms,.l a ws.length cap,.s to,.i rl,.bool mu,.bool fx,.s df,.s wg],.s v] w
  fun e w'=>e=.returned (.bool (fits 1 ls ms ws v))/\Bw w w':=by
 rw[zpo ls ms ws v hz];have hne:v.toList.isEmpty=false:=by rw[zy];simp[hz]
 have hlt:r<w.heap.size:=(gES hr).1
 have hlk:∀o,(Instr.lookup 234 (.map (some r)) (.i 1) true).run Tryz.prog (w.alloc o)=.ok (.tuple #[.func (.func 201) #[] #[],.bool true]) (w.alloc o):=
  fun o=>y7 Tryz.underlying234 Tryz.underlying3 (.i 1) _ rfl yY 4 0 rfl (w.alloc o) r ((Below.heap_alloc w o r hlt).trans hr)
 clear hr;have hmt:=zg2;go_enter Tryz.func207,Tryz.ntmps207
 go_wp2_with (first
  | (go_at_call 201;refine(zd2 _ _ _ _ _ _ _ _ _ _ _ _ _ _).mono ?_;rintro e w1⟨rfl,hb1⟩)
  | (go_at_call 284;refine(zfk _ _ _ _ _ _ _ _ _ _ _ _ _ hv).mono ?_;rintro e w2⟨rfl,hb2⟩))
 go_ret;exact⟨rfl,((bAl _ _).trans (hb1.mono (by simp))).trans (hb2.mono (by have:=hb1.size;simp at this;omega))⟩
theorem zoo (r:Nat)(nm:BA)(ls ms:Int)(a:OA)(cap:Nat)(ws:List BA)(to:BA)(rl:Int)(mu fx:Bool)(df wg:BA)(v:BA)(w:World)(hr:w.heap[r]?=some (.map yY 4))(hws:zJ w a ws)(hz:¬v.size=0) :
 Calls Tryz.prog 207 #[.map (some r),.agg #[.s nm,.i 2,.i ls,.i ms,.l a ws.length cap,.s to,.i rl,.bool mu,.bool fx,.s df,.s wg],.s v] w
  fun e w'=>e=.returned (.bool (fits 2 ls ms ws v))/\Bw w w':=by
 rw[zoY ls ms ws v hz];have hne:v.toList.isEmpty=false:=by rw[zy];simp[hz]
 have hlt:r<w.heap.size:=(gES hr).1
 have hlk:∀o,(Instr.lookup 234 (.map (some r)) (.i 2) true).run Tryz.prog (w.alloc o)=.ok (.tuple #[.func (.func 202) #[] #[],.bool true]) (w.alloc o):=
  fun o=>y7 Tryz.underlying234 Tryz.underlying3 (.i 2) _ rfl yY 4 1 rfl (w.alloc o) r ((Below.heap_alloc w o r hlt).trans hr)
 clear hr;have hmt:=zgp;go_enter Tryz.func207,Tryz.ntmps207
 go_wp2_with (first
  | (go_at_call 202;refine(zdS _ _ _ _ _ _ _ _ _ _ _ _ _ _).mono ?_;rintro e w1⟨rfl,hb1⟩;have hws1:=(hws.mono (bAl _ _)).mono hb1)
  | (go_at_call 287;refine(zgv _ _ _ _ _ _ _ _ _ _ _ _ _ _ _ (by exact hws1)).mono ?_;rintro e w2⟨rfl,hb2⟩))
 go_ret;exact⟨rfl,((bAl _ _).trans (hb1.mono (by simp))).trans (hb2.mono (by have:=hb1.size;simp at this;omega))⟩
theorem zn3 (r:Nat)(nm:BA)(ls ms:Int)(a:OA)(cap:Nat)(ws:List BA)(to:BA)(rl:Int)(mu fx:Bool)(df wg:BA)(v:BA)(w:World)(hr:w.heap[r]?=some (.map yY 4))(hv:v.size<=maxLen)(hz:¬v.size=0) :
 Calls Tryz.prog 207 #[.map (some r),.agg #[.s nm,.i 3,.i ls,.i ms,.l a ws.length cap,.s to,.i rl,.bool mu,.bool fx,.s df,.s wg],.s v] w
  fun e w'=>e=.returned (.bool (fits 3 ls ms ws v))/\Bw w w':=by
 rw[zmU ls ms ws v hz];have hne:v.toList.isEmpty=false:=by rw[zy];simp[hz]
 have hlt:r<w.heap.size:=(gES hr).1
 have hlk:∀o,(Instr.lookup 234 (.map (some r)) (.i 3) true).run Tryz.prog (w.alloc o)=.ok (.tuple #[.func (.func 203) #[] #[],.bool true]) (w.alloc o):=
  fun o=>y7 Tryz.underlying234 Tryz.underlying3 (.i 3) _ rfl yY 4 2 rfl (w.alloc o) r ((Below.heap_alloc w o r hlt).trans hr)
 clear hr;have hmt:=zgx;go_enter Tryz.func207,Tryz.ntmps207
 go_wp2_with (first
  | (go_at_call 203;refine(zdR _ _ _ _ _ _ _ _ _ _ _ _ _ _).mono ?_;rintro e w1⟨rfl,hb1⟩)
  | (go_at_call 292;refine(zgA _ _ _ _ _ _ _ _ _ _ _ _ _ hv).mono ?_;rintro e w2⟨rfl,hb2⟩))
 go_ret;exact⟨rfl,((bAl _ _).trans (hb1.mono (by simp))).trans (hb2.mono (by have:=hb1.size;simp at this;omega))⟩
theorem zn2 (r:Nat)(nm:BA)(ls ms:Int)(a:OA)(cap:Nat)(ws:List BA)(to:BA)(rl:Int)(mu fx:Bool)(df wg:BA)(v:BA)(w:World)(hr:w.heap[r]?=some (.map yY 4))(hv:v.size<=maxLen)(hz:¬v.size=0) :
 Calls Tryz.prog 207 #[.map (some r),.agg #[.s nm,.i 4,.i ls,.i ms,.l a ws.length cap,.s to,.i rl,.bool mu,.bool fx,.s df,.s wg],.s v] w
  fun e w'=>e=.returned (.bool (fits 4 ls ms ws v))/\Bw w w':=by
 rw[zpu ls ms ws v hz];have hne:v.toList.isEmpty=false:=by rw[zy];simp[hz]
 have hlt:r<w.heap.size:=(gES hr).1
 have hlk:∀o,(Instr.lookup 234 (.map (some r)) (.i 4) true).run Tryz.prog (w.alloc o)=.ok (.tuple #[.func (.func 204) #[] #[],.bool true]) (w.alloc o):=
  fun o=>y7 Tryz.underlying234 Tryz.underlying3 (.i 4) _ rfl yY 4 3 rfl (w.alloc o) r ((Below.heap_alloc w o r hlt).trans hr)
 clear hr;have hmt:=zgG;go_enter Tryz.func207,Tryz.ntmps207
 go_wp2_with (first
  | (go_at_call 204;refine(zd0 _ _ _ _ _ _ _ _ _ _ _ _ _ _).mono ?_;rintro e w1⟨rfl,hb1⟩)
  | (go_at_call 295;refine(zgR _ _ _ _ _ _ _ _ _ _ _ _ _ hv).mono ?_;rintro e w2⟨rfl,hb2⟩))
 go_ret;exact⟨rfl,((bAl _ _).trans (hb1.mono (by simp))).trans (hb2.mono (by have:=hb1.size;simp at this;omega))⟩
theorem zl6 (w:World):(zeroValue 287).run Tryz.prog w=.ok .nilFunc w:=by kernel_rfl
theorem zl4 (kd:Int)(h1:kd≠1)(h2:kd≠2)(h3:kd≠3)(h4:kd≠4):Instr.findNow (.int .i64) (.i kd) yY.toList 0=some none:=by
 have e1:(kd == 1)=false:=by simpa using h1
 have e2:(kd == 2)=false:=by simpa using h2
 have e3:(kd == 3)=false:=by simpa using h3
 have e4:(kd == 4)=false:=by simpa using h4
 simp[Instr.findNow,Instr.sameNow,yY,e1,e2,e3,e4]
theorem zjd (r:Nat)(nm:BA)(kd ls ms:Int)(a:OA)(cap:Nat)(ws:List BA)(to:BA)(rl:Int)(mu fx:Bool)(df wg:BA)(v:BA)(w:World)(hr:w.heap[r]?=some (.map yY 4))(h1:kd≠1)(h2:kd≠2)(h3:kd≠3)(h4:kd≠4) :
 Calls Tryz.prog 207 #[.map (some r),.agg #[.s nm,.i kd,.i ls,.i ms,.l a ws.length cap,.s to,.i rl,.bool mu,.bool fx,.s df,.s wg],.s v] w
  fun e w'=>e=.returned (.bool (fits kd ls ms ws v))/\Bw w w':=by
 rw[zgf kd ls ms ws v h1 h2 h3 h4];have hlt:r<w.heap.size:=(gES hr).1
 have hlk:∀o,(Instr.lookup 234 (.map (some r)) (.i kd) true).run Tryz.prog (w.alloc o)=.ok (.tuple #[.nilFunc,.bool false]) (w.alloc o):=
  fun o=>zcF Tryz.underlying234 Tryz.underlying3 (.i kd) _ rfl yY 4 (zl4 kd h1 h2 h3 h4) (w.alloc o) (zl6 _) r ((Below.heap_alloc w o r hlt).trans hr)
 clear hr h1 h2 h3 h4;go_enter Tryz.func207,Tryz.ntmps207;go_wp2_with fail
 go_ret;exact⟨rfl,bAl _ _⟩
theorem zgl (r:Nat)(nm:BA)(ls ms:Int)(a:OA)(cap:Nat)(ws:List BA)(to:BA)(rl:Int)(mu fx:Bool)(df wg:BA)(v:BA)(w:World)(hr:w.heap[r]?=some (.map yY 4))(hz:v.size=0) :
 Calls Tryz.prog 207 #[.map (some r),.agg #[.s nm,.i 1,.i ls,.i ms,.l a ws.length cap,.s to,.i rl,.bool mu,.bool fx,.s df,.s wg],.s v] w
  fun e w'=>e=.returned (.bool (fits 1 ls ms ws v))/\Bw w w':=by
 rw[zaA 1 ls ms ws v hz];have hne:v.toList.isEmpty=true:=by rw[zy];simp[hz]
 clear hz;have hlt:r<w.heap.size:=(gES hr).1
 have hlk:∀o,(Instr.lookup 234 (.map (some r)) (.i 1) true).run Tryz.prog (w.alloc o)=.ok (.tuple #[.func (.func 201) #[] #[],.bool true]) (w.alloc o):=
  fun o=>y7 Tryz.underlying234 Tryz.underlying3 (.i 1) _ rfl yY 4 0 rfl (w.alloc o) r ((Below.heap_alloc w o r hlt).trans hr)
 clear hr;go_enter Tryz.func207,Tryz.ntmps207;go_wp2_with fail
 go_ret;exact⟨rfl,bAl _ _⟩
theorem zgu (r:Nat)(nm:BA)(ls ms:Int)(a:OA)(cap:Nat)(ws:List BA)(to:BA)(rl:Int)(mu fx:Bool)(df wg:BA)(v:BA)(w:World)(hr:w.heap[r]?=some (.map yY 4))(hz:v.size=0) :
 Calls Tryz.prog 207 #[.map (some r),.agg #[.s nm,.i 2,.i ls,.i ms,.l a ws.length cap,.s to,.i rl,.bool mu,.bool fx,.s df,.s wg],.s v] w
  fun e w'=>e=.returned (.bool (fits 2 ls ms ws v))/\Bw w w':=by
 rw[zaA 2 ls ms ws v hz];have hne:v.toList.isEmpty=true:=by rw[zy];simp[hz]
 clear hz;have hlt:r<w.heap.size:=(gES hr).1
 have hlk:∀o,(Instr.lookup 234 (.map (some r)) (.i 2) true).run Tryz.prog (w.alloc o)=.ok (.tuple #[.func (.func 202) #[] #[],.bool true]) (w.alloc o):=
  fun o=>y7 Tryz.underlying234 Tryz.underlying3 (.i 2) _ rfl yY 4 1 rfl (w.alloc o) r ((Below.heap_alloc w o r hlt).trans hr)
 clear hr;go_enter Tryz.func207,Tryz.ntmps207;go_wp2_with fail
 go_ret;exact⟨rfl,bAl _ _⟩
theorem zgO (r:Nat)(nm:BA)(ls ms:Int)(a:OA)(cap:Nat)(ws:List BA)(to:BA)(rl:Int)(mu fx:Bool)(df wg:BA)(v:BA)(w:World)(hr:w.heap[r]?=some (.map yY 4))(hz:v.size=0) :
 Calls Tryz.prog 207 #[.map (some r),.agg #[.s nm,.i 3,.i ls,.i ms,.l a ws.length cap,.s to,.i rl,.bool mu,.bool fx,.s df,.s wg],.s v] w
  fun e w'=>e=.returned (.bool (fits 3 ls ms ws v))/\Bw w w':=by
 rw[zaA 3 ls ms ws v hz];have hne:v.toList.isEmpty=true:=by rw[zy];simp[hz]
 clear hz;have hlt:r<w.heap.size:=(gES hr).1
 have hlk:∀o,(Instr.lookup 234 (.map (some r)) (.i 3) true).run Tryz.prog (w.alloc o)=.ok (.tuple #[.func (.func 203) #[] #[],.bool true]) (w.alloc o):=
  fun o=>y7 Tryz.underlying234 Tryz.underlying3 (.i 3) _ rfl yY 4 2 rfl (w.alloc o) r ((Below.heap_alloc w o r hlt).trans hr)
 clear hr;go_enter Tryz.func207,Tryz.ntmps207;go_wp2_with fail
 go_ret;exact⟨rfl,bAl _ _⟩
theorem zgN (r:Nat)(nm:BA)(ls ms:Int)(a:OA)(cap:Nat)(ws:List BA)(to:BA)(rl:Int)(mu fx:Bool)(df wg:BA)(v:BA)(w:World)(hr:w.heap[r]?=some (.map yY 4))(hz:v.size=0) :
 Calls Tryz.prog 207 #[.map (some r),.agg #[.s nm,.i 4,.i ls,.i ms,.l a ws.length cap,.s to,.i rl,.bool mu,.bool fx,.s df,.s wg],.s v] w
  fun e w'=>e=.returned (.bool (fits 4 ls ms ws v))/\Bw w w':=by
 rw[zaA 4 ls ms ws v hz];have hne:v.toList.isEmpty=true:=by rw[zy];simp[hz]
 clear hz;have hlt:r<w.heap.size:=(gES hr).1
 have hlk:∀o,(Instr.lookup 234 (.map (some r)) (.i 4) true).run Tryz.prog (w.alloc o)=.ok (.tuple #[.func (.func 204) #[] #[],.bool true]) (w.alloc o):=
  fun o=>y7 Tryz.underlying234 Tryz.underlying3 (.i 4) _ rfl yY 4 3 rfl (w.alloc o) r ((Below.heap_alloc w o r hlt).trans hr)
 clear hr;go_enter Tryz.func207,Tryz.ntmps207;go_wp2_with fail
 go_ret;exact⟨rfl,bAl _ _⟩
theorem zfT (r:Nat)(nm:BA)(kd ls ms:Int)(a:OA)(cap:Nat)(ws:List BA)(to:BA)(rl:Int)(mu fx:Bool)(df wg:BA)(v:BA)(w:World)(hr:w.heap[r]?=some (.map yY 4))(hv:v.size<=maxLen)(hws:zJ w a ws) :
 Calls Tryz.prog 207 #[.map (some r),.agg #[.s nm,.i kd,.i ls,.i ms,.l a ws.length cap,.s to,.i rl,.bool mu,.bool fx,.s df,.s wg],.s v] w
  fun e w'=>e=.returned (.bool (fits kd ls ms ws v))/\Bw w w':=by
 by_cases h1:kd=1
 ·subst h1;by_cases hz:v.size=0
  ·exact zgl r nm ls ms a cap ws to rl mu fx df wg v w hr hz
  ·exact zng r nm ls ms a cap ws to rl mu fx df wg v w hr hv hz
 by_cases h2:kd=2
 ·subst h2;by_cases hz:v.size=0
  ·exact zgu r nm ls ms a cap ws to rl mu fx df wg v w hr hz
  ·exact zoo r nm ls ms a cap ws to rl mu fx df wg v w hr hws hz
 by_cases h3:kd=3
 ·subst h3;by_cases hz:v.size=0
  ·exact zgO r nm ls ms a cap ws to rl mu fx df wg v w hr hz
  ·exact zn3 r nm ls ms a cap ws to rl mu fx df wg v w hr hv hz
 by_cases h4:kd=4
 ·subst h4;by_cases hz:v.size=0
  ·exact zgN r nm ls ms a cap ws to rl mu fx df wg v w hr hz
  ·exact zn2 r nm ls ms a cap ws to rl mu fx df wg v w hr hv hz
 exact zjd r nm kd ls ms a cap ws to rl mu fx df wg v w hr h1 h2 h3 h4
end Go.Proofs.YthdfpinbnncghaaGreat
