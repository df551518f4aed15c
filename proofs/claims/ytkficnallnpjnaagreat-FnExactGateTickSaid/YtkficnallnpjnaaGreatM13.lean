import Derived.Test.YtkficnallnpjnaaGreatM12
set_option maxHeartbeats 2000000
namespace Go.Proofs.YtkficnallnpjnaaGreat
open Go.RowKit
theorem zn.setCell {lo:Nat}{w:World}{a:Option Addr}{ws:List ByteArray}(h:zn lo w a ws)(p:Addr)(hp:p.block<lo)(v:Value):zn lo (w.setCell p v) a ws:=by
 rcases h with⟨rfl,rfl⟩|⟨g,C,rfl,hg,hh,hc⟩
 ·exact Or.inl ⟨rfl,rfl⟩
 ·exact Or.inr ⟨g,C,rfl,hg,(Below.heap_setCell _ _ _ _ (by omega)).trans hh,hc⟩
theorem zn.low {lo lo':Nat}{w:World}{a:Option Addr}{ws:List ByteArray}(h:zn lo w a ws)(hl:lo'<=lo):zn lo' w a ws:=by
 rcases h with⟨rfl,rfl⟩|⟨g,C,rfl,hg,hh,hc⟩
 ·exact Or.inl ⟨rfl,rfl⟩
 ·exact Or.inr ⟨g,C,rfl,by omega,hh,hc⟩
theorem zdi (nm:ByteArray)(ls ms:Int)(a:Option Addr)(cap:Nat)(ws:List ByteArray)(to:ByteArray)(rl:Int)(mu fx:Bool)(df wg:ByteArray)(a0:Option Addr)(cap0:Nat)(ss:List Shp)(w:World)(hw:yT w a0 ss) :
 Calls Tryz.prog 265 #[.agg #[.string nm,.int .i64 4,.int .i64 ls,.int .i64 ms,.slice a ws.length cap,.string to,.int .i64 rl,.bool mu,.bool fx,.string df,.string wg],.slice a0 ss.length cap0] w fun e w'=>e=.returned (.bool (zW ss ⟨nm,4,ls,ms,ws,to,rl,mu,fx,df,wg⟩))/\Below w.heap.size w w':=by
 have HF:Hid (zW ss ⟨nm,4,ls,ms,ws,to,rl,mu,fx,df,wg⟩=(zJ ss to&&(decide (1<=rl)&&decide (rl<=3))&&df.toList.isEmpty&&(decide (rl≠2)||!mu))):=by simp[zW,Hid]
 by_cases hk:zJ ss to=true
 rotate_left
 ·have hk':zJ ss to=false:=by simpa using hk
  have HK:Hid (zJ ss to=false):=hk';clear hk hk';go_enter Tryz.func265,Tryz.ntmps265;go_wp2_with fail
  refine(qI _ _ _ _ _ (hw.mono (bAl _ _))).mono ?_;rintro e w1⟨fa,fcap,rfl,_,hb1⟩;rw[HK.out];have hX1:=za (zl w _ _) (by simp) hb1;have hz1:w.heap.size<w1.heap.size:=by have:=hb1.size;simp at this;omega
  have hB1:Below w.heap.size w w1:=(bAl _ _).trans (hb1.mono (by simp));clear hb1 hw;go_wp2_with fail
  go_ret;exact⟨ze (by rw[HF.out,HK.out];rfl),hB1.alloc (by omega) _⟩
 have HK:Hid (zJ ss to=true):=hk;clear hk
 by_cases hd:df.toList.isEmpty=true
 rotate_left
 ·have hd':df.toList.isEmpty=false:=by simpa using hd
  clear hd;go_enter Tryz.func265,Tryz.ntmps265;go_wp2_with fail
  refine(qI _ _ _ _ _ (hw.mono (bAl _ _))).mono ?_;rintro e w1⟨fa,fcap,rfl,_,hb1⟩;rw[HK.out];have hX1:=za (zl w _ _) (by simp) hb1;have hz1:w.heap.size<w1.heap.size:=by have:=hb1.size;simp at this;omega
  have hB1:Below w.heap.size w w1:=(bAl _ _).trans (hb1.mono (by simp));clear hb1 hw;go_wp2_with fail
  go_ret;exact⟨ze (by rw[HF.out,HK.out,hd'];simp),hB1.alloc (by omega) _⟩
 by_cases h1:rl=1
 ·subst h1
  go_enter Tryz.func265,Tryz.ntmps265;go_wp2_with fail
  refine(qI _ _ _ _ _ (hw.mono (bAl _ _))).mono ?_;rintro e w1⟨fa,fcap,rfl,_,hb1⟩;rw[HK.out];have hX1:=za (zl w _ _) (by simp) hb1;have hz1:w.heap.size<w1.heap.size:=by have:=hb1.size;simp at this;omega
  have hB1:Below w.heap.size w w1:=(bAl _ _).trans (hb1.mono (by simp));clear hb1 hw;go_wp2_with fail
  go_ret;exact⟨ze (by rw[HF.out,HK.out,hd];rfl),hB1.alloc (by omega) _⟩
 by_cases h3:rl=3
 ·subst h3
  go_enter Tryz.func265,Tryz.ntmps265;go_wp2_with fail
  refine(qI _ _ _ _ _ (hw.mono (bAl _ _))).mono ?_;rintro e w1⟨fa,fcap,rfl,_,hb1⟩;rw[HK.out];have hX1:=za (zl w _ _) (by simp) hb1;have hz1:w.heap.size<w1.heap.size:=by have:=hb1.size;simp at this;omega
  have hB1:Below w.heap.size w w1:=(bAl _ _).trans (hb1.mono (by simp));clear hb1 hw;go_wp2_with fail
  go_ret;exact⟨ze (by rw[HF.out,HK.out,hd];rfl),hB1.alloc (by omega) _⟩
 by_cases h2:rl=2
 ·subst h2
  clear h1 h3;go_enter Tryz.func265,Tryz.ntmps265;go_wp2_with fail
  refine(qI _ _ _ _ _ (hw.mono (bAl _ _))).mono ?_;rintro e w1⟨fa,fcap,rfl,_,hb1⟩;rw[HK.out];have hX1:=za (zl w _ _) (by simp) hb1;have hz1:w.heap.size<w1.heap.size:=by have:=hb1.size;simp at this;omega
  have hB1:Below w.heap.size w w1:=(bAl _ _).trans (hb1.mono (by simp));clear hb1 hw;go_wp2_with fail
  go_ret;exact⟨ze (by rw[HF.out,HK.out,hd];rfl),hB1.alloc (by omega) _⟩
 ·have HR:Hid ((decide (1<=rl)&&decide (rl<=3))=false):=by unfold Hid;rw[Bool.eq_false_iff];simp;omega
  have e1:(rl == 1)=false:=by simpa using h1
  have e2:(rl == 2)=false:=by simpa using h2
  have e3:(rl == 3)=false:=by simpa using h3
  clear h1 h2 h3;go_enter Tryz.func265,Tryz.ntmps265;go_wp2_with fail
  refine(qI _ _ _ _ _ (hw.mono (bAl _ _))).mono ?_;rintro e w1⟨fa,fcap,rfl,_,hb1⟩;rw[HK.out];have hX1:=za (zl w _ _) (by simp) hb1;have hz1:w.heap.size<w1.heap.size:=by have:=hb1.size;simp at this;omega
  have hB1:Below w.heap.size w w1:=(bAl _ _).trans (hb1.mono (by simp));clear hb1 hw;go_wp2_with fail
  go_ret;exact⟨ze (by rw[HF.out,HK.out,HR.out];simp),hB1.alloc (by omega) _⟩
structure Lw where
 ss:List Shp
 ms:List Mnd
 ts:List Tm
def Lw.cells (l:Lw)(a b c:Option Addr)(ca cb cc:Nat):Array Value:=#[.slice a l.ss.length ca,.slice b l.ms.length cb,.slice c l.ts.length cc]
structure jr (w:World)(l:Lw)(a b c:Option Addr):Prop where
 ss:yT w a l.ss
 ms:qK w b l.ms
 ts:jO w c l.ts
theorem jr.mono {w w':World}{l:Lw}{a b c:Option Addr}(h:jr w l a b c)(hb:Below w.heap.size w w'):jr w' l a b c:=⟨h.ss.mono hb,h.ms.mono hb,h.ts.mono hb⟩
def Lw.sz (l:Lw):Nat:=zaI l.ss+zbk l.ms+zc9 l.ts
structure Lw.Few (l:Lw):Prop where
 ss:l.ss.length<=1048576/\∀i (h:i<l.ss.length),l.ss[i].fs.length<=1048576/\∀j (h':j<l.ss[i].fs.length),l.ss[i].fs[j].ws.length<=1048576
 ms:l.ms.length<=1048576
 ts:l.ts.length<=1048576
theorem Lw.few {l:Lw}(h:(l.sz:Int)<=1048576):l.Few:=by
 unfold Lw.sz at h;refine⟨zqq (by omega),?_,?_⟩
 ·unfold zbk at h;omega
 ·unfold zc9 at h;omega
theorem zkr (l:Lw)(a b c:Option Addr)(ca cb cc:Nat)(left:Int)(w:World)(hl:jr w l a b c)(h0:0<=left)(h1:left<=1048576) :
 Calls Tryz.prog 4 #[.agg (l.cells a b c ca cb cc),.int .i64 left] w fun e w'=>e=.returned (.int .i64 (zL l.sz left))/\Below w.heap.size w w':=by
 have HL:Hid (jr w l a b c):=hl;clear hl;unfold Lw.cells;go_enter Tryz.func4,Tryz.ntmps4;go_wp2_with fail
 refine(zhA _ _ l.ss _ _ (HL.out.ss.mono (bAl _ _)) h0 h1).mono ?_;rintro e w1⟨rfl,hb⟩;have hX1:=za (zl w #[.slice a l.ss.length ca,.slice b l.ms.length cb,.slice c l.ts.length cc] 26) (by simp) hb;have hz1:w.heap.size<w1.heap.size:=by have:=hb.size;simp at this;omega
 have hB1:Below w.heap.size w w1:=(bAl _ _).trans (hb.mono (by simp));clear hb
 by_cases c1:(zaI l.ss:Int)<=left
 rotate_left
 ·have HF:Hid (zL l.sz left=-1):=zC (by unfold Lw.sz;omega)
  rw[zC c1];go_wp2_with fail
  go_ret;exact⟨zo HF.out.symm,hB1⟩
 rw[zM c1];go_wp2_with fail
 refine(zik _ _ l.ms _ _ (HL.out.ms.mono hB1) (by omega) (by omega)).mono ?_;rintro e w2⟨rfl,hb⟩;have hX2:=za hX1 hz1 hb;have hz2:=nLt hz1 hb.size;have hB2:=hB1.trans (hb.mono hB1.size);clear hb hX1 hz1 hB1
 by_cases c2:(zbk l.ms:Int)<=left-zaI l.ss
 rotate_left
 ·have HF:Hid (zL l.sz left=-1):=zC (by unfold Lw.sz;omega)
  rw[zC c2];go_wp2_with fail
  go_ret;exact⟨zo HF.out.symm,hB2⟩
 rw[zM c2];go_wp2_with fail
 refine(ziX _ _ l.ts _ _ (HL.out.ts.mono hB2) (by omega) (by omega)).mono ?_;rintro e w3⟨rfl,hb⟩;have hB3:=hB2.trans (hb.mono hB2.size);clear hb hX2 hz2 hB2
 by_cases c3:(zc9 l.ts:Int)<=left-zaI l.ss-zbk l.ms
 rotate_left
 ·have HF:Hid (zL l.sz left=-1):=zC (by unfold Lw.sz;omega)
  rw[zC c3];go_wp2_with fail
  go_ret;exact⟨zo HF.out.symm,hB3⟩
 have HF:Hid (zL l.sz left=left-zaI l.ss-zbk l.ms-zc9 l.ts):=by
  unfold Hid;rw[zM (by unfold Lw.sz;omega)];unfold Lw.sz;omega
 rw[zM c3];go_wp2_with fail
 go_ret;exact⟨zo HF.out.symm,hB3⟩
theorem zkT (l:Lw)(a b c a' b' c':Option Addr)(ca cb cc ca' cb' cc':Nat)(w:World)(hl:jr w l a b c)(hl':jr w l a' b' c') :
 Calls Tryz.prog 11 #[.agg (l.cells a b c ca cb cc),.agg (l.cells a' b' c' ca' cb' cc')] w fun e w'=>e=.returned (.bool true)/\Below w.heap.size w w':=by
 unfold Lw.cells;go_enter Tryz.func11,Tryz.ntmps11;go_wp2_with fail
 refine(zg4 _ _ _ _ l.ss _ (hl.ss.mono (zw _ _ _)) (hl'.ss.mono (zw _ _ _))).mono ?_;rintro e w1⟨rfl,hb⟩;have hX1:=za (za (zl w _ _) (by simp) (bAl _ _)) (by simp;omega) hb;have hY1:=za (zl (w.alloc (.cells #[.slice a l.ss.length ca,.slice b l.ms.length cb,.slice c l.ts.length cc] 47)) #[.slice a' l.ss.length ca',.slice b' l.ms.length cb',.slice c' l.ts.length cc'] 47) (by simp) hb;have hz1:w.heap.size+1<w1.heap.size:=by have:=hb.size;simp at this;omega
 have hB1:=(zw w _ _).trans (hb.mono (by simp;omega));rw[World.size_alloc]at hY1;clear hb;go_wp2_with fail
 refine(zij _ _ _ _ l.ms _ (hl.ms.mono hB1) (hl'.ms.mono hB1)).mono ?_;rintro e w2⟨rfl,hb⟩;have hX2:=za hX1 (nSl hz1) hb;have hY2:=za hY1 hz1 hb;have hz2:=nLt hz1 hb.size;have hB2:=hB1.trans (hb.mono hB1.size);clear hb hX1 hY1 hz1 hB1;go_wp2_with fail
 refine(ziD _ _ _ _ l.ts _ (hl.ts.mono hB2) (hl'.ts.mono hB2)).mono ?_;rintro e w3⟨rfl,hb⟩;have hB3:=hB2.trans (hb.mono hB2.size);clear hb hX2 hY2 hz2 hB2;go_wp2_with fail
 go_ret;exact⟨rfl,hB3⟩
theorem below3' (w:World)(o o' o'':Obj):Below w.heap.size w (((w.alloc o).alloc o').alloc o''):=((bAl _ _).alloc (by simp) _).alloc (by simp;omega) _
theorem znu (w:World)(o1 o2 o3:Obj):(((w.alloc o1).alloc o2).alloc o3).heap[w.heap.size]?=some o1/\(((w.alloc o1).alloc o2).alloc o3).heap[w.heap.size+1]?=some o2/\(((w.alloc o1).alloc o2).alloc o3).heap[w.heap.size+1+1]?=some o3:=by
 have h1:=(MapKept.heap_alloc w o1).1;have h2:=(MapKept.heap_alloc (w.alloc o1) o2).1;have h3:=(MapKept.heap_alloc ((w.alloc o1).alloc o2) o3).1;simp only[World.size_alloc]at h2 h3;exact⟨(Below.heap_alloc _ _ _ (by simp;omega)).trans ((Below.heap_alloc _ _ _ (by simp)).trans h1),(Below.heap_alloc _ _ _ (by simp)).trans h2,h3⟩
structure yM (lo:Nat)(w w':World):Prop where
 size:w.heap.size<=w'.heap.size
 same:∀b,lo<=b->b<w.heap.size->w'.heap[b]?=w.heap[b]?
theorem yM.trans {lo:Nat}{w w1 w2:World}(h:yM lo w w1)(h':yM lo w1 w2):yM lo w w2:=
 ⟨Nat.le_trans h.size h'.size,fun b h1 h2=>(h'.same b h1 (nLt h2 h.size)).trans (h.same b h1 h2)⟩
theorem yM.mono {lo lo':Nat}{w w':World}(h:yM lo w w')(hl:lo<=lo'):yM lo' w w':=⟨h.size,fun b h1 h2=>h.same b (Nat.le_trans hl h1) h2⟩
theorem yM.below {lo:Nat}{w w':World}(h:Below w.heap.size w w'):yM lo w w':=⟨h.size,fun b _ h2=>h.block b h2⟩
theorem yM.setCell {lo:Nat}{w:World}{p:Addr}(hp:p.block<lo)(v:Value):yM lo w (w.setCell p v):=
 ⟨by rw[World.size_setCell];exact Nat.le_refl _,fun b h1 _=>Below.heap_setCell _ _ _ _ (by omega)⟩
theorem qF.above {lo:Nat}{w w':World}{bf:Nat}{fs:List Fld}{k:Nat}(h:qF lo w bf fs k)(ha:yM lo w w'):qF lo w' bf fs k:=by
 obtain⟨C,hC,hsz,hr⟩:=h.rows;refine⟨h.low,C,(ha.same _ h.low (gES hC).1).trans hC,hsz,fun i hi hk=>?_⟩;obtain⟨bk,h1,h2,h3,h4⟩:=hr i hi hk;exact⟨bk,h1,h2,(ha.same _ h1 (gES h3).1).trans h3,h4⟩
theorem jN.above {lo:Nat}{w w':World}{bo:Nat}{ss:List Shp}{k:Nat}(h:jN lo w bo ss k)(ha:yM lo w w'):jN lo w' bo ss k:=by
 obtain⟨C,hC,hsz,hr⟩:=h.rows;refine⟨h.low,C,(ha.same _ h.low (gES hC).1).trans hC,hsz,fun i hi hk=>?_⟩;obtain⟨bf,h1,h2,h3,h4⟩:=hr i hi hk;exact⟨bf,h1,h2,h3.above (ha.mono (Nat.le_succ_of_le h.low)),h4⟩
theorem jg.above {lo:Nat}{w w':World}{bo:Nat}{ms:List Mnd}{k:Nat}(h:jg lo w bo ms k)(ha:yM lo w w'):jg lo w' bo ms k:=by
 obtain⟨C,hC,hr⟩:=h.rows;exact⟨h.low,C,(ha.same _ h.low (gES hC).1).trans hC,hr⟩
theorem zaf.above {ty:TypeId}{lo:Nat}{w w':World}{bo:Nat}{ts:List Tm}{k:Nat}(h:zaf ty lo w bo ts k)(ha:yM lo w w'):zaf ty lo w' bo ts k:=by
 obtain⟨C,hC,hr⟩:=h.rows;exact⟨h.low,C,(ha.same _ h.low (gES hC).1).trans hC,hr⟩
structure znm (lo:Nat)(w:World)(l:Lw)(a b c:Nat):Prop where
 ss:jN lo w a l.ss l.ss.length
 ms:jg lo w b l.ms l.ms.length
 ts:zaf 132 lo w c l.ts l.ts.length
structure Lw.Small (l:Lw):Prop where
 ss:zdw l.ss
 ls:l.ss.length<=maxLen
 ms:∀i (h:i<l.ms.length),l.ms[i].Small
 lm:l.ms.length<=maxLen
 ts:∀i (h:i<l.ts.length),l.ts[i].Small
 lt:l.ts.length<=maxLen
theorem jr.small {w:World}{l:Lw}{a b c:Option Addr}(h:jr w l a b c):l.Small:=⟨h.ss.smalls,h.ss.len,h.ms.small,h.ms.len,h.ts.small,h.ts.len⟩
theorem znm.at {lo:Nat}{w:World}{l:Lw}{a b c:Nat}(h:znm lo w l a b c)(hs:l.Small):jr w l (some ⟨a,0,none⟩) (some ⟨b,0,none⟩) (some ⟨c,0,none⟩):=⟨h.ss.at hs.ss hs.ls,h.ms.at hs.ms hs.lm,h.ts.at hs.ts hs.lt⟩
def yN:Array MapEntry:=#[⟨.int .i64 1,.func (.func 186) #[] #[],0⟩,⟨.int .i64 2,.func (.func 187) #[] #[],1⟩,⟨.int .i64 3,.func (.func 188) #[] #[],2⟩,⟨.int .i64 4,.func (.func 189) #[] #[],3⟩]
theorem zcT (w:World) :
 Calls Tryz.prog 150 #[] w fun e w'=>e=.returned (.map (some w.heap.size))/\w'=w.alloc (.map yN 4):=by
 have hmm:=@run_makeMap Tryz.prog;have i1:=zba (P:=Tryz.prog) Tryz.underlying201 Tryz.underlying3 (.int .i64 1) (.func (.func 186) #[] #[]) rfl #[] 0 rfl;have i2:=zba (P:=Tryz.prog) Tryz.underlying201 Tryz.underlying3 (.int .i64 2) (.func (.func 187) #[] #[]) rfl #[⟨.int .i64 1,.func (.func 186) #[] #[],0⟩] 1 rfl;have i3:=zba (P:=Tryz.prog) Tryz.underlying201 Tryz.underlying3 (.int .i64 3) (.func (.func 188) #[] #[]) rfl #[⟨.int .i64 1,.func (.func 186) #[] #[],0⟩,⟨.int .i64 2,.func (.func 187) #[] #[],1⟩] 2 rfl;have i4:=zba (P:=Tryz.prog) Tryz.underlying201 Tryz.underlying3 (.int .i64 4) (.func (.func 189) #[] #[]) rfl #[⟨.int .i64 1,.func (.func 186) #[] #[],0⟩,⟨.int .i64 2,.func (.func 187) #[] #[],1⟩,⟨.int .i64 3,.func (.func 188) #[] #[],2⟩] 3 rfl;simp only[List.push_toArray,List.cons_append,List.nil_append,Nat.zero_add,Nat.reduceAdd]at i1 i2 i3 i4;go_enter Tryz.func150,Tryz.ntmps150
 go_wp2
 go_ret;exact⟨rfl,rfl⟩
theorem zdu (nm:ByteArray)(kd ls ms:Int)(a:Option Addr)(n cap:Nat)(to:ByteArray)(rl:Int)(mu fx:Bool)(df wg:ByteArray)(w:World) :
 Calls Tryz.prog 186 #[.agg #[.string nm,.int .i64 kd,.int .i64 ls,.int .i64 ms,.slice a n cap,.string to,.int .i64 rl,.bool mu,.bool fx,.string df,.string wg]] w
  fun e w'=>e=.returned (.iface 238 (.agg #[.string nm,.int .i64 kd,.int .i64 ls,.int .i64 ms,.slice a n cap,.string to,.int .i64 rl,.bool mu,.bool fx,.string df,.string wg]))/\Below w.heap.size w w':=by
 go_enter Tryz.func186,Tryz.ntmps186
 go_wp2
 go_ret;exact⟨rfl,bAl _ _⟩
theorem zdD (nm:ByteArray)(kd ls ms:Int)(a:Option Addr)(n cap:Nat)(to:ByteArray)(rl:Int)(mu fx:Bool)(df wg:ByteArray)(w:World) :
 Calls Tryz.prog 187 #[.agg #[.string nm,.int .i64 kd,.int .i64 ls,.int .i64 ms,.slice a n cap,.string to,.int .i64 rl,.bool mu,.bool fx,.string df,.string wg]] w
  fun e w'=>e=.returned (.iface 240 (.agg #[.string nm,.int .i64 kd,.int .i64 ls,.int .i64 ms,.slice a n cap,.string to,.int .i64 rl,.bool mu,.bool fx,.string df,.string wg]))/\Below w.heap.size w w':=by
 go_enter Tryz.func187,Tryz.ntmps187
 go_wp2
 go_ret;exact⟨rfl,bAl _ _⟩
theorem zdI (nm:ByteArray)(kd ls ms:Int)(a:Option Addr)(n cap:Nat)(to:ByteArray)(rl:Int)(mu fx:Bool)(df wg:ByteArray)(w:World) :
 Calls Tryz.prog 188 #[.agg #[.string nm,.int .i64 kd,.int .i64 ls,.int .i64 ms,.slice a n cap,.string to,.int .i64 rl,.bool mu,.bool fx,.string df,.string wg]] w
  fun e w'=>e=.returned (.iface 241 (.agg #[.string nm,.int .i64 kd,.int .i64 ls,.int .i64 ms,.slice a n cap,.string to,.int .i64 rl,.bool mu,.bool fx,.string df,.string wg]))/\Below w.heap.size w w':=by
 go_enter Tryz.func188,Tryz.ntmps188
 go_wp2
 go_ret;exact⟨rfl,bAl _ _⟩
theorem zdJ (nm:ByteArray)(kd ls ms:Int)(a:Option Addr)(n cap:Nat)(to:ByteArray)(rl:Int)(mu fx:Bool)(df wg:ByteArray)(w:World) :
 Calls Tryz.prog 189 #[.agg #[.string nm,.int .i64 kd,.int .i64 ls,.int .i64 ms,.slice a n cap,.string to,.int .i64 rl,.bool mu,.bool fx,.string df,.string wg]] w
  fun e w'=>e=.returned (.iface 242 (.agg #[.string nm,.int .i64 kd,.int .i64 ls,.int .i64 ms,.slice a n cap,.string to,.int .i64 rl,.bool mu,.bool fx,.string df,.string wg]))/\Below w.heap.size w w':=by
 go_enter Tryz.func189,Tryz.ntmps189
 go_wp2
 go_ret;exact⟨rfl,bAl _ _⟩
theorem zfZ (x:Value)(w:World):(method 414 238 x "loop.example/wharfgate/impl.fits").run Tryz.prog w=.ok (253,x) w:=by kernel_rfl
theorem zgz (x:Value)(w:World):(method 414 240 x "loop.example/wharfgate/impl.fits").run Tryz.prog w=.ok (256,x) w:=by kernel_rfl
theorem zgc (x:Value)(w:World):(method 414 241 x "loop.example/wharfgate/impl.fits").run Tryz.prog w=.ok (261,x) w:=by kernel_rfl
theorem zgs (x:Value)(w:World):(method 414 242 x "loop.example/wharfgate/impl.fits").run Tryz.prog w=.ok (264,x) w:=by kernel_rfl
theorem zm5 (r:Nat)(nm:ByteArray)(ls ms:Int)(a:Option Addr)(cap:Nat)(ws:List ByteArray)(to:ByteArray)(rl:Int)(mu fx:Bool)(df wg:ByteArray)(v:ByteArray)(w:World)(hr:w.heap[r]?=some (.map yN 4))(hv:v.size<=maxLen)(hz:¬v.size=0) :
 Calls Tryz.prog 192 #[.map (some r),.agg #[.string nm,.int .i64 1,.int .i64 ls,.int .i64 ms,.slice a ws.length cap,.string to,.int .i64 rl,.bool mu,.bool fx,.string df,.string wg],.string v] w
  fun e w'=>e=.returned (.bool (fits 1 ls ms ws v))/\Below w.heap.size w w':=by
 rw[znY ls ms ws v hz];have hne:v.toList.isEmpty=false:=by rw[zx];simp[hz]
 have hlt:r<w.heap.size:=(gES hr).1
 have hlk:∀o,(Instr.lookup 201 (.map (some r)) (.int .i64 1) true).run Tryz.prog (w.alloc o)=.ok (.tuple #[.func (.func 186) #[] #[],.bool true]) (w.alloc o):=
  fun o=>yQ Tryz.underlying201 Tryz.underlying3 (.int .i64 1) _ rfl yN 4 0 rfl (w.alloc o) r ((Below.heap_alloc w o r hlt).trans hr)
 clear hr;have hmt:=zfZ;go_enter Tryz.func192,Tryz.ntmps192
 go_wp2_with (first
  | (go_at_call 186;refine(zdu _ _ _ _ _ _ _ _ _ _ _ _ _ _).mono ?_;rintro e w1⟨rfl,hb1⟩)
  | (go_at_call 253;refine(zeR _ _ _ _ _ _ _ _ _ _ _ _ _ hv).mono ?_;rintro e w2⟨rfl,hb2⟩))
 go_ret;exact⟨rfl,((bAl _ _).trans (hb1.mono (by simp))).trans (hb2.mono (by have:=hb1.size;simp at this;omega))⟩
theorem zna (r:Nat)(nm:ByteArray)(ls ms:Int)(a:Option Addr)(cap:Nat)(ws:List ByteArray)(to:ByteArray)(rl:Int)(mu fx:Bool)(df wg:ByteArray)(v:ByteArray)(w:World)(hr:w.heap[r]?=some (.map yN 4))(hws:zF w a ws)(hz:¬v.size=0) :
 Calls Tryz.prog 192 #[.map (some r),.agg #[.string nm,.int .i64 2,.int .i64 ls,.int .i64 ms,.slice a ws.length cap,.string to,.int .i64 rl,.bool mu,.bool fx,.string df,.string wg],.string v] w
  fun e w'=>e=.returned (.bool (fits 2 ls ms ws v))/\Below w.heap.size w w':=by
 rw[zoE ls ms ws v hz];have hne:v.toList.isEmpty=false:=by rw[zx];simp[hz]
 have hlt:r<w.heap.size:=(gES hr).1
 have hlk:∀o,(Instr.lookup 201 (.map (some r)) (.int .i64 2) true).run Tryz.prog (w.alloc o)=.ok (.tuple #[.func (.func 187) #[] #[],.bool true]) (w.alloc o):=
  fun o=>yQ Tryz.underlying201 Tryz.underlying3 (.int .i64 2) _ rfl yN 4 1 rfl (w.alloc o) r ((Below.heap_alloc w o r hlt).trans hr)
 clear hr;have hmt:=zgz;go_enter Tryz.func192,Tryz.ntmps192
 go_wp2_with (first
  | (go_at_call 187;refine(zdD _ _ _ _ _ _ _ _ _ _ _ _ _ _).mono ?_;rintro e w1⟨rfl,hb1⟩;have hws1:=(hws.mono (bAl _ _)).mono hb1)
  | (go_at_call 256;refine(zgY _ _ _ _ _ _ _ _ _ _ _ _ _ _ _ (by exact hws1)).mono ?_;rintro e w2⟨rfl,hb2⟩))
 go_ret;exact⟨rfl,((bAl _ _).trans (hb1.mono (by simp))).trans (hb2.mono (by have:=hb1.size;simp at this;omega))⟩
theorem zmW (r:Nat)(nm:ByteArray)(ls ms:Int)(a:Option Addr)(cap:Nat)(ws:List ByteArray)(to:ByteArray)(rl:Int)(mu fx:Bool)(df wg:ByteArray)(v:ByteArray)(w:World)(hr:w.heap[r]?=some (.map yN 4))(hv:v.size<=maxLen)(hz:¬v.size=0) :
 Calls Tryz.prog 192 #[.map (some r),.agg #[.string nm,.int .i64 3,.int .i64 ls,.int .i64 ms,.slice a ws.length cap,.string to,.int .i64 rl,.bool mu,.bool fx,.string df,.string wg],.string v] w
  fun e w'=>e=.returned (.bool (fits 3 ls ms ws v))/\Below w.heap.size w w':=by
 rw[zl7 ls ms ws v hz];have hne:v.toList.isEmpty=false:=by rw[zx];simp[hz]
 have hlt:r<w.heap.size:=(gES hr).1
 have hlk:∀o,(Instr.lookup 201 (.map (some r)) (.int .i64 3) true).run Tryz.prog (w.alloc o)=.ok (.tuple #[.func (.func 188) #[] #[],.bool true]) (w.alloc o):=
  fun o=>yQ Tryz.underlying201 Tryz.underlying3 (.int .i64 3) _ rfl yN 4 2 rfl (w.alloc o) r ((Below.heap_alloc w o r hlt).trans hr)
 clear hr;have hmt:=zgc;go_enter Tryz.func192,Tryz.ntmps192
 go_wp2_with (first
  | (go_at_call 188;refine(zdI _ _ _ _ _ _ _ _ _ _ _ _ _ _).mono ?_;rintro e w1⟨rfl,hb1⟩)
  | (go_at_call 261;refine(zgl _ _ _ _ _ _ _ _ _ _ _ _ _ hv).mono ?_;rintro e w2⟨rfl,hb2⟩))
 go_ret;exact⟨rfl,((bAl _ _).trans (hb1.mono (by simp))).trans (hb2.mono (by have:=hb1.size;simp at this;omega))⟩
theorem zm7 (r:Nat)(nm:ByteArray)(ls ms:Int)(a:Option Addr)(cap:Nat)(ws:List ByteArray)(to:ByteArray)(rl:Int)(mu fx:Bool)(df wg:ByteArray)(v:ByteArray)(w:World)(hr:w.heap[r]?=some (.map yN 4))(hv:v.size<=maxLen)(hz:¬v.size=0) :
 Calls Tryz.prog 192 #[.map (some r),.agg #[.string nm,.int .i64 4,.int .i64 ls,.int .i64 ms,.slice a ws.length cap,.string to,.int .i64 rl,.bool mu,.bool fx,.string df,.string wg],.string v] w
  fun e w'=>e=.returned (.bool (fits 4 ls ms ws v))/\Below w.heap.size w w':=by
 rw[zop ls ms ws v hz];have hne:v.toList.isEmpty=false:=by rw[zx];simp[hz]
 have hlt:r<w.heap.size:=(gES hr).1
 have hlk:∀o,(Instr.lookup 201 (.map (some r)) (.int .i64 4) true).run Tryz.prog (w.alloc o)=.ok (.tuple #[.func (.func 189) #[] #[],.bool true]) (w.alloc o):=
  fun o=>yQ Tryz.underlying201 Tryz.underlying3 (.int .i64 4) _ rfl yN 4 3 rfl (w.alloc o) r ((Below.heap_alloc w o r hlt).trans hr)
 clear hr;have hmt:=zgs;go_enter Tryz.func192,Tryz.ntmps192
 go_wp2_with (first
  | (go_at_call 189;refine(zdJ _ _ _ _ _ _ _ _ _ _ _ _ _ _).mono ?_;rintro e w1⟨rfl,hb1⟩)
  | (go_at_call 264;refine(zgD _ _ _ _ _ _ _ _ _ _ _ _ _ hv).mono ?_;rintro e w2⟨rfl,hb2⟩))
 go_ret;exact⟨rfl,((bAl _ _).trans (hb1.mono (by simp))).trans (hb2.mono (by have:=hb1.size;simp at this;omega))⟩
theorem zla (w:World):(zeroValue 239).run Tryz.prog w=.ok .nilFunc w:=by kernel_rfl
theorem zlm (kd:Int)(h1:kd≠1)(h2:kd≠2)(h3:kd≠3)(h4:kd≠4):Instr.findNow (.int .i64) (.int .i64 kd) yN.toList 0=some none:=by
 have e1:(kd == 1)=false:=by simpa using h1
 have e2:(kd == 2)=false:=by simpa using h2
 have e3:(kd == 3)=false:=by simpa using h3
 have e4:(kd == 4)=false:=by simpa using h4
 simp[Instr.findNow,Instr.sameNow,yN,e1,e2,e3,e4]
theorem ziU (r:Nat)(nm:ByteArray)(kd ls ms:Int)(a:Option Addr)(cap:Nat)(ws:List ByteArray)(to:ByteArray)(rl:Int)(mu fx:Bool)(df wg:ByteArray)(v:ByteArray)(w:World)(hr:w.heap[r]?=some (.map yN 4))(h1:kd≠1)(h2:kd≠2)(h3:kd≠3)(h4:kd≠4) :
 Calls Tryz.prog 192 #[.map (some r),.agg #[.string nm,.int .i64 kd,.int .i64 ls,.int .i64 ms,.slice a ws.length cap,.string to,.int .i64 rl,.bool mu,.bool fx,.string df,.string wg],.string v] w
  fun e w'=>e=.returned (.bool (fits kd ls ms ws v))/\Below w.heap.size w w':=by
 rw[zfN kd ls ms ws v h1 h2 h3 h4];have hlt:r<w.heap.size:=(gES hr).1
 have hlk:∀o,(Instr.lookup 201 (.map (some r)) (.int .i64 kd) true).run Tryz.prog (w.alloc o)=.ok (.tuple #[.nilFunc,.bool false]) (w.alloc o):=
  fun o=>zci Tryz.underlying201 Tryz.underlying3 (.int .i64 kd) _ rfl yN 4 (zlm kd h1 h2 h3 h4) (w.alloc o) (zla _) r ((Below.heap_alloc w o r hlt).trans hr)
 clear hr h1 h2 h3 h4;go_enter Tryz.func192,Tryz.ntmps192;go_wp2_with fail
 go_ret;exact⟨rfl,bAl _ _⟩
theorem zgC (r:Nat)(nm:ByteArray)(ls ms:Int)(a:Option Addr)(cap:Nat)(ws:List ByteArray)(to:ByteArray)(rl:Int)(mu fx:Bool)(df wg:ByteArray)(v:ByteArray)(w:World)(hr:w.heap[r]?=some (.map yN 4))(hz:v.size=0) :
 Calls Tryz.prog 192 #[.map (some r),.agg #[.string nm,.int .i64 1,.int .i64 ls,.int .i64 ms,.slice a ws.length cap,.string to,.int .i64 rl,.bool mu,.bool fx,.string df,.string wg],.string v] w
  fun e w'=>e=.returned (.bool (fits 1 ls ms ws v))/\Below w.heap.size w w':=by
 rw[zal 1 ls ms ws v hz];have hne:v.toList.isEmpty=true:=by rw[zx];simp[hz]
 clear hz;have hlt:r<w.heap.size:=(gES hr).1
 have hlk:∀o,(Instr.lookup 201 (.map (some r)) (.int .i64 1) true).run Tryz.prog (w.alloc o)=.ok (.tuple #[.func (.func 186) #[] #[],.bool true]) (w.alloc o):=
  fun o=>yQ Tryz.underlying201 Tryz.underlying3 (.int .i64 1) _ rfl yN 4 0 rfl (w.alloc o) r ((Below.heap_alloc w o r hlt).trans hr)
 clear hr;go_enter Tryz.func192,Tryz.ntmps192;go_wp2_with fail
 go_ret;exact⟨rfl,bAl _ _⟩
theorem zf1 (r:Nat)(nm:ByteArray)(ls ms:Int)(a:Option Addr)(cap:Nat)(ws:List ByteArray)(to:ByteArray)(rl:Int)(mu fx:Bool)(df wg:ByteArray)(v:ByteArray)(w:World)(hr:w.heap[r]?=some (.map yN 4))(hz:v.size=0) :
 Calls Tryz.prog 192 #[.map (some r),.agg #[.string nm,.int .i64 2,.int .i64 ls,.int .i64 ms,.slice a ws.length cap,.string to,.int .i64 rl,.bool mu,.bool fx,.string df,.string wg],.string v] w
  fun e w'=>e=.returned (.bool (fits 2 ls ms ws v))/\Below w.heap.size w w':=by
 rw[zal 2 ls ms ws v hz];have hne:v.toList.isEmpty=true:=by rw[zx];simp[hz]
 clear hz;have hlt:r<w.heap.size:=(gES hr).1
 have hlk:∀o,(Instr.lookup 201 (.map (some r)) (.int .i64 2) true).run Tryz.prog (w.alloc o)=.ok (.tuple #[.func (.func 187) #[] #[],.bool true]) (w.alloc o):=
  fun o=>yQ Tryz.underlying201 Tryz.underlying3 (.int .i64 2) _ rfl yN 4 1 rfl (w.alloc o) r ((Below.heap_alloc w o r hlt).trans hr)
 clear hr;go_enter Tryz.func192,Tryz.ntmps192;go_wp2_with fail
 go_ret;exact⟨rfl,bAl _ _⟩
theorem zgg (r:Nat)(nm:ByteArray)(ls ms:Int)(a:Option Addr)(cap:Nat)(ws:List ByteArray)(to:ByteArray)(rl:Int)(mu fx:Bool)(df wg:ByteArray)(v:ByteArray)(w:World)(hr:w.heap[r]?=some (.map yN 4))(hz:v.size=0) :
 Calls Tryz.prog 192 #[.map (some r),.agg #[.string nm,.int .i64 3,.int .i64 ls,.int .i64 ms,.slice a ws.length cap,.string to,.int .i64 rl,.bool mu,.bool fx,.string df,.string wg],.string v] w
  fun e w'=>e=.returned (.bool (fits 3 ls ms ws v))/\Below w.heap.size w w':=by
 rw[zal 3 ls ms ws v hz];have hne:v.toList.isEmpty=true:=by rw[zx];simp[hz]
 clear hz;have hlt:r<w.heap.size:=(gES hr).1
 have hlk:∀o,(Instr.lookup 201 (.map (some r)) (.int .i64 3) true).run Tryz.prog (w.alloc o)=.ok (.tuple #[.func (.func 188) #[] #[],.bool true]) (w.alloc o):=
  fun o=>yQ Tryz.underlying201 Tryz.underlying3 (.int .i64 3) _ rfl yN 4 2 rfl (w.alloc o) r ((Below.heap_alloc w o r hlt).trans hr)
 clear hr;go_enter Tryz.func192,Tryz.ntmps192;go_wp2_with fail
 go_ret;exact⟨rfl,bAl _ _⟩
theorem zgm (r:Nat)(nm:ByteArray)(ls ms:Int)(a:Option Addr)(cap:Nat)(ws:List ByteArray)(to:ByteArray)(rl:Int)(mu fx:Bool)(df wg:ByteArray)(v:ByteArray)(w:World)(hr:w.heap[r]?=some (.map yN 4))(hz:v.size=0) :
 Calls Tryz.prog 192 #[.map (some r),.agg #[.string nm,.int .i64 4,.int .i64 ls,.int .i64 ms,.slice a ws.length cap,.string to,.int .i64 rl,.bool mu,.bool fx,.string df,.string wg],.string v] w
  fun e w'=>e=.returned (.bool (fits 4 ls ms ws v))/\Below w.heap.size w w':=by
 rw[zal 4 ls ms ws v hz];have hne:v.toList.isEmpty=true:=by rw[zx];simp[hz]
 clear hz;have hlt:r<w.heap.size:=(gES hr).1
 have hlk:∀o,(Instr.lookup 201 (.map (some r)) (.int .i64 4) true).run Tryz.prog (w.alloc o)=.ok (.tuple #[.func (.func 189) #[] #[],.bool true]) (w.alloc o):=
  fun o=>yQ Tryz.underlying201 Tryz.underlying3 (.int .i64 4) _ rfl yN 4 3 rfl (w.alloc o) r ((Below.heap_alloc w o r hlt).trans hr)
 clear hr;go_enter Tryz.func192,Tryz.ntmps192;go_wp2_with fail
 go_ret;exact⟨rfl,bAl _ _⟩
theorem zfF (r:Nat)(nm:ByteArray)(kd ls ms:Int)(a:Option Addr)(cap:Nat)(ws:List ByteArray)(to:ByteArray)(rl:Int)(mu fx:Bool)(df wg:ByteArray)(v:ByteArray)(w:World)(hr:w.heap[r]?=some (.map yN 4))(hv:v.size<=maxLen)(hws:zF w a ws) :
 Calls Tryz.prog 192 #[.map (some r),.agg #[.string nm,.int .i64 kd,.int .i64 ls,.int .i64 ms,.slice a ws.length cap,.string to,.int .i64 rl,.bool mu,.bool fx,.string df,.string wg],.string v] w
  fun e w'=>e=.returned (.bool (fits kd ls ms ws v))/\Below w.heap.size w w':=by
 by_cases h1:kd=1
 ·subst h1;by_cases hz:v.size=0
  ·exact zgC r nm ls ms a cap ws to rl mu fx df wg v w hr hz
  ·exact zm5 r nm ls ms a cap ws to rl mu fx df wg v w hr hv hz
 by_cases h2:kd=2
 ·subst h2;by_cases hz:v.size=0
  ·exact zf1 r nm ls ms a cap ws to rl mu fx df wg v w hr hz
  ·exact zna r nm ls ms a cap ws to rl mu fx df wg v w hr hws hz
 by_cases h3:kd=3
 ·subst h3;by_cases hz:v.size=0
  ·exact zgg r nm ls ms a cap ws to rl mu fx df wg v w hr hz
  ·exact zmW r nm ls ms a cap ws to rl mu fx df wg v w hr hv hz
 by_cases h4:kd=4
 ·subst h4;by_cases hz:v.size=0
  ·exact zgm r nm ls ms a cap ws to rl mu fx df wg v w hr hz
  ·exact zm7 r nm ls ms a cap ws to rl mu fx df wg v w hr hv hz
 exact ziU r nm kd ls ms a cap ws to rl mu fx df wg v w hr h1 h2 h3 h4
theorem znP (nm:ByteArray)(ls ms:Int)(a:Option Addr)(cap:Nat)(ws:List ByteArray)(to:ByteArray)(rl:Int)(mu fx:Bool)(df wg:ByteArray)(v:ByteArray)(w:World)(hv:v.size<=maxLen) :
 Calls Tryz.prog 139 #[.agg #[.string nm,.int .i64 1,.int .i64 ls,.int .i64 ms,.slice a ws.length cap,.string to,.int .i64 rl,.bool mu,.bool fx,.string df,.string wg],.string v] w
  fun e w'=>e=.returned (.bool (fits 1 ls ms ws v))/\Below w.heap.size w w':=by
 rw[zqF]
 by_cases hd:zak v=true
 ·have HE:Hid (qR v=zgN v):=by unfold qR Hid;rw[hd];rfl
  have HF:Hid (zaA ls ms v=(decide (ls<=qR v)&&decide (qR v<=ms))):=by rw[HE.out];exact znD _ _ _ hd
  have h0:0<=qR v:=by rw[HE.out];exact zdd v hd
  go_enter Tryz.func139,Tryz.ntmps139
  go_wp2_with (first
   | (go_at_call 183;refine(zea _ _ hv).mono ?_;rintro e w'⟨rfl,rfl⟩)
   | (go_at_call 61;refine(yx _ _ _ _).mono ?_;rintro e w'⟨rfl,rfl⟩))
  go_ret;exact⟨ze HF.out.symm,bAl _ _⟩
 ·have hd':zak v=false:=by simpa using hd
  have HF:Hid (zaA ls ms v=false):=zjX _ _ _ hd';have h0:qR v<0:=by unfold qR;rw[hd'];simp
  go_enter Tryz.func139,Tryz.ntmps139
  go_wp2_with (first
   | (go_at_call 183;refine(zea _ _ hv).mono ?_;rintro e w'⟨rfl,rfl⟩)
   | (go_at_call 61;refine(yx _ _ _ _).mono ?_;rintro e w'⟨rfl,rfl⟩))
  go_ret;exact⟨ze HF.out.symm,bAl _ _⟩
theorem zoH (nm:ByteArray)(ls ms:Int)(a:Option Addr)(cap:Nat)(ws:List ByteArray)(to:ByteArray)(rl:Int)(mu fx:Bool)(df wg:ByteArray)(v:ByteArray)(w:World)(hws:zF w a ws) :
 Calls Tryz.prog 139 #[.agg #[.string nm,.int .i64 2,.int .i64 ls,.int .i64 ms,.slice a ws.length cap,.string to,.int .i64 rl,.bool mu,.bool fx,.string df,.string wg],.string v] w
  fun e w'=>e=.returned (.bool (fits 2 ls ms ws v))/\Below w.heap.size w w':=by
 by_cases hz:v.size=0
 ·rw[zal _ _ _ _ _ hz]
  have hne:v.toList.isEmpty=true:=by rw[zx];simp[hz]
  clear hz hws;go_enter Tryz.func139,Tryz.ntmps139;go_wp2_with fail
  go_ret;exact⟨rfl,bAl _ _⟩
 ·rw[zoE _ _ _ _ hz]
  have hne:v.toList.isEmpty=false:=by rw[zx];simp[hz]
  go_enter Tryz.func139,Tryz.ntmps139
  go_wp2_with (go_at_call 181;refine(zcC _ _ _ _ _ (by exact hws.mono (bAl _ _))).mono ?_;rintro e w'⟨rfl,rfl⟩)
  go_ret;exact⟨rfl,bAl _ _⟩
theorem zoh (nm:ByteArray)(ls ms:Int)(a:Option Addr)(cap:Nat)(ws:List ByteArray)(to:ByteArray)(rl:Int)(mu fx:Bool)(df wg:ByteArray)(v:ByteArray)(w:World)(hv:v.size<=maxLen) :
 Calls Tryz.prog 139 #[.agg #[.string nm,.int .i64 4,.int .i64 ls,.int .i64 ms,.slice a ws.length cap,.string to,.int .i64 rl,.bool mu,.bool fx,.string df,.string wg],.string v] w
  fun e w'=>e=.returned (.bool (fits 4 ls ms ws v))/\Below w.heap.size w w':=by
 rw[zpv];go_enter Tryz.func139,Tryz.ntmps139
 go_wp2_with (go_at_call 109;refine(zk _ _ hv).mono ?_;rintro e w'⟨rfl,rfl⟩)
 go_ret;exact⟨rfl,bAl _ _⟩
theorem zj1 (nm:ByteArray)(kd ls ms:Int)(a:Option Addr)(cap:Nat)(ws:List ByteArray)(to:ByteArray)(rl:Int)(mu fx:Bool)(df wg:ByteArray)(v:ByteArray)(w:World)(h1:kd≠1)(h2:kd≠2)(h3:kd≠3)(h4:kd≠4) :
 Calls Tryz.prog 139 #[.agg #[.string nm,.int .i64 kd,.int .i64 ls,.int .i64 ms,.slice a ws.length cap,.string to,.int .i64 rl,.bool mu,.bool fx,.string df,.string wg],.string v] w
  fun e w'=>e=.returned (.bool (fits kd ls ms ws v))/\Below w.heap.size w w':=by
 rw[zfN kd ls ms ws v h1 h2 h3 h4];have e1:(kd == 1)=false:=by simpa using h1
 have e2:(kd == 2)=false:=by simpa using h2
 have e3:(kd == 3)=false:=by simpa using h3
 have e4:(kd == 4)=false:=by simpa using h4
 clear h1 h2 h3 h4;go_enter Tryz.func139,Tryz.ntmps139;go_wp2_with fail
 go_ret;exact⟨rfl,bAl _ _⟩
theorem zor (nm:ByteArray)(ls ms:Int)(a:Option Addr)(cap:Nat)(ws:List ByteArray)(to:ByteArray)(rl:Int)(mu fx:Bool)(df wg:ByteArray)(v:ByteArray)(w:World)(hv:v.size<=maxLen) :
 Calls Tryz.prog 139 #[.agg #[.string nm,.int .i64 3,.int .i64 ls,.int .i64 ms,.slice a ws.length cap,.string to,.int .i64 rl,.bool mu,.bool fx,.string df,.string wg],.string v] w
  fun e w'=>e=.returned (.bool (fits 3 ls ms ws v))/\Below w.heap.size w w':=by
 unfold maxLen at hv;go_enter Tryz.func139,Tryz.ntmps139;go_wp2_with fail
 go_loop [6] (fun i=>∃k:Nat,k<=v.size/\i=.int .i64 k/\(v.data.toList.take k).all y9=true) (fun i=>v.size-(intOf i).toNat)
 case atStart=>exact⟨0,Nat.zero_le _,rfl,rfl⟩
 case round=>
  obtain⟨k,hk,rfl,hall⟩:=hrel
  by_cases hlt:k<v.size
  ·have HS:Hid ((v.data.toList.take (k+1)).all y9=(true&&y9 v[k])):=by rw[zaJ _ v k hlt,hall];rfl
   have HN:Hid (y9 v[k]=false->fits 3 ls ms ws v=false):=fun h=>zkW ls ms ws v (zb3 y9 v k hlt h)
   clear hall
   by_cases h33:33<=(v[k].toNat:Int)/\(v[k].toNat:Int)<=126
   ·have HC:Hid (y9 v[k]=true):=by simp[y9,Hid];omega
    obtain⟨ha,hb⟩:=h33
    go_wp2_with (go_at_call 61;refine(zbz _ _ _ _ (by omega) (by omega)).mono ?_;rintro e w'⟨rfl,rfl⟩)
    go_round
    case rel=>exact⟨k+1,by omega,by go_num,by rw[HS.out,HC.out];rfl⟩
    case measure=>simp[intOf];omega
   ·have HC:Hid (y9 v[k]=false):=by simp[y9,Hid];omega
    have HD:Hid (¬(33<=(v[k].toNat:Int)/\(v[k].toNat:Int)<=126)):=h33;clear h33;have hby:(v[k].toNat:Int)<256:=by have:=v[k].toNat_lt;omega
    go_wp2_with (go_at_call 61;refine(zc7 _ _ _ _ (by have:=HD.out;omega)).mono ?_;rintro e w'⟨rfl,rfl⟩)
    go_ret;exact⟨ze (HN.out HC.out).symm,bAl _ _⟩
  ·have HA:Hid (zbw v=true):=by unfold zbw Hid;rw[<- zar v k (by omega)];exact hall
   clear hall
   by_cases hz:v.size=0
   ·have HF:Hid (fits 3 ls ms ws v=false):=zal _ _ _ _ _ hz
    have hne:v.toList.isEmpty=true:=by rw[zx];simp[hz]
    clear hz;go_wp2_with fail
    go_ret;exact⟨ze HF.out.symm,bAl _ _⟩
   ·have HF:Hid (fits 3 ls ms ws v=(decide (ls<=v.size)&&decide ((v.size:Int)<=ms))):=zk2 ls ms ws v HA.out hz
    have hne:v.toList.isEmpty=false:=by rw[zx];simp[hz]
    go_wp2_with (go_at_call 61;refine(yx _ _ _ _).mono ?_;rintro e w'⟨rfl,rfl⟩)
    go_ret;exact⟨ze HF.out.symm,bAl _ _⟩
theorem yU (nm:ByteArray)(kd ls ms:Int)(a:Option Addr)(cap:Nat)(ws:List ByteArray)(to:ByteArray)(rl:Int)(mu fx:Bool)(df wg:ByteArray)(v:ByteArray)(w:World)(hv:v.size<=maxLen)(hws:zF w a ws) :
 Calls Tryz.prog 139 #[.agg #[.string nm,.int .i64 kd,.int .i64 ls,.int .i64 ms,.slice a ws.length cap,.string to,.int .i64 rl,.bool mu,.bool fx,.string df,.string wg],.string v] w
  fun e w'=>e=.returned (.bool (fits kd ls ms ws v))/\Below w.heap.size w w':=by
 by_cases h1:kd=1
 ·subst h1;exact znP nm ls ms a cap ws to rl mu fx df wg v w hv
 by_cases h2:kd=2
 ·subst h2;exact zoH nm ls ms a cap ws to rl mu fx df wg v w hws
 by_cases h3:kd=3
 ·subst h3;exact zor nm ls ms a cap ws to rl mu fx df wg v w hv
 by_cases h4:kd=4
 ·subst h4;exact zoh nm ls ms a cap ws to rl mu fx df wg v w hv
 exact zj1 nm kd ls ms a cap ws to rl mu fx df wg v w h1 h2 h3 h4
end Go.Proofs.YtkficnallnpjnaaGreat
