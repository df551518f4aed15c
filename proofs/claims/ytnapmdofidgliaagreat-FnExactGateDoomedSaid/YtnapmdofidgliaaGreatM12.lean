import Derived.Test.YtnapmdofidgliaaGreatM10
set_option maxHeartbeats 2000000
namespace Go.Proofs.YtnapmdofidgliaaGreat
open Go.RowKit
theorem zbB (ls ms lo hi:Int)(w:World) :
 Calls Tryz.prog 162 #[.int .i64 ls,.int .i64 ms,.int .i64 lo,.int .i64 hi] w fun e w'=>e=.returned (.bool (jF ls ms lo hi))/\w'=w:=by
 go_enter Tryz.func162,Tryz.ntmps162
 go_wp2
 all_goals
  go_ret;refine⟨ze ?_,rfl⟩;rw[Bool.eq_iff_iff];simp[jF];try omega
theorem zbH (nm:ByteArray)(kd ls ms:Int)(a:Option Addr)(n cap:Nat)(to:ByteArray)(rl:Int)(mu fx:Bool)(df wg:ByteArray)(w:World) :
 Calls Tryz.prog 246 #[.agg #[.string nm,.int .i64 kd,.int .i64 ls,.int .i64 ms,.slice a n cap,.string to,.int .i64 rl,.bool mu,.bool fx,.string df,.string wg]] w fun e w'=>e=.returned (.bool (yO 1 ls ms n to rl wg))/\Below w.heap.size w w':=by
 go_enter Tryz.func246,Tryz.ntmps246
 go_wp2
 all_goals
  go_ret;refine⟨ze ?_,bAl _ _⟩
  simp_all [yO]
  try (rw[Bool.eq_iff_iff];simp)
theorem zcD (nm:ByteArray)(kd ls ms:Int)(a:Option Addr)(n cap:Nat)(to:ByteArray)(rl:Int)(mu fx:Bool)(df wg:ByteArray)(w:World) :
 Calls Tryz.prog 249 #[.agg #[.string nm,.int .i64 kd,.int .i64 ls,.int .i64 ms,.slice a n cap,.string to,.int .i64 rl,.bool mu,.bool fx,.string df,.string wg]] w fun e w'=>e=.returned (.bool (yO 2 ls ms n to rl wg))/\Below w.heap.size w w':=by
 go_enter Tryz.func249,Tryz.ntmps249
 go_wp2
 all_goals
  go_ret;refine⟨ze ?_,bAl _ _⟩
  simp_all [yO]
  try (rw[Bool.eq_iff_iff];simp)
theorem zcC (nm:ByteArray)(kd ls ms:Int)(a:Option Addr)(n cap:Nat)(to:ByteArray)(rl:Int)(mu fx:Bool)(df wg:ByteArray)(w:World) :
 Calls Tryz.prog 254 #[.agg #[.string nm,.int .i64 kd,.int .i64 ls,.int .i64 ms,.slice a n cap,.string to,.int .i64 rl,.bool mu,.bool fx,.string df,.string wg]] w fun e w'=>e=.returned (.bool (yO 3 ls ms n to rl wg))/\Below w.heap.size w w':=by
 go_enter Tryz.func254,Tryz.ntmps254
 go_wp2
 all_goals
  go_ret;refine⟨ze ?_,bAl _ _⟩
  simp_all [yO]
  try (rw[Bool.eq_iff_iff];simp)
theorem zcE (nm:ByteArray)(kd ls ms:Int)(a:Option Addr)(n cap:Nat)(to:ByteArray)(rl:Int)(mu fx:Bool)(df wg:ByteArray)(w:World) :
 Calls Tryz.prog 257 #[.agg #[.string nm,.int .i64 kd,.int .i64 ls,.int .i64 ms,.slice a n cap,.string to,.int .i64 rl,.bool mu,.bool fx,.string df,.string wg]] w fun e w'=>e=.returned (.bool (yO 4 ls ms n to rl wg))/\Below w.heap.size w w':=by
 go_enter Tryz.func257,Tryz.ntmps257
 go_wp2
 all_goals
  go_ret;refine⟨ze ?_,bAl _ _⟩
  simp_all [yO]
  try (rw[Bool.eq_iff_iff];simp)
theorem zct (nm:ByteArray)(ls ms:Int)(a:Option Addr)(cap:Nat)(ws:List ByteArray)(to:ByteArray)(rl:Int)(mu fx:Bool)(df wg:ByteArray)(a0:Option Addr)(cap0:Nat)(ss:List Shp)(w:World)(hwg:wg.size<=maxLen) :
 Calls Tryz.prog 248 #[.agg #[.string nm,.int .i64 1,.int .i64 ls,.int .i64 ms,.slice a ws.length cap,.string to,.int .i64 rl,.bool mu,.bool fx,.string df,.string wg],.slice a0 ss.length cap0] w fun e w'=>e=.returned (.bool (zZ ss ⟨nm,1,ls,ms,ws,to,rl,mu,fx,df,wg⟩))/\Below w.heap.size w w':=by
 have HF:Hid (zZ ss ⟨nm,1,ls,ms,ws,to,rl,mu,fx,df,wg⟩=(jF ls ms 0 1000000&&(wg.toList.isEmpty||zB wg))):=by simp[zZ,Hid]
 by_cases hr:jF ls ms 0 1000000=true
 ·by_cases he:wg.toList.isEmpty=true
  ·go_enter Tryz.func248,Tryz.ntmps248
   go_wp2_with (go_at_call 162;refine(zbB _ _ _ _ _).mono ?_;rintro e w'⟨rfl,rfl⟩)
   go_ret;exact⟨ze (by rw[HF.out,hr,he];rfl),bAl _ _⟩
  ·have he':wg.toList.isEmpty=false:=by simpa using he
   clear he;go_enter Tryz.func248,Tryz.ntmps248
   go_wp2_with (first|(go_at_call 162;refine(zbB _ _ _ _ _).mono ?_;rintro e w'⟨rfl,rfl⟩)|(go_at_call 147;refine(zF _ _ hwg).mono ?_;rintro e w'⟨rfl,rfl⟩))
   go_ret;exact⟨ze (by rw[HF.out,hr,he'];rfl),bAl _ _⟩
 ·have hr':jF ls ms 0 1000000=false:=by simpa using hr
  clear hr;go_enter Tryz.func248,Tryz.ntmps248
  go_wp2_with (go_at_call 162;refine(zbB _ _ _ _ _).mono ?_;rintro e w'⟨rfl,rfl⟩)
  go_ret;exact⟨ze (by rw[HF.out,hr'];rfl),bAl _ _⟩
theorem zdl (nm:ByteArray)(ls ms:Int)(a:Option Addr)(cap:Nat)(ws:List ByteArray)(to:ByteArray)(rl:Int)(mu fx:Bool)(df wg:ByteArray)(a0:Option Addr)(cap0:Nat)(ss:List Shp)(w:World) :
 Calls Tryz.prog 256 #[.agg #[.string nm,.int .i64 3,.int .i64 ls,.int .i64 ms,.slice a ws.length cap,.string to,.int .i64 rl,.bool mu,.bool fx,.string df,.string wg],.slice a0 ss.length cap0] w fun e w'=>e=.returned (.bool (zZ ss ⟨nm,3,ls,ms,ws,to,rl,mu,fx,df,wg⟩))/\Below w.heap.size w w':=by
 have HF:Hid (zZ ss ⟨nm,3,ls,ms,ws,to,rl,mu,fx,df,wg⟩=jF ls ms 1 40):=by simp[zZ,Hid]
 go_enter Tryz.func256,Tryz.ntmps256
 go_wp2_with (go_at_call 162;refine(zbB _ _ _ _ _).mono ?_;rintro e w'⟨rfl,rfl⟩)
 go_ret;exact⟨ze HF.out.symm,bAl _ _⟩
theorem zdv (nm:ByteArray)(ls ms:Int)(a:Option Addr)(cap:Nat)(ws:List ByteArray)(to:ByteArray)(rl:Int)(mu fx:Bool)(df wg:ByteArray)(a0:Option Addr)(cap0:Nat)(ss:List Shp)(w:World)(hw:zD w a ws) :
 Calls Tryz.prog 251 #[.agg #[.string nm,.int .i64 2,.int .i64 ls,.int .i64 ms,.slice a ws.length cap,.string to,.int .i64 rl,.bool mu,.bool fx,.string df,.string wg],.slice a0 ss.length cap0] w fun e w'=>e=.returned (.bool (zZ ss ⟨nm,2,ls,ms,ws,to,rl,mu,fx,df,wg⟩))/\Below w.heap.size w w':=by
 have HF:Hid (zZ ss ⟨nm,2,ls,ms,ws,to,rl,mu,fx,df,wg⟩=(decide (1<=ws.length)&&decide (ws.length<=6)&&asc ws)):=by simp[zZ,Hid]
 have hl:=hw.len;unfold maxLen at hl
 by_cases h1:0<ws.length
 ·by_cases h6:ws.length<=6
  ·go_enter Tryz.func251,Tryz.ntmps251
   go_wp2_with (go_at_call 223;refine(zkp _ _ _ _ (by exact hw.mono (bAl _ _))).mono ?_;rintro e w'⟨rfl,rfl⟩)
   go_ret;exact⟨ze (by rw[HF.out,decide_eq_true (show 1<=ws.length by omega),decide_eq_true h6];rfl),bAl _ _⟩
  ·go_enter Tryz.func251,Tryz.ntmps251
   go_wp2_with fail
   go_ret;exact⟨ze (by rw[HF.out,decide_eq_true (show 1<=ws.length by omega),decide_eq_false (show ¬ws.length<=6 by omega)];rfl),bAl _ _⟩
 ·go_enter Tryz.func251,Tryz.ntmps251
  go_wp2_with fail
  go_ret;exact⟨ze (by rw[HF.out,decide_eq_false (show ¬1<=ws.length by omega)];rfl),bAl _ _⟩
theorem ze7 (nm:ByteArray)(kd ls ms:Int)(sl:Value)(to:ByteArray)(rl:Int)(mu fx:Bool)(df wg:ByteArray)(s:ByteArray)(w:World)(hs:s.size<=maxLen) :
 Calls Tryz.prog 247 #[.agg #[.string nm,.int .i64 kd,.int .i64 ls,.int .i64 ms,sl,.string to,.int .i64 rl,.bool mu,.bool fx,.string df,.string wg],.string s] w
  fun e w'=>e=.returned (.bool (zaI ls ms s))/\Below w.heap.size w w':=by
 by_cases hd:zao s=true
 ·have HE:Hid (zaF s=zgM s):=by unfold zaF Hid;rw[hd];rfl
  have HF:Hid (zaI ls ms s=(decide (ls<=zgM s)&&decide (zgM s<=ms))):=by unfold zaI Hid;rw[hd];rfl
  go_enter Tryz.func247,Tryz.ntmps247
  go_wp2_with (go_at_call 226;refine(zdx _ _ hs).mono ?_;rintro e w'⟨rfl,rfl⟩)
  all_goals
   go_ret;refine⟨ze ?_,bAl _ _⟩;rw[HF.out];have:=HE.out;rw[Bool.eq_iff_iff];simp;omega
 ·have hd':zao s=false:=by simpa using hd
  have HF:Hid (zaI ls ms s=false):=by unfold zaI Hid;rw[hd'];rfl
  go_enter Tryz.func247,Tryz.ntmps247
  go_wp2_with (go_at_call 226;refine(zdx _ _ hs).mono ?_;rintro e w'⟨rfl,rfl⟩)
  go_ret;exact⟨ze HF.out.symm,bAl _ _⟩
def zx (lo:Nat)(w:World)(a:Option Addr)(ws:List ByteArray):Prop:=
 (a=none/\ws=[]) \/ ∃g C,a=some ⟨g,0,none⟩/\lo<=g/\w.heap[g]?=some (.cells C 9)/\∀i (h:i<ws.length),C[i]?=some (.string ws[i])
theorem zx.zf1 {lo:Nat}{w:World}{v:Value}{ws:List ByteArray}(h:w.ownsRow lo 9 1 v ws.length (ws.map Value.string)):∃a cap,v=.slice a ws.length cap/\zx lo w a ws:=by
 obtain⟨_,⟨rfl,h0⟩|⟨g,cap,cur,rfl,hg,hh,_,_,_,ht⟩⟩:=h
 ·exact⟨none,0,by rw[h0],Or.inl ⟨rfl,List.length_eq_zero_iff.1 h0⟩⟩
 ·refine⟨some ⟨g,0,none⟩,cap,rfl,Or.inr ⟨g,cur,rfl,hg,hh,fun i hi=>?_⟩⟩
  have h1:(cur.toList.take (ws.length*1))[i]?=(ws.map Value.string)[i]?:=by rw[ht]
  rw[List.getElem?_take_of_lt (by omega),List.getElem?_map,List.getElem?_eq_getElem hi]at h1
  simpa using h1
theorem zx.mono {lo:Nat}{w w':World}{a:Option Addr}{ws:List ByteArray}(h:zx lo w a ws)(hb:Below w.heap.size w w'):zx lo w' a ws:=by
 rcases h with⟨rfl,rfl⟩|⟨g,C,rfl,hg,hh,hc⟩
 ·exact Or.inl ⟨rfl,rfl⟩
 ·exact Or.inr ⟨g,C,rfl,hg,(hb.block g (gES hh).1).trans hh,hc⟩
theorem zx.at {lo:Nat}{w:World}{a:Option Addr}{ws:List ByteArray}(h:zx lo w a ws)(hl:ws.length<=maxLen)(hs:∀s∈ws,s.size<=maxLen):zD w a ws:=by
 refine⟨hl,hs,fun hne=>?_⟩
 rcases h with⟨_,rfl⟩|⟨g,C,rfl,_,hh,hc⟩
 ·exact absurd rfl hne
 ·refine⟨g,0,rfl,(gES hh).1,fun i hi=>?_⟩
  simp only[World.cell?,hh,Nat.zero_add]
  simpa using hc i hi
structure Lw where
 ss:List Shp
 ms:List Mnd
 ts:List Tm
def Lw.cells (l:Lw)(a b c:Option Addr)(ca cb cc:Nat):Array Value:=#[.slice a l.ss.length ca,.slice b l.ms.length cb,.slice c l.ts.length cc]
structure jh (w:World)(l:Lw)(a b c:Option Addr):Prop where
 ss:yU w a l.ss
 ms:qN w b l.ms
 ts:jX w c l.ts
theorem jh.mono {w w':World}{l:Lw}{a b c:Option Addr}(h:jh w l a b c)(hb:Below w.heap.size w w'):jh w' l a b c:=⟨h.ss.mono hb,h.ms.mono hb,h.ts.mono hb⟩
def Lw.sz (l:Lw):Nat:=zaT l.ss+zbw l.ms+zdj l.ts
structure Lw.Few (l:Lw):Prop where
 ss:l.ss.length<=1048576/\∀i (h:i<l.ss.length),l.ss[i].fs.length<=1048576/\∀j (h':j<l.ss[i].fs.length),l.ss[i].fs[j].ws.length<=1048576
 ms:l.ms.length<=1048576
 ts:l.ts.length<=1048576
theorem Lw.few {l:Lw}(h:(l.sz:Int)<=1048576):l.Few:=by
 unfold Lw.sz at h;refine⟨zqe (by omega),?_,?_⟩
 ·unfold zbw at h;omega
 ·unfold zdj at h;omega
theorem zky (l:Lw)(a b c:Option Addr)(ca cb cc:Nat)(left:Int)(w:World)(hl:jh w l a b c)(h0:0<=left)(h1:left<=1048576) :
 Calls Tryz.prog 4 #[.agg (l.cells a b c ca cb cc),.int .i64 left] w fun e w'=>e=.returned (.int .i64 (zK l.sz left))/\Below w.heap.size w w':=by
 have HL:Hid (jh w l a b c):=hl;clear hl;unfold Lw.cells;go_enter Tryz.func4,Tryz.ntmps4;go_wp2_with fail
 refine(zht _ _ l.ss _ _ (HL.out.ss.mono (bAl _ _)) h0 h1).mono ?_;rintro e w1⟨rfl,hb⟩;have hX1:=za (zl w #[.slice a l.ss.length ca,.slice b l.ms.length cb,.slice c l.ts.length cc] 26) (by simp) hb;have hz1:w.heap.size<w1.heap.size:=by have:=hb.size;simp at this;omega
 have hB1:Below w.heap.size w w1:=(bAl _ _).trans (hb.mono (by simp));clear hb
 by_cases c1:(zaT l.ss:Int)<=left
 rotate_left
 ·have HF:Hid (zK l.sz left=-1):=zC (by unfold Lw.sz;omega)
  rw[zC c1];go_wp2_with fail
  go_ret;exact⟨zo HF.out.symm,hB1⟩
 rw[zL c1];go_wp2_with fail
 refine(ziu _ _ l.ms _ _ (HL.out.ms.mono hB1) (by omega) (by omega)).mono ?_;rintro e w2⟨rfl,hb⟩;have hX2:=za hX1 hz1 hb;have hz2:=nLt hz1 hb.size;have hB2:=hB1.trans (hb.mono hB1.size);clear hb hX1 hz1 hB1
 by_cases c2:(zbw l.ms:Int)<=left-zaT l.ss
 rotate_left
 ·have HF:Hid (zK l.sz left=-1):=zC (by unfold Lw.sz;omega)
  rw[zC c2];go_wp2_with fail
  go_ret;exact⟨zo HF.out.symm,hB2⟩
 rw[zL c2];go_wp2_with fail
 refine(ziZ _ _ l.ts _ _ (HL.out.ts.mono hB2) (by omega) (by omega)).mono ?_;rintro e w3⟨rfl,hb⟩;have hB3:=hB2.trans (hb.mono hB2.size);clear hb hX2 hz2 hB2
 by_cases c3:(zdj l.ts:Int)<=left-zaT l.ss-zbw l.ms
 rotate_left
 ·have HF:Hid (zK l.sz left=-1):=zC (by unfold Lw.sz;omega)
  rw[zC c3];go_wp2_with fail
  go_ret;exact⟨zo HF.out.symm,hB3⟩
 have HF:Hid (zK l.sz left=left-zaT l.ss-zbw l.ms-zdj l.ts):=by
  unfold Hid;rw[zL (by unfold Lw.sz;omega)];unfold Lw.sz;omega
 rw[zL c3];go_wp2_with fail
 go_ret;exact⟨zo HF.out.symm,hB3⟩
theorem zkM (l:Lw)(a b c a' b' c':Option Addr)(ca cb cc ca' cb' cc':Nat)(w:World)(hl:jh w l a b c)(hl':jh w l a' b' c') :
 Calls Tryz.prog 11 #[.agg (l.cells a b c ca cb cc),.agg (l.cells a' b' c' ca' cb' cc')] w fun e w'=>e=.returned (.bool true)/\Below w.heap.size w w':=by
 unfold Lw.cells;go_enter Tryz.func11,Tryz.ntmps11;go_wp2_with fail
 refine(zhc _ _ _ _ l.ss _ (hl.ss.mono (zw _ _ _)) (hl'.ss.mono (zw _ _ _))).mono ?_;rintro e w1⟨rfl,hb⟩;have hX1:=za (za (zl w _ _) (by simp) (bAl _ _)) (by simp;omega) hb;have hY1:=za (zl (w.alloc (.cells #[.slice a l.ss.length ca,.slice b l.ms.length cb,.slice c l.ts.length cc] 41)) #[.slice a' l.ss.length ca',.slice b' l.ms.length cb',.slice c' l.ts.length cc'] 41) (by simp) hb;have hz1:w.heap.size+1<w1.heap.size:=by have:=hb.size;simp at this;omega
 have hB1:=(zw w _ _).trans (hb.mono (by simp;omega));rw[World.size_alloc]at hY1;clear hb;go_wp2_with fail
 refine(ziw _ _ _ _ l.ms _ (hl.ms.mono hB1) (hl'.ms.mono hB1)).mono ?_;rintro e w2⟨rfl,hb⟩;have hX2:=za hX1 (nSl hz1) hb;have hY2:=za hY1 hz1 hb;have hz2:=nLt hz1 hb.size;have hB2:=hB1.trans (hb.mono hB1.size);clear hb hX1 hY1 hz1 hB1;go_wp2_with fail
 refine(ziE _ _ _ _ l.ts _ (hl.ts.mono hB2) (hl'.ts.mono hB2)).mono ?_;rintro e w3⟨rfl,hb⟩;have hB3:=hB2.trans (hb.mono hB2.size);clear hb hX2 hY2 hz2 hB2;go_wp2_with fail
 go_ret;exact⟨rfl,hB3⟩
theorem below3' (w:World)(o o' o'':Obj):Below w.heap.size w (((w.alloc o).alloc o').alloc o''):=((bAl _ _).alloc (by simp) _).alloc (by simp;omega) _
theorem zpC (w:World)(o1 o2 o3:Obj):(((w.alloc o1).alloc o2).alloc o3).heap[w.heap.size]?=some o1/\(((w.alloc o1).alloc o2).alloc o3).heap[w.heap.size+1]?=some o2/\(((w.alloc o1).alloc o2).alloc o3).heap[w.heap.size+1+1]?=some o3:=by
 have h1:=(MapKept.heap_alloc w o1).1;have h2:=(MapKept.heap_alloc (w.alloc o1) o2).1;have h3:=(MapKept.heap_alloc ((w.alloc o1).alloc o2) o3).1;simp only[World.size_alloc]at h2 h3;exact⟨(Below.heap_alloc _ _ _ (by simp;omega)).trans ((Below.heap_alloc _ _ _ (by simp)).trans h1),(Below.heap_alloc _ _ _ (by simp)).trans h2,h3⟩
structure yP (lo:Nat)(w w':World):Prop where
 size:w.heap.size<=w'.heap.size
 same:∀b,lo<=b->b<w.heap.size->w'.heap[b]?=w.heap[b]?
theorem yP.trans {lo:Nat}{w w1 w2:World}(h:yP lo w w1)(h':yP lo w1 w2):yP lo w w2:=
 ⟨Nat.le_trans h.size h'.size,fun b h1 h2=>(h'.same b h1 (nLt h2 h.size)).trans (h.same b h1 h2)⟩
theorem yP.mono {lo lo':Nat}{w w':World}(h:yP lo w w')(hl:lo<=lo'):yP lo' w w':=⟨h.size,fun b h1 h2=>h.same b (Nat.le_trans hl h1) h2⟩
theorem yP.below {lo:Nat}{w w':World}(h:Below w.heap.size w w'):yP lo w w':=⟨h.size,fun b _ h2=>h.block b h2⟩
theorem yP.setCell {lo:Nat}{w:World}{p:Addr}(hp:p.block<lo)(v:Value):yP lo w (w.setCell p v):=
 ⟨by rw[World.size_setCell];exact Nat.le_refl _,fun b h1 _=>Below.heap_setCell _ _ _ _ (by omega)⟩
theorem qF.above {lo:Nat}{w w':World}{bf:Nat}{fs:List Fld}{k:Nat}(h:qF lo w bf fs k)(ha:yP lo w w'):qF lo w' bf fs k:=by
 obtain⟨C,hC,hsz,hr⟩:=h.rows;refine⟨h.low,C,(ha.same _ h.low (gES hC).1).trans hC,hsz,fun i hi hk=>?_⟩;obtain⟨bk,h1,h2,h3,h4⟩:=hr i hi hk;exact⟨bk,h1,h2,(ha.same _ h1 (gES h3).1).trans h3,h4⟩
theorem jU.above {lo:Nat}{w w':World}{bo:Nat}{ss:List Shp}{k:Nat}(h:jU lo w bo ss k)(ha:yP lo w w'):jU lo w' bo ss k:=by
 obtain⟨C,hC,hsz,hr⟩:=h.rows;refine⟨h.low,C,(ha.same _ h.low (gES hC).1).trans hC,hsz,fun i hi hk=>?_⟩;obtain⟨bf,h1,h2,h3,h4⟩:=hr i hi hk;exact⟨bf,h1,h2,h3.above (ha.mono (Nat.le_succ_of_le h.low)),h4⟩
theorem je.above {lo:Nat}{w w':World}{bo:Nat}{ms:List Mnd}{k:Nat}(h:je lo w bo ms k)(ha:yP lo w w'):je lo w' bo ms k:=by
 obtain⟨C,hC,hr⟩:=h.rows;exact⟨h.low,C,(ha.same _ h.low (gES hC).1).trans hC,hr⟩
theorem zam.above {ty:TypeId}{lo:Nat}{w w':World}{bo:Nat}{ts:List Tm}{k:Nat}(h:zam ty lo w bo ts k)(ha:yP lo w w'):zam ty lo w' bo ts k:=by
 obtain⟨C,hC,hr⟩:=h.rows;exact⟨h.low,C,(ha.same _ h.low (gES hC).1).trans hC,hr⟩
structure zmC (lo:Nat)(w:World)(l:Lw)(a b c:Nat):Prop where
 ss:jU lo w a l.ss l.ss.length
 ms:je lo w b l.ms l.ms.length
 ts:zam 135 lo w c l.ts l.ts.length
structure Lw.Small (l:Lw):Prop where
 ss:zdU l.ss
 ls:l.ss.length<=maxLen
 ms:∀i (h:i<l.ms.length),l.ms[i].Small
 lm:l.ms.length<=maxLen
 ts:∀i (h:i<l.ts.length),l.ts[i].Small
 lt:l.ts.length<=maxLen
theorem jh.small {w:World}{l:Lw}{a b c:Option Addr}(h:jh w l a b c):l.Small:=⟨h.ss.smalls,h.ss.len,h.ms.small,h.ms.len,h.ts.small,h.ts.len⟩
theorem zmC.at {lo:Nat}{w:World}{l:Lw}{a b c:Nat}(h:zmC lo w l a b c)(hs:l.Small):jh w l (some ⟨a,0,none⟩) (some ⟨b,0,none⟩) (some ⟨c,0,none⟩):=⟨h.ss.at hs.ss hs.ls,h.ms.at hs.ms hs.lm,h.ts.at hs.ts hs.lt⟩
theorem zf3 (a:Option Addr)(cap:Nat)(vs:List Int)(left:Int)(w:World)(hl:vs.length<=maxLen)(h0:0<=left)(h1:left<=1048576) :
 Calls Tryz.prog 128 #[.slice a vs.length cap,.int .i64 left] w fun e w'=>e=.returned (.int .i64 (zK vs.length left))/\w'=w:=by
 unfold maxLen at hl
 by_cases hf:(vs.length:Int)<=left
 ·have HF:=hid (zL hf)
  go_enter Tryz.func128,Tryz.ntmps128;go_wp2_with fail
  go_ret;exact⟨zo HF.out.symm,rfl⟩
 ·have HF:=hid (zC hf)
  go_enter Tryz.func128,Tryz.ntmps128;go_wp2_with fail
  go_ret;exact⟨zo HF.out.symm,rfl⟩
theorem zfb (r:Rl)(a:Option Addr)(cap:Nat)(left:Int)(w:World)(hm:r.Small)(hl:r.vs.length<=maxLen)(h0:0<=left)(h1:left<=1048576) :
 Calls Tryz.prog 95 #[.agg (r.cells a cap),.int .i64 left] w fun e w'=>e=.returned (.int .i64 (zK r.sz left))/\Below w.heap.size w w':=by
 have k1:=hm.kd;have k2:=hm.tm;have k3:=hm.px;have k4:=hl;unfold maxLen at k1 k2 k3 k4;unfold Rl.cells;have hB:∀ob,Below w.heap.size w (w.alloc ob):=fun ob=>bAl _ _
 by_cases hv:(r.vs.length:Int)<=left
 rotate_left
 ·have HF:Hid (zK r.sz left=-1):=zC (by unfold Rl.sz;omega)
  go_enter Tryz.func95,Tryz.ntmps95;go_wp2_with fail
  refine(zf3 _ _ _ _ _ hl h0 h1).mono ?_;rintro e w1⟨rfl,rfl⟩;rw[zC (by omega)];go_wp2_with fail
  go_ret;exact⟨zo HF.out.symm,hB _⟩
 by_cases hf:(r.sz:Int)<=left
 ·have HF:Hid (zK r.sz left=left-r.vs.length-r.kd.size-r.tm.size-r.px.size):=by
   unfold Hid;rw[zL hf];unfold Rl.sz;omega
  unfold Rl.sz at hf;go_enter Tryz.func95,Tryz.ntmps95;go_wp2_with fail
  refine(zf3 _ _ _ _ _ hl h0 h1).mono ?_;rintro e w1⟨rfl,rfl⟩;rw[zL hv];go_wp2_with fail
  go_ret;exact⟨zo HF.out.symm,hB _⟩
 ·have HF:Hid (zK r.sz left=-1):=zC hf
  have HN:Hid (¬((r.vs.length+r.kd.size+r.tm.size+r.px.size:Nat):Int)<=left):=hf;clear hf;go_enter Tryz.func95,Tryz.ntmps95;go_wp2_with fail
  refine(zf3 _ _ _ _ _ hl h0 h1).mono ?_;rintro e w1⟨rfl,rfl⟩;rw[zL hv];go_wp2_with fail
  all_goals go_ret
  all_goals first|exact⟨zo HF.out.symm,hB _⟩|(exfalso;have:=HN.out;simp at *;omega)
theorem zot (a:Option Addr)(cap:Nat)(vs:List Int)(w:World)(hw:qy w a vs)(hl:vs.length<=1048576) :
 Calls Tryz.prog 142 #[.slice a vs.length cap] w fun e w'=>e=.returned (.slice (some ⟨w.heap.size,0,none⟩) vs.length vs.length)/\w'=w.alloc (.cells (zb5 vs) 3):=by
 have hmk:∀w:World,(Instr.makeSlice 35 (.int .i64 vs.length) (.int .i64 vs.length)).run Tryz.prog w=.ok (.slice (some ⟨w.heap.size,0,none⟩) vs.length vs.length) (w.alloc (.cells (intCells vs 0) 3)):=by
  intro w;have h:=run_make_row' (P:=Tryz.prog) 35 3 (.int .i64 0) 8 Tryz.underlying35 (by kernel_rfl) rfl .i64 .i64 vs.length (by omega) (by omega) w;rw[zku]at h;exact h
 go_enter Tryz.func142,Tryz.ntmps142;go_wp2_with fail
 clear hmk
 go_loopw [4] (fun i wr=>∃k:Nat,k<=vs.length/\i=.int .i64 k/\wr=w.alloc (.cells (intCells vs k) 3)) (fun i _=>vs.length-(intOf i).toNat)
 case atStart=>exact⟨0,Nat.zero_le _,rfl,rfl⟩
 case round=>
  obtain⟨k,hk,rfl,rfl⟩:=hrel
  by_cases hlt:k<vs.length
  ·obtain⟨b,off,rfl,hb,hck⟩:=hw.load (bRf _ _) k hlt
   clear hw;have hold:=znP vs k hlt;have HS:=hid (zlL vs k hlt);have hltI:(k:Int)<(vs.length:Int):=by omega
   go_wp2
   go_roundw
   case rel=>exact⟨k+1,by omega,by go_num,by rw[HS.out]⟩
   case measure=>simp[intOf];omega
  ·have HA:Hid (intCells vs k=zb5 vs):=zlG vs k (by omega)
   clear hw
   go_wp2
   go_ret;exact⟨rfl,by rw[HA.out]⟩
theorem zeg (a a':Option Addr)(cap cap':Nat)(vs:List Int)(w:World)(hw:qy w a vs)(hw':qy w a' vs) :
 Calls Tryz.prog 10 #[.slice a vs.length cap,.slice a' vs.length cap'] w fun e w'=>e=.returned (.bool true)/\Below w.heap.size w w':=by
 have hl:=hw.len;unfold maxLen at hl;have hnn:((vs.length:Int) != vs.length)=false:=by simp
 go_enter Tryz.func10,Tryz.ntmps10;go_wp2_with fail
 go_loopw [5] (fun i wr=>∃k:Nat,k<=vs.length/\i=.int .i64 k/\Below w.heap.size w wr) (fun i _=>vs.length-(intOf i).toNat)
 case atStart=>exact⟨0,Nat.zero_le _,rfl,bRf _ _⟩
 case round=>
  obtain⟨k,hk,rfl,hB⟩:=hrel
  by_cases hlt:k<vs.length
  ·obtain⟨b,off,rfl,hb,c0⟩:=hw.load hB k hlt
   obtain⟨b',off',rfl,hb',d0⟩:=hw'.load hB k hlt;have hltI:(k:Int)<(vs.length:Int):=by omega
   have hne:(vs[k] != vs[k])=false:=by simp
   clear hw hw';go_wp2_with fail
   first
    | exact⟨⟨k+1,by omega,by go_num,hB⟩,by simp[intOf];omega⟩
    | (go_quiet (fail);go_wp2_with fail;exact⟨⟨k+1,by omega,by go_num,below_drewN hB _⟩,by simp[intOf];omega⟩)
  ·clear hw hw'
   go_wp2_with fail
   go_ret;exact⟨rfl,hB⟩
theorem zrd (w:World)(o1 o2 o3 o4:Obj):((((w.alloc o1).alloc o2).alloc o3).alloc o4).heap[w.heap.size+1+1+1]?=some o4:=by
 have h:=MapKept.heap_alloc (((w.alloc o1).alloc o2).alloc o3) o4
 simpa using h.1
theorem zqO (w:World)(o1 o2 o3 o4:Obj):Below w.heap.size w ((((w.alloc o1).alloc o2).alloc o3).alloc o4):=
 (((bAl _ _).alloc (by simp) _).alloc (by simp;omega) _).alloc (by simp;omega) _
theorem zjJ (r:Rl)(a:Option Addr)(cap:Nat)(w:World)(hw:qy w a r.vs)(hl:r.vs.length<=1048576) :
 Calls Tryz.prog 113 #[.agg (r.cells a cap)] w
  fun e w'=>∃bk,e=.returned (.agg (r.cells (some ⟨bk,0,none⟩) r.vs.length))/\w.heap.size<=bk/\bk<w'.heap.size/\w'.heap[bk]?=some (.cells (zb5 r.vs) 3)/\Below w.heap.size w w':=by
 unfold Rl.cells;go_enter Tryz.func113,Tryz.ntmps113
 go_wp2_with (go_at_call 142;refine(zot _ _ _ _ (by exact hw.mono (((bAl _ _).alloc (by simp) _).alloc (by simp;omega) _)) hl).mono ?_;rintro e w'⟨rfl,rfl⟩)
 refine bodyPost_ret (v:=.agg #[.slice (some ⟨w.heap.size+1+1+1,0,none⟩) r.vs.length r.vs.length,.string r.kd,.string r.tm,.string r.px]) (by simp[results,Tryz.results113,go_sem]) rfl ⟨w.heap.size+1+1+1,rfl,by omega,by simp,zrd _ _ _ _ _,zqO _ _ _ _ _⟩
theorem zjL (r:Rl)(a a':Option Addr)(cap cap':Nat)(w:World)(hw:qy w a r.vs)(hw':qy w a' r.vs) :
 Calls Tryz.prog 126 #[.agg (r.cells a cap),.agg (r.cells a' cap')] w fun e w'=>e=.returned (.bool true)/\Below w.heap.size w w':=by
 unfold Rl.cells;go_enter Tryz.func126,Tryz.ntmps126;go_wp2_with fail
 refine(zeg _ _ _ _ _ _ (hw.mono (zw _ _ _)) (hw'.mono (zw _ _ _))).mono ?_;rintro e w1⟨rfl,hb1⟩;have hX1:=za (za (zl w _ _) (by simp) (bAl _ _)) (by simp;omega) hb1;have hY1:=za (zqj w _ _ _) (by simp) hb1;have hz:w.heap.size+1<w1.heap.size:=by have:=hb1.size;simp at this;omega
 have hB1:=(zw w _ _).trans (hb1.mono (by simp;omega));clear hb1;go_wp2_with fail
 go_ret;exact⟨rfl,hB1⟩
end Go.Proofs.YtnapmdofidgliaaGreat
