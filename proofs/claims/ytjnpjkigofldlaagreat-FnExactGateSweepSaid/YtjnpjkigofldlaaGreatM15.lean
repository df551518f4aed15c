import Derived.Test.YtjnpjkigofldlaaGreatM12
import Derived.Test.YtjnpjkigofldlaaGreatM11
import Derived.Test.YtjnpjkigofldlaaGreatM10
set_option maxHeartbeats 2000000
namespace Go.Proofs.YtjnpjkigofldlaaGreat
open Go.RowKit
variable {w w':World}{b bo k lo lo':Nat}{ms:List Mnd}{vs:List Int}
theorem zsQ {ss:List Shp}(h:(zaU ss:Int)<=1048576):ss.length<=1048576/\∀i (h:i<ss.length),ss[i].fs.length<=1048576/\∀j (h':j<ss[i].fs.length),ss[i].fs[j].ws.length<=1048576:=by
 unfold zaU at h;refine⟨by omega,fun i hi=>?_⟩;have h1:Shp.sz ss[i]<=ziK ss:=zj5 Shp.sz ss i hi;unfold Shp.sz zaS at h1;refine⟨by omega,fun j hj=>?_⟩;have h2:Fld.sz ss[i].fs[j]<=zik ss[i].fs:=zj5 Fld.sz ss[i].fs j hj;unfold Fld.sz zaA qN at h2;omega
def zt6 (w:World)(b o:Nat)(v0 v1 v2 v3 v4 v5:Value):World:=(((((w.setCell (aD b o) v0).setCell (aD b (o+1)) v1).setCell (aD b (o+2)) v2).setCell (aD b (o+3)) v3).setCell (aD b (o+4)) v4).setCell (aD b (o+5)) v5
def zqu (C:AV)(o:Nat)(v0 v1 v2 v3 v4 v5:Value):AV:=(((((C.setIfInBounds o v0).setIfInBounds (o+1) v1).setIfInBounds (o+2) v2).setIfInBounds (o+3) v3).setIfInBounds (o+4) v4).setIfInBounds (o+5) v5
theorem zq7 {o:Nat}{C:AV}{t:TypeId}(h:w.heap[b]?=some (.cells C t))(v0 v1 v2 v3 v4 v5:Value):(zt6 w b o v0 v1 v2 v3 v4 v5).heap[b]?=some (.cells (zqu C o v0 v1 v2 v3 v4 v5) t):=
 zh (zh (zh (zh (zh (zh h v0) v1) v2) v3) v4) v5
theorem zqm {B:Nat}{a:World}(h:Below B a w)(hb:B<=b)(o:Nat)(v0 v1 v2 v3 v4 v5:Value):Below B a (zt6 w b o v0 v1 v2 v3 v4 v5):=
 (((((h.setCell hb v0).setCell hb v1).setCell hb v2).setCell hb v3).setCell hb v4).setCell hb v5
theorem zss (C:AV)(o:Nat)(v0 v1 v2 v3 v4 v5:Value):(zqu C o v0 v1 v2 v3 v4 v5).size=C.size:=by simp[zqu]
theorem zth (C:AV)(o i:Nat)(v0 v1 v2 v3 v4 v5:Value)(h:i<o \/ o+6<=i):(zqu C o v0 v1 v2 v3 v4 v5)[i]?=C[i]?:=by
 unfold zqu
 iterate 6 rw[Array.getElem?_setIfInBounds,if_neg (by omega)]
theorem ztN (C:AV)(o j:Nat)(v0 v1 v2 v3 v4 v5:Value)(hj:j<6)(ho:o+6<=C.size):(zqu C o v0 v1 v2 v3 v4 v5)[o+j]?=(#[v0,v1,v2,v3,v4,v5]:AV)[j]?:=by
 have hc:j=0 \/ j=1 \/ j=2 \/ j=3 \/ j=4 \/ j=5:=by omega
 unfold zqu
 rcases hc with h|h|h|h|h|h <;> subst h <;> simp[Array.getElem?_setIfInBounds] <;> omega
theorem q8.put (h:q8 lo w bo ms k)(hk:k<ms.length) :
 q8 lo (zt6 w bo (k*6) (.s ms[k].kd) (.s ms[k].fd) (.s ms[k].wh) (.s ms[k].wi) (.s ms[k].pt) (.s ms[k].fr)) bo ms (k+1):=by
 obtain⟨C,hC,hsz,hr⟩:=h.rows;refine⟨h.low,_,zq7 hC _ _ _ _ _ _,by rw[zss];exact hsz,fun i hi hik j hj=>?_⟩
 rcases Nat.lt_or_ge i k with hlt|hge
 ·rw[zth _ _ _ _ _ _ _ _ _ (by omega)]
  exact hr i hi hlt j hj
 ·have e:i=k:=by omega
  subst e;rw[ztN _ _ _ _ _ _ _ _ _ hj (by omega)]
  rfl
theorem zky (m:Mnd)(w:World) :
 Calls Tryz.prog 75 #[.agg m.cells] w fun e w'=>e=.returned (.agg m.cells)/\Bw w w':=by
 unfold Mnd.cells;go_in;go_wp2
 refine bodyPost_ret (v:=.agg #[.s m.kd,.s m.fd,.s m.wh,.s m.wi,.s m.pt,.s m.fr]) (by simp[results,Tryz.results75,go_sem]) rfl ⟨rfl,?_⟩;exact(((bAl _ _).alloc (by simp) _).alloc (by simp;omega) _)
def zrB:AV:=#[.s ByteArray.empty,.s ByteArray.empty,.s ByteArray.empty,.s ByteArray.empty,.s ByteArray.empty,.s ByteArray.empty]
def zpm (n:Nat):AV:=madeCells zrB (n*6)
theorem zjM (a:OA)(cap:Nat)(ms:List Mnd)(w:World)(hw:qQ w a ms)(hl:ms.length<=1048576) :
 Calls Tryz.prog 26 #[.l a ms.length cap] w fun e w'=>e=.returned (.l (some (aD w.heap.size 0)) ms.length ms.length)/\q8 w.heap.size w' w.heap.size ms ms.length/\Bw w w':=by
 have hmk:∀w:World,(Instr.makeSlice 44 (.i ms.length) (.i ms.length)).run Tryz.prog w=.ok (.l (some (aD w.heap.size 0)) ms.length ms.length) (w.alloc (.cells (zpm ms.length) 132)):=
  fun w=>jy (P:=Tryz.prog) 44 132 (.agg zrB) 6 96 Tryz.underlying44 (by kernel_rfl) ms.length (by omega) (by omega) w
 go_in;go_wp2_with fail
 clear hmk
 go_loopw [4] (fun i wr=>∃k:Nat,k<=ms.length/\i=.i k/\q8 w.heap.size wr w.heap.size ms k/\Bw w wr) (fun i _=>ms.length-(intOf i).toNat)
 case atStart=>exact⟨0,Nat.zero_le _,rfl,⟨Nat.le_refl _,zpm ms.length,(MapKept.heap_alloc w _).1,size_madeCells _ _,fun i _ h=>absurd h (by omega)⟩,bAl _ _⟩
 case round=>
  obtain⟨k,hk,rfl,hown,hB⟩:=hrel
  by_cases hlt:k<ms.length
  ·obtain⟨b,off,rfl,hb,c0,c1,c2,c3,c4,c5⟩:=hw.load hB k hlt
   have hltI:(k:Int)<(ms.length:Int):=by omega
   clear hw;go_wp2_with fail
   refine(zky ms[k] _).mono ?_;rintro e w1⟨rfl,hb1⟩;have hB1:=hB.trans (hb1.mono hB.size);have hown1:=hown.later hb1
   have hbo:w.heap.size<wr.heap.size:=by
    obtain⟨C',hC',_⟩:=hown.rows;exact(gES hC').1
   obtain⟨C,hC,hsz,_⟩:=hown1.rows;have hfz:∀o,w1.frozen? (aD w.heap.size o)=false:=fun o=>zf hC
   have hex:∀o,o<ms.length*6->∃v,w1.cell? (aD w.heap.size o)=some v:=fun o ho=>⟨C[o]'(by omega),by rw[cell_of_block hC];exact Array.getElem?_eq_getElem (by omega)⟩
   obtain⟨v0,hv0⟩:=hex (k*6) (by omega);obtain⟨v1,hv1⟩:=hex (k*6+1) (by omega);obtain⟨v2,hv2⟩:=hex (k*6+2) (by omega);obtain⟨v3,hv3⟩:=hex (k*6+3) (by omega);obtain⟨v4,hv4⟩:=hex (k*6+4) (by omega);obtain⟨v5,hv5⟩:=hex (k*6+5) (by omega);have HP:Hid (q8 w.heap.size w1 w.heap.size ms k):=hown1;clear hex hC hsz c0 c1 c2 c3 c4 c5 hown hown1;unfold Mnd.cells;go_wp2
   exact⟨⟨k+1,by omega,by go_num,HP.o.put hlt,zqm hB1 (Nat.le_refl _) _ _ _ _ _ _ _⟩,by simp[intOf];omega⟩
  ·have HF:Hid (q8 w.heap.size wr w.heap.size ms ms.length):=by
    have e:k=ms.length:=by omega
    subst e;exact hown
   clear hw hown;go_wp2
   go_ret;exact⟨rfl,HF.o,hB⟩
structure Lw where
 ss:List Shp
 ms:List Mnd
 ts:List Tm
abbrev lC (l:Lw)(a b c:OA)(ca cb cc:Nat):AV:=#[.l a l.ss.length ca,.l b l.ms.length cb,.l c l.ts.length cc]
def Lw.cells (l:Lw)(a b c:OA)(ca cb cc:Nat):AV:=#[.l a l.ss.length ca,.l b l.ms.length cb,.l c l.ts.length cc]
structure qp (w:World)(l:Lw)(a b c:OA):Prop where
 ss:yU w a l.ss
 ms:qQ w b l.ms
 ts:jQ w c l.ts
theorem qp.mono {l:Lw}{a b c:OA}(h:qp w l a b c)(hb:Bw w w'):qp w' l a b c:=⟨h.ss.mono hb,h.ms.mono hb,h.ts.mono hb⟩
def Lw.sz (l:Lw):Nat:=zaU l.ss+zbi l.ms+zds l.ts
structure Lw.Few (l:Lw):Prop where
 ss:l.ss.length<=1048576/\∀i (h:i<l.ss.length),l.ss[i].fs.length<=1048576/\∀j (h':j<l.ss[i].fs.length),l.ss[i].fs[j].ws.length<=1048576
 ms:l.ms.length<=1048576
 ts:l.ts.length<=1048576
theorem Lw.few {l:Lw}(h:(l.sz:Int)<=1048576):l.Few:=by
 unfold Lw.sz at h;refine⟨zsQ (by omega),?_,?_⟩
 ·unfold zbi at h;omega
 ·unfold zds at h;omega
theorem zlU (l:Lw)(a b c:OA)(ca cb cc:Nat)(left:Int)(w:World)(hl:qp w l a b c)(h0:0<=left)(h1:left<=1048576) :
 Calls Tryz.prog 4 #[.agg (l.cells a b c ca cb cc),.i left] w fun e w'=>e=.returned (.i (zJ l.sz left))/\Bw w w':=by
 have HL:Hid (qp w l a b c):=hl;clear hl;unfold Lw.cells;go_in;go_wp2_with fail
 refine(zim _ _ l.ss _ _ (HL.o.ss.mono (bAl _ _)) h0 h1).mono ?_;rintro e w1⟨rfl,hb⟩;have hX1:=za (zI w (lC l a b c ca cb cc) 26) (by simp) hb;have hz1:w.heap.size<w1.heap.size:=by have:=hb.size;simp at this;omega
 have hB1:Bw w w1:=(bAl _ _).trans (hb.mono (by simp));clear hb
 by_cases c1:(zaU l.ss:Int)<=left
 rotate_left
 ·have HF:Hid (zJ l.sz left=-1):=zy (by unfold Lw.sz;omega)
  rw[zy c1];go_wp2
  go_ret;exact⟨zm HF.o.symm,hB1⟩
 rw[zN c1];go_wp2_with fail
 refine(zjH _ _ l.ms _ _ (HL.o.ms.mono hB1) (by omega) (by omega)).mono ?_;rintro e w2⟨rfl,hb⟩;have hX2:=za hX1 hz1 hb;have hz2:=nLt hz1 hb.size;have hB2:=hB1.trans (hb.mono hB1.size);clear hb hX1 hz1 hB1
 by_cases c2:(zbi l.ms:Int)<=left-zaU l.ss
 rotate_left
 ·have HF:Hid (zJ l.sz left=-1):=zy (by unfold Lw.sz;omega)
  rw[zy c2];go_wp2
  go_ret;exact⟨zm HF.o.symm,hB2⟩
 rw[zN c2];go_wp2_with fail
 refine(zjA _ _ l.ts _ _ (HL.o.ts.mono hB2) (by omega) (by omega)).mono ?_;rintro e w3⟨rfl,hb⟩;have hB3:=hB2.trans (hb.mono hB2.size);clear hb hX2 hz2 hB2
 by_cases c3:(zds l.ts:Int)<=left-zaU l.ss-zbi l.ms
 rotate_left
 ·have HF:Hid (zJ l.sz left=-1):=zy (by unfold Lw.sz;omega)
  rw[zy c3];go_wp2
  go_ret;exact⟨zm HF.o.symm,hB3⟩
 have HF:Hid (zJ l.sz left=left-zaU l.ss-zbi l.ms-zds l.ts):=by
  unfold Hid;rw[zN (by unfold Lw.sz;omega)];unfold Lw.sz;omega
 rw[zN c3];go_wp2
 go_ret;exact⟨zm HF.o.symm,hB3⟩
theorem zmn (l:Lw)(a b c a' b' c':OA)(ca cb cc ca' cb' cc':Nat)(w:World)(hl:qp w l a b c)(hl':qp w l a' b' c') :
 Calls Tryz.prog 11 #[.agg (l.cells a b c ca cb cc),.agg (l.cells a' b' c' ca' cb' cc')] w fun e w'=>e=.returned (.bool true)/\Bw w w':=by
 unfold Lw.cells;go_in;go_wp2_with fail
 refine(ziL _ _ _ _ l.ss _ (hl.ss.mono (zo _ _ _)) (hl'.ss.mono (zo _ _ _))).mono ?_;rintro e w1⟨rfl,hb⟩;have hX1:=za (za (zI w _ _) (by simp) (bAl _ _)) (by simp;omega) hb;have hY1:=za (zI (w.alloc (.cells (lC l a b c ca cb cc) 47)) (lC l a' b' c' ca' cb' cc') 47) (by simp) hb;have hz1:w.heap.size+1<w1.heap.size:=by have:=hb.size;simp at this;omega
 have hB1:=(zo w _ _).trans (hb.mono (by simp;omega));rw[World.size_alloc]at hY1;clear hb;go_wp2_with fail
 refine(zjt _ _ _ _ l.ms _ (hl.ms.mono hB1) (hl'.ms.mono hB1)).mono ?_;rintro e w2⟨rfl,hb⟩;have hX2:=za hX1 (nSl hz1) hb;have hY2:=za hY1 hz1 hb;have hz2:=nLt hz1 hb.size;have hB2:=hB1.trans (hb.mono hB1.size);clear hb hX1 hY1 hz1 hB1;go_wp2_with fail
 refine(zjE _ _ _ _ l.ts _ (hl.ts.mono hB2) (hl'.ts.mono hB2)).mono ?_;rintro e w3⟨rfl,hb⟩;have hB3:=hB2.trans (hb.mono hB2.size);clear hb hX2 hY2 hz2 hB2;go_wp2
 go_ret;exact⟨rfl,hB3⟩
theorem below3' (w:World)(o o' o'':Obj):Bw w (((w.alloc o).alloc o').alloc o''):=((bAl _ _).alloc (by simp) _).alloc (by simp;omega) _
theorem zmi (w:World)(o1 o2 o3:Obj):(((w.alloc o1).alloc o2).alloc o3).heap[w.heap.size]?=some o1/\(((w.alloc o1).alloc o2).alloc o3).heap[w.heap.size+1]?=some o2/\(((w.alloc o1).alloc o2).alloc o3).heap[w.heap.size+1+1]?=some o3:=by
 have h1:=(MapKept.heap_alloc w o1).1;have h2:=(MapKept.heap_alloc (w.alloc o1) o2).1;have h3:=(MapKept.heap_alloc ((w.alloc o1).alloc o2) o3).1;simp only[World.size_alloc]at h2 h3;exact⟨(Below.heap_alloc _ _ _ (by simp;omega)).trans ((Below.heap_alloc _ _ _ (by simp)).trans h1),(Below.heap_alloc _ _ _ (by simp)).trans h2,h3⟩
structure yM (lo:Nat)(w w':World):Prop where
 size:w.heap.size<=w'.heap.size
 same:∀b,lo<=b->b<w.heap.size->w'.heap[b]?=w.heap[b]?
theorem yM.trans {w1 w2:World}(h:yM lo w w1)(h':yM lo w1 w2):yM lo w w2:=
 ⟨Nat.le_trans h.size h'.size,fun b h1 h2=>(h'.same b h1 (nLt h2 h.size)).trans (h.same b h1 h2)⟩
theorem yM.mono (h:yM lo w w')(hl:lo<=lo'):yM lo' w w':=⟨h.size,fun b h1 h2=>h.same b (Nat.le_trans hl h1) h2⟩
theorem yM.below (h:Bw w w'):yM lo w w':=⟨h.size,fun b _ h2=>h.block b h2⟩
theorem yM.setCell {p:Addr}(hp:p.block<lo)(v:Value):yM lo w (w.setCell p v):=
 ⟨by rw[World.size_setCell];exact Nat.le_refl _,fun b h1 _=>Below.heap_setCell _ _ _ _ (by omega)⟩
theorem qF.above {bf:Nat}{fs:List Fld}(h:qF lo w bf fs k)(ha:yM lo w w'):qF lo w' bf fs k:=by
 obtain⟨C,hC,hsz,hr⟩:=h.rows;refine⟨h.low,C,(ha.same _ h.low (gES hC).1).trans hC,hsz,fun i hi hk=>?_⟩;obtain⟨bk,h1,h2,h3,h4⟩:=hr i hi hk;exact⟨bk,h1,h2,(ha.same _ h1 (gES h3).1).trans h3,h4⟩
theorem jP.above {ss:List Shp}(h:jP lo w bo ss k)(ha:yM lo w w'):jP lo w' bo ss k:=by
 obtain⟨C,hC,hsz,hr⟩:=h.rows;refine⟨h.low,C,(ha.same _ h.low (gES hC).1).trans hC,hsz,fun i hi hk=>?_⟩;obtain⟨bf,h1,h2,h3,h4⟩:=hr i hi hk;exact⟨bf,h1,h2,h3.above (ha.mono (Nat.le_succ_of_le h.low)),h4⟩
theorem q8.above (h:q8 lo w bo ms k)(ha:yM lo w w'):q8 lo w' bo ms k:=by
 obtain⟨C,hC,hr⟩:=h.rows;exact⟨h.low,C,(ha.same _ h.low (gES hC).1).trans hC,hr⟩
theorem zaq.above {ty:TypeId}{ts:List Tm}(h:zaq ty lo w bo ts k)(ha:yM lo w w'):zaq ty lo w' bo ts k:=by
 obtain⟨C,hC,hr⟩:=h.rows;exact⟨h.low,C,(ha.same _ h.low (gES hC).1).trans hC,hr⟩
structure zpo (lo:Nat)(w:World)(l:Lw)(a b c:Nat):Prop where
 ss:jP lo w a l.ss l.ss.length
 ms:q8 lo w b l.ms l.ms.length
 ts:zaq 134 lo w c l.ts l.ts.length
structure Lw.Small (l:Lw):Prop where
 ss:zea l.ss
 ls:l.ss.length<=maxLen
 ms:∀i (h:i<l.ms.length),l.ms[i].Small
 lm:l.ms.length<=maxLen
 ts:∀i (h:i<l.ts.length),l.ts[i].Small
 lt:l.ts.length<=maxLen
theorem qp.small {l:Lw}{a b c:OA}(h:qp w l a b c):l.Small:=⟨h.ss.smalls,h.ss.len,h.ms.small,h.ms.len,h.ts.small,h.ts.len⟩
theorem zpo.at {l:Lw}{a c:Nat}(h:zpo lo w l a b c)(hs:l.Small):qp w l (some (aD a 0)) (some (aD b 0)) (some (aD c 0)):=⟨h.ss.at hs.ss hs.ls,h.ms.at hs.ms hs.lm,h.ts.at hs.ts hs.lt⟩
theorem zue {o:Ob}{l:Int}(h:(zd4 o:Int)<=l)(hl:l<=1048576):o.vs.length<=1048576/\o.hs.length<=1048576:=by
 unfold zd4 qN at h;omega
theorem lt_of_some {o:Obj}(h:w.heap[b]?=some o):b<w.heap.size:=(gES h).1
theorem zn8 (h:q8 lo w bo ms k)(hl:lo'<=lo):q8 lo' w bo ms k:=⟨Nat.le_trans hl h.low,h.rows⟩
theorem zn3 {ty:TypeId}{ts:List Tm}(h:zaq ty lo w bo ts k)(hl:lo'<=lo):zaq ty lo' w bo ts k:=⟨Nat.le_trans hl h.low,h.rows⟩
theorem zgr (l:Lw)(a b c:OA)(ca cb cc:Nat)(w:World)(hl:qp w l a b c)(hf:l.Few) :
 Calls Tryz.prog 7 #[.agg (l.cells a b c ca cb cc)] w fun e w'=>∃lo a' b' c',e=.returned (.agg (l.cells (some (aD a' 0)) (some (aD b' 0)) (some (aD c' 0)) l.ss.length l.ms.length l.ts.length))/\w.heap.size<=lo/\zpo lo w' l a' b' c'/\Bw w w':=by
 have HL:Hid (qp w l a b c):=hl;have HF:Hid l.Few:=hf;clear hl hf;unfold Lw.cells;go_in;go_wp2_with fail
 have k0:=zmi w (.cells (lC l a b c ca cb cc) 26) (.cells #[.l none 0 0,.l none 0 0,.l none 0 0] 47) (.cells #[.l none 0 0,.l none 0 0,.l none 0 0] 47);have hB0:=below3' w (.cells (lC l a b c ca cb cc) 26) (.cells #[.l none 0 0,.l none 0 0,.l none 0 0] 47) (.cells #[.l none 0 0,.l none 0 0,.l none 0 0] 47);obtain⟨W0,hW0⟩:=xN (((w.alloc (.cells (lC l a b c ca cb cc) 26)).alloc (.cells #[.l none 0 0,.l none 0 0,.l none 0 0] 47)).alloc (.cells #[.l none 0 0,.l none 0 0,.l none 0 0] 47));have hz0:w.heap.size+1+1<W0.heap.size:=by rw[hW0];simp
 rw[<- hW0]at k0 hB0 ⊢;clear hW0;have HLO:Hid (w.heap.size+1+1<W0.heap.size):=hz0;refine(ziw _ _ l.ss _ (HL.o.ss.mono hB0) HF.o.ss.1 HF.o.ss.2).mono ?_;rintro e w1⟨rfl,hown,hb⟩;obtain⟨a',ha'⟩:∃a',a'=W0.heap.size:=⟨_,rfl⟩
 have HO1:Hid (jP W0.heap.size w1 a' l.ss l.ss.length):=by rw[ha'];exact hown
 have hX1:=(hb.block _ (by omega)).trans k0.1;have hR1:=(hb.block _ (by omega)).trans k0.2.1;have hO1:=(hb.block _ hz0).trans k0.2.2;have HZ1:Hid (W0.heap.size<=w1.heap.size):=hb.size;have HB1:Hid (Bw w w1):=hB0.trans (hb.mono hB0.size);rw[<- ha'];clear hown hb k0 hB0 hz0 ha';have cO1:=fun j=>cell_of_block (o:=j) hO1
 have fO1:=fun j=>zf (o:=j) hO1
 have HX1':Hid ((w1.setCell (aD (w.heap.size+1+1) 0) (.l (some (aD a' 0)) l.ss.length l.ss.length)).heap[w.heap.size]?=some (.cells (lC l a b c ca cb cc) 26)):=(zA (by omega)).trans hX1;have HR1':Hid ((w1.setCell (aD (w.heap.size+1+1) 0) (.l (some (aD a' 0)) l.ss.length l.ss.length)).heap[w.heap.size+1]?=some (.cells #[.l none 0 0,.l none 0 0,.l none 0 0] 47)):=(zA (by omega)).trans hR1;have HO1':Hid ((w1.setCell (aD (w.heap.size+1+1) 0) (.l (some (aD a' 0)) l.ss.length l.ss.length)).heap[w.heap.size+1+1]?=some (.cells #[.l (some (aD a' 0)) l.ss.length l.ss.length,.l none 0 0,.l none 0 0] 47)):=zh hO1 _;have HAB1:Hid (yM W0.heap.size w1 (w1.setCell (aD (w.heap.size+1+1) 0) (.l (some (aD a' 0)) l.ss.length l.ss.length))):=yM.setCell HLO.o _;have HBB1:Hid (Bw w (w1.setCell (aD (w.heap.size+1+1) 0) (.l (some (aD a' 0)) l.ss.length l.ss.length))):=HB1.o.setCell (by show w.heap.size<=w.heap.size+1+1;omega) _;have HZZ1:Hid (W0.heap.size<=(w1.setCell (aD (w.heap.size+1+1) 0) (.l (some (aD a' 0)) l.ss.length l.ss.length)).heap.size):=by unfold Hid;rw[World.size_setCell];exact HZ1.o
 clear hX1 hR1 hO1;have cX1:=fun j=>cell_of_block (o:=j) HX1'.out
 have cR1:=fun j=>cell_of_block (o:=j) HR1'.out
 have fR1:=fun j=>zf (o:=j) HR1'.out
 have cOO1:=fun j=>cell_of_block (o:=j) HO1'.out
 go_wp2_with fail
 refine(zjM _ _ l.ms _ (HL.o.ms.mono HBB1.o) HF.o.ms).mono ?_;rintro e w2⟨rfl,hown,hb⟩;obtain⟨b',hp'⟩:∃b',b'=(w1.setCell (aD (w.heap.size+1+1) 0) (.l (some (aD a' 0)) l.ss.length l.ss.length)).heap.size:=⟨_,rfl⟩
 have HN2:Hid (q8 W0.heap.size w2 b' l.ms l.ms.length):=by rw[hp'];exact zn8 hown HZZ1.o
 have HAA2:Hid (yM W0.heap.size w1 w2):=HAB1.o.trans (yM.below hb);have hX2:=(hb.block _ (lt_of_some HX1'.out)).trans HX1'.out;have hR2:=(hb.block _ (lt_of_some HR1'.out)).trans HR1'.out;have hO2:=(hb.block _ (lt_of_some HO1'.out)).trans HO1'.out;have HZ2:Hid (W0.heap.size<=w2.heap.size):=Nat.le_trans HZZ1.o hb.size;have HB2:Hid (Bw w w2):=HBB1.o.trans (hb.mono HBB1.o.size);rw[<- hp'];clear hown hb hp' cX1 cR1 fR1 cOO1;have cO2:=fun j=>cell_of_block (o:=j) hO2
 have fO2:=fun j=>zf (o:=j) hO2
 have HX2':Hid ((w2.setCell (aD (w.heap.size+1+1) 1) (.l (some (aD b' 0)) l.ms.length l.ms.length)).heap[w.heap.size]?=some (.cells (lC l a b c ca cb cc) 26)):=(zA (by omega)).trans hX2;have HR2':Hid ((w2.setCell (aD (w.heap.size+1+1) 1) (.l (some (aD b' 0)) l.ms.length l.ms.length)).heap[w.heap.size+1]?=some (.cells #[.l none 0 0,.l none 0 0,.l none 0 0] 47)):=(zA (by omega)).trans hR2;have HO2':Hid ((w2.setCell (aD (w.heap.size+1+1) 1) (.l (some (aD b' 0)) l.ms.length l.ms.length)).heap[w.heap.size+1+1]?=some (.cells #[.l (some (aD a' 0)) l.ss.length l.ss.length,.l (some (aD b' 0)) l.ms.length l.ms.length,.l none 0 0] 47)):=zh hO2 _;have HAB2:Hid (yM W0.heap.size w2 (w2.setCell (aD (w.heap.size+1+1) 1) (.l (some (aD b' 0)) l.ms.length l.ms.length))):=yM.setCell HLO.o _;have HBB2:Hid (Bw w (w2.setCell (aD (w.heap.size+1+1) 1) (.l (some (aD b' 0)) l.ms.length l.ms.length))):=HB2.o.setCell (by show w.heap.size<=w.heap.size+1+1;omega) _;have HZZ2:Hid (W0.heap.size<=(w2.setCell (aD (w.heap.size+1+1) 1) (.l (some (aD b' 0)) l.ms.length l.ms.length)).heap.size):=by unfold Hid;rw[World.size_setCell];exact HZ2.o
 clear hX2 hR2 hO2;have cX2:=fun j=>cell_of_block (o:=j) HX2'.out
 have cR2:=fun j=>cell_of_block (o:=j) HR2'.out
 have fR2:=fun j=>zf (o:=j) HR2'.out
 have cOO2:=fun j=>cell_of_block (o:=j) HO2'.out
 go_wp2_with fail
 refine(zjv _ _ l.ts _ (HL.o.ts.mono HBB2.o) HF.o.ts).mono ?_;rintro e w3⟨rfl,hown,hb⟩;obtain⟨c',hp'⟩:∃c',c'=(w2.setCell (aD (w.heap.size+1+1) 1) (.l (some (aD b' 0)) l.ms.length l.ms.length)).heap.size:=⟨_,rfl⟩
 have HN3:Hid (zaq 134 W0.heap.size w3 c' l.ts l.ts.length):=by rw[hp'];exact zn3 hown HZZ2.o
 have HAA3:Hid (yM W0.heap.size w2 w3):=HAB2.o.trans (yM.below hb);have hX3:=(hb.block _ (lt_of_some HX2'.out)).trans HX2'.out;have hR3:=(hb.block _ (lt_of_some HR2'.out)).trans HR2'.out;have hO3:=(hb.block _ (lt_of_some HO2'.out)).trans HO2'.out;have HZ3:Hid (W0.heap.size<=w3.heap.size):=Nat.le_trans HZZ2.o hb.size;have HB3:Hid (Bw w w3):=HBB2.o.trans (hb.mono HBB2.o.size);rw[<- hp'];clear hown hb hp' cX2 cR2 fR2 cOO2;have cO3:=fun j=>cell_of_block (o:=j) hO3
 have fO3:=fun j=>zf (o:=j) hO3
 have HX3':Hid ((w3.setCell (aD (w.heap.size+1+1) 2) (.l (some (aD c' 0)) l.ts.length l.ts.length)).heap[w.heap.size]?=some (.cells (lC l a b c ca cb cc) 26)):=(zA (by omega)).trans hX3;have HR3':Hid ((w3.setCell (aD (w.heap.size+1+1) 2) (.l (some (aD c' 0)) l.ts.length l.ts.length)).heap[w.heap.size+1]?=some (.cells #[.l none 0 0,.l none 0 0,.l none 0 0] 47)):=(zA (by omega)).trans hR3;have HO3':Hid ((w3.setCell (aD (w.heap.size+1+1) 2) (.l (some (aD c' 0)) l.ts.length l.ts.length)).heap[w.heap.size+1+1]?=some (.cells #[.l (some (aD a' 0)) l.ss.length l.ss.length,.l (some (aD b' 0)) l.ms.length l.ms.length,.l (some (aD c' 0)) l.ts.length l.ts.length] 47)):=zh hO3 _;have HAB3:Hid (yM W0.heap.size w3 (w3.setCell (aD (w.heap.size+1+1) 2) (.l (some (aD c' 0)) l.ts.length l.ts.length))):=yM.setCell HLO.o _;have HBB3:Hid (Bw w (w3.setCell (aD (w.heap.size+1+1) 2) (.l (some (aD c' 0)) l.ts.length l.ts.length))):=HB3.o.setCell (by show w.heap.size<=w.heap.size+1+1;omega) _;have HZZ3:Hid (W0.heap.size<=(w3.setCell (aD (w.heap.size+1+1) 2) (.l (some (aD c' 0)) l.ts.length l.ts.length)).heap.size):=by unfold Hid;rw[World.size_setCell];exact HZ3.o
 clear hX3 hR3 hO3;have cX3:=fun j=>cell_of_block (o:=j) HX3'.out
 have cR3:=fun j=>cell_of_block (o:=j) HR3'.out
 have fR3:=fun j=>zf (o:=j) HR3'.out
 have cOO3:=fun j=>cell_of_block (o:=j) HO3'.out
 go_wp2
 refine bodyPost_ret (v:=.agg #[.l (some (aD a' 0)) l.ss.length l.ss.length,.l (some (aD b' 0)) l.ms.length l.ms.length,.l (some (aD c' 0)) l.ts.length l.ts.length]) (by simp[results,Tryz.results7,go_sem,cR3]) rfl ⟨W0.heap.size,a',b',c',rfl,by have:=HLO.o;omega,?_,?_⟩
 ·have hlt1:w.heap.size+1<W0.heap.size:=by have:=HLO.o;omega
  have hA3:∀v0 v1 v2,yM W0.heap.size w3 ((((w3.setCell (aD (w.heap.size+1+1) 2) (.l (some (aD c' 0)) l.ts.length l.ts.length)).setCell (aD (w.heap.size+1) 0) v0).setCell (aD (w.heap.size+1) 1) v1).setCell (aD (w.heap.size+1) 2) v2):=fun v0 v1 v2=>HAB3.o.trans (((yM.setCell (p:=(aD (w.heap.size+1) 0)) hlt1 v0).trans (yM.setCell (p:=(aD (w.heap.size+1) 1)) hlt1 v1)).trans (yM.setCell (p:=(aD (w.heap.size+1) 2)) hlt1 v2))
  exact⟨HO1.o.above ((HAA2.o.trans HAA3.o).trans (hA3 _ _ _)),HN2.o.above (HAA3.o.trans (hA3 _ _ _)),HN3.o.above (hA3 _ _ _)⟩
 ·exact((HBB3.o.setCell (Nat.le_succ _) _).setCell (Nat.le_succ _) _).setCell (Nat.le_succ _) _
theorem zdQ (l:Lw)(a b c:OA)(ca cb cc:Nat)(w:World)(hl:qp w l a b c)(hf:l.Few) :
 Calls Tryz.prog 7 #[.agg (l.cells a b c ca cb cc)] w fun e w'=>∃a' b' c',e=.returned (.agg (l.cells a' b' c' l.ss.length l.ms.length l.ts.length))/\qp w' l a' b' c'/\Bw w w':=by
 refine(zgr l a b c ca cb cc w hl hf).mono ?_;rintro e w'⟨lo,a',b',c',he,_,ho,hb⟩;exact⟨_,_,_,he,ho.at hl.small,hb⟩
def yJ (f:Fld)(v res:BA):Int:=if f.kd=1/\f.wg=res then zaI v else 0
def zew (fs:List Fld)(vs:List BA)(res:BA):Nat->Int
 | 0=>0
 | k+1=>zew fs vs res k+yJ (fs.getD k zbz) (vs.getD k ByteArray.empty) res
def qm (ss:List Shp)(o:Ob)(res:BA):Int:=
 if zq ss o=true/\res.toList.isEmpty=false then (if res=o.kd then 1 else 0)+zew (shapeOf ss o.kd).fs o.vs res (shapeOf ss o.kd).fs.length else 0
theorem zet (s:BA):0<=zaI s/\zaI s<=10000000:=by
 unfold zaI
 split
 ·rename_i h
  refine⟨zdm s h,?_⟩;unfold zaC at h;simp only[Bool.and_eq_true,decide_eq_true_eq]at h
  have:=(zfV s.data.toList h.2 7 (by have:=h.1.1.2;simpa using this)).2
  unfold zg5;omega
 ·omega
theorem zhG (f:Fld)(v res:BA):0<=yJ f v res/\yJ f v res<=10000000:=by
 unfold yJ
 split
 ·exact zet v
 ·omega
theorem zdg (fs:List Fld)(vs:List BA)(res:BA):∀k,0<=zew fs vs res k/\zew fs vs res k<=k*10000000
 | 0=>by simp[zew]
 | k+1=>by
  have h1:=zdg fs vs res k;have h2:=zhG (fs.getD k zbz) (vs.getD k ByteArray.empty) res;simp only[zew];omega
theorem zhH (ss:List Shp)(o:Ob)(res:BA)(h:o.vs.length<=1048576):0<=qm ss o res/\qm ss o res<=20000000000000:=by
 unfold qm
 split
 ·rename_i hc
  have hc1:=hc.1;unfold zq at hc1;simp only[Bool.and_eq_true,decide_eq_true_eq]at hc1
  have:=zdg (shapeOf ss o.kd).fs o.vs res (shapeOf ss o.kd).fs.length
  have h3:=hc1.2
  split <;> omega
 ·omega
theorem zrx (fs:List Fld)(vs:List BA)(res:BA)(k:Nat)(h:k<fs.length)(h':k<vs.length):zew fs vs res (k+1)=zew fs vs res k+yJ fs[k] vs[k] res:=by
 have e1:fs.getD k zbz=fs[k]:=by simp[List.getD,h]
 have e2:vs.getD k ByteArray.empty=vs[k]:=by simp[List.getD,h']
 simp only[zew];rw[e1,e2]
theorem zdq (v:Int)(w:World) :
 Calls Tryz.prog 247 #[.i v] w fun e w'=>e=.returned (.bool (zdF v))/\w'=w:=by
 go_in
 go_wp2
 all_goals
  go_ret;refine⟨ze ?_,rfl⟩;rw[Bool.eq_iff_iff];simp[zdF];try omega
theorem zmZ (h:k<vs.length)(hn:zdF vs[k]=false):zaG vs k=false:=by
 unfold zaG;rw[getD_at vs k _ h,hn];rfl
theorem zg0 (h:0<vs.length)(hn:zdF vs[0]=true):zaG vs 0=true:=by
 unfold zaG;rw[getD_at vs 0 _ h,hn];rfl
theorem ziW (h:k+1<vs.length)(hn:zdF vs[k+1]=true):zaG vs (k+1)=decide (vs[k]<vs[k+1]):=by
 unfold zaG;rw[getD_at vs (k+1) _ h,Nat.add_sub_cancel,getD_at vs k _ (by omega),hn];simp
theorem znI (a:OA)(cap:Nat)(vs:List Int)(w:World)(hw:yZ w a vs) :
 Calls Tryz.prog 229 #[.l a vs.length cap] w fun e w'=>e=.returned (.bool (zci vs))/\w'=w:=by
 have hl:=hw.len;unfold maxLen at hl;have HG:Hid (up (zaG vs) vs.length=false->zci vs=false):=fun h=>by unfold zci;rw[h,Bool.and_false]
 go_in;go_wp2
 go_loop [7] (fun i=>∃k:Nat,k<=vs.length/\i=.i k/\up (zaG vs) k=true) (fun i=>vs.length-(intOf i).toNat)
 case atStart=>exact⟨0,Nat.zero_le _,rfl,rfl⟩
 case round=>
  obtain⟨k,hk,rfl,hup⟩:=hrel
  by_cases hlt:k<vs.length
  ·obtain⟨b,off,rfl,hb,hck⟩:=hw.load (bRf _ _) k hlt
   have hltI:(k:Int)<(vs.length:Int):=by omega
   by_cases hn:zdF vs[k]=true
   ·by_cases hk0:k=0
    ·have HF:Hid (up (zaG vs) (k+1)=true):=by subst hk0;unfold Hid;rw[zab,zg0 hlt hn];rfl
     have hg:decide (0<k)=false:=by simp;omega
     have HN:=hid hn;clear hn hup hk0 hw
     go_wp2_with (go_at_call 247;refine(zw HN.o (zdq _ _)).mono ?_;rintro e w'⟨rfl,rfl⟩)
     go_round
     case rel=>exact⟨k+1,by omega,by go_num,HF.o⟩
     case measure=>simp[intOf];omega
    ·obtain⟨m,rfl⟩:∃m,k=m+1:=⟨k-1,by omega⟩
     obtain⟨b',off',e',hb',hcm⟩:=hw.load (bRf _ _) m (by omega);simp only[Option.some.injEq,Addr.mk.injEq]at e';obtain⟨rfl,rfl,_⟩:=e';have HU:Hid (up (zaG vs) (m+1+1)=decide (vs[m]<vs[m+1])):=by unfold Hid;rw[zab,hup,ziW hlt hn];rfl
     have HNN:Hid (¬vs[m]<vs[m+1]->zci vs=false):=fun h=>HG.o (zbL hlt (by rw[ziW hlt hn];simpa using h))
     have HN:=hid hn;clear hn hup hk0 hw
     by_cases hls:vs[m]<vs[m+1]
     ·have hls':decide (vs[m+1]<=vs[m])=false:=by simp;omega
      have HLS:=hid hls;clear hls
      go_wp2_with (go_at_call 247;refine(zw HN.o (zdq _ _)).mono ?_;rintro e w'⟨rfl,rfl⟩)
      go_round
      case rel=>exact⟨m+1+1,by omega,by go_num,by rw[HU.o];simpa using HLS.o⟩
      case measure=>simp[intOf];omega
     ·have hls':vs[m+1]<=vs[m]:=by omega
      have HLS:=hid hls;clear hls
      go_wp2_with (go_at_call 247;refine(zw HN.o (zdq _ _)).mono ?_;rintro e w'⟨rfl,rfl⟩)
      go_ret;exact⟨ze (HNN.o HLS.o).symm,rfl⟩
   ·have hn':zdF vs[k]=false:=by simpa using hn
    have HF:=hid (HG.o (zbL hlt (zmZ hlt hn')));have HN:=hid hn';clear hn hn' hup hw
    go_wp2_with (go_at_call 247;refine(zw HN.o (zdq _ _)).mono ?_;rintro e w'⟨rfl,rfl⟩)
    go_ret;exact⟨ze HF.o.symm,rfl⟩
  ·have HF:Hid (zci vs=decide (0<vs.length)):=by
    have e:k=vs.length:=by omega
    subst e;unfold Hid zci;rw[hup,Bool.and_true]
   clear hw hup;go_wp2
   go_ret;exact⟨ze (by rw[HF.o]),rfl⟩
theorem zj3 {a b:BA}(h:a=b):Ending.returned (.s a)=.returned (.s b):=by rw[h]
theorem zcW (a:OA)(cap:Nat)(ts:List Tm)(v:BA)(w:World)(hw:jQ w a ts) :
 Calls Tryz.prog 159 #[.l a ts.length cap,.s v] w fun e w'=>e=.returned (.s (over ts v))/\w'=w:=by
 have hl:=hw.len;unfold maxLen at hl;go_in;go_wp2
 go_loop [5] (fun i=>∃k:Nat,k<=ts.length/\i=.i k/\yD (ts.take k) v=false) (fun i=>ts.length-(intOf i).toNat)
 case atStart=>exact⟨0,Nat.zero_le _,rfl,rfl⟩
 case round=>
  obtain⟨k,hk,rfl,hall⟩:=hrel
  by_cases hlt:k<ts.length
  ·obtain⟨b,off,rfl,hb,c0,c1⟩:=hw.load (bRf _ _) k hlt
   clear hw;have HS:Hid (yD (ts.take (k+1)) v=(false||decide (ts[k].nm=v))):=by rw[zeT ts v k hlt,hall];rfl
   have hltI:(k:Int)<(ts.length:Int):=by omega
   by_cases he:ts[k].nm=v
   ·have hbe:(ts[k].nm.toList == v.toList)=true:=by rw[beq_toList];simpa using he
    have HR:=hid (zns ts v k hlt hall he);clear he hall;go_wp2
    go_ret;exact⟨zj3 HR.o.symm,rfl⟩
   ·have hbe:(ts[k].nm.toList == v.toList)=false:=by rw[beq_toList];simpa using he
    have HE:=hid he;clear he hall;go_wp2
    go_round
    case rel=>exact⟨k+1,by omega,by go_num,by rw[HS.o,decide_eq_false HE.o];rfl⟩
    case measure=>simp[intOf];omega
  ·have HR:=hid (ziD ts v (by rw[<- zfR ts v k (by omega)];exact hall))
   clear hall hw;go_wp2
   go_ret;exact⟨zj3 HR.o.symm,rfl⟩
theorem zey (a:OA)(cap:Nat)(ts:List Tm)(v:BA)(w:World)(hw:jQ w a ts) :
 Calls Tryz.prog 198 #[.l a ts.length cap,.s v] w fun e w'=>e=.returned (.s (over ts v))/\Bw w w':=by
 have hl:=hw.len;unfold maxLen at hl;go_in;go_wp2
 go_loopw [9] (fun i wr=>∃k:Nat,k<=ts.length/\i=.i k/\yD (ts.take k) v=false/\Bw w wr) (fun i _=>ts.length-(intOf i).toNat)
 case atStart=>exact⟨0,Nat.zero_le _,rfl,rfl,bRf _ _⟩
 case round=>
  obtain⟨k,hk,rfl,hall,hB⟩:=hrel;have hsz:=hB.size
  by_cases hlt:k<ts.length
  ·obtain⟨b,off,rfl,hb,c0,c1⟩:=hw.load hB k hlt
   clear hw;have HS:Hid (yD (ts.take (k+1)) v=(false||decide (ts[k].nm=v))):=by rw[zeT ts v k hlt,hall];rfl
   have hltI:(k:Int)<(ts.length:Int):=by omega
   have hbr:b<wr.heap.size:=by omega
   by_cases he:ts[k].nm=v
   ·have hbe:(ts[k].nm.toList == v.toList)=true:=by rw[beq_toList];simpa using he
    have HR:=hid (zns ts v k hlt hall he);clear he hall;go_wp2
    go_ret;exact⟨zj3 HR.o.symm,hB.alloc hsz _⟩
   ·have hbe:(ts[k].nm.toList == v.toList)=false:=by rw[beq_toList];simpa using he
    have HE:=hid he;clear he hall;go_wp2
    exact⟨⟨k+1,by omega,by go_num,by rw[HS.o,decide_eq_false HE.o];rfl,hB.alloc hsz _⟩,by simp[intOf];omega⟩
  ·have HR:=hid (ziD ts v (by rw[<- zfR ts v k (by omega)];exact hall))
   clear hall hw;go_wp2
   go_ret;exact⟨zj3 HR.o.symm,hB⟩
theorem zgb (a:OA)(cap:Nat)(ts:List Tm)(x y:BA)(w:World)(hw:jQ w a ts) :
 Calls Tryz.prog 130 #[.l a ts.length cap,.s x,.s y] w fun e w'=>e=.returned (.bool (under ts 4 x y))/\w'=w:=by
 by_cases hxy:x=y
 ·have HF:=hid (zeR ts 4 x y hxy)
  have hbe:(x.toList == y.toList)=true:=by rw[beq_toList];simpa using hxy
  clear hxy;go_in;go_wp2
  go_ret;exact⟨ze HF.o.symm,rfl⟩
 have hbe:(x.toList == y.toList)=false:=by rw[beq_toList];simpa using hxy
 have HXY:=hid hxy;clear hxy;go_in;go_wp2
 go_loop [1,7] (fun p i=>∃(k:Nat) (z:BA),k<=4/\p=.s z/\i=.i k/\¬z=y/\under ts 4 x y=under ts (4-k) z y) (fun _ i=>4-(intOf i).toNat)
 case atStart=>exact⟨0,x,Nat.zero_le _,rfl,rfl,HXY.o,rfl⟩
 case round=>
  obtain⟨k,z,hk,rfl,rfl,hz,hu⟩:=hrel;have HZ:=yB hz hu;clear hz hu hbe
  by_cases hlt:k<4
  ·have hltI:(k:Int)<4:=by omega
   obtain⟨m,hm⟩:∃m,4-k=m+1:=⟨3-k,by omega⟩
   by_cases h0:(over ts z).size=0
   ·have HF:Hid (under ts 4 x y=false):=by rw[HZ.o.2,hm];exact zkF ts m HZ.o.1 h0
    have h0':(over ts z).toList.isEmpty=true:=by rw[zu];simpa using h0
    clear h0 hm
    go_wp2_with (go_at_call 159;refine(zcW _ _ _ _ _ hw).mono ?_;rintro e w'⟨rfl,rfl⟩)
    go_ret;exact⟨ze HF.o.symm,rfl⟩
   ·have HO:Hid (under ts 4 x y=under ts m (over ts z) y):=by rw[Hid,HZ.o.2,hm];exact zpc ts m HZ.o.1 h0
    have h0':(over ts z).toList.isEmpty=false:=by rw[zu];simpa using h0
    clear h0
    by_cases hy:over ts z=y
    ·have HF:Hid (under ts 4 x y=true):=by rw[Hid,HO.o];exact zeR ts m _ _ hy
     have hy':((over ts z).toList == y.toList)=true:=by rw[beq_toList];simpa using hy
     clear hy
     go_wp2_with (go_at_call 159;refine(zcW _ _ _ _ _ hw).mono ?_;rintro e w'⟨rfl,rfl⟩)
     go_ret;exact⟨ze HF.o.symm,rfl⟩
    ·have hy':((over ts z).toList == y.toList)=false:=by rw[beq_toList];simpa using hy
     have HY:=hid hy;clear hy
     go_wp2_with (go_at_call 159;refine(zcW _ _ _ _ _ hw).mono ?_;rintro e w'⟨rfl,rfl⟩)
     go_round
     case rel=>exact⟨k+1,over ts z,by omega,rfl,by go_num,HY.o,by rw[HO.o,show 4-(k+1)=m by omega]⟩
     case measure=>simp[intOf];omega
  ·have HF:Hid (under ts 4 x y=false):=by
    have e:4-k=0:=by omega
    rw[Hid,HZ.o.2,e];exact zmJ ts HZ.o.1
   go_wp2
   go_ret;exact⟨ze HF.o.symm,rfl⟩
theorem zf8 (a:OA)(cap:Nat)(ts:List Tm)(x y:BA)(w:World)(hw:jQ w a ts) :
 Calls Tryz.prog 148 #[.l a ts.length cap,.s x,.s y] w fun e w'=>e=.returned (.bool (under ts 4 x y))/\Bw w w':=by
 by_cases hxy:x=y
 ·have HF:=hid (zeR ts 4 x y hxy)
  have hbe:(x.toList == y.toList)=true:=by rw[beq_toList];simpa using hxy
  clear hxy;go_in;go_wp2
  go_ret;exact⟨ze HF.o.symm,bRf _ _⟩
 have hbe:(x.toList == y.toList)=false:=by rw[beq_toList];simpa using hxy
 have HXY:=hid hxy;clear hxy;go_in;go_wp2
 go_loopw [1,10] (fun p i wr=>∃(k:Nat) (z:BA),k<=4/\p=.s z/\i=.i k/\¬z=y/\under ts 4 x y=under ts (4-k) z y/\Bw w wr) (fun _ i _=>4-(intOf i).toNat)
 case atStart=>exact⟨0,x,Nat.zero_le _,rfl,rfl,HXY.o,rfl,bRf _ _⟩
 case round=>
  obtain⟨k,z,hk,rfl,rfl,hz,hu,hB⟩:=hrel;have HZ:=yB hz hu;clear hz hu hbe
  by_cases hlt:k<4
  ·have hltI:(k:Int)<4:=by omega
   obtain⟨m,hm⟩:∃m,4-k=m+1:=⟨3-k,by omega⟩
   by_cases h0:(over ts z).size=0
   ·have HF:Hid (under ts 4 x y=false):=by rw[HZ.o.2,hm];exact zkF ts m HZ.o.1 h0
    have h0':(over ts z).toList.isEmpty=true:=by rw[zu];simpa using h0
    clear h0 hm;go_wp2_with fail
    refine(zey _ _ _ _ _ (hw.mono hB)).mono ?_;rintro e w1⟨rfl,hb1⟩;have hB1:=hB.trans (hb1.mono hB.size);clear hb1;go_wp2
    go_ret;exact⟨ze HF.o.symm,hB1⟩
   ·have HO:Hid (under ts 4 x y=under ts m (over ts z) y):=by rw[Hid,HZ.o.2,hm];exact zpc ts m HZ.o.1 h0
    have h0':(over ts z).toList.isEmpty=false:=by rw[zu];simpa using h0
    clear h0
    by_cases hy:over ts z=y
    ·have HF:Hid (under ts 4 x y=true):=by rw[Hid,HO.o];exact zeR ts m _ _ hy
     have hy':((over ts z).toList == y.toList)=true:=by rw[beq_toList];simpa using hy
     clear hy;go_wp2_with fail
     refine(zey _ _ _ _ _ (hw.mono hB)).mono ?_;rintro e w1⟨rfl,hb1⟩;have hB1:=hB.trans (hb1.mono hB.size);clear hb1;go_wp2
     go_ret;exact⟨ze HF.o.symm,hB1⟩
    ·have hy':((over ts z).toList == y.toList)=false:=by rw[beq_toList];simpa using hy
     have HY:=hid hy;clear hy;go_wp2_with fail
     refine(zey _ _ _ _ _ (hw.mono hB)).mono ?_;rintro e w1⟨rfl,hb1⟩;have hB1:=hB.trans (hb1.mono hB.size);clear hb1;go_wp2
     exact⟨⟨k+1,over ts z,by omega,rfl,by go_num,HY.o,by rw[HO.o,show 4-(k+1)=m by omega],hB1⟩,by simp[intOf];omega⟩
  ·have HF:Hid (under ts 4 x y=false):=by
    have e:4-k=0:=by omega
    rw[Hid,HZ.o.2,e];exact zmJ ts HZ.o.1
   go_wp2
   go_ret;exact⟨ze HF.o.symm,hB⟩
end Go.Proofs.YtjnpjkigofldlaaGreat
namespace Go.Proofs.YtjnpjkigofldlaaGreat
open Go.ChangeShapes Go.WideShapes Go.ChangeAt Go.RowKit
theorem Tryz.zsY:Tryz.prog.cellsOf 26=3:=by kernel_rfl
theorem Tryz.zpl:Tryz.prog.cellsOf 22=1:=by kernel_rfl
theorem Tryz.zqU:Tryz.prog.cellsOf 23=1:=by kernel_rfl
theorem Tryz.zqW:Tryz.prog.cellsOf 24=1:=by kernel_rfl
theorem zsL {H:Type}{enc:TypeId × Value->H}{w:World}{base:Nat}{spare:Nat->Bool}{held:Bool}{fuel:Nat}{cs:List Value}{x:DataW H × List MemPlace}
 (h:DataW.trod enc Tryz.prog w base spare held fuel 26 cs=some x) :
 ∃(l:Lw) (a b c:OA) (ca cb cc:Nat),cs=(l.cells a b c ca cb cc).toList/\qp w l a b c:=by
 have hlen:cs.length=3:=by
  obtain⟨_,_,_,_,hl,_,_⟩:=DataW.trod_struct Tryz.underlying26 h;rw[hl];exact Tryz.zsY
 match cs,hlen with
 | [c0,c1,c2],_=>
  have hf:=zai Tryz.underlying26 h;obtain⟨_,_,f0⟩:=hf 0 22 0 c0 rfl Tryz.zpl rfl;obtain⟨_,_,f1⟩:=hf 1 23 1 c1 rfl Tryz.zqU rfl;obtain⟨_,_,f2⟩:=hf 2 24 2 c2 rfl Tryz.zqW rfl;obtain⟨a,ca,ss,e0,hS⟩:=zpU f0;obtain⟨b,cb,ms,e1,hM⟩:=zqj f1;obtain⟨c,cc,ts,e2,hT⟩:=zrb f2;simp only[List.cons.injEq,and_true]at e0 e1 e2;subst e0 e1 e2;exact⟨⟨ss,ms,ts⟩,a,b,c,ca,cb,cc,rfl,⟨hS,hM,hT⟩⟩
end Go.Proofs.YtjnpjkigofldlaaGreat
