import Derived.Test.YtjnpjkigofldlaaGreatM15
set_option maxHeartbeats 2000000
namespace Go.Proofs.YtjnpjkigofldlaaGreat
open Go.RowKit
variable {w w':World}{a:OA}{b bo k lo:Nat}{ms:List Ob}
structure Lg where
 tm:BA
 rs:BA
 mo:Int
 fr:Int
def Lg.cells (m:Lg):AV:=#[.s m.tm,.s m.rs,.i m.mo,.i m.fr]
structure Lg.Small (m:Lg):Prop where
 tm:m.tm.size<=maxLen
 rs:m.rs.size<=maxLen
structure zbU (w:World)(a:OA)(ms:List Lg):Prop where
 len:ms.length<=maxLen
 small:∀i (h:i<ms.length),ms[i].Small
 rows:ms≠[]->∃b off,a=some (aD b off)/\b<w.heap.size/\∀i (h:i<ms.length),∀j,j<4->w.cell? (aD b (off+i*4+j))=ms[i].cells[j]?
theorem zbU.mono {ms:List Lg}(h:zbU w a ms)(hl:Bw w w'):zbU w' a ms:=
 ⟨h.len,h.small,fun hne=>by
  obtain⟨b,off,ha,hb,hr⟩:=h.rows hne;exact⟨b,off,ha,nLt hb hl.size,fun i hi j hj=>(hl.cell (p:=(aD b (off+i*4+j))) hb).trans (hr i hi j hj)⟩⟩
theorem zbU.load {ms:List Lg}(h:zbU w a ms)(hl:Bw w w')(i:Nat)(hi:i<ms.length):∃b off,a=some (aD b off)/\b<w.heap.size /\
 w'.cell? (aD b (off+i*4))=some (.s ms[i].tm)/\w'.cell? (aD b (off+i*4+1))=some (.s ms[i].rs)/\w'.cell? (aD b (off+i*4+2))=some (.i ms[i].mo)/\w'.cell? (aD b (off+i*4+3))=some (.i ms[i].fr):=by
 obtain⟨b,off,ha,hb,hr⟩:=h.rows (by rintro rfl;simp at hi);have hc:∀j,j<4->w'.cell? (aD b (off+i*4+j))=ms[i].cells[j]?:=fun j hj=>(hl.cell (p:=(aD b (off+i*4+j))) hb).trans (hr i hi j hj)
 exact⟨b,off,ha,hb,hc 0 (by omega),hc 1 (by omega),hc 2 (by omega),hc 3 (by omega)⟩
def Lg.sz (m:Lg):Nat:=m.tm.size+m.rs.size
def zeU (ms:List Lg):Nat:=(ms.map Lg.sz).sum
def zda (ms:List Lg):Nat:=ms.length+zeU ms
theorem zdY (m:Lg)(left:Int)(w:World)(hm:m.Small)(h0:0<=left)(h1:left<=1048576) :
 Calls Tryz.prog 60 #[.agg m.cells,.i left] w fun e w'=>e=.returned (.i (zJ m.sz left))/\Bw w w':=by
 have k0:=hm.tm;have k1:=hm.rs;unfold maxLen at k0 k1;unfold Lg.cells;have hB:∀ob,Bw w (w.alloc ob):=fun ob=>bAl _ _
 by_cases hf:(m.sz:Int)<=left
 ·have HF:Hid (zJ m.sz left=left-m.tm.size-m.rs.size):=by
   unfold Hid;rw[zN hf];unfold Lg.sz;omega
  unfold Lg.sz at hf;go_in;go_wp2
  go_ret;exact⟨zm HF.o.symm,hB _⟩
 ·have HF:Hid (zJ m.sz left=-1):=zy hf
  have HN:Hid (¬((m.tm.size+m.rs.size:Nat):Int)<=left):=hf;clear hf;go_in;go_wp2
  all_goals go_ret
  all_goals first|exact⟨zm HF.o.symm,hB _⟩|(exfalso;have:=HN.o;simp at *;omega)
theorem ziM (m:Lg)(left:Int)(w:World)(hm:m.Small)(h0:0<=left)(h1:left<=1048576)(h:(m.sz:Int)<=left) :
 Calls Tryz.prog 60 #[.agg m.cells,.i left] w fun e w'=>e=.returned (.i (left-m.sz))/\Bw w w':=by
 refine(zdY m left w hm h0 h1).mono ?_;rintro e w'⟨rfl,hb⟩;exact⟨zm (zN h),hb⟩
theorem zju (m:Lg)(left:Int)(w:World)(hm:m.Small)(h0:0<=left)(h1:left<=1048576)(h:¬(m.sz:Int)<=left) :
 Calls Tryz.prog 60 #[.agg m.cells,.i left] w fun e w'=>e=.returned (.i (-1))/\Bw w w':=by
 refine(zdY m left w hm h0 h1).mono ?_;rintro e w'⟨rfl,hb⟩;exact⟨zm (zy h),hb⟩
theorem zhc (a:OA)(cap:Nat)(ms:List Lg)(left:Int)(w:World)(hw:zbU w a ms)(h0:0<=left)(h1:left<=1048576) :
 Calls Tryz.prog 20 #[.l a ms.length cap,.i left] w fun e w'=>e=.returned (.i (zJ (zda ms) left))/\Bw w w':=by
 have hl:=hw.len;unfold maxLen at hl
 by_cases hfit:(ms.length:Int)<=left
 ·go_in
  go_wp2
  go_loopw [1,5] (fun l i wr=>∃k:Nat,k<=ms.length/\i=.i k/\0<=left-ms.length-zeU (ms.take k)/\l=.i (left-ms.length-zeU (ms.take k))/\Bw w wr) (fun _ i _=>ms.length-(intOf i).toNat)
  case atStart=>exact⟨0,Nat.zero_le _,rfl,by simp[zeU];omega,by simp[zeU],bRf _ _⟩
  case round=>
   obtain⟨k,hk,rfl,hpos,rfl,hB⟩:=hrel
   by_cases hlt:k<ms.length
   ·obtain⟨b,off,rfl,hb,c0,c1,c2,c3⟩:=hw.load hB k hlt
    have hsm:=hw.small k hlt;have HS:Hid (zeU (ms.take (k+1))=zeU (ms.take k)+ms[k].sz):=za6 Lg.sz ms k hlt;have hle:zeU (ms.take (k+1))<=zeU ms:=zc5 Lg.sz ms (k+1);clear hw
    by_cases hneg:(ms[k].sz:Int)<=left-ms.length-zeU (ms.take k)
    ·have HNG:Hid ((ms[k].sz:Int)<=left-ms.length-zeU (ms.take k)):=hneg
     clear hle;go_wp2_with fail
     refine(ziM _ _ _ hsm hpos (by omega) HNG.o).mono ?_;rintro e w1⟨rfl,hb1⟩;have hB1:=hB.trans (hb1.mono hB.size);clear hb1;go_wp2
     exact⟨⟨k+1,by omega,by go_num,by rw[HS.o];omega,by rw[HS.o];congr 1;omega,hB1⟩,by simp[intOf];omega⟩
    ·have HF:Hid (zJ (zda ms) left=-1):=zy (by have:=HS.o;unfold zda;omega)
     have HNG:=hid hneg;clear hneg hle;go_wp2_with fail
     refine(zju _ _ _ hsm hpos (by omega) (by have:=HNG.o;omega)).mono ?_;rintro e w1⟨rfl,hb1⟩;have hB1:=hB.trans (hb1.mono hB.size);clear hb1;go_wp2
     go_ret;exact⟨zm HF.o.symm,hB1⟩
   ·have HF:Hid (zJ (zda ms) left=left-ms.length-zeU (ms.take k)):=by
     rw[tOl (by omega)]at hpos ⊢;have e:zJ (zda ms) left=left-zda ms:=zN (by unfold zda;omega);unfold Hid;rw[e];unfold zda;omega
    clear hw
    go_wp2
    go_ret;exact⟨zm HF.o.symm,hB⟩
 ·have HF:Hid (zJ (zda ms) left=-1):=zy (by unfold zda;omega)
  clear hw;go_in
  go_wp2
  go_ret;exact⟨zm HF.o.symm,bRf _ _⟩
theorem ziq (m:Lg)(w:World):Calls Tryz.prog 99 #[.agg m.cells,.agg m.cells] w fun e w'=>e=.returned (.bool true)/\Bw w w':=by
 unfold Lg.cells;have hn2:(m.mo != m.mo)=false:=by simp
 have hn3:(m.fr != m.fr)=false:=by simp
 go_in;go_wp2
 go_ret;exact⟨rfl,zo _ _ _⟩
theorem zhC (a a':OA)(cap cap':Nat)(ms:List Lg)(w:World)(hw:zbU w a ms)(hw':zbU w a' ms) :
 Calls Tryz.prog 39 #[.l a ms.length cap,.l a' ms.length cap'] w fun e w'=>e=.returned (.bool true)/\Bw w w':=by
 have hl:=hw.len;unfold maxLen at hl;have hnn:((ms.length:Int) != ms.length)=false:=by simp
 go_in;go_wp2
 go_loopw [5] (fun i wr=>∃k:Nat,k<=ms.length/\i=.i k/\Bw w wr) (fun i _=>ms.length-(intOf i).toNat)
 case atStart=>exact⟨0,Nat.zero_le _,rfl,bRf _ _⟩
 case round=>
  obtain⟨k,hk,rfl,hB⟩:=hrel
  by_cases hlt:k<ms.length
  ·obtain⟨b,off,rfl,hb,c0,c1,c2,c3⟩:=hw.load hB k hlt
   obtain⟨b',off',rfl,hb',d0,d1,d2,d3⟩:=hw'.load hB k hlt;have hltI:(k:Int)<(ms.length:Int):=by omega
   clear hw hw';go_wp2_with fail
   go_region_with (go_at_call 99;refine(ziq ms[k] _).mono ?_;rintro e w1⟨rfl,hb1'⟩;have hb1:=(bRf wr.heap.size wr).drew.trans hb1';clear hb1')
   all_goals go_wp2
   all_goals exact⟨⟨k+1,by omega,by go_num,hB.trans (hb1.mono hB.size)⟩,by simp[intOf];omega⟩
  ·clear hw hw'
   go_wp2
   go_ret;exact⟨rfl,hB⟩
structure j4 (lo:Nat)(w:World)(bo:Nat)(ms:List Lg)(k:Nat):Prop where
 low:lo<=bo
 rows:∃C,w.heap[bo]?=some (.cells C 138)/\C.size=ms.length*4/\∀i (h:i<ms.length),i<k->∀j,j<4->C[i*4+j]?=ms[i].cells[j]?
theorem j4.at {ms:List Lg}(h:j4 lo w bo ms ms.length)(hs:∀i (h:i<ms.length),ms[i].Small)(hl:ms.length<=maxLen):zbU w (some (aD bo 0)) ms:=by
 obtain⟨C,hC,hsz,hr⟩:=h.rows;refine⟨hl,hs,fun _=>⟨bo,0,rfl,(gES hC).1,fun i hi j hj=>?_⟩⟩;rw[cell_of_block hC,Nat.zero_add];exact hr i hi hi j hj
theorem j4.later {ms:List Lg}(h:j4 lo w bo ms k)(hb:Bw w w'):j4 lo w' bo ms k:=by
 obtain⟨C,hC,hsz,hr⟩:=h.rows;exact⟨h.low,C,(hb.block bo (gES hC).1).trans hC,hsz,hr⟩
theorem j4.above {ms:List Lg}(h:j4 lo w bo ms k)(ha:yM lo w w'):j4 lo w' bo ms k:=by
 obtain⟨C,hC,hr⟩:=h.rows;exact⟨h.low,C,(ha.same _ h.low (gES hC).1).trans hC,hr⟩
theorem j4.weaken {lo':Nat}{ms:List Lg}(h:j4 lo w bo ms k)(hl:lo'<=lo):j4 lo' w bo ms k:=⟨Nat.le_trans hl h.low,h.rows⟩
def ztA (w:World)(b o:Nat)(v0 v1 v2 v3:Value):World:=((((w.setCell (aD b o) v0).setCell (aD b (o+1)) v1).setCell (aD b (o+2)) v2).setCell (aD b (o+3)) v3)
def zkd (C:AV)(o:Nat)(v0 v1 v2 v3:Value):AV:=((((C.setIfInBounds (o) v0).setIfInBounds (o+1) v1).setIfInBounds (o+2) v2).setIfInBounds (o+3) v3)
theorem zp7 {o:Nat}{C:AV}{t:TypeId}(h:w.heap[b]?=some (.cells C t))(v0 v1 v2 v3:Value):(ztA w b o v0 v1 v2 v3).heap[b]?=some (.cells (zkd C o v0 v1 v2 v3) t):=
 zh (zh (zh (zh h v0) v1) v2) v3
theorem zqg {B:Nat}{a:World}(h:Below B a w)(hb:B<=b)(o:Nat)(v0 v1 v2 v3:Value):Below B a (ztA w b o v0 v1 v2 v3):=
 (((h.setCell hb v0).setCell hb v1).setCell hb v2).setCell hb v3
theorem zqy (C:AV)(o:Nat)(v0 v1 v2 v3:Value):(zkd C o v0 v1 v2 v3).size=C.size:=by simp[zkd]
theorem zsB (C:AV)(o i:Nat)(v0 v1 v2 v3:Value)(h:i<o \/ o+4<=i):(zkd C o v0 v1 v2 v3)[i]?=C[i]?:=by
 unfold zkd
 iterate 4 rw[Array.getElem?_setIfInBounds,if_neg (by omega)]
theorem ztl (C:AV)(o j:Nat)(v0 v1 v2 v3:Value)(hj:j<4)(ho:o+4<=C.size):(zkd C o v0 v1 v2 v3)[o+j]?=(#[v0,v1,v2,v3]:AV)[j]?:=by
 have hc:j=0 \/ j=1 \/ j=2 \/ j=3:=by omega
 unfold zkd
 rcases hc with h|h|h|h <;> subst h <;> simp[Array.getElem?_setIfInBounds] <;> omega
theorem j4.put {ms:List Lg}(h:j4 lo w bo ms k)(hk:k<ms.length) :
 j4 lo (ztA w bo (k*4) (.s ms[k].tm) (.s ms[k].rs) (.i ms[k].mo) (.i ms[k].fr)) bo ms (k+1):=by
 obtain⟨C,hC,hsz,hr⟩:=h.rows;refine⟨h.low,_,zp7 hC _ _ _ _,by rw[zqy];exact hsz,fun i hi hik j hj=>?_⟩
 rcases Nat.lt_or_ge i k with hlt|hge
 ·rw[zsB _ _ _ _ _ _ _ (by omega)]
  exact hr i hi hlt j hj
 ·have e:i=k:=by omega
  subst e;rw[ztl _ _ _ _ _ _ _ hj (by omega)]
  rfl
theorem zih (m:Lg)(w:World) :
 Calls Tryz.prog 79 #[.agg m.cells] w fun e w'=>e=.returned (.agg m.cells)/\Bw w w':=by
 unfold Lg.cells;go_in;go_wp2
 refine bodyPost_ret (v:=.agg #[.s m.tm,.s m.rs,.i m.mo,.i m.fr]) (by simp[results,Tryz.results79,go_sem]) rfl ⟨rfl,?_⟩;exact(((bAl _ _).alloc (by simp) _).alloc (by simp;omega) _)
def ztJ:AV:=#[.s ByteArray.empty,.s ByteArray.empty,.i 0,.i 0]
def zrO (n:Nat):AV:=madeCells ztJ (n*4)
theorem zhE (a:OA)(cap:Nat)(ms:List Lg)(w:World)(hw:zbU w a ms)(hl:ms.length<=1048576) :
 Calls Tryz.prog 30 #[.l a ms.length cap] w fun e w'=>e=.returned (.l (some (aD w.heap.size 0)) ms.length ms.length)/\j4 w.heap.size w' w.heap.size ms ms.length/\Bw w w':=by
 have hmk:∀w:World,(Instr.makeSlice 37 (.i ms.length) (.i ms.length)).run Tryz.prog w=.ok (.l (some (aD w.heap.size 0)) ms.length ms.length) (w.alloc (.cells (zrO ms.length) 138)):=
  fun w=>jy (P:=Tryz.prog) 37 138 (.agg ztJ) 4 48 Tryz.underlying37 (by kernel_rfl) ms.length (by omega) (by omega) w
 go_in;go_wp2_with fail
 clear hmk
 go_loopw [4] (fun i wr=>∃k:Nat,k<=ms.length/\i=.i k/\j4 w.heap.size wr w.heap.size ms k/\Bw w wr) (fun i _=>ms.length-(intOf i).toNat)
 case atStart=>exact⟨0,Nat.zero_le _,rfl,⟨Nat.le_refl _,zrO ms.length,(MapKept.heap_alloc w _).1,size_madeCells _ _,fun i _ h=>absurd h (by omega)⟩,bAl _ _⟩
 case round=>
  obtain⟨k,hk,rfl,hown,hB⟩:=hrel
  by_cases hlt:k<ms.length
  ·obtain⟨b,off,rfl,hb,c0,c1,c2,c3⟩:=hw.load hB k hlt
   have hltI:(k:Int)<(ms.length:Int):=by omega
   clear hw;go_wp2_with fail
   refine(zih ms[k] _).mono ?_;rintro e w1⟨rfl,hb1⟩;have hB1:=hB.trans (hb1.mono hB.size);have hown1:=hown.later hb1
   have hbo:w.heap.size<wr.heap.size:=by
    obtain⟨C',hC',_⟩:=hown.rows;exact(gES hC').1
   obtain⟨C,hC,hsz,_⟩:=hown1.rows;have hfz:∀o,w1.frozen? (aD w.heap.size o)=false:=fun o=>zf hC
   have hex:∀o,o<ms.length*4->∃v,w1.cell? (aD w.heap.size o)=some v:=fun o ho=>⟨C[o]'(by omega),by rw[cell_of_block hC];exact Array.getElem?_eq_getElem (by omega)⟩
   obtain⟨v0,hv0⟩:=hex (k*4) (by omega);obtain⟨v1,hv1⟩:=hex (k*4+1) (by omega);obtain⟨v2,hv2⟩:=hex (k*4+2) (by omega);obtain⟨v3,hv3⟩:=hex (k*4+3) (by omega);have HP:=hid hown1;clear hex hC hsz c0 c1 c2 c3 hown hown1;unfold Lg.cells;go_wp2
   exact⟨⟨k+1,by omega,by go_num,HP.o.put hlt,zqg hB1 (Nat.le_refl _) _ _ _ _ _⟩,by simp[intOf];omega⟩
  ·have HF:Hid (j4 w.heap.size wr w.heap.size ms ms.length):=by
    have e:k=ms.length:=by omega
    subst e;exact hown
   clear hw hown;go_wp2
   go_ret;exact⟨rfl,HF.o,hB⟩
def Ob.row (o:Ob)(a0 a1:OA)(c0 c1:Nat):AV:=#[.s o.kd,.s o.nm,.s o.tm,.l a0 o.vs.length c0,.bool o.en,.l a1 o.hs.length c1,.i o.vr]
def Ob.sz (o:Ob):Nat:=zd4 o
theorem Ob.zqT {o:Ob}(h:(o.sz:Int)<=1048576):o.vs.length<=1048576/\o.hs.length<=1048576:=zue h (Int.le_refl _)
theorem zd1 (o:Ob)(a0 a1:OA)(c0 c1:Nat)(left:Int)(w:World)(hm:o.Small)(h0':zD w a0 o.vs)(h1':zD w a1 o.hs)(h0:0<=left)(h1:left<=1048576) :
 Calls Tryz.prog 58 #[.agg (o.row a0 a1 c0 c1),.i left] w fun e w'=>e=.returned (.i (zJ o.sz left))/\Bw w w':=zil o a0 a1 c0 c1 left w ⟨hm,h0',h1'⟩ h0 h1
theorem ziE (o:Ob)(a0 a1:OA)(c0 c1:Nat)(a0' a1':OA)(c0' c1':Nat)(w:World)(hm:o.Small)(h0:zD w a0 o.vs)(h1:zD w a1 o.hs)(h0':zD w a0' o.vs)(h1':zD w a1' o.hs) :
 Calls Tryz.prog 97 #[.agg (o.row a0 a1 c0 c1),.agg (o.row a0' a1' c0' c1')] w fun e w'=>e=.returned (.bool true)/\Bw w w':=ziv o a0 a1 a0' a1' c0 c1 c0' c1' w ⟨hm,h0,h1⟩ ⟨hm,h0',h1'⟩
theorem zif (o:Ob)(a0 a1:OA)(c0 c1:Nat)(w:World)(hm:o.Small)(h0:zD w a0 o.vs)(h1:zD w a1 o.hs)(hl:o.vs.length<=1048576/\o.hs.length<=1048576) :
 Calls Tryz.prog 77 #[.agg (o.row a0 a1 c0 c1)] w fun e w'=>∃g0 g1,e=.returned (.agg (o.row (some (aD g0 0)) (some (aD g1 0)) o.vs.length o.hs.length))/\w.heap.size<=g0/\w'.heap[g0]?=some (.cells (jS o.vs) 9)/\w.heap.size<=g1/\w'.heap[g1]?=some (.cells (jS o.hs) 9)/\Bw w w':=by
 refine(ziN o a0 a1 c0 c1 w ⟨hm,h0,h1⟩ hl.1 hl.2).mono ?_;rintro e w'⟨bv,bh,he,hv,hh,_,hbv,hbh,hb⟩;exact⟨bv,bh,he,hv,hbv,hh,hbh,hb⟩
structure zsi (w:World)(b off:Nat)(x:Ob)(a0 a1:OA)(c0 c1:Nat):Prop where
 small:x.Small
 l0:zD w a0 x.vs
 l1:zD w a1 x.hs
 cell:∀j,j<7->w.cell? (aD b (off+j))=(Ob.row x a0 a1 c0 c1)[j]?
structure zby (w:World)(a:OA)(ms:List Ob):Prop where
 len:ms.length<=maxLen
 rows:ms≠[]->∃b off,a=some (aD b off)/\b<w.heap.size/\∀i (h:i<ms.length),∃a0 a1 c0 c1,zsi w b (off+i*7) ms[i] a0 a1 c0 c1
theorem zsi.mono {off:Nat}{x:Ob}{a0 a1:OA}{c0 c1:Nat}(h:zsi w b off x a0 a1 c0 c1)(hb:b<w.heap.size)(hl:Bw w w'):zsi w' b off x a0 a1 c0 c1:=
 ⟨h.small,h.l0.mono hl,h.l1.mono hl,fun j hj=>(hl.cell (p:=(aD b (off+j))) hb).trans (h.cell j hj)⟩
theorem zby.mono (h:zby w a ms)(hl:Bw w w'):zby w' a ms:=
 ⟨h.len,fun hne=>by
  obtain⟨b,off,ha,hb,hr⟩:=h.rows hne;refine⟨b,off,ha,nLt hb hl.size,fun i hi=>?_⟩;obtain⟨a0,a1,c0,c1,hf⟩:=hr i hi;exact⟨a0,a1,c0,c1,hf.mono hb hl⟩⟩
theorem zby.load (h:zby w a ms)(hl:Bw w w')(i:Nat)(hi:i<ms.length):∃b off a0 a1 c0 c1,a=some (aD b off)/\b<w.heap.size/\ms[i].Small/\zD w' a0 ms[i].vs/\zD w' a1 ms[i].hs /\
 w'.cell? (aD b (off+i*7))=some (.s ms[i].kd)/\w'.cell? (aD b (off+i*7+1))=some (.s ms[i].nm)/\w'.cell? (aD b (off+i*7+2))=some (.s ms[i].tm)/\w'.cell? (aD b (off+i*7+3))=some (.l a0 ms[i].vs.length c0)/\w'.cell? (aD b (off+i*7+4))=some (.bool ms[i].en)/\w'.cell? (aD b (off+i*7+5))=some (.l a1 ms[i].hs.length c1)/\w'.cell? (aD b (off+i*7+6))=some (.i ms[i].vr):=by
 obtain⟨b,off,ha,hb,hr⟩:=h.rows (by rintro rfl;simp at hi);obtain⟨a0,a1,c0,c1,hf0⟩:=hr i hi;have hf:=hf0.mono hb hl;exact⟨b,off,a0,a1,c0,c1,ha,hb,hf.small,hf.l0,hf.l1,hf.cell 0 (by omega),hf.cell 1 (by omega),hf.cell 2 (by omega),hf.cell 3 (by omega),hf.cell 4 (by omega),hf.cell 5 (by omega),hf.cell 6 (by omega)⟩
def za8 (ms:List Ob):Nat:=(ms.map Ob.sz).sum
def qK (ms:List Ob):Nat:=ms.length+za8 ms
structure zbJ (ms:List Ob):Prop where
 small:∀i (h:i<ms.length),ms[i].Small/\(ms[i].vs.length<=maxLen/\∀s∈ms[i].vs,s.size<=maxLen)/\(ms[i].hs.length<=maxLen/\∀s∈ms[i].hs,s.size<=maxLen)
theorem zby.smalls (h:zby w a ms):zbJ ms:=
 ⟨fun i hi=>by
  obtain⟨b,off,_,_,hr⟩:=h.rows (by rintro rfl;simp at hi);obtain⟨a0,a1,c0,c1,hf⟩:=hr i hi;exact⟨hf.small,⟨hf.l0.len,hf.l0.small⟩,⟨hf.l1.len,hf.l1.small⟩⟩⟩
theorem znJ {left:Int}(h:(qK ms:Int)<=left)(hl:left<=1048576):ms.length<=1048576/\∀i (h:i<ms.length),ms[i].vs.length<=1048576/\ms[i].hs.length<=1048576:=by
 unfold qK at h;refine⟨by omega,fun i hi=>?_⟩;have h1:ms[i].sz<=za8 ms:=zj5 Ob.sz ms i hi;exact Ob.zqT (by omega)
theorem zhq (a:OA)(cap:Nat)(ms:List Ob)(left:Int)(w:World)(hw:zby w a ms)(h0:0<=left)(h1:left<=1048576) :
 Calls Tryz.prog 18 #[.l a ms.length cap,.i left] w fun e w'=>e=.returned (.i (zJ (qK ms) left))/\Bw w w':=by
 have hl:=hw.len;unfold maxLen at hl
 by_cases hfit:(ms.length:Int)<=left
 ·go_in
  go_wp2
  go_loopw [1,5] (fun l i wr=>∃k:Nat,k<=ms.length/\i=.i k/\0<=left-ms.length-za8 (ms.take k)/\l=.i (left-ms.length-za8 (ms.take k))/\Bw w wr) (fun _ i _=>ms.length-(intOf i).toNat)
  case atStart=>exact⟨0,Nat.zero_le _,rfl,by simp[za8];omega,by simp[za8],bRf _ _⟩
  case round=>
   obtain⟨k,hk,rfl,hpos,rfl,hB⟩:=hrel
   by_cases hlt:k<ms.length
   ·obtain⟨b,off,a0,a1,c0,c1,rfl,hb,hsm,hl0,hl1,d0,d1,d2,d3,d4,d5,d6⟩:=hw.load hB k hlt
    have hbr:=nLt hb hB.size;have HS:Hid (za8 (ms.take (k+1))=za8 (ms.take k)+ms[k].sz):=za6 Ob.sz ms k hlt;have hle:za8 (ms.take (k+1))<=za8 ms:=zc5 Ob.sz ms (k+1);have HI:Hid (zD wr a0 ms[k].vs/\zD wr a1 ms[k].hs):=⟨hl0,hl1⟩
    clear hw hl0 hl1
    by_cases hneg:(ms[k].sz:Int)<=left-ms.length-za8 (ms.take k)
    ·have HNG:Hid ((ms[k].sz:Int)<=left-ms.length-za8 (ms.take k)):=hneg
     clear hle;go_wp2_with fail
     refine(zd1 ms[k] a0 a1 c0 c1 _ _ hsm HI.o.1 HI.o.2 hpos (by omega)).mono ?_;rintro e w1⟨rfl,hb1⟩;rw[zN HNG.o];have hB1:=hB.trans (hb1.mono hB.size);clear hb1;go_wp2
     exact⟨⟨k+1,by omega,by go_num,by rw[HS.o];omega,by rw[HS.o];congr 1;omega,hB1⟩,by simp[intOf];omega⟩
    ·have HF:Hid (zJ (qK ms) left=-1):=zy (by have:=HS.o;unfold qK;omega)
     have HNG:=hid hneg;clear hneg hle;go_wp2_with fail
     refine(zd1 ms[k] a0 a1 c0 c1 _ _ hsm HI.o.1 HI.o.2 hpos (by omega)).mono ?_;rintro e w1⟨rfl,hb1⟩;rw[zy (by have:=HNG.o;omega)];have hB1:=hB.trans (hb1.mono hB.size);clear hb1;go_wp2
     go_ret;exact⟨zm HF.o.symm,hB1⟩
   ·have HF:Hid (zJ (qK ms) left=left-ms.length-za8 (ms.take k)):=by
     rw[tOl (by omega)]at hpos ⊢;have e:zJ (qK ms) left=left-qK ms:=zN (by unfold qK;omega);unfold Hid;rw[e];unfold qK;omega
    clear hw
    go_wp2
    go_ret;exact⟨zm HF.o.symm,hB⟩
 ·have HF:Hid (zJ (qK ms) left=-1):=zy (by unfold qK;omega)
  clear hw;go_in
  go_wp2
  go_ret;exact⟨zm HF.o.symm,bRf _ _⟩
theorem zhy (a a':OA)(cap cap':Nat)(ms:List Ob)(w:World)(hw:zby w a ms)(hw':zby w a' ms) :
 Calls Tryz.prog 37 #[.l a ms.length cap,.l a' ms.length cap'] w fun e w'=>e=.returned (.bool true)/\Bw w w':=by
 have hl:=hw.len;unfold maxLen at hl;have hnn:((ms.length:Int) != ms.length)=false:=by simp
 go_in;go_wp2
 go_loopw [5] (fun i wr=>∃k:Nat,k<=ms.length/\i=.i k/\Bw w wr) (fun i _=>ms.length-(intOf i).toNat)
 case atStart=>exact⟨0,Nat.zero_le _,rfl,bRf _ _⟩
 case round=>
  obtain⟨k,hk,rfl,hB⟩:=hrel
  by_cases hlt:k<ms.length
  ·obtain⟨b,off,a0,a1,c0,c1,rfl,hb,hsm,hl0,hl1,d0,d1,d2,d3,d4,d5,d6⟩:=hw.load hB k hlt
   obtain⟨b',off',a0',a1',c0',c1',rfl,hb',_,hl0',hl1',f0,f1,f2,f3,f4,f5,f6⟩:=hw'.load hB k hlt;have hltI:(k:Int)<(ms.length:Int):=by omega
   clear hw hw';go_wp2_with fail
   go_region_with (go_at_call 97;refine(ziE ms[k] a0 a1 c0 c1 a0' a1' c0' c1' _ hsm (by exact hl0.mono ((bRf _ _).drew)) (by exact hl1.mono ((bRf _ _).drew)) (by exact hl0'.mono ((bRf _ _).drew)) (by exact hl1'.mono ((bRf _ _).drew))).mono ?_;rintro e w1⟨rfl,hb1'⟩;have hb1:=(bRf wr.heap.size wr).drew.trans hb1';clear hb1')
   all_goals go_wp2
   all_goals exact⟨⟨k+1,by omega,by go_num,hB.trans (hb1.mono hB.size)⟩,by simp[intOf];omega⟩
  ·clear hw hw'
   go_wp2
   go_ret;exact⟨rfl,hB⟩
structure zaf (lo:Nat)(w:World)(bo:Nat)(ms:List Ob)(k:Nat):Prop where
 low:lo<=bo
 rows:∃C,w.heap[bo]?=some (.cells C 116)/\C.size=ms.length*7 /\
  ∀i (h:i<ms.length),i<k->∃g0 g1,lo<=g0/\g0≠bo/\w.heap[g0]?=some (.cells (jS ms[i].vs) 9)/\lo<=g1/\g1≠bo/\w.heap[g1]?=some (.cells (jS ms[i].hs) 9)/\∀j,j<7->C[i*7+j]?=(Ob.row ms[i] (some (aD g0 0)) (some (aD g1 0)) ms[i].vs.length ms[i].hs.length)[j]?
theorem zaf.at (h:zaf lo w bo ms ms.length)(hs:zbJ ms)(hl:ms.length<=maxLen):zby w (some (aD bo 0)) ms:=by
 obtain⟨C,hC,hsz,hr⟩:=h.rows;refine⟨hl,fun _=>⟨bo,0,rfl,(gES hC).1,fun i hi=>?_⟩⟩;obtain⟨g0,g1,_,_,hk0,_,_,hk1,hc⟩:=hr i hi hi;obtain⟨s0,s1,s2⟩:=hs.small i hi;refine⟨some (aD g0 0),some (aD g1 0),ms[i].vs.length,ms[i].hs.length,s0,zdX hk0 s1.1 s1.2,zdX hk1 s2.1 s2.2,fun j hj=>?_⟩;rw[cell_of_block hC,Nat.zero_add];exact hc j hj
theorem zaf.above (h:zaf lo w bo ms k)(ha:yM lo w w'):zaf lo w' bo ms k:=by
 obtain⟨C,hC,hsz,hr⟩:=h.rows;refine⟨h.low,C,(ha.same _ h.low (gES hC).1).trans hC,hsz,fun i hi hk=>?_⟩;obtain⟨g0,g1,p0,q0,r0,p1,q1,r1,hc⟩:=hr i hi hk;exact⟨g0,g1,p0,q0,(ha.same _ p0 (gES r0).1).trans r0,p1,q1,(ha.same _ p1 (gES r1).1).trans r1,hc⟩
theorem zaf.later (h:zaf lo w bo ms k)(hb:Bw w w'):zaf lo w' bo ms k:=h.above (yM.below hb)
def zkM (w:World)(b o:Nat)(v0 v1 v2 v3 v4 v5 v6:Value):World:=(((((((w.setCell (aD b o) v0).setCell (aD b (o+1)) v1).setCell (aD b (o+2)) v2).setCell (aD b (o+3)) v3).setCell (aD b (o+4)) v4).setCell (aD b (o+5)) v5).setCell (aD b (o+6)) v6)
def zi8 (C:AV)(o:Nat)(v0 v1 v2 v3 v4 v5 v6:Value):AV:=(((((((C.setIfInBounds (o) v0).setIfInBounds (o+1) v1).setIfInBounds (o+2) v2).setIfInBounds (o+3) v3).setIfInBounds (o+4) v4).setIfInBounds (o+5) v5).setIfInBounds (o+6) v6)
theorem ziP {o:Nat}{C:AV}{t:TypeId}(h:w.heap[b]?=some (.cells C t))(v0 v1 v2 v3 v4 v5 v6:Value):(zkM w b o v0 v1 v2 v3 v4 v5 v6).heap[b]?=some (.cells (zi8 C o v0 v1 v2 v3 v4 v5 v6) t):=
 zh (zh (zh (zh (zh (zh (zh h v0) v1) v2) v3) v4) v5) v6
theorem zoX {B:Nat}{a:World}(h:Below B a w)(hb:B<=b)(o:Nat)(v0 v1 v2 v3 v4 v5 v6:Value):Below B a (zkM w b o v0 v1 v2 v3 v4 v5 v6):=
 ((((((h.setCell hb v0).setCell hb v1).setCell hb v2).setCell hb v3).setCell hb v4).setCell hb v5).setCell hb v6
theorem zdr (w:World)(b o:Nat)(v0 v1 v2 v3 v4 v5 v6:Value){b':Nat}(h:b'≠b):(zkM w b o v0 v1 v2 v3 v4 v5 v6).heap[b']?=w.heap[b']?:=by
 unfold zkM
 iterate 7 rw[zA h]
theorem zlu (C:AV)(o:Nat)(v0 v1 v2 v3 v4 v5 v6:Value):(zi8 C o v0 v1 v2 v3 v4 v5 v6).size=C.size:=by simp[zi8]
theorem zij (C:AV)(o i:Nat)(v0 v1 v2 v3 v4 v5 v6:Value)(h:i<o \/ o+7<=i):(zi8 C o v0 v1 v2 v3 v4 v5 v6)[i]?=C[i]?:=by
 unfold zi8
 iterate 7 rw[Array.getElem?_setIfInBounds,if_neg (by omega)]
theorem zoE (C:AV)(o j:Nat)(v0 v1 v2 v3 v4 v5 v6:Value)(hj:j<7)(ho:o+7<=C.size):(zi8 C o v0 v1 v2 v3 v4 v5 v6)[o+j]?=(#[v0,v1,v2,v3,v4,v5,v6]:AV)[j]?:=by
 have hc:j=0 \/ j=1 \/ j=2 \/ j=3 \/ j=4 \/ j=5 \/ j=6:=by omega
 unfold zi8
 rcases hc with h|h|h|h|h|h|h <;> subst h <;> simp[Array.getElem?_setIfInBounds] <;> omega
theorem zaf.put (h:zaf lo w bo ms k)(hk:k<ms.length)(g0 g1:Nat)(p0:lo<=g0)(q0:g0≠bo)(r0:w.heap[g0]?=some (.cells (jS ms[k].vs) 9))(p1:lo<=g1)(q1:g1≠bo)(r1:w.heap[g1]?=some (.cells (jS ms[k].hs) 9)) :
 zaf lo (zkM w bo (k*7) (.s ms[k].kd) (.s ms[k].nm) (.s ms[k].tm) (.l (some (aD g0 0)) ms[k].vs.length ms[k].vs.length) (.bool ms[k].en) (.l (some (aD g1 0)) ms[k].hs.length ms[k].hs.length) (.i ms[k].vr)) bo ms (k+1):=by
 obtain⟨C,hC,hsz,hr⟩:=h.rows;refine⟨h.low,_,ziP hC _ _ _ _ _ _ _,by rw[zlu];exact hsz,fun i hi hik=>?_⟩
 rcases Nat.lt_or_ge i k with hlt|hge
 ·obtain⟨g0',g1',x0,y0,z0,x1,y1,z1,hc⟩:=hr i hi hlt
  refine⟨g0',g1',x0,y0,(by rw[zdr _ _ _ _ _ _ _ _ _ _ y0];exact z0),x1,y1,(by rw[zdr _ _ _ _ _ _ _ _ _ _ y1];exact z1),fun j hj=>?_⟩;rw[zij _ _ _ _ _ _ _ _ _ _ (by omega)];exact hc j hj
 ·have e:i=k:=by omega
  subst e;refine⟨g0,g1,p0,q0,(by rw[zdr _ _ _ _ _ _ _ _ _ _ q0];exact r0),p1,q1,(by rw[zdr _ _ _ _ _ _ _ _ _ _ q1];exact r1),fun j hj=>?_⟩;rw[zoE _ _ _ _ _ _ _ _ _ _ hj (by omega)]
  rfl
def ztH:AV:=#[.s ByteArray.empty,.s ByteArray.empty,.s ByteArray.empty,.l none 0 0,.bool false,.l none 0 0,.i 0]
def zrD (n:Nat):AV:=madeCells ztH (n*7)
theorem zhR (a:OA)(cap:Nat)(ms:List Ob)(w:World)(hw:zby w a ms)(hl:ms.length<=1048576)(hls:∀i (h:i<ms.length),ms[i].vs.length<=1048576/\ms[i].hs.length<=1048576) :
 Calls Tryz.prog 28 #[.l a ms.length cap] w fun e w'=>e=.returned (.l (some (aD w.heap.size 0)) ms.length ms.length)/\zaf w.heap.size w' w.heap.size ms ms.length/\Bw w w':=by
 have hmk:∀w:World,(Instr.makeSlice 35 (.i ms.length) (.i ms.length)).run Tryz.prog w=.ok (.l (some (aD w.heap.size 0)) ms.length ms.length) (w.alloc (.cells (zrD ms.length) 116)):=
  fun w=>jy (P:=Tryz.prog) 35 116 (.agg ztH) 7 112 Tryz.underlying35 (by kernel_rfl) ms.length (by omega) (by omega) w
 go_in;go_wp2_with fail
 clear hmk
 go_loopw [4] (fun i wr=>∃k:Nat,k<=ms.length/\i=.i k/\Hid (zaf w.heap.size wr w.heap.size ms k)/\Bw w wr) (fun i _=>ms.length-(intOf i).toNat)
 case atStart=>exact⟨0,Nat.zero_le _,rfl,⟨Nat.le_refl _,zrD ms.length,(MapKept.heap_alloc w _).1,size_madeCells _ _,fun i _ h=>absurd h (by omega)⟩,bAl _ _⟩
 case round=>
  obtain⟨k,hk,rfl,HOW,hB⟩:=hrel
  by_cases hlt:k<ms.length
  ·obtain⟨b,off,a0,a1,c0,c1,rfl,hb,hsm,hl0,hl1,d0,d1,d2,d3,d4,d5,d6⟩:=hw.load hB k hlt
   have HLS:=hid (hls k hlt);have hltI:(k:Int)<(ms.length:Int):=by omega
   clear hw;go_wp2_with fail
   refine(zif ms[k] a0 a1 c0 c1 _ hsm hl0 hl1 HLS.o).mono ?_;rintro e w1⟨g0,g1,rfl,p0,r0,p1,r1,hb1⟩;have hB1:=hB.trans (hb1.mono hB.size)
   have hbo:w.heap.size<wr.heap.size:=by
    obtain⟨C',hC',_⟩:=HOW.o.rows;exact(gES hC').1
   have HP:=hid (HOW.o.later hb1);obtain⟨C,hC,hsz,_⟩:=HP.o.rows;have hfz:∀o,w1.frozen? (aD w.heap.size o)=false:=fun o=>zf hC
   have hex:∀o,o<ms.length*7->∃v,w1.cell? (aD w.heap.size o)=some v:=fun o ho=>⟨C[o]'(by omega),by rw[cell_of_block hC];exact Array.getElem?_eq_getElem (by omega)⟩
   obtain⟨v0,hv0⟩:=hex (k*7) (by omega);obtain⟨v1,hv1⟩:=hex (k*7+1) (by omega);obtain⟨v2,hv2⟩:=hex (k*7+2) (by omega);obtain⟨v3,hv3⟩:=hex (k*7+3) (by omega);obtain⟨v4,hv4⟩:=hex (k*7+4) (by omega);obtain⟨v5,hv5⟩:=hex (k*7+5) (by omega);obtain⟨v6,hv6⟩:=hex (k*7+6) (by omega);have HR:=j3 p0 r0 p1 r1;clear hex hC hsz d0 d1 d2 d3 d4 d5 d6 p0 r0 p1 r1 hl0 hl1;unfold Ob.row;go_wp2_with fail
   obtain⟨p0,r0,p1,r1⟩:=HR.o;exact⟨⟨k+1,by omega,by go_num,HP.o.put hlt g0 g1 (by omega) (by omega) r0 (by omega) (by omega) r1,zoX hB1 (Nat.le_refl _) _ _ _ _ _ _ _ _⟩,by simp[intOf];omega⟩
  ·have HF:Hid (zaf w.heap.size wr w.heap.size ms ms.length):=by
    have e:k=ms.length:=by omega
    subst e;exact HOW.o
   clear hw HOW;go_wp2
   go_ret;exact⟨rfl,HF.o,hB⟩
theorem zg9 (s:BA):s.toList.isEmpty=true \/ (s.toList.isEmpty=false/\Hid (zC s=true)) \/ (s.toList.isEmpty=false/\Hid (zC s=false)):=by
 by_cases h:s.toList.isEmpty=true
 ·exact Or.inl h
 ·by_cases h2:zC s=true
  ·exact Or.inr (Or.inl ⟨by simpa using h,h2⟩)
  ·exact Or.inr (Or.inr ⟨by simpa using h,by simpa[Hid] using h2⟩)
theorem zrf (r:Rl)(a:OA)(cap:Nat)(w:World)(hm:r.Small)(hw:yZ w a r.vs) :
 Calls Tryz.prog 187 #[.agg (r.cells a cap)] w fun e w'=>e=.returned (.bool (zaH r))/\Bw w w':=by
 have hskd:=hm.kd;have hstm:=hm.tm;have hspx:=hm.px;have hpx:=hm.px;unfold maxLen at hpx;unfold Rl.cells;have HB:Hid (∀ob,Bw w (w.alloc ob)):=fun ob=>bAl _ _
 have HI:Hid (∀ob,yZ (w.alloc ob) a r.vs):=fun ob=>hw.mono (HB.o ob)
 clear hw hm
 rcases zg9 r.kd with hk|⟨hk,HK⟩|⟨hk,HK⟩ <;> rcases zg9 r.tm with ht|⟨ht,HT⟩|⟨ht,HT⟩ <;> cases hv:zci r.vs <;> by_cases h16:r.px.size<=16
 all_goals
  have HV:=hid hv;have HS:=hid h16;clear hv
  first
   | (have h16I:(r.px.size:Int)<=16:=by omega)
   | (have h16I:decide ((r.px.size:Int)<=16)=false:=by simp;omega)
  clear h16;go_in
  go_wp2_with (first|(go_at_call_of 175 (Value.s r.kd);refine(zw HK.o (zZ r.kd _ hskd)).mono ?_;rintro e w'⟨rfl,rfl⟩)|(go_at_call_of 175 (Value.s r.tm);refine(zw HT.o (zZ r.tm _ hstm)).mono ?_;rintro e w'⟨rfl,rfl⟩)|(go_at_call 229;refine(zw HV.o (znI _ _ r.vs _ (by exact HI.o _))).mono ?_;rintro e w'⟨rfl,rfl⟩)|(go_at_call 220;refine(zcD r.px _ hspx).mono ?_;rintro e w'⟨rfl,rfl⟩))
  go_ret;refine⟨ze ?_,HB.o _⟩;unfold zaH zes
  (try rw[HK.o])
  (try rw[HT.o])
  simp[HV.o,hk,ht,HS.o]
end Go.Proofs.YtjnpjkigofldlaaGreat
