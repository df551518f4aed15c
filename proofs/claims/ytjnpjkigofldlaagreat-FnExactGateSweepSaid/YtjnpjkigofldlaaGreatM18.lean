import Derived.Test.YtjnpjkigofldlaaGreatM15
import Derived.Test.YtjnpjkigofldlaaGreatM13
set_option maxHeartbeats 4000000
namespace Go.Proofs.YtjnpjkigofldlaaGreat
open Go.RowKit
variable {w w':World}{b bo k lo:Nat}{a:OA}
structure Gr where
 no:Int
 to:BA
 gb:BA
 r:Rl
def Gr.cells (g:Gr)(a0:OA)(c0:Nat):AV:=#[.i g.no,.s g.to,.s g.gb,.l a0 g.r.vs.length c0,.s g.r.kd,.s g.r.tm,.s g.r.px]
structure Gr.Small (g:Gr):Prop where
 to:g.to.size<=maxLen
 gb:g.gb.size<=maxLen
 r:g.r.Small
def Gr.sz (g:Gr):Nat:=g.to.size+g.gb.size+g.r.sz
theorem Gr.zqT {g:Gr}(h:(g.sz:Int)<=1048576):g.r.vs.length<=1048576:=by unfold Gr.sz Rl.sz at h;omega
theorem zeW (g:Gr)(a0:OA)(c0:Nat)(left:Int)(w:World)(hm:g.Small)(hi:yZ w a0 g.r.vs)(h0:0<=left)(h1:left<=1048576) :
 Calls Tryz.prog 59 #[.agg (g.cells a0 c0),.i left] w fun e w'=>e=.returned (.i (zJ g.sz left))/\Bw w w':=by
 have k1:=hm.to;have k2:=hm.gb;have HM:=yB hm.r hi.len;unfold maxLen at k1 k2;clear hm hi;unfold Gr.cells;have hB:∀ob,Bw w (w.alloc ob):=fun ob=>bAl _ _
 by_cases c1:(g.to.size:Int)<=left
 rotate_left
 ·have HF:Hid (zJ g.sz left=-1):=zy (by unfold Gr.sz;omega)
  go_in;go_wp2
  go_ret;exact⟨zm HF.o.symm,hB _⟩
 by_cases c2:(g.gb.size:Int)<=left-g.to.size
 rotate_left
 ·have HF:Hid (zJ g.sz left=-1):=zy (by unfold Gr.sz;omega)
  go_in;go_wp2
  go_ret;exact⟨zm HF.o.symm,hB _⟩
 by_cases c3:(g.r.sz:Int)<=left-g.to.size-g.gb.size
 ·have HF:Hid (zJ g.sz left=left-g.to.size-g.gb.size-g.r.sz):=by
   unfold Hid;rw[zN (by unfold Gr.sz;omega)];unfold Gr.sz;omega
  go_in;go_wp2_with fail
  refine(zfe g.r a0 c0 _ _ HM.o.1 HM.o.2 (by omega) (by omega)).mono ?_;rintro e w1⟨rfl,hb⟩;rw[zN c3];have hB1:=(hB _).trans (hb.mono (by simp));clear hb;go_wp2
  go_ret;exact⟨zm HF.o.symm,hB1⟩
 ·have HF:Hid (zJ g.sz left=-1):=zy (by unfold Gr.sz;omega)
  have HC:=hid c3;clear c3;go_in;go_wp2_with fail
  refine(zfe g.r a0 c0 _ _ HM.o.1 HM.o.2 (by omega) (by omega)).mono ?_;rintro e w1⟨rfl,hb⟩;rw[zy (by have:=HC.o;omega)];have hB1:=(hB _).trans (hb.mono (by simp));clear hb;go_wp2
  go_ret;exact⟨zm HF.o.symm,hB1⟩
theorem zjD (g:Gr)(a0:OA)(c0:Nat)(a0':OA)(c0':Nat)(w:World)(_hm:g.Small)(hi:yZ w a0 g.r.vs)(hi':yZ w a0' g.r.vs) :
 Calls Tryz.prog 98 #[.agg (g.cells a0 c0),.agg (g.cells a0' c0')] w fun e w'=>e=.returned (.bool true)/\Bw w w':=by
 have hn:(g.no != g.no)=false:=by simp
 unfold Gr.cells;go_in;go_wp2_with fail
 refine(zks g.r _ _ _ _ _ (hi.mono (zo _ _ _)) (hi'.mono (zo _ _ _))).mono ?_;rintro e w1⟨rfl,hb⟩;have hB1:=(zo w _ _).trans (hb.mono (by simp;omega));clear hb;go_wp2
 go_ret;exact⟨rfl,hB1⟩
theorem zjl (g:Gr)(a0:OA)(c0:Nat)(w:World)(_hm:g.Small)(hi:yZ w a0 g.r.vs)(hl:g.r.vs.length<=1048576) :
 Calls Tryz.prog 78 #[.agg (g.cells a0 c0)] w fun e w'=>∃g0,e=.returned (.agg (g.cells (some (aD g0 0)) g.r.vs.length))/\w.heap.size<=g0/\w'.heap[g0]?=some (.cells (zb3 g.r.vs) 3)/\Bw w w':=by
 unfold Gr.cells;go_in;go_wp2_with fail
 have k0:=zmi w (.cells #[.i g.no,.s g.to,.s g.gb,.l a0 g.r.vs.length c0,.s g.r.kd,.s g.r.tm,.s g.r.px] 105) (.cells #[.i 0,.s ByteArray.empty,.s ByteArray.empty,.l none 0 0,.s ByteArray.empty,.s ByteArray.empty,.s ByteArray.empty] 126) (.cells #[.i g.no,.s g.to,.s g.gb,.l none 0 0,.s ByteArray.empty,.s ByteArray.empty,.s ByteArray.empty] 126);have hB0:=below3' w (.cells #[.i g.no,.s g.to,.s g.gb,.l a0 g.r.vs.length c0,.s g.r.kd,.s g.r.tm,.s g.r.px] 105) (.cells #[.i 0,.s ByteArray.empty,.s ByteArray.empty,.l none 0 0,.s ByteArray.empty,.s ByteArray.empty,.s ByteArray.empty] 126) (.cells #[.i g.no,.s g.to,.s g.gb,.l none 0 0,.s ByteArray.empty,.s ByteArray.empty,.s ByteArray.empty] 126);refine(zkk g.r a0 c0 _ (hi.mono (below3' _ _ _ _)) hl).mono ?_;rintro e w1⟨bk,rfl,hlo,hhi,hbk,hb⟩;have hlo':w.heap.size+1+1+1<=bk:=by simpa using hlo
 have hR1:=(hb.block _ (by simp)).trans k0.2.1;have hO1:=(hb.block _ (by simp)).trans k0.2.2;have hB1:=hB0.trans (hb.mono (by simp;omega));have HK:=hid hbk;have cR:=fun j=>cell_of_block (o:=j) hR1
 have fR:=fun j=>zf (o:=j) hR1
 have cO:=fun j=>cell_of_block (o:=j) hO1
 have fO:=fun j=>zf (o:=j) hO1
 have hz1:=(gES hO1).1;clear hb hbk k0 hB0 hlo hR1 hO1;unfold Rl.cells;go_wp2
 refine bodyPost_ret (v:=.agg #[.i g.no,.s g.to,.s g.gb,.l (some (aD bk 0)) g.r.vs.length g.r.vs.length,.s g.r.kd,.s g.r.tm,.s g.r.px]) (by simp[results,Tryz.results78,go_sem,cR]) rfl ⟨bk,rfl,by omega,?_,?_⟩
 ·have h1:bk≠w.heap.size+1:=by omega
  have h2:bk≠w.heap.size+1+1:=by omega
  exact(zA h1).trans ((zA h1).trans ((zA h1).trans ((zA h1).trans ((zA h1).trans ((zA h1).trans ((zA h1).trans ((zA h2).trans ((zA h2).trans ((zA h2).trans ((zA h2).trans HK.o))))))))))
 ·have h3:w.heap.size<=w.heap.size+1:=by omega
  have h4:w.heap.size<=w.heap.size+1+1:=by omega
  exact((((((((((hB1.setCell h4 _).setCell h4 _).setCell h4 _).setCell h4 _).setCell h3 _).setCell h3 _).setCell h3 _).setCell h3 _).setCell h3 _).setCell h3 _).setCell h3 _
structure zte (w:World)(b off:Nat)(x:Gr)(a0:OA)(c0:Nat):Prop where
 small:x.Small
 l0:yZ w a0 x.r.vs
 cell:∀j,j<7->w.cell? (aD b (off+j))=(Gr.cells x a0 c0)[j]?
structure zcs (w:World)(a:OA)(ms:List Gr):Prop where
 len:ms.length<=maxLen
 rows:ms≠[]->∃b off,a=some (aD b off)/\b<w.heap.size/\∀i (h:i<ms.length),∃a0 c0,zte w b (off+i*7) ms[i] a0 c0
theorem zte.mono {off:Nat}{x:Gr}{a0:OA}{c0:Nat}(h:zte w b off x a0 c0)(hb:b<w.heap.size)(hl:Bw w w'):zte w' b off x a0 c0:=
 ⟨h.small,h.l0.mono hl,fun j hj=>(hl.cell (p:=(aD b (off+j))) hb).trans (h.cell j hj)⟩
theorem zcs.mono {ms:List Gr}(h:zcs w a ms)(hl:Bw w w'):zcs w' a ms:=
 ⟨h.len,fun hne=>by
  obtain⟨b,off,ha,hb,hr⟩:=h.rows hne;refine⟨b,off,ha,nLt hb hl.size,fun i hi=>?_⟩;obtain⟨a0,c0,hf⟩:=hr i hi;exact⟨a0,c0,hf.mono hb hl⟩⟩
theorem zcs.load {ms:List Gr}(h:zcs w a ms)(hl:Bw w w')(i:Nat)(hi:i<ms.length):∃b off a0 c0,a=some (aD b off)/\b<w.heap.size/\ms[i].Small/\yZ w' a0 ms[i].r.vs /\
 w'.cell? (aD b (off+i*7))=some (.i ms[i].no)/\w'.cell? (aD b (off+i*7+1))=some (.s ms[i].to)/\w'.cell? (aD b (off+i*7+2))=some (.s ms[i].gb)/\w'.cell? (aD b (off+i*7+3))=some (.l a0 ms[i].r.vs.length c0)/\w'.cell? (aD b (off+i*7+4))=some (.s ms[i].r.kd)/\w'.cell? (aD b (off+i*7+5))=some (.s ms[i].r.tm)/\w'.cell? (aD b (off+i*7+6))=some (.s ms[i].r.px):=by
 obtain⟨b,off,ha,hb,hr⟩:=h.rows (by rintro rfl;simp at hi);obtain⟨a0,c0,hf0⟩:=hr i hi;have hf:=hf0.mono hb hl;exact⟨b,off,a0,c0,ha,hb,hf.small,hf.l0,hf.cell 0 (by omega),hf.cell 1 (by omega),hf.cell 2 (by omega),hf.cell 3 (by omega),hf.cell 4 (by omega),hf.cell 5 (by omega),hf.cell 6 (by omega)⟩
def zdV (ms:List Gr):Nat:=(ms.map Gr.sz).sum
def zcn (ms:List Gr):Nat:=ms.length+zdV ms
structure zhK (ms:List Gr):Prop where
 small:∀i (h:i<ms.length),ms[i].Small/\ms[i].r.vs.length<=maxLen
theorem zcs.smalls {ms:List Gr}(h:zcs w a ms):zhK ms:=
 ⟨fun i hi=>by
  obtain⟨b,off,_,_,hr⟩:=h.rows (by rintro rfl;simp at hi);obtain⟨a0,c0,hf⟩:=hr i hi;exact⟨hf.small,hf.l0.len⟩⟩
theorem ztX {ms:List Gr}{left:Int}(h:(zcn ms:Int)<=left)(hl:left<=1048576):ms.length<=1048576/\∀i (h:i<ms.length),ms[i].r.vs.length<=1048576:=by
 unfold zcn at h;refine⟨by omega,fun i hi=>?_⟩;have h1:ms[i].sz<=zdV ms:=zj5 Gr.sz ms i hi;exact Gr.zqT (by omega)
theorem zh9 (a:OA)(cap:Nat)(ms:List Gr)(left:Int)(w:World)(hw:zcs w a ms)(h0:0<=left)(h1:left<=1048576) :
 Calls Tryz.prog 19 #[.l a ms.length cap,.i left] w fun e w'=>e=.returned (.i (zJ (zcn ms) left))/\Bw w w':=by
 have hl:=hw.len;unfold maxLen at hl
 by_cases hfit:(ms.length:Int)<=left
 ·go_in
  go_wp2
  go_loopw [1,5] (fun l i wr=>∃k:Nat,k<=ms.length/\i=.i k/\0<=left-ms.length-zdV (ms.take k)/\l=.i (left-ms.length-zdV (ms.take k))/\Bw w wr) (fun _ i _=>ms.length-(intOf i).toNat)
  case atStart=>exact⟨0,Nat.zero_le _,rfl,by simp[zdV];omega,by simp[zdV],bRf _ _⟩
  case round=>
   obtain⟨k,hk,rfl,hpos,rfl,hB⟩:=hrel
   by_cases hlt:k<ms.length
   ·obtain⟨b,off,a0,c0,rfl,hb,hsm,hl0,d0,d1,d2,d3,d4,d5,d6⟩:=hw.load hB k hlt
    have hbr:=nLt hb hB.size;have HS:Hid (zdV (ms.take (k+1))=zdV (ms.take k)+ms[k].sz):=za6 Gr.sz ms k hlt;have hle:zdV (ms.take (k+1))<=zdV ms:=zc5 Gr.sz ms (k+1);have HI:Hid (yZ wr a0 ms[k].r.vs):=hl0;clear hw hl0
    by_cases hneg:(ms[k].sz:Int)<=left-ms.length-zdV (ms.take k)
    ·have HNG:Hid ((ms[k].sz:Int)<=left-ms.length-zdV (ms.take k)):=hneg
     clear hle;go_wp2_with fail
     refine(zeW ms[k] a0 c0 _ _ hsm HI.o hpos (by omega)).mono ?_;rintro e w1⟨rfl,hb1⟩;rw[zN HNG.o];have hB1:=hB.trans (hb1.mono hB.size);clear hb1;go_wp2
     exact⟨⟨k+1,by omega,by go_num,by rw[HS.o];omega,by rw[HS.o];congr 1;omega,hB1⟩,by simp[intOf];omega⟩
    ·have HF:Hid (zJ (zcn ms) left=-1):=zy (by have:=HS.o;unfold zcn;omega)
     have HNG:=hid hneg;clear hneg hle;go_wp2_with fail
     refine(zeW ms[k] a0 c0 _ _ hsm HI.o hpos (by omega)).mono ?_;rintro e w1⟨rfl,hb1⟩;rw[zy (by have:=HNG.o;omega)];have hB1:=hB.trans (hb1.mono hB.size);clear hb1;go_wp2
     go_ret;exact⟨zm HF.o.symm,hB1⟩
   ·have HF:Hid (zJ (zcn ms) left=left-ms.length-zdV (ms.take k)):=by
     rw[tOl (by omega)]at hpos ⊢;have e:zJ (zcn ms) left=left-zcn ms:=zN (by unfold zcn;omega);unfold Hid;rw[e];unfold zcn;omega
    clear hw
    go_wp2
    go_ret;exact⟨zm HF.o.symm,hB⟩
 ·have HF:Hid (zJ (zcn ms) left=-1):=zy (by unfold zcn;omega)
  clear hw;go_in
  go_wp2
  go_ret;exact⟨zm HF.o.symm,bRf _ _⟩
theorem zii (a a':OA)(cap cap':Nat)(ms:List Gr)(w:World)(hw:zcs w a ms)(hw':zcs w a' ms) :
 Calls Tryz.prog 38 #[.l a ms.length cap,.l a' ms.length cap'] w fun e w'=>e=.returned (.bool true)/\Bw w w':=by
 have hl:=hw.len;unfold maxLen at hl;have hnn:((ms.length:Int) != ms.length)=false:=by simp
 go_in;go_wp2
 go_loopw [5] (fun i wr=>∃k:Nat,k<=ms.length/\i=.i k/\Bw w wr) (fun i _=>ms.length-(intOf i).toNat)
 case atStart=>exact⟨0,Nat.zero_le _,rfl,bRf _ _⟩
 case round=>
  obtain⟨k,hk,rfl,hB⟩:=hrel
  by_cases hlt:k<ms.length
  ·obtain⟨b,off,a0,c0,rfl,hb,hsm,hl0,d0,d1,d2,d3,d4,d5,d6⟩:=hw.load hB k hlt
   obtain⟨b',off',a0',c0',rfl,hb',_,hl0',f0,f1,f2,f3,f4,f5,f6⟩:=hw'.load hB k hlt;have hltI:(k:Int)<(ms.length:Int):=by omega
   clear hw hw';go_wp2_with fail
   go_region_with (go_at_call 98;refine(zjD ms[k] a0 c0 a0' c0' _ hsm (by exact hl0.mono ((bRf _ _).drew)) (by exact hl0'.mono ((bRf _ _).drew))).mono ?_;rintro e w1⟨rfl,hb1'⟩;have hb1:=(bRf wr.heap.size wr).drew.trans hb1';clear hb1')
   all_goals go_wp2
   all_goals exact⟨⟨k+1,by omega,by go_num,hB.trans (hb1.mono hB.size)⟩,by simp[intOf];omega⟩
  ·clear hw hw'
   go_wp2
   go_ret;exact⟨rfl,hB⟩
structure j6 (lo:Nat)(w:World)(bo:Nat)(ms:List Gr)(k:Nat):Prop where
 low:lo<=bo
 rows:∃C,w.heap[bo]?=some (.cells C 126)/\C.size=ms.length*7 /\
  ∀i (h:i<ms.length),i<k->∃g0,lo<=g0/\g0≠bo/\w.heap[g0]?=some (.cells (zb3 ms[i].r.vs) 3)/\∀j,j<7->C[i*7+j]?=(Gr.cells ms[i] (some (aD g0 0)) ms[i].r.vs.length)[j]?
theorem j6.at {ms:List Gr}(h:j6 lo w bo ms ms.length)(hs:zhK ms)(hl:ms.length<=maxLen):zcs w (some (aD bo 0)) ms:=by
 obtain⟨C,hC,hsz,hr⟩:=h.rows;refine⟨hl,fun _=>⟨bo,0,rfl,(gES hC).1,fun i hi=>?_⟩⟩;obtain⟨g0,_,_,hk0,hc⟩:=hr i hi hi;obtain⟨s0,s1⟩:=hs.small i hi;refine⟨some (aD g0 0),ms[i].r.vs.length,s0,ziC hk0 s1,fun j hj=>?_⟩;rw[cell_of_block hC,Nat.zero_add];exact hc j hj
theorem j6.above {ms:List Gr}(h:j6 lo w bo ms k)(ha:yM lo w w'):j6 lo w' bo ms k:=by
 obtain⟨C,hC,hsz,hr⟩:=h.rows;refine⟨h.low,C,(ha.same _ h.low (gES hC).1).trans hC,hsz,fun i hi hk=>?_⟩;obtain⟨g0,p0,q0,r0,hc⟩:=hr i hi hk;exact⟨g0,p0,q0,(ha.same _ p0 (gES r0).1).trans r0,hc⟩
theorem j6.later {ms:List Gr}(h:j6 lo w bo ms k)(hb:Bw w w'):j6 lo w' bo ms k:=h.above (yM.below hb)
theorem j6.weaken {lo':Nat}{ms:List Gr}(h:j6 lo w bo ms k)(hl:lo'<=lo):j6 lo' w bo ms k:=by
 obtain⟨C,hC,hsz,hr⟩:=h.rows;refine⟨Nat.le_trans hl h.low,C,hC,hsz,fun i hi hk=>?_⟩;obtain⟨g0,p0,q0,r0,hc⟩:=hr i hi hk;exact⟨g0,Nat.le_trans hl p0,q0,r0,hc⟩
def zpf (w:World)(b o:Nat)(v0 v1 v2 v3 v4 v5 v6:Value):World:=(((((((w.setCell (aD b o) v0).setCell (aD b (o+1)) v1).setCell (aD b (o+2)) v2).setCell (aD b (o+3)) v3).setCell (aD b (o+4)) v4).setCell (aD b (o+5)) v5).setCell (aD b (o+6)) v6)
def zly (C:AV)(o:Nat)(v0 v1 v2 v3 v4 v5 v6:Value):AV:=(((((((C.setIfInBounds (o) v0).setIfInBounds (o+1) v1).setIfInBounds (o+2) v2).setIfInBounds (o+3) v3).setIfInBounds (o+4) v4).setIfInBounds (o+5) v5).setIfInBounds (o+6) v6)
theorem zoU {o:Nat}{C:AV}{t:TypeId}(h:w.heap[b]?=some (.cells C t))(v0 v1 v2 v3 v4 v5 v6:Value):(zpf w b o v0 v1 v2 v3 v4 v5 v6).heap[b]?=some (.cells (zly C o v0 v1 v2 v3 v4 v5 v6) t):=
 zh (zh (zh (zh (zh (zh (zh h v0) v1) v2) v3) v4) v5) v6
theorem zo9 {B:Nat}{a:World}(h:Below B a w)(hb:B<=b)(o:Nat)(v0 v1 v2 v3 v4 v5 v6:Value):Below B a (zpf w b o v0 v1 v2 v3 v4 v5 v6):=
 ((((((h.setCell hb v0).setCell hb v1).setCell hb v2).setCell hb v3).setCell hb v4).setCell hb v5).setCell hb v6
theorem ziX (w:World)(b o:Nat)(v0 v1 v2 v3 v4 v5 v6:Value){b':Nat}(h:b'≠b):(zpf w b o v0 v1 v2 v3 v4 v5 v6).heap[b']?=w.heap[b']?:=by
 unfold zpf
 iterate 7 rw[zA h]
theorem zq2 (C:AV)(o:Nat)(v0 v1 v2 v3 v4 v5 v6:Value):(zly C o v0 v1 v2 v3 v4 v5 v6).size=C.size:=by simp[zly]
theorem zrV (C:AV)(o i:Nat)(v0 v1 v2 v3 v4 v5 v6:Value)(h:i<o \/ o+7<=i):(zly C o v0 v1 v2 v3 v4 v5 v6)[i]?=C[i]?:=by
 unfold zly
 iterate 7 rw[Array.getElem?_setIfInBounds,if_neg (by omega)]
theorem ztz (C:AV)(o j:Nat)(v0 v1 v2 v3 v4 v5 v6:Value)(hj:j<7)(ho:o+7<=C.size):(zly C o v0 v1 v2 v3 v4 v5 v6)[o+j]?=(#[v0,v1,v2,v3,v4,v5,v6]:AV)[j]?:=by
 have hc:j=0 \/ j=1 \/ j=2 \/ j=3 \/ j=4 \/ j=5 \/ j=6:=by omega
 unfold zly
 rcases hc with h|h|h|h|h|h|h <;> subst h <;> simp[Array.getElem?_setIfInBounds] <;> omega
theorem j6.put {ms:List Gr}(h:j6 lo w bo ms k)(hk:k<ms.length)(g0:Nat)(p0:lo<=g0)(q0:g0≠bo)(r0:w.heap[g0]?=some (.cells (zb3 ms[k].r.vs) 3)) :
 j6 lo (zpf w bo (k*7) (.i ms[k].no) (.s ms[k].to) (.s ms[k].gb) (.l (some (aD g0 0)) ms[k].r.vs.length ms[k].r.vs.length) (.s ms[k].r.kd) (.s ms[k].r.tm) (.s ms[k].r.px)) bo ms (k+1):=by
 obtain⟨C,hC,hsz,hr⟩:=h.rows;refine⟨h.low,_,zoU hC _ _ _ _ _ _ _,by rw[zq2];exact hsz,fun i hi hik=>?_⟩
 rcases Nat.lt_or_ge i k with hlt|hge
 ·obtain⟨g0',x0,y0,z0,hc⟩:=hr i hi hlt
  refine⟨g0',x0,y0,(by rw[ziX _ _ _ _ _ _ _ _ _ _ y0];exact z0),fun j hj=>?_⟩;rw[zrV _ _ _ _ _ _ _ _ _ _ (by omega)];exact hc j hj
 ·have e:i=k:=by omega
  subst e;refine⟨g0,p0,q0,(by rw[ziX _ _ _ _ _ _ _ _ _ _ q0];exact r0),fun j hj=>?_⟩;rw[ztz _ _ _ _ _ _ _ _ _ _ hj (by omega)]
  rfl
def ztj:AV:=#[.i 0,.s ByteArray.empty,.s ByteArray.empty,.l none 0 0,.s ByteArray.empty,.s ByteArray.empty,.s ByteArray.empty]
def zrv (n:Nat):AV:=madeCells ztj (n*7)
theorem zhV (a:OA)(cap:Nat)(ms:List Gr)(w:World)(hw:zcs w a ms)(hl:ms.length<=1048576)(hls:∀i (h:i<ms.length),ms[i].r.vs.length<=1048576) :
 Calls Tryz.prog 29 #[.l a ms.length cap] w fun e w'=>e=.returned (.l (some (aD w.heap.size 0)) ms.length ms.length)/\j6 w.heap.size w' w.heap.size ms ms.length/\Bw w w':=by
 have hmk:∀w:World,(Instr.makeSlice 36 (.i ms.length) (.i ms.length)).run Tryz.prog w=.ok (.l (some (aD w.heap.size 0)) ms.length ms.length) (w.alloc (.cells (zrv ms.length) 126)):=
  fun w=>jy (P:=Tryz.prog) 36 126 (.agg ztj) 7 112 Tryz.underlying36 (by kernel_rfl) ms.length (by omega) (by omega) w
 go_in;go_wp2_with fail
 clear hmk
 go_loopw [4] (fun i wr=>∃k:Nat,k<=ms.length/\i=.i k/\Hid (j6 w.heap.size wr w.heap.size ms k)/\Bw w wr) (fun i _=>ms.length-(intOf i).toNat)
 case atStart=>exact⟨0,Nat.zero_le _,rfl,⟨Nat.le_refl _,zrv ms.length,(MapKept.heap_alloc w _).1,size_madeCells _ _,fun i _ h=>absurd h (by omega)⟩,bAl _ _⟩
 case round=>
  obtain⟨k,hk,rfl,HOW,hB⟩:=hrel
  by_cases hlt:k<ms.length
  ·obtain⟨b,off,a0,c0,rfl,hb,hsm,hl0,d0,d1,d2,d3,d4,d5,d6⟩:=hw.load hB k hlt
   have HLS:=hid (hls k hlt);have hltI:(k:Int)<(ms.length:Int):=by omega
   clear hw;go_wp2_with fail
   refine(zjl ms[k] a0 c0 _ hsm hl0 HLS.o).mono ?_;rintro e w1⟨g0,rfl,p0,r0,hb1⟩;have hB1:=hB.trans (hb1.mono hB.size)
   have hbo:w.heap.size<wr.heap.size:=by
    obtain⟨C',hC',_⟩:=HOW.o.rows;exact(gES hC').1
   have HP:=hid (HOW.o.later hb1);obtain⟨C,hC,hsz,_⟩:=HP.o.rows;have hfz:∀o,w1.frozen? (aD w.heap.size o)=false:=fun o=>zf hC
   have hex:∀o,o<ms.length*7->∃v,w1.cell? (aD w.heap.size o)=some v:=fun o ho=>⟨C[o]'(by omega),by rw[cell_of_block hC];exact Array.getElem?_eq_getElem (by omega)⟩
   obtain⟨v0,hv0⟩:=hex (k*7) (by omega);obtain⟨v1,hv1⟩:=hex (k*7+1) (by omega);obtain⟨v2,hv2⟩:=hex (k*7+2) (by omega);obtain⟨v3,hv3⟩:=hex (k*7+3) (by omega);obtain⟨v4,hv4⟩:=hex (k*7+4) (by omega);obtain⟨v5,hv5⟩:=hex (k*7+5) (by omega);obtain⟨v6,hv6⟩:=hex (k*7+6) (by omega);have HR:=yB p0 r0;clear hex hC hsz d0 d1 d2 d3 d4 d5 d6 p0 r0 hl0;unfold Gr.cells;go_wp2_with fail
   obtain⟨p0,r0⟩:=HR.o;exact⟨⟨k+1,by omega,by go_num,HP.o.put hlt g0 (by omega) (by omega) r0,zo9 hB1 (Nat.le_refl _) _ _ _ _ _ _ _ _⟩,by simp[intOf];omega⟩
  ·have HF:Hid (j6 w.heap.size wr w.heap.size ms ms.length):=by
    have e:k=ms.length:=by omega
    subst e;exact HOW.o
   clear hw HOW;go_wp2
   go_ret;exact⟨rfl,HF.o,hB⟩
theorem zlk {p:Prop}(h:p):Hid p:=h
theorem qB (w:World)(X Y:AV)(s t:TypeId):(∀j,((w.alloc (.cells X s)).alloc (.cells Y t)).cell? (aD w.heap.size j)=X[j]?)/\∀j,((w.alloc (.cells X s)).alloc (.cells Y t)).cell? (aD (w.heap.size+1) j)=Y[j]?:=by
 refine⟨za (zI w X s) (by simp) (bAl _ _),fun j=>?_⟩;have h:=zI (w.alloc (.cells X s)) Y t j;rw[World.size_alloc]at h;exact h
theorem zmr (l:Lw)(la lb lc:OA)(lca lcb lcc:Nat)(o:Ob)(oa oa':OA)(ocap ocap':Nat)(res:BA)(w:World)(hl:qp w l la lb lc)(_ho:qY w o oa oa')(hc:¬(zq l.ss o=true/\res.toList.isEmpty=false)) :
 Calls Tryz.prog 149 #[.agg (l.cells la lb lc lca lcb lcc),.agg (oC o oa oa' ocap ocap'),.s res] w fun e w'=>e=.returned (.i (qm l.ss o res))/\Bw w w':=by
 have HL:=hid hl;have HW:Hid (qm l.ss o res=0):=by unfold Hid qm;rw[if_neg hc]
 have HC:=hid hc;clear hl hc;unfold Lw.cells;go_in;go_wp2_with fail
 refine(qV _ _ l.ss o.kd _ (HL.o.ss.mono (zo _ _ _))).mono ?_;rintro e w1⟨fa,fcap,rfl,hfl,hb⟩;obtain⟨hX0,hY0⟩:=qB w (lC l la lb lc lca lcb lcc) (oC o oa oa' ocap ocap') 47 116;have hX1:=za hX0 (by simp;omega) hb;have hY1:=za hY0 (by simp) hb;have hz1:w.heap.size+1<w1.heap.size:=by have:=hb.size;simp at this;omega
 have HB1:Hid (Bw w w1):=(zo w _ _).trans (hb.mono (by simp;omega));clear hfl hb hX0 hY0
 by_cases hk:zF l.ss o.kd=true
 rotate_left
 ·have hk':zF l.ss o.kd=false:=by simpa using hk
  rw[hk'];clear hk hk';go_wp2
  go_ret;exact⟨zm HW.o.symm,HB1.o.alloc HB1.o.size _⟩
 by_cases he:res.toList.isEmpty=true
 ·have HK:=hid hk
  rw[HK.o];clear hk;go_wp2
  go_ret;exact⟨zm HW.o.symm,HB1.o.alloc HB1.o.size _⟩
 ·have he':res.toList.isEmpty=false:=by simpa using he
  have hne:((o.vs.length:Int) != ((shapeOf l.ss o.kd).fs.length:Int))=true:=by
   have h:=HC.o;unfold zq at h;rw[hk]at h;simp only[Bool.true_and,decide_eq_true_eq]at h;have h2:¬o.vs.length=(shapeOf l.ss o.kd).fs.length:=fun e=>h ⟨e,he'⟩
   simp;omega
  have HK:=hid hk;rw[HK.o];clear he hk;go_wp2
  go_ret;exact⟨zm HW.o.symm,HB1.o.alloc HB1.o.size _⟩
theorem zkL (l:Lw)(la lb lc:OA)(lca lcb lcc:Nat)(o:Ob)(oa oa':OA)(ocap ocap':Nat)(res:BA)(w:World)(hl:qp w l la lb lc)(ho:qY w o oa oa')(hc:zq l.ss o=true)(he:res.toList.isEmpty=false)(hlen:o.vs.length<=1048576) :
 Calls Tryz.prog 149 #[.agg (l.cells la lb lc lca lcb lcc),.agg (oC o oa oa' ocap ocap'),.s res] w fun e w'=>e=.returned (.i (qm l.ss o res))/\Bw w w':=by
 have HL:=hid hl;have HO:=hid ho;have HW:Hid (qm l.ss o res=(if res=o.kd then 1 else 0)+zew (shapeOf l.ss o.kd).fs o.vs res (shapeOf l.ss o.kd).fs.length):=by unfold Hid qm;rw[if_pos ⟨hc,he⟩]
 have HK:Hid (zF l.ss o.kd=true/\o.vs.length=(shapeOf l.ss o.kd).fs.length):=by unfold zq at hc;unfold Hid;simpa using hc
 have HN:=hid hlen;clear hl ho hc hlen;unfold Lw.cells;go_in;go_wp2_with fail
 refine(qV _ _ l.ss o.kd _ (HL.o.ss.mono (zo _ _ _))).mono ?_;rintro e w1⟨fa,fcap,rfl,hfl,hb⟩;obtain⟨hX0,hY0⟩:=qB w (lC l la lb lc lca lcb lcc) (oC o oa oa' ocap ocap') 47 116;have hY1:=za hY0 (by simp) hb;have hz1:w.heap.size+1<w1.heap.size:=by have:=hb.size;simp at this;omega
 have HB1:Hid (Bw w w1):=(zo w _ _).trans (hb.mono (by simp;omega));have HFl:=hid (hfl.mono hb);clear hfl hb hX0 hY0;rw[HK.o.1];obtain⟨S,HS⟩:∃S,Hid (S=shapeOf l.ss o.kd):=⟨_,rfl⟩
 rw[<- HS.o]at HFl HK HW ⊢;have hne:((o.vs.length:Int) != (S.fs.length:Int))=false:=by have:=HK.o.2;simp[this]
 obtain⟨n0,hn0⟩:∃n0:Int,n0=if res=o.kd then 1 else 0:=⟨_,rfl⟩
 have hb0:0<=n0/\n0<=1:=by rw[hn0];split <;> omega
 rw[<- hn0]at HW;have HN0:=hid hn0;clear hn0
 by_cases hk:res=o.kd
 all_goals (
  first
  | (have hq:(res.toList == o.kd.toList)=true:=by rw[beq_toList];simpa using hk)
  | (have hq:(res.toList == o.kd.toList)=false:=by rw[beq_toList];simpa using hk)
  have HKE:=zlk hk;clear hk;go_wp2
  go_loopw [9,44] (fun nv iv wr=>∃(k:Nat) (s:Int),k<=S.fs.length/\iv=.i k/\nv=.i s/\Hid (s=n0+zew S.fs o.vs res k/\Bw w1 wr)) (fun _ iv _=>S.fs.length-(intOf iv).toNat)
  case atStart=>exact⟨0,n0,Nat.zero_le _,rfl,by have:=HN0.o;first|(rw[if_pos HKE.o]at this;rw[this])|(rw[if_neg HKE.o]at this;rw[this]),by simp[zew],bAl _ _⟩
  case round=>
   obtain⟨k,s,hk,rfl,rfl,HQ⟩:=hrel;have hsb:0<=s/\s<=1+k*10000000:=by have h1:=HQ.o.1;have h2:=zdg S.fs o.vs res k;omega
   have hkn:k<=1048576:=by have:=HN.o;have:=HK.o.2;omega
   by_cases hlt:k<S.fs.length
   ·obtain⟨b,off,rfl,hb,hr⟩:=HFl.o.rows (by intro e;rw[e]at hlt;simp at hlt)
    obtain⟨wa,wcap,hf⟩:=hr k hlt;obtain⟨c0,c1,c2,c3,c4,c5,c6,c7,c8,c9,c10⟩:=(hf.mono hb HQ.o.2).load;have hlv:k<o.vs.length:=by have:=HK.o.2;omega
    have hltI:(k:Int)<(S.fs.length:Int):=by omega
    have hlvI:(k:Int)<(o.vs.length:Int):=by omega
    obtain⟨vb,voff,rfl,hvb,hvc0⟩:=HO.o.vals.cells (by intro e;rw[e]at hlv;simp at hlv);have hvc:=((HB1.o.trans (HQ.o.2.mono HB1.o.size)).cell (p:=(aD vb (voff+k))) hvb).trans (hvc0 k hlv);have hvb':=nLt hvb (HB1.o.trans (HQ.o.2.mono HB1.o.size)).size;have hb':=nLt hb HQ.o.2.size;have hY:=za hY1 hz1 HQ.o.2;have hz:=nLt hz1 HQ.o.2.size;have HSt:=zrx S.fs o.vs res k hlt hlv;have HSt:Hid (zew S.fs o.vs res (k+1)=zew S.fs o.vs res k+yJ S.fs[k] o.vs[k] res):=HSt;have HVs:Hid (o.vs[k].size<=maxLen):=HO.o.vals.small _ (List.getElem_mem _);have HBo:Hid (∀ob,Bw w1 (wr.alloc ob)):=fun ob=>HQ.o.2.alloc HQ.o.2.size _
    clear hf hr hvc0
    by_cases h1:S.fs[k].kd=1
    ·have e1:(S.fs[k].kd == 1)=true:=by simpa using h1
     by_cases h2:S.fs[k].wg=res
     ·have e2:(S.fs[k].wg.toList == res.toList)=true:=by rw[beq_toList];simpa using h2
      have HFw:Hid (yJ S.fs[k] o.vs[k] res=zaI o.vs[k]):=by unfold Hid yJ;rw[if_pos ⟨h1,h2⟩]
      have hdb:=zet o.vs[k];clear h1 h2;go_wp2_with fail
      refine(zdL o.vs[k] _ HVs.o).mono ?_;rintro e w2⟨rfl,rfl⟩;go_wp2
      exact⟨⟨k+1,s+zaI o.vs[k],by omega,by go_num,by go_num,by rw[HSt.o,HFw.o,HQ.o.1];omega,HBo.o _⟩,zi hlt⟩
     ·have e2:(S.fs[k].wg.toList == res.toList)=false:=by rw[beq_toList];simpa using h2
      have HFw:Hid (yJ S.fs[k] o.vs[k] res=0):=by unfold Hid yJ;rw[if_neg (fun h=>h2 h.2)]
      clear h1 h2;go_wp2
      exact⟨⟨k+1,s,by omega,by go_num,rfl,by rw[HSt.o,HFw.o,HQ.o.1];omega,HBo.o _⟩,zi hlt⟩
    ·have e1:(S.fs[k].kd == 1)=false:=by simpa using h1
     have HFw:Hid (yJ S.fs[k] o.vs[k] res=0):=by unfold Hid yJ;rw[if_neg (fun h=>h1 h.1)]
     clear h1;go_wp2
     exact⟨⟨k+1,s,by omega,by go_num,rfl,by rw[HSt.o,HFw.o,HQ.o.1];omega,HBo.o _⟩,zi hlt⟩
   ·have e:k=S.fs.length:=by omega
    subst e;have HE:Hid (qm l.ss o res=s):=by unfold Hid;rw[HW.o,HQ.o.1]
    clear hlt hk;go_wp2
    go_ret;exact⟨zm HE.o.symm,HB1.o.trans (HQ.o.2.mono HB1.o.size)⟩)
end Go.Proofs.YtjnpjkigofldlaaGreat
