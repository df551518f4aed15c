import Derived.Test.YtcgpjfcocmcodaaGreatM12
import Derived.Test.YtcgpjfcocmcodaaGreatM13
set_option maxHeartbeats 2000000
namespace Go.Proofs.YtcgpjfcocmcodaaGreat
open Go.RowKit
structure Gr where
 no:Int
 to:BA
 gb:BA
 r:Rl
def Gr.cells (g:Gr)(a0:OA)(c0:Nat):AV:=#[.i g.no,.s g.to,.s g.gb,.l a0 g.r.vs.length c0,.s g.r.kd,.s g.r.tm,.s g.r.px]
structure Gr.Small (g:Gr):Prop where
 to:g.to.size<=maxLen
 gb:g.gb.size<=maxLen
 r:g.r.Small
def Gr.sz (g:Gr):Nat:=g.to.size+g.gb.size+g.r.sz
theorem Gr.zo8 {g:Gr}(h:(g.sz:Int)<=1048576):g.r.vs.length<=1048576:=by unfold Gr.sz Rl.sz at h;omega
theorem zeL (g:Gr)(a0:OA)(c0:Nat)(left:Int)(w:World)(hm:g.Small)(hi:qm w a0 g.r.vs)(h0:0<=left)(h1:left<=1048576) :
 Calls Tryz.prog 66 #[.agg (g.cells a0 c0),.i left] w fun e w'=>e=.returned (.i (zL g.sz left))/\Bw w w':=by
 have k1:=hm.to;have k2:=hm.gb;have HM:=ql hm.r hi.len;unfold maxLen at k1 k2;clear hm hi;unfold Gr.cells;have hB:∀ob,Bw w (w.alloc ob):=fun ob=>bAl _ _
 by_cases c1:(g.to.size:Int)<=left
 rotate_left
 ·have HF:Hid (zL g.sz left=-1):=zC (by unfold Gr.sz;omega)
  go_enter Tryz.func66,Tryz.ntmps66;go_wp2_with fail
  go_ret;exact⟨zo HF.o.symm,hB _⟩
 by_cases c2:(g.gb.size:Int)<=left-g.to.size
 rotate_left
 ·have HF:Hid (zL g.sz left=-1):=zC (by unfold Gr.sz;omega)
  go_enter Tryz.func66,Tryz.ntmps66;go_wp2_with fail
  go_ret;exact⟨zo HF.o.symm,hB _⟩
 by_cases c3:(g.r.sz:Int)<=left-g.to.size-g.gb.size
 ·have HF:Hid (zL g.sz left=left-g.to.size-g.gb.size-g.r.sz):=by
   unfold Hid;rw[zM (by unfold Gr.sz;omega)];unfold Gr.sz;omega
  go_enter Tryz.func66,Tryz.ntmps66;go_wp2_with fail
  refine(zeU g.r a0 c0 _ _ HM.o.1 HM.o.2 (by omega) (by omega)).mono ?_;rintro e w1⟨rfl,hb⟩;rw[zM c3];have hB1:=(hB _).trans (hb.mono (by simp));clear hb;go_wp2_with fail
  go_ret;exact⟨zo HF.o.symm,hB1⟩
 ·have HF:Hid (zL g.sz left=-1):=zC (by unfold Gr.sz;omega)
  have HC:=hid c3;clear c3;go_enter Tryz.func66,Tryz.ntmps66;go_wp2_with fail
  refine(zeU g.r a0 c0 _ _ HM.o.1 HM.o.2 (by omega) (by omega)).mono ?_;rintro e w1⟨rfl,hb⟩;rw[zC (by have:=HC.o;omega)];have hB1:=(hB _).trans (hb.mono (by simp));clear hb;go_wp2_with fail
  go_ret;exact⟨zo HF.o.symm,hB1⟩
theorem ziQ (g:Gr)(a0:OA)(c0:Nat)(a0':OA)(c0':Nat)(w:World)(_hm:g.Small)(hi:qm w a0 g.r.vs)(hi':qm w a0' g.r.vs) :
 Calls Tryz.prog 101 #[.agg (g.cells a0 c0),.agg (g.cells a0' c0')] w fun e w'=>e=.returned (.bool true)/\Bw w w':=by
 have hn:(g.no != g.no)=false:=by simp
 unfold Gr.cells;go_enter Tryz.func101,Tryz.ntmps101;go_wp2_with fail
 refine(zkz g.r _ _ _ _ _ (hi.mono (zw _ _ _)) (hi'.mono (zw _ _ _))).mono ?_;rintro e w1⟨rfl,hb⟩;have hB1:=(zw w _ _).trans (hb.mono (by simp;omega));clear hb;go_wp2_with fail
 go_ret;exact⟨rfl,hB1⟩
theorem ziB (g:Gr)(a0:OA)(c0:Nat)(w:World)(_hm:g.Small)(hi:qm w a0 g.r.vs)(hl:g.r.vs.length<=1048576) :
 Calls Tryz.prog 83 #[.agg (g.cells a0 c0)] w fun e w'=>∃g0,e=.returned (.agg (g.cells (some (aD g0 0)) g.r.vs.length))/\w.heap.size<=g0/\w'.heap[g0]?=some (.cells (zbe g.r.vs) 3)/\Bw w w':=by
 unfold Gr.cells;go_enter Tryz.func83,Tryz.ntmps83;go_wp2_with fail
 have k0:=zob w (.cells #[.i g.no,.s g.to,.s g.gb,.l a0 g.r.vs.length c0,.s g.r.kd,.s g.r.tm,.s g.r.px] 113) (.cells #[.i 0,.s ByteArray.empty,.s ByteArray.empty,.l none 0 0,.s ByteArray.empty,.s ByteArray.empty,.s ByteArray.empty] 125) (.cells #[.i g.no,.s g.to,.s g.gb,.l none 0 0,.s ByteArray.empty,.s ByteArray.empty,.s ByteArray.empty] 125);have hB0:=below3' w (.cells #[.i g.no,.s g.to,.s g.gb,.l a0 g.r.vs.length c0,.s g.r.kd,.s g.r.tm,.s g.r.px] 113) (.cells #[.i 0,.s ByteArray.empty,.s ByteArray.empty,.l none 0 0,.s ByteArray.empty,.s ByteArray.empty,.s ByteArray.empty] 125) (.cells #[.i g.no,.s g.to,.s g.gb,.l none 0 0,.s ByteArray.empty,.s ByteArray.empty,.s ByteArray.empty] 125);refine(zkc g.r a0 c0 _ (hi.mono (below3' _ _ _ _)) hl).mono ?_;rintro e w1⟨bk,rfl,hlo,hhi,hbk,hb⟩;have hlo':w.heap.size+1+1+1<=bk:=by simpa using hlo
 have hR1:=(hb.block _ (by simp)).trans k0.2.1;have hO1:=(hb.block _ (by simp)).trans k0.2.2;have hB1:=hB0.trans (hb.mono (by simp;omega));have HK:=hid hbk;have cR:=fun j=>cell_of_block (o:=j) hR1
 have fR:=fun j=>zh (o:=j) hR1
 have cO:=fun j=>cell_of_block (o:=j) hO1
 have fO:=fun j=>zh (o:=j) hO1
 have hz1:=(gES hO1).1;clear hb hbk k0 hB0 hlo hR1 hO1;unfold Rl.cells;go_wp2_with fail
 refine bodyPost_ret (v:=.agg #[.i g.no,.s g.to,.s g.gb,.l (some (aD bk 0)) g.r.vs.length g.r.vs.length,.s g.r.kd,.s g.r.tm,.s g.r.px]) (by simp[results,Tryz.results83,go_sem,cR]) rfl ⟨bk,rfl,by omega,?_,?_⟩
 ·have h1:bk≠w.heap.size+1:=by omega
  have h2:bk≠w.heap.size+1+1:=by omega
  exact(zD h1).trans ((zD h1).trans ((zD h1).trans ((zD h1).trans ((zD h1).trans ((zD h1).trans ((zD h1).trans ((zD h2).trans ((zD h2).trans ((zD h2).trans ((zD h2).trans HK.o))))))))))
 ·have h3:w.heap.size<=w.heap.size+1:=by omega
  have h4:w.heap.size<=w.heap.size+1+1:=by omega
  exact((((((((((hB1.setCell h4 _).setCell h4 _).setCell h4 _).setCell h4 _).setCell h3 _).setCell h3 _).setCell h3 _).setCell h3 _).setCell h3 _).setCell h3 _).setCell h3 _
structure zq3 (w:World)(b off:Nat)(x:Gr)(a0:OA)(c0:Nat):Prop where
 small:x.Small
 l0:qm w a0 x.r.vs
 cell:∀j,j<7->w.cell? (aD b (off+j))=(Gr.cells x a0 c0)[j]?
structure zcj (w:World)(a:OA)(ms:List Gr):Prop where
 len:ms.length<=maxLen
 rows:ms≠[]->∃b off,a=some (aD b off)/\b<w.heap.size/\∀i (h:i<ms.length),∃a0 c0,zq3 w b (off+i*7) ms[i] a0 c0
theorem zq3.mono {w w':World}{b off:Nat}{x:Gr}{a0:OA}{c0:Nat}(h:zq3 w b off x a0 c0)(hb:b<w.heap.size)(hl:Bw w w'):zq3 w' b off x a0 c0:=
 ⟨h.small,h.l0.mono hl,fun j hj=>(hl.cell (p:=(aD b (off+j))) hb).trans (h.cell j hj)⟩
theorem zcj.mono {w w':World}{a:OA}{ms:List Gr}(h:zcj w a ms)(hl:Bw w w'):zcj w' a ms:=
 ⟨h.len,fun hne=>by
  obtain⟨b,off,ha,hb,hr⟩:=h.rows hne;refine⟨b,off,ha,nLt hb hl.size,fun i hi=>?_⟩;obtain⟨a0,c0,hf⟩:=hr i hi;exact⟨a0,c0,hf.mono hb hl⟩⟩
theorem zcj.load {w w':World}{a:OA}{ms:List Gr}(h:zcj w a ms)(hl:Bw w w')(i:Nat)(hi:i<ms.length):∃b off a0 c0,a=some (aD b off)/\b<w.heap.size/\ms[i].Small/\qm w' a0 ms[i].r.vs /\
 w'.cell? (aD b (off+i*7))=some (.i ms[i].no)/\w'.cell? (aD b (off+i*7+1))=some (.s ms[i].to)/\w'.cell? (aD b (off+i*7+2))=some (.s ms[i].gb)/\w'.cell? (aD b (off+i*7+3))=some (.l a0 ms[i].r.vs.length c0)/\w'.cell? (aD b (off+i*7+4))=some (.s ms[i].r.kd)/\w'.cell? (aD b (off+i*7+5))=some (.s ms[i].r.tm)/\w'.cell? (aD b (off+i*7+6))=some (.s ms[i].r.px):=by
 obtain⟨b,off,ha,hb,hr⟩:=h.rows (by rintro rfl;simp at hi);obtain⟨a0,c0,hf0⟩:=hr i hi;have hf:=hf0.mono hb hl;exact⟨b,off,a0,c0,ha,hb,hf.small,hf.l0,hf.cell 0 (by omega),hf.cell 1 (by omega),hf.cell 2 (by omega),hf.cell 3 (by omega),hf.cell 4 (by omega),hf.cell 5 (by omega),hf.cell 6 (by omega)⟩
def zdI (ms:List Gr):Nat:=(ms.map Gr.sz).sum
def zch (ms:List Gr):Nat:=ms.length+zdI ms
structure zha (ms:List Gr):Prop where
 small:∀i (h:i<ms.length),ms[i].Small/\ms[i].r.vs.length<=maxLen
theorem zcj.smalls {w:World}{a:OA}{ms:List Gr}(h:zcj w a ms):zha ms:=
 ⟨fun i hi=>by
  obtain⟨b,off,_,_,hr⟩:=h.rows (by rintro rfl;simp at hi);obtain⟨a0,c0,hf⟩:=hr i hi;exact⟨hf.small,hf.l0.len⟩⟩
theorem zrs {ms:List Gr}{left:Int}(h:(zch ms:Int)<=left)(hl:left<=1048576):ms.length<=1048576/\∀i (h:i<ms.length),ms[i].r.vs.length<=1048576:=by
 unfold zch at h;refine⟨by omega,fun i hi=>?_⟩;have h1:ms[i].sz<=zdI ms:=zjf Gr.sz ms i hi;exact Gr.zo8 (by omega)
theorem zhX (a:OA)(cap:Nat)(ms:List Gr)(left:Int)(w:World)(hw:zcj w a ms)(h0:0<=left)(h1:left<=1048576) :
 Calls Tryz.prog 19 #[.l a ms.length cap,.i left] w fun e w'=>e=.returned (.i (zL (zch ms) left))/\Bw w w':=by
 have hl:=hw.len;unfold maxLen at hl
 by_cases hfit:(ms.length:Int)<=left
 ·go_enter Tryz.func19,Tryz.ntmps19
  go_wp2_with fail
  go_loopw [1,5] (fun l i wr=>∃k:Nat,k<=ms.length/\i=.i k/\0<=left-ms.length-zdI (ms.take k)/\l=.i (left-ms.length-zdI (ms.take k))/\Bw w wr) (fun _ i _=>ms.length-(intOf i).toNat)
  case atStart=>exact⟨0,Nat.zero_le _,rfl,by simp[zdI];omega,by simp[zdI],bRf _ _⟩
  case round=>
   obtain⟨k,hk,rfl,hpos,rfl,hB⟩:=hrel
   by_cases hlt:k<ms.length
   ·obtain⟨b,off,a0,c0,rfl,hb,hsm,hl0,d0,d1,d2,d3,d4,d5,d6⟩:=hw.load hB k hlt
    have hbr:=nLt hb hB.size;have HS:Hid (zdI (ms.take (k+1))=zdI (ms.take k)+ms[k].sz):=za7 Gr.sz ms k hlt;have hle:zdI (ms.take (k+1))<=zdI ms:=zcX Gr.sz ms (k+1);have HI:Hid (qm wr a0 ms[k].r.vs):=hl0;clear hw hl0
    by_cases hneg:(ms[k].sz:Int)<=left-ms.length-zdI (ms.take k)
    ·have HNG:Hid ((ms[k].sz:Int)<=left-ms.length-zdI (ms.take k)):=hneg
     clear hle;go_wp2_with fail
     refine(zeL ms[k] a0 c0 _ _ hsm HI.o hpos (by omega)).mono ?_;rintro e w1⟨rfl,hb1⟩;rw[zM HNG.o];have hB1:=hB.trans (hb1.mono hB.size);clear hb1;go_wp2_with fail
     exact⟨⟨k+1,by omega,by go_num,by rw[HS.o];omega,by rw[HS.o];congr 1;omega,hB1⟩,by simp[intOf];omega⟩
    ·have HF:Hid (zL (zch ms) left=-1):=zC (by have:=HS.o;unfold zch;omega)
     have HNG:=hid hneg;clear hneg hle;go_wp2_with fail
     refine(zeL ms[k] a0 c0 _ _ hsm HI.o hpos (by omega)).mono ?_;rintro e w1⟨rfl,hb1⟩;rw[zC (by have:=HNG.o;omega)];have hB1:=hB.trans (hb1.mono hB.size);clear hb1;go_wp2_with fail
     go_ret;exact⟨zo HF.o.symm,hB1⟩
   ·have HF:Hid (zL (zch ms) left=left-ms.length-zdI (ms.take k)):=by
     rw[tOl (by omega)]at hpos ⊢;have e:zL (zch ms) left=left-zch ms:=zM (by unfold zch;omega);unfold Hid;rw[e];unfold zch;omega
    clear hw
    go_wp2
    go_ret;exact⟨zo HF.o.symm,hB⟩
 ·have HF:Hid (zL (zch ms) left=-1):=zC (by unfold zch;omega)
  clear hw;go_enter Tryz.func19,Tryz.ntmps19
  go_wp2
  go_ret;exact⟨zo HF.o.symm,bRf _ _⟩
theorem zhI (a a':OA)(cap cap':Nat)(ms:List Gr)(w:World)(hw:zcj w a ms)(hw':zcj w a' ms) :
 Calls Tryz.prog 45 #[.l a ms.length cap,.l a' ms.length cap'] w fun e w'=>e=.returned (.bool true)/\Bw w w':=by
 have hl:=hw.len;unfold maxLen at hl;have hnn:((ms.length:Int) != ms.length)=false:=by simp
 go_enter Tryz.func45,Tryz.ntmps45;go_wp2_with fail
 go_loopw [5] (fun i wr=>∃k:Nat,k<=ms.length/\i=.i k/\Bw w wr) (fun i _=>ms.length-(intOf i).toNat)
 case atStart=>exact⟨0,Nat.zero_le _,rfl,bRf _ _⟩
 case round=>
  obtain⟨k,hk,rfl,hB⟩:=hrel
  by_cases hlt:k<ms.length
  ·obtain⟨b,off,a0,c0,rfl,hb,hsm,hl0,d0,d1,d2,d3,d4,d5,d6⟩:=hw.load hB k hlt
   obtain⟨b',off',a0',c0',rfl,hb',_,hl0',f0,f1,f2,f3,f4,f5,f6⟩:=hw'.load hB k hlt;have hltI:(k:Int)<(ms.length:Int):=by omega
   clear hw hw';go_wp2_with fail
   go_region_with (go_at_call 101;refine(ziQ ms[k] a0 c0 a0' c0' _ hsm (by exact hl0.mono ((bRf _ _).drew)) (by exact hl0'.mono ((bRf _ _).drew))).mono ?_;rintro e w1⟨rfl,hb1'⟩;have hb1:=(bRf wr.heap.size wr).drew.trans hb1';clear hb1')
   all_goals go_wp2_with fail
   all_goals exact⟨⟨k+1,by omega,by go_num,hB.trans (hb1.mono hB.size)⟩,by simp[intOf];omega⟩
  ·clear hw hw'
   go_wp2_with fail
   go_ret;exact⟨rfl,hB⟩
structure j5 (lo:Nat)(w:World)(bo:Nat)(ms:List Gr)(k:Nat):Prop where
 low:lo<=bo
 rows:∃C,w.heap[bo]?=some (.cells C 125)/\C.size=ms.length*7 /\
  ∀i (h:i<ms.length),i<k->∃g0,lo<=g0/\g0≠bo/\w.heap[g0]?=some (.cells (zbe ms[i].r.vs) 3)/\∀j,j<7->C[i*7+j]?=(Gr.cells ms[i] (some (aD g0 0)) ms[i].r.vs.length)[j]?
theorem j5.at {lo:Nat}{w:World}{bo:Nat}{ms:List Gr}(h:j5 lo w bo ms ms.length)(hs:zha ms)(hl:ms.length<=maxLen):zcj w (some (aD bo 0)) ms:=by
 obtain⟨C,hC,hsz,hr⟩:=h.rows;refine⟨hl,fun _=>⟨bo,0,rfl,(gES hC).1,fun i hi=>?_⟩⟩;obtain⟨g0,_,_,hk0,hc⟩:=hr i hi hi;obtain⟨s0,s1⟩:=hs.small i hi;refine⟨some (aD g0 0),ms[i].r.vs.length,s0,zhG hk0 s1,fun j hj=>?_⟩;rw[cell_of_block hC,Nat.zero_add];exact hc j hj
theorem j5.above {lo:Nat}{w w':World}{bo:Nat}{ms:List Gr}{k:Nat}(h:j5 lo w bo ms k)(ha:yN lo w w'):j5 lo w' bo ms k:=by
 obtain⟨C,hC,hsz,hr⟩:=h.rows;refine⟨h.low,C,(ha.same _ h.low (gES hC).1).trans hC,hsz,fun i hi hk=>?_⟩;obtain⟨g0,p0,q0,r0,hc⟩:=hr i hi hk;exact⟨g0,p0,q0,(ha.same _ p0 (gES r0).1).trans r0,hc⟩
theorem j5.later {lo:Nat}{w w':World}{bo:Nat}{ms:List Gr}{k:Nat}(h:j5 lo w bo ms k)(hb:Bw w w'):j5 lo w' bo ms k:=h.above (yN.below hb)
theorem j5.weaken {lo lo':Nat}{w:World}{bo:Nat}{ms:List Gr}{k:Nat}(h:j5 lo w bo ms k)(hl:lo'<=lo):j5 lo' w bo ms k:=by
 obtain⟨C,hC,hsz,hr⟩:=h.rows;refine⟨Nat.le_trans hl h.low,C,hC,hsz,fun i hi hk=>?_⟩;obtain⟨g0,p0,q0,r0,hc⟩:=hr i hi hk;exact⟨g0,Nat.le_trans hl p0,q0,r0,hc⟩
def znl (w:World)(b o:Nat)(v0 v1 v2 v3 v4 v5 v6:Value):World:=(((((((w.setCell (aD b o) v0).setCell (aD b (o+1)) v1).setCell (aD b (o+2)) v2).setCell (aD b (o+3)) v3).setCell (aD b (o+4)) v4).setCell (aD b (o+5)) v5).setCell (aD b (o+6)) v6)
def zj3 (C:AV)(o:Nat)(v0 v1 v2 v3 v4 v5 v6:Value):AV:=(((((((C.setIfInBounds (o) v0).setIfInBounds (o+1) v1).setIfInBounds (o+2) v2).setIfInBounds (o+3) v3).setIfInBounds (o+4) v4).setIfInBounds (o+5) v5).setIfInBounds (o+6) v6)
theorem zm4 {w:World}{b o:Nat}{C:AV}{t:TypeId}(h:w.heap[b]?=some (.cells C t))(v0 v1 v2 v3 v4 v5 v6:Value):(znl w b o v0 v1 v2 v3 v4 v5 v6).heap[b]?=some (.cells (zj3 C o v0 v1 v2 v3 v4 v5 v6) t):=
 zi (zi (zi (zi (zi (zi (zi h v0) v1) v2) v3) v4) v5) v6
theorem zm8 {B:Nat}{a w:World}(h:Below B a w){b:Nat}(hb:B<=b)(o:Nat)(v0 v1 v2 v3 v4 v5 v6:Value):Below B a (znl w b o v0 v1 v2 v3 v4 v5 v6):=
 ((((((h.setCell hb v0).setCell hb v1).setCell hb v2).setCell hb v3).setCell hb v4).setCell hb v5).setCell hb v6
theorem zh9 (w:World)(b o:Nat)(v0 v1 v2 v3 v4 v5 v6:Value){b':Nat}(h:b'≠b):(znl w b o v0 v1 v2 v3 v4 v5 v6).heap[b']?=w.heap[b']?:=by
 unfold znl
 iterate 7 rw[zD h]
theorem zoH (C:AV)(o:Nat)(v0 v1 v2 v3 v4 v5 v6:Value):(zj3 C o v0 v1 v2 v3 v4 v5 v6).size=C.size:=by simp[zj3]
theorem zqk (C:AV)(o i:Nat)(v0 v1 v2 v3 v4 v5 v6:Value)(h:i<o \/ o+7<=i):(zj3 C o v0 v1 v2 v3 v4 v5 v6)[i]?=C[i]?:=by
 unfold zj3
 iterate 7 rw[Array.getElem?_setIfInBounds,if_neg (by omega)]
theorem zqv (C:AV)(o j:Nat)(v0 v1 v2 v3 v4 v5 v6:Value)(hj:j<7)(ho:o+7<=C.size):(zj3 C o v0 v1 v2 v3 v4 v5 v6)[o+j]?=(#[v0,v1,v2,v3,v4,v5,v6]:AV)[j]?:=by
 have hc:j=0 \/ j=1 \/ j=2 \/ j=3 \/ j=4 \/ j=5 \/ j=6:=by omega
 unfold zj3
 rcases hc with h|h|h|h|h|h|h <;> subst h <;> simp[Array.getElem?_setIfInBounds] <;> omega
theorem j5.put {lo:Nat}{w:World}{bo:Nat}{ms:List Gr}{k:Nat}(h:j5 lo w bo ms k)(hk:k<ms.length)(g0:Nat)(p0:lo<=g0)(q0:g0≠bo)(r0:w.heap[g0]?=some (.cells (zbe ms[k].r.vs) 3)) :
 j5 lo (znl w bo (k*7) (.i ms[k].no) (.s ms[k].to) (.s ms[k].gb) (.l (some (aD g0 0)) ms[k].r.vs.length ms[k].r.vs.length) (.s ms[k].r.kd) (.s ms[k].r.tm) (.s ms[k].r.px)) bo ms (k+1):=by
 obtain⟨C,hC,hsz,hr⟩:=h.rows;refine⟨h.low,_,zm4 hC _ _ _ _ _ _ _,by rw[zoH];exact hsz,fun i hi hik=>?_⟩
 rcases Nat.lt_or_ge i k with hlt|hge
 ·obtain⟨g0',x0,y0,z0,hc⟩:=hr i hi hlt
  refine⟨g0',x0,y0,(by rw[zh9 _ _ _ _ _ _ _ _ _ _ y0];exact z0),fun j hj=>?_⟩;rw[zqk _ _ _ _ _ _ _ _ _ _ (by omega)];exact hc j hj
 ·have e:i=k:=by omega
  subst e;refine⟨g0,p0,q0,(by rw[zh9 _ _ _ _ _ _ _ _ _ _ q0];exact r0),fun j hj=>?_⟩;rw[zqv _ _ _ _ _ _ _ _ _ _ hj (by omega)]
  rfl
def zq6:AV:=#[.i 0,.s ByteArray.empty,.s ByteArray.empty,.l none 0 0,.s ByteArray.empty,.s ByteArray.empty,.s ByteArray.empty]
def zpA (n:Nat):AV:=madeCells zq6 (n*7)
theorem zhl (a:OA)(cap:Nat)(ms:List Gr)(w:World)(hw:zcj w a ms)(hl:ms.length<=1048576)(hls:∀i (h:i<ms.length),ms[i].r.vs.length<=1048576) :
 Calls Tryz.prog 34 #[.l a ms.length cap] w fun e w'=>e=.returned (.l (some (aD w.heap.size 0)) ms.length ms.length)/\j5 w.heap.size w' w.heap.size ms ms.length/\Bw w w':=by
 have hmk:∀w:World,(Instr.makeSlice 36 (.i ms.length) (.i ms.length)).run Tryz.prog w=.ok (.l (some (aD w.heap.size 0)) ms.length ms.length) (w.alloc (.cells (zpA ms.length) 125)):=
  fun w=>jE (P:=Tryz.prog) 36 125 (.agg zq6) 7 112 Tryz.underlying36 (by kernel_rfl) ms.length (by omega) (by omega) w
 go_enter Tryz.func34,Tryz.ntmps34;go_wp2_with fail
 clear hmk
 go_loopw [4] (fun i wr=>∃k:Nat,k<=ms.length/\i=.i k/\Hid (j5 w.heap.size wr w.heap.size ms k)/\Bw w wr) (fun i _=>ms.length-(intOf i).toNat)
 case atStart=>exact⟨0,Nat.zero_le _,rfl,⟨Nat.le_refl _,zpA ms.length,(MapKept.heap_alloc w _).1,size_madeCells _ _,fun i _ h=>absurd h (by omega)⟩,bAl _ _⟩
 case round=>
  obtain⟨k,hk,rfl,HOW,hB⟩:=hrel
  by_cases hlt:k<ms.length
  ·obtain⟨b,off,a0,c0,rfl,hb,hsm,hl0,d0,d1,d2,d3,d4,d5,d6⟩:=hw.load hB k hlt
   have HLS:=hid (hls k hlt);have hltI:(k:Int)<(ms.length:Int):=by omega
   clear hw;go_wp2_with fail
   refine(ziB ms[k] a0 c0 _ hsm hl0 HLS.o).mono ?_;rintro e w1⟨g0,rfl,p0,r0,hb1⟩;have hB1:=hB.trans (hb1.mono hB.size)
   have hbo:w.heap.size<wr.heap.size:=by
    obtain⟨C',hC',_⟩:=HOW.o.rows;exact(gES hC').1
   have HP:=hid (HOW.o.later hb1);obtain⟨C,hC,hsz,_⟩:=HP.o.rows;have hfz:∀o,w1.frozen? (aD w.heap.size o)=false:=fun o=>zh hC
   have hex:∀o,o<ms.length*7->∃v,w1.cell? (aD w.heap.size o)=some v:=fun o ho=>⟨C[o]'(by omega),by rw[cell_of_block hC];exact Array.getElem?_eq_getElem (by omega)⟩
   obtain⟨v0,hv0⟩:=hex (k*7) (by omega);obtain⟨v1,hv1⟩:=hex (k*7+1) (by omega);obtain⟨v2,hv2⟩:=hex (k*7+2) (by omega);obtain⟨v3,hv3⟩:=hex (k*7+3) (by omega);obtain⟨v4,hv4⟩:=hex (k*7+4) (by omega);obtain⟨v5,hv5⟩:=hex (k*7+5) (by omega);obtain⟨v6,hv6⟩:=hex (k*7+6) (by omega);have HR:=ql p0 r0;clear hex hC hsz d0 d1 d2 d3 d4 d5 d6 p0 r0 hl0;unfold Gr.cells;go_wp2_with fail
   obtain⟨p0,r0⟩:=HR.o;exact⟨⟨k+1,by omega,by go_num,HP.o.put hlt g0 (by omega) (by omega) r0,zm8 hB1 (Nat.le_refl _) _ _ _ _ _ _ _ _⟩,by simp[intOf];omega⟩
  ·have HF:Hid (j5 w.heap.size wr w.heap.size ms ms.length):=by
    have e:k=ms.length:=by omega
    subst e;exact HOW.o
   clear hw HOW;go_wp2_with fail
   go_ret;exact⟨rfl,HF.o,hB⟩
def Ob.row (o:Ob)(a0 a1:OA)(c0 c1:Nat):AV:=#[.s o.kd,.s o.nm,.s o.tm,.l a0 o.vs.length c0,.bool o.en,.l a1 o.hs.length c1,.i o.vr]
def Ob.sz (o:Ob):Nat:=zdZ o
theorem Ob.zo8 {o:Ob}(h:(o.sz:Int)<=1048576):o.vs.length<=1048576/\o.hs.length<=1048576:=zrB h (Int.le_refl _)
theorem zdG (o:Ob)(a0 a1:OA)(c0 c1:Nat)(left:Int)(w:World)(hm:o.Small)(h0':zG w a0 o.vs)(h1':zG w a1 o.hs)(h0:0<=left)(h1:left<=1048576) :
 Calls Tryz.prog 65 #[.agg (o.row a0 a1 c0 c1),.i left] w fun e w'=>e=.returned (.i (zL o.sz left))/\Bw w w':=zhF o a0 a1 c0 c1 left w ⟨hm,h0',h1'⟩ h0 h1
theorem zh2 (o:Ob)(a0 a1:OA)(c0 c1:Nat)(a0' a1':OA)(c0' c1':Nat)(w:World)(hm:o.Small)(h0:zG w a0 o.vs)(h1:zG w a1 o.hs)(h0':zG w a0' o.vs)(h1':zG w a1' o.hs) :
 Calls Tryz.prog 100 #[.agg (o.row a0 a1 c0 c1),.agg (o.row a0' a1' c0' c1')] w fun e w'=>e=.returned (.bool true)/\Bw w w':=zhU o a0 a1 a0' a1' c0 c1 c0' c1' w ⟨hm,h0,h1⟩ ⟨hm,h0',h1'⟩
theorem zho (o:Ob)(a0 a1:OA)(c0 c1:Nat)(w:World)(hm:o.Small)(h0:zG w a0 o.vs)(h1:zG w a1 o.hs)(hl:o.vs.length<=1048576/\o.hs.length<=1048576) :
 Calls Tryz.prog 82 #[.agg (o.row a0 a1 c0 c1)] w fun e w'=>∃g0 g1,e=.returned (.agg (o.row (some (aD g0 0)) (some (aD g1 0)) o.vs.length o.hs.length))/\w.heap.size<=g0/\w'.heap[g0]?=some (.cells (jT o.vs) 9)/\w.heap.size<=g1/\w'.heap[g1]?=some (.cells (jT o.hs) 9)/\Bw w w':=by
 refine(zhw o a0 a1 c0 c1 w ⟨hm,h0,h1⟩ hl.1 hl.2).mono ?_;rintro e w'⟨bv,bh,he,hv,hh,_,hbv,hbh,hb⟩;exact⟨bv,bh,he,hv,hbv,hh,hbh,hb⟩
structure zpU (w:World)(b off:Nat)(x:Ob)(a0 a1:OA)(c0 c1:Nat):Prop where
 small:x.Small
 l0:zG w a0 x.vs
 l1:zG w a1 x.hs
 cell:∀j,j<7->w.cell? (aD b (off+j))=(Ob.row x a0 a1 c0 c1)[j]?
structure zbG (w:World)(a:OA)(ms:List Ob):Prop where
 len:ms.length<=maxLen
 rows:ms≠[]->∃b off,a=some (aD b off)/\b<w.heap.size/\∀i (h:i<ms.length),∃a0 a1 c0 c1,zpU w b (off+i*7) ms[i] a0 a1 c0 c1
theorem zpU.mono {w w':World}{b off:Nat}{x:Ob}{a0 a1:OA}{c0 c1:Nat}(h:zpU w b off x a0 a1 c0 c1)(hb:b<w.heap.size)(hl:Bw w w'):zpU w' b off x a0 a1 c0 c1:=
 ⟨h.small,h.l0.mono hl,h.l1.mono hl,fun j hj=>(hl.cell (p:=(aD b (off+j))) hb).trans (h.cell j hj)⟩
theorem zbG.mono {w w':World}{a:OA}{ms:List Ob}(h:zbG w a ms)(hl:Bw w w'):zbG w' a ms:=
 ⟨h.len,fun hne=>by
  obtain⟨b,off,ha,hb,hr⟩:=h.rows hne;refine⟨b,off,ha,nLt hb hl.size,fun i hi=>?_⟩;obtain⟨a0,a1,c0,c1,hf⟩:=hr i hi;exact⟨a0,a1,c0,c1,hf.mono hb hl⟩⟩
theorem zbG.load {w w':World}{a:OA}{ms:List Ob}(h:zbG w a ms)(hl:Bw w w')(i:Nat)(hi:i<ms.length):∃b off a0 a1 c0 c1,a=some (aD b off)/\b<w.heap.size/\ms[i].Small/\zG w' a0 ms[i].vs/\zG w' a1 ms[i].hs /\
 w'.cell? (aD b (off+i*7))=some (.s ms[i].kd)/\w'.cell? (aD b (off+i*7+1))=some (.s ms[i].nm)/\w'.cell? (aD b (off+i*7+2))=some (.s ms[i].tm)/\w'.cell? (aD b (off+i*7+3))=some (.l a0 ms[i].vs.length c0)/\w'.cell? (aD b (off+i*7+4))=some (.bool ms[i].en)/\w'.cell? (aD b (off+i*7+5))=some (.l a1 ms[i].hs.length c1)/\w'.cell? (aD b (off+i*7+6))=some (.i ms[i].vr):=by
 obtain⟨b,off,ha,hb,hr⟩:=h.rows (by rintro rfl;simp at hi);obtain⟨a0,a1,c0,c1,hf0⟩:=hr i hi;have hf:=hf0.mono hb hl;exact⟨b,off,a0,a1,c0,c1,ha,hb,hf.small,hf.l0,hf.l1,hf.cell 0 (by omega),hf.cell 1 (by omega),hf.cell 2 (by omega),hf.cell 3 (by omega),hf.cell 4 (by omega),hf.cell 5 (by omega),hf.cell 6 (by omega)⟩
def za4 (ms:List Ob):Nat:=(ms.map Ob.sz).sum
def qH (ms:List Ob):Nat:=ms.length+za4 ms
structure zfb (ms:List Ob):Prop where
 small:∀i (h:i<ms.length),ms[i].Small/\(ms[i].vs.length<=maxLen/\∀s∈ms[i].vs,s.size<=maxLen)/\(ms[i].hs.length<=maxLen/\∀s∈ms[i].hs,s.size<=maxLen)
theorem zbG.smalls {w:World}{a:OA}{ms:List Ob}(h:zbG w a ms):zfb ms:=
 ⟨fun i hi=>by
  obtain⟨b,off,_,_,hr⟩:=h.rows (by rintro rfl;simp at hi);obtain⟨a0,a1,c0,c1,hf⟩:=hr i hi;exact⟨hf.small,⟨hf.l0.len,hf.l0.small⟩,⟨hf.l1.len,hf.l1.small⟩⟩⟩
theorem zmi {ms:List Ob}{left:Int}(h:(qH ms:Int)<=left)(hl:left<=1048576):ms.length<=1048576/\∀i (h:i<ms.length),ms[i].vs.length<=1048576/\ms[i].hs.length<=1048576:=by
 unfold qH at h;refine⟨by omega,fun i hi=>?_⟩;have h1:ms[i].sz<=za4 ms:=zjf Ob.sz ms i hi;exact Ob.zo8 (by omega)
theorem zgW (a:OA)(cap:Nat)(ms:List Ob)(left:Int)(w:World)(hw:zbG w a ms)(h0:0<=left)(h1:left<=1048576) :
 Calls Tryz.prog 18 #[.l a ms.length cap,.i left] w fun e w'=>e=.returned (.i (zL (qH ms) left))/\Bw w w':=by
 have hl:=hw.len;unfold maxLen at hl
 by_cases hfit:(ms.length:Int)<=left
 ·go_enter Tryz.func18,Tryz.ntmps18
  go_wp2_with fail
  go_loopw [1,5] (fun l i wr=>∃k:Nat,k<=ms.length/\i=.i k/\0<=left-ms.length-za4 (ms.take k)/\l=.i (left-ms.length-za4 (ms.take k))/\Bw w wr) (fun _ i _=>ms.length-(intOf i).toNat)
  case atStart=>exact⟨0,Nat.zero_le _,rfl,by simp[za4];omega,by simp[za4],bRf _ _⟩
  case round=>
   obtain⟨k,hk,rfl,hpos,rfl,hB⟩:=hrel
   by_cases hlt:k<ms.length
   ·obtain⟨b,off,a0,a1,c0,c1,rfl,hb,hsm,hl0,hl1,d0,d1,d2,d3,d4,d5,d6⟩:=hw.load hB k hlt
    have hbr:=nLt hb hB.size;have HS:Hid (za4 (ms.take (k+1))=za4 (ms.take k)+ms[k].sz):=za7 Ob.sz ms k hlt;have hle:za4 (ms.take (k+1))<=za4 ms:=zcX Ob.sz ms (k+1);have HI:Hid (zG wr a0 ms[k].vs/\zG wr a1 ms[k].hs):=⟨hl0,hl1⟩
    clear hw hl0 hl1
    by_cases hneg:(ms[k].sz:Int)<=left-ms.length-za4 (ms.take k)
    ·have HNG:Hid ((ms[k].sz:Int)<=left-ms.length-za4 (ms.take k)):=hneg
     clear hle;go_wp2_with fail
     refine(zdG ms[k] a0 a1 c0 c1 _ _ hsm HI.o.1 HI.o.2 hpos (by omega)).mono ?_;rintro e w1⟨rfl,hb1⟩;rw[zM HNG.o];have hB1:=hB.trans (hb1.mono hB.size);clear hb1;go_wp2_with fail
     exact⟨⟨k+1,by omega,by go_num,by rw[HS.o];omega,by rw[HS.o];congr 1;omega,hB1⟩,by simp[intOf];omega⟩
    ·have HF:Hid (zL (qH ms) left=-1):=zC (by have:=HS.o;unfold qH;omega)
     have HNG:=hid hneg;clear hneg hle;go_wp2_with fail
     refine(zdG ms[k] a0 a1 c0 c1 _ _ hsm HI.o.1 HI.o.2 hpos (by omega)).mono ?_;rintro e w1⟨rfl,hb1⟩;rw[zC (by have:=HNG.o;omega)];have hB1:=hB.trans (hb1.mono hB.size);clear hb1;go_wp2_with fail
     go_ret;exact⟨zo HF.o.symm,hB1⟩
   ·have HF:Hid (zL (qH ms) left=left-ms.length-za4 (ms.take k)):=by
     rw[tOl (by omega)]at hpos ⊢;have e:zL (qH ms) left=left-qH ms:=zM (by unfold qH;omega);unfold Hid;rw[e];unfold qH;omega
    clear hw
    go_wp2
    go_ret;exact⟨zo HF.o.symm,hB⟩
 ·have HF:Hid (zL (qH ms) left=-1):=zC (by unfold qH;omega)
  clear hw;go_enter Tryz.func18,Tryz.ntmps18
  go_wp2
  go_ret;exact⟨zo HF.o.symm,bRf _ _⟩
theorem zgy (a a':OA)(cap cap':Nat)(ms:List Ob)(w:World)(hw:zbG w a ms)(hw':zbG w a' ms) :
 Calls Tryz.prog 44 #[.l a ms.length cap,.l a' ms.length cap'] w fun e w'=>e=.returned (.bool true)/\Bw w w':=by
 have hl:=hw.len;unfold maxLen at hl;have hnn:((ms.length:Int) != ms.length)=false:=by simp
 go_enter Tryz.func44,Tryz.ntmps44;go_wp2_with fail
 go_loopw [5] (fun i wr=>∃k:Nat,k<=ms.length/\i=.i k/\Bw w wr) (fun i _=>ms.length-(intOf i).toNat)
 case atStart=>exact⟨0,Nat.zero_le _,rfl,bRf _ _⟩
 case round=>
  obtain⟨k,hk,rfl,hB⟩:=hrel
  by_cases hlt:k<ms.length
  ·obtain⟨b,off,a0,a1,c0,c1,rfl,hb,hsm,hl0,hl1,d0,d1,d2,d3,d4,d5,d6⟩:=hw.load hB k hlt
   obtain⟨b',off',a0',a1',c0',c1',rfl,hb',_,hl0',hl1',f0,f1,f2,f3,f4,f5,f6⟩:=hw'.load hB k hlt;have hltI:(k:Int)<(ms.length:Int):=by omega
   clear hw hw';go_wp2_with fail
   go_region_with (go_at_call 100;refine(zh2 ms[k] a0 a1 c0 c1 a0' a1' c0' c1' _ hsm (by exact hl0.mono ((bRf _ _).drew)) (by exact hl1.mono ((bRf _ _).drew)) (by exact hl0'.mono ((bRf _ _).drew)) (by exact hl1'.mono ((bRf _ _).drew))).mono ?_;rintro e w1⟨rfl,hb1'⟩;have hb1:=(bRf wr.heap.size wr).drew.trans hb1';clear hb1')
   all_goals go_wp2_with fail
   all_goals exact⟨⟨k+1,by omega,by go_num,hB.trans (hb1.mono hB.size)⟩,by simp[intOf];omega⟩
  ·clear hw hw'
   go_wp2_with fail
   go_ret;exact⟨rfl,hB⟩
structure zah (lo:Nat)(w:World)(bo:Nat)(ms:List Ob)(k:Nat):Prop where
 low:lo<=bo
 rows:∃C,w.heap[bo]?=some (.cells C 121)/\C.size=ms.length*7 /\
  ∀i (h:i<ms.length),i<k->∃g0 g1,lo<=g0/\g0≠bo/\w.heap[g0]?=some (.cells (jT ms[i].vs) 9)/\lo<=g1/\g1≠bo/\w.heap[g1]?=some (.cells (jT ms[i].hs) 9)/\∀j,j<7->C[i*7+j]?=(Ob.row ms[i] (some (aD g0 0)) (some (aD g1 0)) ms[i].vs.length ms[i].hs.length)[j]?
theorem zah.at {lo:Nat}{w:World}{bo:Nat}{ms:List Ob}(h:zah lo w bo ms ms.length)(hs:zfb ms)(hl:ms.length<=maxLen):zbG w (some (aD bo 0)) ms:=by
 obtain⟨C,hC,hsz,hr⟩:=h.rows;refine⟨hl,fun _=>⟨bo,0,rfl,(gES hC).1,fun i hi=>?_⟩⟩;obtain⟨g0,g1,_,_,hk0,_,_,hk1,hc⟩:=hr i hi hi;obtain⟨s0,s1,s2⟩:=hs.small i hi;refine⟨some (aD g0 0),some (aD g1 0),ms[i].vs.length,ms[i].hs.length,s0,zd2 hk0 s1.1 s1.2,zd2 hk1 s2.1 s2.2,fun j hj=>?_⟩;rw[cell_of_block hC,Nat.zero_add];exact hc j hj
theorem zah.above {lo:Nat}{w w':World}{bo:Nat}{ms:List Ob}{k:Nat}(h:zah lo w bo ms k)(ha:yN lo w w'):zah lo w' bo ms k:=by
 obtain⟨C,hC,hsz,hr⟩:=h.rows;refine⟨h.low,C,(ha.same _ h.low (gES hC).1).trans hC,hsz,fun i hi hk=>?_⟩;obtain⟨g0,g1,p0,q0,r0,p1,q1,r1,hc⟩:=hr i hi hk;exact⟨g0,g1,p0,q0,(ha.same _ p0 (gES r0).1).trans r0,p1,q1,(ha.same _ p1 (gES r1).1).trans r1,hc⟩
theorem zah.later {lo:Nat}{w w':World}{bo:Nat}{ms:List Ob}{k:Nat}(h:zah lo w bo ms k)(hb:Bw w w'):zah lo w' bo ms k:=h.above (yN.below hb)
def znm (w:World)(b o:Nat)(v0 v1 v2 v3 v4 v5 v6:Value):World:=(((((((w.setCell (aD b o) v0).setCell (aD b (o+1)) v1).setCell (aD b (o+2)) v2).setCell (aD b (o+3)) v3).setCell (aD b (o+4)) v4).setCell (aD b (o+5)) v5).setCell (aD b (o+6)) v6)
def zkm (C:AV)(o:Nat)(v0 v1 v2 v3 v4 v5 v6:Value):AV:=(((((((C.setIfInBounds (o) v0).setIfInBounds (o+1) v1).setIfInBounds (o+2) v2).setIfInBounds (o+3) v3).setIfInBounds (o+4) v4).setIfInBounds (o+5) v5).setIfInBounds (o+6) v6)
theorem znu {w:World}{b o:Nat}{C:AV}{t:TypeId}(h:w.heap[b]?=some (.cells C t))(v0 v1 v2 v3 v4 v5 v6:Value):(znm w b o v0 v1 v2 v3 v4 v5 v6).heap[b]?=some (.cells (zkm C o v0 v1 v2 v3 v4 v5 v6) t):=
 zi (zi (zi (zi (zi (zi (zi h v0) v1) v2) v3) v4) v5) v6
theorem zmS {B:Nat}{a w:World}(h:Below B a w){b:Nat}(hb:B<=b)(o:Nat)(v0 v1 v2 v3 v4 v5 v6:Value):Below B a (znm w b o v0 v1 v2 v3 v4 v5 v6):=
 ((((((h.setCell hb v0).setCell hb v1).setCell hb v2).setCell hb v3).setCell hb v4).setCell hb v5).setCell hb v6
theorem zdg (w:World)(b o:Nat)(v0 v1 v2 v3 v4 v5 v6:Value){b':Nat}(h:b'≠b):(znm w b o v0 v1 v2 v3 v4 v5 v6).heap[b']?=w.heap[b']?:=by
 unfold znm
 iterate 7 rw[zD h]
theorem zpd (C:AV)(o:Nat)(v0 v1 v2 v3 v4 v5 v6:Value):(zkm C o v0 v1 v2 v3 v4 v5 v6).size=C.size:=by simp[zkm]
theorem zqp (C:AV)(o i:Nat)(v0 v1 v2 v3 v4 v5 v6:Value)(h:i<o \/ o+7<=i):(zkm C o v0 v1 v2 v3 v4 v5 v6)[i]?=C[i]?:=by
 unfold zkm
 iterate 7 rw[Array.getElem?_setIfInBounds,if_neg (by omega)]
theorem zqR (C:AV)(o j:Nat)(v0 v1 v2 v3 v4 v5 v6:Value)(hj:j<7)(ho:o+7<=C.size):(zkm C o v0 v1 v2 v3 v4 v5 v6)[o+j]?=(#[v0,v1,v2,v3,v4,v5,v6]:AV)[j]?:=by
 have hc:j=0 \/ j=1 \/ j=2 \/ j=3 \/ j=4 \/ j=5 \/ j=6:=by omega
 unfold zkm
 rcases hc with h|h|h|h|h|h|h <;> subst h <;> simp[Array.getElem?_setIfInBounds] <;> omega
theorem zah.put {lo:Nat}{w:World}{bo:Nat}{ms:List Ob}{k:Nat}(h:zah lo w bo ms k)(hk:k<ms.length)(g0 g1:Nat)(p0:lo<=g0)(q0:g0≠bo)(r0:w.heap[g0]?=some (.cells (jT ms[k].vs) 9))(p1:lo<=g1)(q1:g1≠bo)(r1:w.heap[g1]?=some (.cells (jT ms[k].hs) 9)) :
 zah lo (znm w bo (k*7) (.s ms[k].kd) (.s ms[k].nm) (.s ms[k].tm) (.l (some (aD g0 0)) ms[k].vs.length ms[k].vs.length) (.bool ms[k].en) (.l (some (aD g1 0)) ms[k].hs.length ms[k].hs.length) (.i ms[k].vr)) bo ms (k+1):=by
 obtain⟨C,hC,hsz,hr⟩:=h.rows;refine⟨h.low,_,znu hC _ _ _ _ _ _ _,by rw[zpd];exact hsz,fun i hi hik=>?_⟩
 rcases Nat.lt_or_ge i k with hlt|hge
 ·obtain⟨g0',g1',x0,y0,z0,x1,y1,z1,hc⟩:=hr i hi hlt
  refine⟨g0',g1',x0,y0,(by rw[zdg _ _ _ _ _ _ _ _ _ _ y0];exact z0),x1,y1,(by rw[zdg _ _ _ _ _ _ _ _ _ _ y1];exact z1),fun j hj=>?_⟩;rw[zqp _ _ _ _ _ _ _ _ _ _ (by omega)];exact hc j hj
 ·have e:i=k:=by omega
  subst e;refine⟨g0,g1,p0,q0,(by rw[zdg _ _ _ _ _ _ _ _ _ _ q0];exact r0),p1,q1,(by rw[zdg _ _ _ _ _ _ _ _ _ _ q1];exact r1),fun j hj=>?_⟩;rw[zqR _ _ _ _ _ _ _ _ _ _ hj (by omega)]
  rfl
def zra:AV:=#[.s ByteArray.empty,.s ByteArray.empty,.s ByteArray.empty,.l none 0 0,.bool false,.l none 0 0,.i 0]
def zpu (n:Nat):AV:=madeCells zra (n*7)
theorem zg1 (a:OA)(cap:Nat)(ms:List Ob)(w:World)(hw:zbG w a ms)(hl:ms.length<=1048576)(hls:∀i (h:i<ms.length),ms[i].vs.length<=1048576/\ms[i].hs.length<=1048576) :
 Calls Tryz.prog 33 #[.l a ms.length cap] w fun e w'=>e=.returned (.l (some (aD w.heap.size 0)) ms.length ms.length)/\zah w.heap.size w' w.heap.size ms ms.length/\Bw w w':=by
 have hmk:∀w:World,(Instr.makeSlice 35 (.i ms.length) (.i ms.length)).run Tryz.prog w=.ok (.l (some (aD w.heap.size 0)) ms.length ms.length) (w.alloc (.cells (zpu ms.length) 121)):=
  fun w=>jE (P:=Tryz.prog) 35 121 (.agg zra) 7 112 Tryz.underlying35 (by kernel_rfl) ms.length (by omega) (by omega) w
 go_enter Tryz.func33,Tryz.ntmps33;go_wp2_with fail
 clear hmk
 go_loopw [4] (fun i wr=>∃k:Nat,k<=ms.length/\i=.i k/\Hid (zah w.heap.size wr w.heap.size ms k)/\Bw w wr) (fun i _=>ms.length-(intOf i).toNat)
 case atStart=>exact⟨0,Nat.zero_le _,rfl,⟨Nat.le_refl _,zpu ms.length,(MapKept.heap_alloc w _).1,size_madeCells _ _,fun i _ h=>absurd h (by omega)⟩,bAl _ _⟩
 case round=>
  obtain⟨k,hk,rfl,HOW,hB⟩:=hrel
  by_cases hlt:k<ms.length
  ·obtain⟨b,off,a0,a1,c0,c1,rfl,hb,hsm,hl0,hl1,d0,d1,d2,d3,d4,d5,d6⟩:=hw.load hB k hlt
   have HLS:=hid (hls k hlt);have hltI:(k:Int)<(ms.length:Int):=by omega
   clear hw;go_wp2_with fail
   refine(zho ms[k] a0 a1 c0 c1 _ hsm hl0 hl1 HLS.o).mono ?_;rintro e w1⟨g0,g1,rfl,p0,r0,p1,r1,hb1⟩;have hB1:=hB.trans (hb1.mono hB.size)
   have hbo:w.heap.size<wr.heap.size:=by
    obtain⟨C',hC',_⟩:=HOW.o.rows;exact(gES hC').1
   have HP:=hid (HOW.o.later hb1);obtain⟨C,hC,hsz,_⟩:=HP.o.rows;have hfz:∀o,w1.frozen? (aD w.heap.size o)=false:=fun o=>zh hC
   have hex:∀o,o<ms.length*7->∃v,w1.cell? (aD w.heap.size o)=some v:=fun o ho=>⟨C[o]'(by omega),by rw[cell_of_block hC];exact Array.getElem?_eq_getElem (by omega)⟩
   obtain⟨v0,hv0⟩:=hex (k*7) (by omega);obtain⟨v1,hv1⟩:=hex (k*7+1) (by omega);obtain⟨v2,hv2⟩:=hex (k*7+2) (by omega);obtain⟨v3,hv3⟩:=hex (k*7+3) (by omega);obtain⟨v4,hv4⟩:=hex (k*7+4) (by omega);obtain⟨v5,hv5⟩:=hex (k*7+5) (by omega);obtain⟨v6,hv6⟩:=hex (k*7+6) (by omega);have HR:=zbX p0 r0 p1 r1;clear hex hC hsz d0 d1 d2 d3 d4 d5 d6 p0 r0 p1 r1 hl0 hl1;unfold Ob.row;go_wp2_with fail
   obtain⟨p0,r0,p1,r1⟩:=HR.o;exact⟨⟨k+1,by omega,by go_num,HP.o.put hlt g0 g1 (by omega) (by omega) r0 (by omega) (by omega) r1,zmS hB1 (Nat.le_refl _) _ _ _ _ _ _ _ _⟩,by simp[intOf];omega⟩
  ·have HF:Hid (zah w.heap.size wr w.heap.size ms ms.length):=by
    have e:k=ms.length:=by omega
    subst e;exact HOW.o
   clear hw HOW;go_wp2_with fail
   go_ret;exact⟨rfl,HF.o,hB⟩
theorem lt_of_some {w:World}{b:Nat}{o:Obj}(h:w.heap[b]?=some o):b<w.heap.size:=(gES h).1
theorem zma {lo lo':Nat}{w:World}{bo:Nat}{ms:List Mnd}{k:Nat}(h:jd lo w bo ms k)(hl:lo'<=lo):jd lo' w bo ms k:=⟨Nat.le_trans hl h.low,h.rows⟩
theorem zmk {ty:TypeId}{lo lo':Nat}{w:World}{bo:Nat}{ts:List Tm}{k:Nat}(h:zae ty lo w bo ts k)(hl:lo'<=lo):zae ty lo' w bo ts k:=⟨Nat.le_trans hl h.low,h.rows⟩
theorem zfK (l:Lw)(a b c:OA)(ca cb cc:Nat)(w:World)(hl:jA w l a b c)(hf:l.Few) :
 Calls Tryz.prog 7 #[.agg (l.cells a b c ca cb cc)] w fun e w'=>∃lo a' b' c',e=.returned (.agg (l.cells (some (aD a' 0)) (some (aD b' 0)) (some (aD c' 0)) l.ss.length l.ms.length l.ts.length))/\w.heap.size<=lo/\znf lo w' l a' b' c'/\Bw w w':=by
 have HL:Hid (jA w l a b c):=hl;have HF:Hid l.Few:=hf;clear hl hf;unfold Lw.cells;go_enter Tryz.func7,Tryz.ntmps7;go_wp2_with fail
 have k0:=zob w (.cells #[.l a l.ss.length ca,.l b l.ms.length cb,.l c l.ts.length cc] 26) (.cells #[.l none 0 0,.l none 0 0,.l none 0 0] 47) (.cells #[.l none 0 0,.l none 0 0,.l none 0 0] 47);have hB0:=below3' w (.cells #[.l a l.ss.length ca,.l b l.ms.length cb,.l c l.ts.length cc] 26) (.cells #[.l none 0 0,.l none 0 0,.l none 0 0] 47) (.cells #[.l none 0 0,.l none 0 0,.l none 0 0] 47);obtain⟨W0,hW0⟩:=xN (((w.alloc (.cells #[.l a l.ss.length ca,.l b l.ms.length cb,.l c l.ts.length cc] 26)).alloc (.cells #[.l none 0 0,.l none 0 0,.l none 0 0] 47)).alloc (.cells #[.l none 0 0,.l none 0 0,.l none 0 0] 47));have hz0:w.heap.size+1+1<W0.heap.size:=by rw[hW0];simp
 rw[<- hW0]at k0 hB0 ⊢;clear hW0;have HLO:Hid (w.heap.size+1+1<W0.heap.size):=hz0;refine(zhE _ _ l.ss _ (HL.o.ss.mono hB0) HF.o.ss.1 HF.o.ss.2).mono ?_;rintro e w1⟨rfl,hown,hb⟩;obtain⟨a',ha'⟩:∃a',a'=W0.heap.size:=⟨_,rfl⟩
 have HO1:Hid (jQ W0.heap.size w1 a' l.ss l.ss.length):=by rw[ha'];exact hown
 have hX1:=(hb.block _ (by omega)).trans k0.1;have hR1:=(hb.block _ (by omega)).trans k0.2.1;have hO1:=(hb.block _ hz0).trans k0.2.2;have HZ1:Hid (W0.heap.size<=w1.heap.size):=hb.size;have HB1:Hid (Bw w w1):=hB0.trans (hb.mono hB0.size);rw[<- ha'];clear hown hb k0 hB0 hz0 ha';have cO1:=fun j=>cell_of_block (o:=j) hO1
 have fO1:=fun j=>zh (o:=j) hO1
 have HX1':Hid ((w1.setCell (aD (w.heap.size+1+1) 0) (.l (some (aD a' 0)) l.ss.length l.ss.length)).heap[w.heap.size]?=some (.cells #[.l a l.ss.length ca,.l b l.ms.length cb,.l c l.ts.length cc] 26)):=(zD (by omega)).trans hX1;have HR1':Hid ((w1.setCell (aD (w.heap.size+1+1) 0) (.l (some (aD a' 0)) l.ss.length l.ss.length)).heap[w.heap.size+1]?=some (.cells #[.l none 0 0,.l none 0 0,.l none 0 0] 47)):=(zD (by omega)).trans hR1;have HO1':Hid ((w1.setCell (aD (w.heap.size+1+1) 0) (.l (some (aD a' 0)) l.ss.length l.ss.length)).heap[w.heap.size+1+1]?=some (.cells #[.l (some (aD a' 0)) l.ss.length l.ss.length,.l none 0 0,.l none 0 0] 47)):=zi hO1 _;have HAB1:Hid (yN W0.heap.size w1 (w1.setCell (aD (w.heap.size+1+1) 0) (.l (some (aD a' 0)) l.ss.length l.ss.length))):=yN.setCell HLO.o _;have HBB1:Hid (Bw w (w1.setCell (aD (w.heap.size+1+1) 0) (.l (some (aD a' 0)) l.ss.length l.ss.length))):=HB1.o.setCell (by show w.heap.size<=w.heap.size+1+1;omega) _;have HZZ1:Hid (W0.heap.size<=(w1.setCell (aD (w.heap.size+1+1) 0) (.l (some (aD a' 0)) l.ss.length l.ss.length)).heap.size):=by unfold Hid;rw[World.size_setCell];exact HZ1.o
 clear hX1 hR1 hO1;have cX1:=fun j=>cell_of_block (o:=j) HX1'.out
 have cR1:=fun j=>cell_of_block (o:=j) HR1'.out
 have fR1:=fun j=>zh (o:=j) HR1'.out
 have cOO1:=fun j=>cell_of_block (o:=j) HO1'.out
 go_wp2_with fail
 refine(ziR _ _ l.ms _ (HL.o.ms.mono HBB1.o) HF.o.ms).mono ?_;rintro e w2⟨rfl,hown,hb⟩;obtain⟨b',hp'⟩:∃b',b'=(w1.setCell (aD (w.heap.size+1+1) 0) (.l (some (aD a' 0)) l.ss.length l.ss.length)).heap.size:=⟨_,rfl⟩
 have HN2:Hid (jd W0.heap.size w2 b' l.ms l.ms.length):=by rw[hp'];exact zma hown HZZ1.o
 have HAA2:Hid (yN W0.heap.size w1 w2):=HAB1.o.trans (yN.below hb);have hX2:=(hb.block _ (lt_of_some HX1'.out)).trans HX1'.out;have hR2:=(hb.block _ (lt_of_some HR1'.out)).trans HR1'.out;have hO2:=(hb.block _ (lt_of_some HO1'.out)).trans HO1'.out;have HZ2:Hid (W0.heap.size<=w2.heap.size):=Nat.le_trans HZZ1.o hb.size;have HB2:Hid (Bw w w2):=HBB1.o.trans (hb.mono HBB1.o.size);rw[<- hp'];clear hown hb hp' cX1 cR1 fR1 cOO1;have cO2:=fun j=>cell_of_block (o:=j) hO2
 have fO2:=fun j=>zh (o:=j) hO2
 have HX2':Hid ((w2.setCell (aD (w.heap.size+1+1) 1) (.l (some (aD b' 0)) l.ms.length l.ms.length)).heap[w.heap.size]?=some (.cells #[.l a l.ss.length ca,.l b l.ms.length cb,.l c l.ts.length cc] 26)):=(zD (by omega)).trans hX2;have HR2':Hid ((w2.setCell (aD (w.heap.size+1+1) 1) (.l (some (aD b' 0)) l.ms.length l.ms.length)).heap[w.heap.size+1]?=some (.cells #[.l none 0 0,.l none 0 0,.l none 0 0] 47)):=(zD (by omega)).trans hR2;have HO2':Hid ((w2.setCell (aD (w.heap.size+1+1) 1) (.l (some (aD b' 0)) l.ms.length l.ms.length)).heap[w.heap.size+1+1]?=some (.cells #[.l (some (aD a' 0)) l.ss.length l.ss.length,.l (some (aD b' 0)) l.ms.length l.ms.length,.l none 0 0] 47)):=zi hO2 _;have HAB2:Hid (yN W0.heap.size w2 (w2.setCell (aD (w.heap.size+1+1) 1) (.l (some (aD b' 0)) l.ms.length l.ms.length))):=yN.setCell HLO.o _;have HBB2:Hid (Bw w (w2.setCell (aD (w.heap.size+1+1) 1) (.l (some (aD b' 0)) l.ms.length l.ms.length))):=HB2.o.setCell (by show w.heap.size<=w.heap.size+1+1;omega) _;have HZZ2:Hid (W0.heap.size<=(w2.setCell (aD (w.heap.size+1+1) 1) (.l (some (aD b' 0)) l.ms.length l.ms.length)).heap.size):=by unfold Hid;rw[World.size_setCell];exact HZ2.o
 clear hX2 hR2 hO2;have cX2:=fun j=>cell_of_block (o:=j) HX2'.out
 have cR2:=fun j=>cell_of_block (o:=j) HR2'.out
 have fR2:=fun j=>zh (o:=j) HR2'.out
 have cOO2:=fun j=>cell_of_block (o:=j) HO2'.out
 go_wp2_with fail
 refine(ziO _ _ l.ts _ (HL.o.ts.mono HBB2.o) HF.o.ts).mono ?_;rintro e w3⟨rfl,hown,hb⟩;obtain⟨c',hp'⟩:∃c',c'=(w2.setCell (aD (w.heap.size+1+1) 1) (.l (some (aD b' 0)) l.ms.length l.ms.length)).heap.size:=⟨_,rfl⟩
 have HN3:Hid (zae 127 W0.heap.size w3 c' l.ts l.ts.length):=by rw[hp'];exact zmk hown HZZ2.o
 have HAA3:Hid (yN W0.heap.size w2 w3):=HAB2.o.trans (yN.below hb);have hX3:=(hb.block _ (lt_of_some HX2'.out)).trans HX2'.out;have hR3:=(hb.block _ (lt_of_some HR2'.out)).trans HR2'.out;have hO3:=(hb.block _ (lt_of_some HO2'.out)).trans HO2'.out;have HZ3:Hid (W0.heap.size<=w3.heap.size):=Nat.le_trans HZZ2.o hb.size;have HB3:Hid (Bw w w3):=HBB2.o.trans (hb.mono HBB2.o.size);rw[<- hp'];clear hown hb hp' cX2 cR2 fR2 cOO2;have cO3:=fun j=>cell_of_block (o:=j) hO3
 have fO3:=fun j=>zh (o:=j) hO3
 have HX3':Hid ((w3.setCell (aD (w.heap.size+1+1) 2) (.l (some (aD c' 0)) l.ts.length l.ts.length)).heap[w.heap.size]?=some (.cells #[.l a l.ss.length ca,.l b l.ms.length cb,.l c l.ts.length cc] 26)):=(zD (by omega)).trans hX3;have HR3':Hid ((w3.setCell (aD (w.heap.size+1+1) 2) (.l (some (aD c' 0)) l.ts.length l.ts.length)).heap[w.heap.size+1]?=some (.cells #[.l none 0 0,.l none 0 0,.l none 0 0] 47)):=(zD (by omega)).trans hR3;have HO3':Hid ((w3.setCell (aD (w.heap.size+1+1) 2) (.l (some (aD c' 0)) l.ts.length l.ts.length)).heap[w.heap.size+1+1]?=some (.cells #[.l (some (aD a' 0)) l.ss.length l.ss.length,.l (some (aD b' 0)) l.ms.length l.ms.length,.l (some (aD c' 0)) l.ts.length l.ts.length] 47)):=zi hO3 _;have HAB3:Hid (yN W0.heap.size w3 (w3.setCell (aD (w.heap.size+1+1) 2) (.l (some (aD c' 0)) l.ts.length l.ts.length))):=yN.setCell HLO.o _;have HBB3:Hid (Bw w (w3.setCell (aD (w.heap.size+1+1) 2) (.l (some (aD c' 0)) l.ts.length l.ts.length))):=HB3.o.setCell (by show w.heap.size<=w.heap.size+1+1;omega) _;have HZZ3:Hid (W0.heap.size<=(w3.setCell (aD (w.heap.size+1+1) 2) (.l (some (aD c' 0)) l.ts.length l.ts.length)).heap.size):=by unfold Hid;rw[World.size_setCell];exact HZ3.o
 clear hX3 hR3 hO3;have cX3:=fun j=>cell_of_block (o:=j) HX3'.out
 have cR3:=fun j=>cell_of_block (o:=j) HR3'.out
 have fR3:=fun j=>zh (o:=j) HR3'.out
 have cOO3:=fun j=>cell_of_block (o:=j) HO3'.out
 go_wp2_with fail
 refine bodyPost_ret (v:=.agg #[.l (some (aD a' 0)) l.ss.length l.ss.length,.l (some (aD b' 0)) l.ms.length l.ms.length,.l (some (aD c' 0)) l.ts.length l.ts.length]) (by simp[results,Tryz.results7,go_sem,cR3]) rfl ⟨W0.heap.size,a',b',c',rfl,by have:=HLO.o;omega,?_,?_⟩
 ·have hlt1:w.heap.size+1<W0.heap.size:=by have:=HLO.o;omega
  have hA3:∀v0 v1 v2,yN W0.heap.size w3 ((((w3.setCell (aD (w.heap.size+1+1) 2) (.l (some (aD c' 0)) l.ts.length l.ts.length)).setCell (aD (w.heap.size+1) 0) v0).setCell (aD (w.heap.size+1) 1) v1).setCell (aD (w.heap.size+1) 2) v2):=fun v0 v1 v2=>HAB3.o.trans (((yN.setCell (p:=(aD (w.heap.size+1) 0)) hlt1 v0).trans (yN.setCell (p:=(aD (w.heap.size+1) 1)) hlt1 v1)).trans (yN.setCell (p:=(aD (w.heap.size+1) 2)) hlt1 v2))
  exact⟨HO1.o.above ((HAA2.o.trans HAA3.o).trans (hA3 _ _ _)),HN2.o.above (HAA3.o.trans (hA3 _ _ _)),HN3.o.above (hA3 _ _ _)⟩
 ·exact((HBB3.o.setCell (Nat.le_succ _) _).setCell (Nat.le_succ _) _).setCell (Nat.le_succ _) _
theorem zdy (l:Lw)(a b c:OA)(ca cb cc:Nat)(w:World)(hl:jA w l a b c)(hf:l.Few) :
 Calls Tryz.prog 7 #[.agg (l.cells a b c ca cb cc)] w fun e w'=>∃a' b' c',e=.returned (.agg (l.cells a' b' c' l.ss.length l.ms.length l.ts.length))/\jA w' l a' b' c'/\Bw w w':=by
 refine(zfK l a b c ca cb cc w hl hf).mono ?_;rintro e w'⟨lo,a',b',c',he,_,ho,hb⟩;exact⟨_,_,_,he,ho.at hl.small,hb⟩
def yK (f:Fld)(v res:BA):Int:=if f.kd=1/\f.wg=res then zay v else 0
def zd8 (fs:List Fld)(vs:List BA)(res:BA):Nat->Int
 | 0=>0
 | k+1=>zd8 fs vs res k+yK (fs.getD k zbw) (vs.getD k ByteArray.empty) res
def qW (ss:List Shp)(o:Ob)(res:BA):Int:=
 if zB ss o=true/\res.toList.isEmpty=false then (if res=o.kd then 1 else 0)+zd8 (shapeOf ss o.kd).fs o.vs res (shapeOf ss o.kd).fs.length else 0
theorem zd4 (s:BA):0<=zay s/\zay s<=10000000:=by
 unfold zay
 split
 ·rename_i h
  refine⟨zdm s h,?_⟩;unfold zak at h;simp only[Bool.and_eq_true,decide_eq_true_eq]at h
  have:=(zfz s.data.toList h.2 7 (by have:=h.1.1.2;simpa using this)).2
  unfold zgF;omega
 ·omega
theorem zhe (f:Fld)(v res:BA):0<=yK f v res/\yK f v res<=10000000:=by
 unfold yK
 split
 ·exact zd4 v
 ·omega
theorem zcO (fs:List Fld)(vs:List BA)(res:BA):∀k,0<=zd8 fs vs res k/\zd8 fs vs res k<=k*10000000
 | 0=>by simp[zd8]
 | k+1=>by
  have h1:=zcO fs vs res k;have h2:=zhe (fs.getD k zbw) (vs.getD k ByteArray.empty) res;simp only[zd8];omega
theorem zg3 (ss:List Shp)(o:Ob)(res:BA)(h:o.vs.length<=1048576):0<=qW ss o res/\qW ss o res<=20000000000000:=by
 unfold qW
 split
 ·rename_i hc
  have hc1:=hc.1;unfold zB at hc1;simp only[Bool.and_eq_true,decide_eq_true_eq]at hc1
  have:=zcO (shapeOf ss o.kd).fs o.vs res (shapeOf ss o.kd).fs.length
  have h3:=hc1.2
  split <;> omega
 ·omega
theorem zpq (fs:List Fld)(vs:List BA)(res:BA)(k:Nat)(h:k<fs.length)(h':k<vs.length):zd8 fs vs res (k+1)=zd8 fs vs res k+yK fs[k] vs[k] res:=by
 have e1:fs.getD k zbw=fs[k]:=by simp[List.getD,h]
 have e2:vs.getD k ByteArray.empty=vs[k]:=by simp[List.getD,h']
 simp only[zd8];rw[e1,e2]
theorem zc5 (a:OA)(cap:Nat)(ts:List Tm)(v:BA)(w:World)(hw:jR w a ts) :
 Calls Tryz.prog 24 #[.l a ts.length cap,.s v] w fun e w'=>e=.returned (.bool (z8 ts v))/\w'=w:=by
 have hl:=hw.len;unfold maxLen at hl;go_enter Tryz.func24,Tryz.ntmps24;go_wp2_with fail
 go_loop [5] (fun i=>∃k:Nat,k<=ts.length/\i=.i k/\z8 (ts.take k) v=false) (fun i=>ts.length-(intOf i).toNat)
 case atStart=>exact⟨0,Nat.zero_le _,rfl,rfl⟩
 case round=>
  obtain⟨k,hk,rfl,hall⟩:=hrel
  by_cases hlt:k<ts.length
  ·obtain⟨b,off,rfl,hb,c0,c1⟩:=hw.load (bRf _ _) k hlt
   clear hw;have HS:Hid (z8 (ts.take (k+1)) v=(false||decide (ts[k].nm=v))):=by rw[zeB ts v k hlt,hall];rfl
   have hltI:(k:Int)<(ts.length:Int):=by omega
   by_cases he:ts[k].nm=v
   ·have hbe:(ts[k].nm.toList == v.toList)=true:=by rw[beq_toList];simpa using he
    have HR:=hid (zok ts v k hlt he);clear he hall;go_wp2_with fail
    go_ret;exact⟨ze HR.o.symm,rfl⟩
   ·have hbe:(ts[k].nm.toList == v.toList)=false:=by rw[beq_toList];simpa using he
    have HE:=hid he;clear he hall;go_wp2_with fail
    go_round
    case rel=>exact⟨k+1,by omega,by go_num,by rw[HS.o,decide_eq_false HE.o];rfl⟩
    case measure=>simp[intOf];omega
  ·have HR:Hid (z8 ts v=false):=by rw[<- zeY ts v k (by omega)];exact hall
   clear hall hw;go_wp2_with fail
   go_ret;exact⟨ze HR.o.symm,rfl⟩
theorem zgp (ts:List Tm)(m:Nat)(z:BA)(h:z.size=0):jS ts m z=z:=by
 cases m with
 | zero=>rfl
 | succ m=>unfold jS;rw[if_pos h]
theorem ziu (ts:List Tm)(m:Nat)(z:BA)(h:¬z.size=0):jS ts (m+1) z=jS ts m (over ts z):=by
 rw[jS,if_neg h]
theorem ziM (a:OA)(cap:Nat)(ts:List Tm)(w:World)(hw:jR w a ts) :
 Calls Tryz.prog 117 #[.l a ts.length cap] w fun e w'=>e=.returned (.bool (zaR ts))/\Bw w w':=by
 have hl:=hw.len;unfold maxLen at hl
 by_cases h12:ts.length<=12
 rotate_left
 ·have HF:Hid (zaR ts=false):=by simp[Hid,zaR,h12]
  clear hw;go_enter Tryz.func117,Tryz.ntmps117;go_wp2_with fail
  go_ret;exact⟨ze HF.o.symm,bRf _ _⟩
 have HG:Hid (zaR ts=up (zb7 ts) ts.length):=by simp[Hid,zaR,h12]
 have h12I:(ts.length:Int)<=12:=by omega
 have HW0:=hid hw;clear hw;go_enter Tryz.func117,Tryz.ntmps117;go_wp2_with fail
 go_loopw [3] (fun i wr=>∃k:Nat,k<=ts.length/\i=.i k/\up (zb7 ts) k=true/\Bw w wr) (fun i _=>ts.length-(intOf i).toNat)
 case atStart=>exact⟨0,Nat.zero_le _,rfl,rfl,bRf _ _⟩
 case round=>
  obtain⟨k,hk,rfl,hup,hB⟩:=hrel;obtain⟨W0,rfl⟩:∃W0,W0=wr:=⟨wr,rfl⟩
  have hsz:=hB.size
  by_cases hlt:k<ts.length
  ·obtain⟨b,off,rfl,hb,c0,c1⟩:=HW0.o.load hB k hlt
   have hbr:b<W0.heap.size:=by omega
   have hsm:=HW0.o.small k hlt;have hsn:=hsm.nm;have HS:Hid (qC ts k=true->zdV ts k=true->up (zb7 ts) (k+1)=true):=fun h h'=>by rw[q8,hup,zb7,h,h'];rfl
   have HN:Hid (qC ts k=false->zaR ts=false):=fun h=>by rw[HG.o];exact zaK hlt (by rw[zb7,h];rfl)
   have HD:Hid (zdV ts k=false->zaR ts=false):=fun h=>by rw[HG.o];exact zaK hlt (by rw[zb7,h,Bool.and_false])
   have HDS:Hid (zdV ts k=decide ((jS ts 5 ts[k].nm).size=0)):=by unfold Hid zdV;rw[getD_at ts k _ hlt]
   have hltI:(k:Int)<(ts.length:Int):=by omega
   have HB:=hid hB;have HBx:Hid (∀(ob:Obj) (n:Nat),Bw W0 ((W0.alloc ob).drewN n)):=fun ob n=>below_drewN (bAl _ _) _
   have HWr:Hid (∀(ob:Obj) (n:Nat),jR ((W0.alloc ob).drewN n) (some (aD b off)) ts):=fun ob n=>(HW0.o.mono hB).mono (below_drewN (bAl _ _) _)
   clear hup hsm hB
   by_cases hn:zx ts[k].nm=true
   rotate_left
   ·have HNm:Hid (zx ts[k].nm=false):=by simpa[Hid] using hn
    have HF:Hid (qC ts k=false):=by unfold Hid;rw[zcL ts k hlt _ rfl,HNm.o];rfl
    clear hn;go_wp2_with fail
    go_quiet ((go_at_call 25;exact Calls.quiet_of_same (zf HNm.o (zk _ _ hsn))))
    go_wp2_with fail
    go_ret;exact⟨ze (HN.o HF.o).symm,HB.o.trans ((HBx.o _ _).mono hsz)⟩
   have HNm:Hid (zx ts[k].nm=true):=hn;clear hn
   by_cases hbad:0<k/\less (ts.getD (k-1) zbf).nm ts[k].nm=false
   ·obtain⟨hkpos,hls⟩:=hbad
    have HF:Hid (qC ts k=false):=by
     unfold Hid;rw[zcL ts k hlt false (by rw[hls,decide_eq_false (show ¬k=0 by omega)];rfl)];simp
    obtain⟨m,rfl⟩:∃m,k=m+1:=⟨k-1,by omega⟩
    rw[Nat.add_sub_cancel,getD_at ts m _ (by omega)]at hls;obtain⟨b',off',e',hb',d0,d1⟩:=HW0.o.load HB.o m (by omega);simp only[Option.some.injEq,Addr.mk.injEq]at e';obtain⟨rfl,rfl,_⟩:=e';have hls':Op.bytesLess ts[m].nm.toList ts[m+1].nm.toList=false:=hls;have hmI:(m:Int)<12:=by omega
    have hm0:(0:Int)<=(m:Int):=by omega
    have hml:(m:Int)<(ts.length:Int):=by omega
    have hmw:IntKind.i64.wrap (m:Int)=m:=by rw[IntKind.wrap_i64];omega
    clear hls;go_wp2_with fail
    go_quiet ((go_at_call 25;exact Calls.quiet_of_same (zf HNm.o (zk _ _ hsn))))
    go_wp2_with fail
    go_ret;exact⟨ze (HN.o HF.o).symm,HB.o.trans ((HBx.o _ _).mono hsz)⟩
   have hgd:(decide (k=0)||less (ts.getD (k-1) zbf).nm ts[k].nm)=true:=by
    by_cases hk0:k=0
    ·simp[hk0]
    ·cases hq:less (ts.getD (k-1) zbf).nm ts[k].nm
     ·exact absurd ⟨by omega,hq⟩ hbad
     ·simp
   have HA:Hid (qC ts k=(ts[k].ov.toList.isEmpty||z8 ts ts[k].ov)):=by
    unfold Hid;rw[zcL ts k hlt true hgd,HNm.o];rfl
   have hgood:(decide (0<k)=false) \/ (decide (0<k)=true/\(0:Int)<=(k:Int)-1/\(k:Int)-1<(ts.length:Int)/\∃h:k-1<ts.length,Op.bytesLess ts[k-1].nm.toList ts[k].nm.toList=true/\W0.cell? (aD b (off+(k-1)*2))=some (.s ts[k-1].nm)):=by
    by_cases hk0:k=0
    ·exact Or.inl (by simp;omega)
    ·refine Or.inr ⟨by simp;omega,by omega,by omega,by omega,?_,?_⟩
     ·rw[decide_eq_false hk0,getD_at ts (k-1) _ (by omega)]at hgd
      exact hgd
     ·obtain⟨b',off',e',hb',d0,d1⟩:=HW0.o.load HB.o (k-1) (by omega)
      simp only[Option.some.injEq,Addr.mk.injEq]at e';obtain⟨rfl,rfl,_⟩:=e';exact d0
   clear hbad hgd
   by_cases hov:ts[k].ov.toList.isEmpty=true
   ·have HT:Hid (qC ts k=true):=by unfold Hid;rw[HA.o,hov];rfl
    rcases hgood with hg|⟨hg,hk1,hk2,hkm,hls',d0⟩
    focus
     go_wp2_with fail
    rotate_left
    focus
     go_wp2_with fail
    all_goals
     go_quiet ((go_at_call 25;exact Calls.quiet_of_same (zf HNm.o (zk _ _ hsn))))
     go_wp2_with fail
     obtain⟨W1,hW1⟩:=xN ((W0.alloc (.cells #[.s ts[k].nm,.s ts[k].ov] 127)).drewN nq);have HB1:Hid (Bw w W1):=by unfold Hid;rw[hW1];exact HB.o.trans ((HBx.o _ _).mono hsz)
     have HW1:=hid (HW0.o.mono HB1.o);rw[<- hW1];clear hW1
     go_loopw [5,6] (fun p i wi=>∃(n:Nat) (z:BA),n<=5/\p=.s z/\i=.i n/\jS ts 5 ts[k].nm=jS ts (5-n) z/\wi=W1) (fun _ i _=>5-(intOf i).toNat)
     case atStart=>exact⟨0,ts[k].nm,Nat.zero_le _,rfl,rfl,rfl,rfl⟩
     case round=>
      obtain⟨n,z,hn5,rfl,rfl,hz,rfl⟩:=hrel
      by_cases hn:n<5
      ·have hnI:(n:Int)<=4:=by omega
       by_cases hz0:z.size=0
       ·have hze:z.toList.isEmpty=true:=by rw[zy];simpa using hz0
        have HDT:Hid (zdV ts (k)=true):=by unfold Hid;rw[HDS.o,hz,zgp ts _ z hz0];simpa using hz0
        clear hz hz0;go_wp2_with fail
        exact⟨⟨k+1,by omega,by go_num,HS.o HT.o HDT.o,HB1.o⟩,by simp[intOf];omega⟩
       ·have hze:z.toList.isEmpty=false:=by rw[zy];simpa using hz0
        have HZ:Hid (jS ts 5 ts[k].nm=jS ts (5-(n+1)) (over ts z)):=by
         obtain⟨q,hq⟩:∃q,5-n=q+1:=⟨4-n,by omega⟩
         rw[Hid,hz,hq,ziu ts q z hz0,show 5-(n+1)=q by omega]
        clear hz hz0
        go_wp2_with (go_at_call 126;refine(zcW _ _ ts _ _ HW1.o).mono ?_;rintro e w'⟨rfl,rfl⟩)
        exact⟨⟨n+1,over ts z,by omega,rfl,by go_num,HZ.o,trivial⟩,by simp[intOf];omega⟩
      ·have e5:5-n=0:=by omega
       rw[e5]at hz;have hnI:¬(n:Int)<=4:=by omega
       by_cases hz0:z.size=0
       ·have hze:z.toList.isEmpty=true:=by rw[zy];simpa using hz0
        have HDT:Hid (zdV ts (k)=true):=by unfold Hid;rw[HDS.o,hz];simpa[jS] using hz0
        clear hz hz0;go_wp2_with fail
        exact⟨⟨k+1,by omega,by go_num,HS.o HT.o HDT.o,HB1.o⟩,by simp[intOf];omega⟩
       ·have hze:z.toList.isEmpty=false:=by rw[zy];simpa using hz0
        have HDT:Hid (zdV ts (k)=false):=by unfold Hid;rw[HDS.o,hz];simpa[jS] using hz0
        clear hz hz0;go_wp2_with fail
        go_ret;exact⟨ze (HD.o HDT.o).symm,HB1.o⟩
   ·have hov':ts[k].ov.toList.isEmpty=false:=by simpa using hov
    clear hov
    by_cases hit:z8 ts ts[k].ov=true
    ·have HI:=hid hit
     have HT:Hid (qC ts k=true):=by unfold Hid;rw[HA.o,hit];simp
     clear hit
     rcases hgood with hg|⟨hg,hk1,hk2,hkm,hls',d0⟩
     focus
      go_wp2_with fail
     rotate_left
     focus
      go_wp2_with fail
     all_goals
      go_quiet (first|(go_at_call 25;exact Calls.quiet_of_same (zf HNm.o (zk _ _ hsn)))|(go_at_call 24;exact Calls.quiet_of_same (zf HI.o (zc5 _ _ ts _ _ (by exact HWr.o _ _)))))
      go_wp2_with fail
      obtain⟨W1,hW1⟩:=xN ((W0.alloc (.cells #[.s ts[k].nm,.s ts[k].ov] 127)).drewN nq);have HB1:Hid (Bw w W1):=by unfold Hid;rw[hW1];exact HB.o.trans ((HBx.o _ _).mono hsz)
      have HW1:=hid (HW0.o.mono HB1.o);rw[<- hW1];clear hW1
      go_loopw [5,6] (fun p i wi=>∃(n:Nat) (z:BA),n<=5/\p=.s z/\i=.i n/\jS ts 5 ts[k].nm=jS ts (5-n) z/\wi=W1) (fun _ i _=>5-(intOf i).toNat)
      case atStart=>exact⟨0,ts[k].nm,Nat.zero_le _,rfl,rfl,rfl,rfl⟩
      case round=>
       obtain⟨n,z,hn5,rfl,rfl,hz,rfl⟩:=hrel
       by_cases hn:n<5
       ·have hnI:(n:Int)<=4:=by omega
        by_cases hz0:z.size=0
        ·have hze:z.toList.isEmpty=true:=by rw[zy];simpa using hz0
         have HDT:Hid (zdV ts (k)=true):=by unfold Hid;rw[HDS.o,hz,zgp ts _ z hz0];simpa using hz0
         clear hz hz0;go_wp2_with fail
         exact⟨⟨k+1,by omega,by go_num,HS.o HT.o HDT.o,HB1.o⟩,by simp[intOf];omega⟩
        ·have hze:z.toList.isEmpty=false:=by rw[zy];simpa using hz0
         have HZ:Hid (jS ts 5 ts[k].nm=jS ts (5-(n+1)) (over ts z)):=by
          obtain⟨q,hq⟩:∃q,5-n=q+1:=⟨4-n,by omega⟩
          rw[Hid,hz,hq,ziu ts q z hz0,show 5-(n+1)=q by omega]
         clear hz hz0
         go_wp2_with (go_at_call 126;refine(zcW _ _ ts _ _ HW1.o).mono ?_;rintro e w'⟨rfl,rfl⟩)
         exact⟨⟨n+1,over ts z,by omega,rfl,by go_num,HZ.o,trivial⟩,by simp[intOf];omega⟩
       ·have e5:5-n=0:=by omega
        rw[e5]at hz;have hnI:¬(n:Int)<=4:=by omega
        by_cases hz0:z.size=0
        ·have hze:z.toList.isEmpty=true:=by rw[zy];simpa using hz0
         have HDT:Hid (zdV ts (k)=true):=by unfold Hid;rw[HDS.o,hz];simpa[jS] using hz0
         clear hz hz0;go_wp2_with fail
         exact⟨⟨k+1,by omega,by go_num,HS.o HT.o HDT.o,HB1.o⟩,by simp[intOf];omega⟩
        ·have hze:z.toList.isEmpty=false:=by rw[zy];simpa using hz0
         have HDT:Hid (zdV ts (k)=false):=by unfold Hid;rw[HDS.o,hz];simpa[jS] using hz0
         clear hz hz0;go_wp2_with fail
         go_ret;exact⟨ze (HD.o HDT.o).symm,HB1.o⟩
    ·have HI:Hid (z8 ts ts[k].ov=false):=by simpa[Hid] using hit
     have HF:Hid (qC ts k=false):=by unfold Hid;rw[HA.o,HI.o,hov'];rfl
     clear hit
     rcases hgood with hg|⟨hg,hk1,hk2,hkm,hls',d0⟩
     focus
      go_wp2_with fail
     rotate_left
     focus
      go_wp2_with fail
     all_goals
      go_quiet (first|(go_at_call 25;exact Calls.quiet_of_same (zf HNm.o (zk _ _ hsn)))|(go_at_call 24;exact Calls.quiet_of_same (zf HI.o (zc5 _ _ ts _ _ (by exact HWr.o _ _)))))
      go_wp2_with fail
      go_ret;exact⟨ze (HN.o HF.o).symm,HB.o.trans ((HBx.o _ _).mono hsz)⟩
  ·have HF:Hid (zaR ts=true):=by
    have e:k=ts.length:=by omega
    subst e;rw[Hid,HG.o,hup]
   clear hup;go_wp2_with fail
   go_ret;exact⟨ze HF.o.symm,hB⟩
end Go.Proofs.YtcgpjfcocmcodaaGreat
