import Derived.Test.YthdfpinbnncghaaGreatM10
import Derived.Test.YthdfpinbnncghaaGreatM11
set_option maxHeartbeats 2000000
namespace Go.Proofs.YthdfpinbnncghaaGreat
open Go.RowKit
structure Gr where
 no:Int
 to:BA
 gb:BA
 r:Rl
def Gr.cells (g:Gr)(a0:OA)(c0:Nat):AV:=#[.i g.no,.s g.to,.s g.gb,.l a0 g.r.vs.length c0,.s g.r.kd,.s g.r.tm,.s g.r.px]
structure Gr.Small (g:Gr):Prop where
 to:g.to.size<=maxLen
 gb:g.gb.size<=maxLen
 r:g.r.Small
def Gr.sz (g:Gr):Nat:=g.to.size+g.gb.size+g.r.sz
theorem Gr.zoV {g:Gr}(h:(g.sz:Int)<=1048576):g.r.vs.length<=1048576:=by unfold Gr.sz Rl.sz at h;omega
theorem zeL (g:Gr)(a0:OA)(c0:Nat)(left:Int)(w:World)(hm:g.Small)(hi:yJ w a0 g.r.vs)(h0:0<=left)(h1:left<=1048576) :
 Calls Tryz.prog 52 #[.agg (g.cells a0 c0),.i left] w fun e w'=>e=.returned (.i (zD g.sz left))/\Bw w w':=by
 have k1:=hm.to;have k2:=hm.gb;have HM:=ji hm.r hi.len;unfold maxLen at k1 k2;clear hm hi;unfold Gr.cells;have hB:∀ob,Bw w (w.alloc ob):=fun ob=>bAl _ _
 by_cases c1:(g.to.size:Int)<=left
 rotate_left
 ·have HF:Hid (zD g.sz left=-1):=zq (by unfold Gr.sz;omega)
  go_enter Tryz.func52,Tryz.ntmps52;go_wp2_with fail
  go_ret;exact⟨zk HF.o.symm,hB _⟩
 by_cases c2:(g.gb.size:Int)<=left-g.to.size
 rotate_left
 ·have HF:Hid (zD g.sz left=-1):=zq (by unfold Gr.sz;omega)
  go_enter Tryz.func52,Tryz.ntmps52;go_wp2_with fail
  go_ret;exact⟨zk HF.o.symm,hB _⟩
 by_cases c3:(g.r.sz:Int)<=left-g.to.size-g.gb.size
 ·have HF:Hid (zD g.sz left=left-g.to.size-g.gb.size-g.r.sz):=by
   unfold Hid;rw[zF (by unfold Gr.sz;omega)];unfold Gr.sz;omega
  go_enter Tryz.func52,Tryz.ntmps52;go_wp2_with fail
  refine(zb5 g.r a0 c0 _ _ HM.o.1 HM.o.2 (by omega) (by omega)).mono ?_;rintro e w1⟨rfl,hb⟩;rw[zF c3];have hB1:=(hB _).trans (hb.mono (by simp));clear hb;go_wp2_with fail
  go_ret;exact⟨zk HF.o.symm,hB1⟩
 ·have HF:Hid (zD g.sz left=-1):=zq (by unfold Gr.sz;omega)
  have HC:=hid c3;clear c3;go_enter Tryz.func52,Tryz.ntmps52;go_wp2_with fail
  refine(zb5 g.r a0 c0 _ _ HM.o.1 HM.o.2 (by omega) (by omega)).mono ?_;rintro e w1⟨rfl,hb⟩;rw[zq (by have:=HC.o;omega)];have hB1:=(hB _).trans (hb.mono (by simp));clear hb;go_wp2_with fail
  go_ret;exact⟨zk HF.o.symm,hB1⟩
theorem ziO (g:Gr)(a0:OA)(c0:Nat)(a0':OA)(c0':Nat)(w:World)(_hm:g.Small)(hi:yJ w a0 g.r.vs)(hi':yJ w a0' g.r.vs) :
 Calls Tryz.prog 83 #[.agg (g.cells a0 c0),.agg (g.cells a0' c0')] w fun e w'=>e=.returned (.bool true)/\Bw w w':=by
 have hn:(g.no != g.no)=false:=by simp
 unfold Gr.cells;go_enter Tryz.func83,Tryz.ntmps83;go_wp2_with fail
 refine(ze0 g.r _ _ _ _ _ (hi.mono (zx _ _ _)) (hi'.mono (zx _ _ _))).mono ?_;rintro e w1⟨rfl,hb⟩;have hB1:=(zx w _ _).trans (hb.mono (by simp;omega));clear hb;go_wp2_with fail
 go_ret;exact⟨rfl,hB1⟩
theorem zjk (g:Gr)(a0:OA)(c0:Nat)(w:World)(_hm:g.Small)(hi:yJ w a0 g.r.vs)(hl:g.r.vs.length<=1048576) :
 Calls Tryz.prog 69 #[.agg (g.cells a0 c0)] w fun e w'=>∃g0,e=.returned (.agg (g.cells (some (aD g0 0)) g.r.vs.length))/\w.heap.size<=g0/\w'.heap[g0]?=some (.cells (zbx g.r.vs) 3)/\Bw w w':=by
 unfold Gr.cells;go_enter Tryz.func69,Tryz.ntmps69;go_wp2_with fail
 have k0:=zkK w (.cells #[.i g.no,.s g.to,.s g.gb,.l a0 g.r.vs.length c0,.s g.r.kd,.s g.r.tm,.s g.r.px] 116) (.cells #[.i 0,.s ByteArray.empty,.s ByteArray.empty,.l none 0 0,.s ByteArray.empty,.s ByteArray.empty,.s ByteArray.empty] 76) (.cells #[.i g.no,.s g.to,.s g.gb,.l none 0 0,.s ByteArray.empty,.s ByteArray.empty,.s ByteArray.empty] 76);have hB0:=below3' w (.cells #[.i g.no,.s g.to,.s g.gb,.l a0 g.r.vs.length c0,.s g.r.kd,.s g.r.tm,.s g.r.px] 116) (.cells #[.i 0,.s ByteArray.empty,.s ByteArray.empty,.l none 0 0,.s ByteArray.empty,.s ByteArray.empty,.s ByteArray.empty] 76) (.cells #[.i g.no,.s g.to,.s g.gb,.l none 0 0,.s ByteArray.empty,.s ByteArray.empty,.s ByteArray.empty] 76);refine(ze7 g.r a0 c0 _ (hi.mono (below3' _ _ _ _)) hl).mono ?_;rintro e w1⟨bk,rfl,hlo,hhi,hbk,hb⟩;have hlo':w.heap.size+1+1+1<=bk:=by simpa using hlo
 have hR1:=(hb.block _ (by simp)).trans k0.2.1;have hO1:=(hb.block _ (by simp)).trans k0.2.2;have hB1:=hB0.trans (hb.mono (by simp;omega));have HK:=hid hbk;have cR:=fun j=>cell_of_block (o:=j) hR1
 have fR:=fun j=>zl (o:=j) hR1
 have cO:=fun j=>cell_of_block (o:=j) hO1
 have fO:=fun j=>zl (o:=j) hO1
 have hz1:=(gES hO1).1;clear hb hbk k0 hB0 hlo hR1 hO1;unfold Rl.cells;go_wp2_with fail
 refine bodyPost_ret (v:=.agg #[.i g.no,.s g.to,.s g.gb,.l (some (aD bk 0)) g.r.vs.length g.r.vs.length,.s g.r.kd,.s g.r.tm,.s g.r.px]) (by simp[results,Tryz.results69,go_sem,cR]) rfl ⟨bk,rfl,by omega,?_,?_⟩
 ·have h1:bk≠w.heap.size+1:=by omega
  have h2:bk≠w.heap.size+1+1:=by omega
  exact(zG h1).trans ((zG h1).trans ((zG h1).trans ((zG h1).trans ((zG h1).trans ((zG h1).trans ((zG h1).trans ((zG h2).trans ((zG h2).trans ((zG h2).trans ((zG h2).trans HK.o))))))))))
 ·have h3:w.heap.size<=w.heap.size+1:=by omega
  have h4:w.heap.size<=w.heap.size+1+1:=by omega
  exact((((((((((hB1.setCell h4 _).setCell h4 _).setCell h4 _).setCell h4 _).setCell h3 _).setCell h3 _).setCell h3 _).setCell h3 _).setCell h3 _).setCell h3 _).setCell h3 _
structure zrK (w:World)(b off:Nat)(x:Gr)(a0:OA)(c0:Nat):Prop where
 small:x.Small
 l0:yJ w a0 x.r.vs
 cell:∀j,j<7->w.cell? (aD b (off+j))=(Gr.cells x a0 c0)[j]?
structure zbN (w:World)(a:OA)(ms:List Gr):Prop where
 len:ms.length<=maxLen
 rows:ms≠[]->∃b off,a=some (aD b off)/\b<w.heap.size/\∀i (h:i<ms.length),∃a0 c0,zrK w b (off+i*7) ms[i] a0 c0
theorem zrK.mono {w w':World}{b off:Nat}{x:Gr}{a0:OA}{c0:Nat}(h:zrK w b off x a0 c0)(hb:b<w.heap.size)(hl:Bw w w'):zrK w' b off x a0 c0:=
 ⟨h.small,h.l0.mono hl,fun j hj=>(hl.cell (p:=(aD b (off+j))) hb).trans (h.cell j hj)⟩
theorem zbN.mono {w w':World}{a:OA}{ms:List Gr}(h:zbN w a ms)(hl:Bw w w'):zbN w' a ms:=
 ⟨h.len,fun hne=>by
  obtain⟨b,off,ha,hb,hr⟩:=h.rows hne;refine⟨b,off,ha,nLt hb hl.size,fun i hi=>?_⟩;obtain⟨a0,c0,hf⟩:=hr i hi;exact⟨a0,c0,hf.mono hb hl⟩⟩
theorem zbN.load {w w':World}{a:OA}{ms:List Gr}(h:zbN w a ms)(hl:Bw w w')(i:Nat)(hi:i<ms.length):∃b off a0 c0,a=some (aD b off)/\b<w.heap.size/\ms[i].Small/\yJ w' a0 ms[i].r.vs /\
 w'.cell? (aD b (off+i*7))=some (.i ms[i].no)/\w'.cell? (aD b (off+i*7+1))=some (.s ms[i].to)/\w'.cell? (aD b (off+i*7+2))=some (.s ms[i].gb)/\w'.cell? (aD b (off+i*7+3))=some (.l a0 ms[i].r.vs.length c0)/\w'.cell? (aD b (off+i*7+4))=some (.s ms[i].r.kd)/\w'.cell? (aD b (off+i*7+5))=some (.s ms[i].r.tm)/\w'.cell? (aD b (off+i*7+6))=some (.s ms[i].r.px):=by
 obtain⟨b,off,ha,hb,hr⟩:=h.rows (by rintro rfl;simp at hi);obtain⟨a0,c0,hf0⟩:=hr i hi;have hf:=hf0.mono hb hl;exact⟨b,off,a0,c0,ha,hb,hf.small,hf.l0,hf.cell 0 (by omega),hf.cell 1 (by omega),hf.cell 2 (by omega),hf.cell 3 (by omega),hf.cell 4 (by omega),hf.cell 5 (by omega),hf.cell 6 (by omega)⟩
def zd9 (ms:List Gr):Nat:=(ms.map Gr.sz).sum
def zcy (ms:List Gr):Nat:=ms.length+zd9 ms
structure zjQ (ms:List Gr):Prop where
 small:∀i (h:i<ms.length),ms[i].Small/\ms[i].r.vs.length<=maxLen
theorem zbN.smalls {w:World}{a:OA}{ms:List Gr}(h:zbN w a ms):zjQ ms:=
 ⟨fun i hi=>by
  obtain⟨b,off,_,_,hr⟩:=h.rows (by rintro rfl;simp at hi);obtain⟨a0,c0,hf⟩:=hr i hi;exact⟨hf.small,hf.l0.len⟩⟩
theorem zr1 {ms:List Gr}{left:Int}(h:(zcy ms:Int)<=left)(hl:left<=1048576):ms.length<=1048576/\∀i (h:i<ms.length),ms[i].r.vs.length<=1048576:=by
 unfold zcy at h;refine⟨by omega,fun i hi=>?_⟩;have h1:ms[i].sz<=zd9 ms:=zfB Gr.sz ms i hi;exact Gr.zoV (by omega)
theorem zhr (a:OA)(cap:Nat)(ms:List Gr)(left:Int)(w:World)(hw:zbN w a ms)(h0:0<=left)(h1:left<=1048576) :
 Calls Tryz.prog 19 #[.l a ms.length cap,.i left] w fun e w'=>e=.returned (.i (zD (zcy ms) left))/\Bw w w':=by
 have hl:=hw.len;unfold maxLen at hl
 by_cases hfit:(ms.length:Int)<=left
 ·go_enter Tryz.func19,Tryz.ntmps19
  go_wp2_with fail
  go_loopw [1,5] (fun l i wr=>∃k:Nat,k<=ms.length/\i=.i k/\0<=left-ms.length-zd9 (ms.take k)/\l=.i (left-ms.length-zd9 (ms.take k))/\Bw w wr) (fun _ i _=>ms.length-(intOf i).toNat)
  case atStart=>exact⟨0,Nat.zero_le _,rfl,by simp[zd9];omega,by simp[zd9],bRf _ _⟩
  case round=>
   obtain⟨k,hk,rfl,hpos,rfl,hB⟩:=hrel
   by_cases hlt:k<ms.length
   ·obtain⟨b,off,a0,c0,rfl,hb,hsm,hl0,d0,d1,d2,d3,d4,d5,d6⟩:=hw.load hB k hlt
    have hbr:=nLt hb hB.size;have HS:Hid (zd9 (ms.take (k+1))=zd9 (ms.take k)+ms[k].sz):=zas Gr.sz ms k hlt;have hle:zd9 (ms.take (k+1))<=zd9 ms:=zbO Gr.sz ms (k+1);have HI:Hid (yJ wr a0 ms[k].r.vs):=hl0;clear hw hl0
    by_cases hneg:(ms[k].sz:Int)<=left-ms.length-zd9 (ms.take k)
    ·have HNG:Hid ((ms[k].sz:Int)<=left-ms.length-zd9 (ms.take k)):=hneg
     clear hle;go_wp2_with fail
     refine(zeL ms[k] a0 c0 _ _ hsm HI.o hpos (by omega)).mono ?_;rintro e w1⟨rfl,hb1⟩;rw[zF HNG.o];have hB1:=hB.trans (hb1.mono hB.size);clear hb1;go_wp2_with fail
     exact⟨⟨k+1,by omega,by go_num,by rw[HS.o];omega,by rw[HS.o];congr 1;omega,hB1⟩,by simp[intOf];omega⟩
    ·have HF:Hid (zD (zcy ms) left=-1):=zq (by have:=HS.o;unfold zcy;omega)
     have HNG:=hid hneg;clear hneg hle;go_wp2_with fail
     refine(zeL ms[k] a0 c0 _ _ hsm HI.o hpos (by omega)).mono ?_;rintro e w1⟨rfl,hb1⟩;rw[zq (by have:=HNG.o;omega)];have hB1:=hB.trans (hb1.mono hB.size);clear hb1;go_wp2_with fail
     go_ret;exact⟨zk HF.o.symm,hB1⟩
   ·have HF:Hid (zD (zcy ms) left=left-ms.length-zd9 (ms.take k)):=by
     rw[tOl (by omega)]at hpos ⊢;have e:zD (zcy ms) left=left-zcy ms:=zF (by unfold zcy;omega);unfold Hid;rw[e];unfold zcy;omega
    clear hw
    go_wp2
    go_ret;exact⟨zk HF.o.symm,hB⟩
 ·have HF:Hid (zD (zcy ms) left=-1):=zq (by unfold zcy;omega)
  clear hw;go_enter Tryz.func19,Tryz.ntmps19
  go_wp2
  go_ret;exact⟨zk HF.o.symm,bRf _ _⟩
theorem zhO (a a':OA)(cap cap':Nat)(ms:List Gr)(w:World)(hw:zbN w a ms)(hw':zbN w a' ms) :
 Calls Tryz.prog 44 #[.l a ms.length cap,.l a' ms.length cap'] w fun e w'=>e=.returned (.bool true)/\Bw w w':=by
 have hl:=hw.len;unfold maxLen at hl;have hnn:((ms.length:Int) != ms.length)=false:=by simp
 go_enter Tryz.func44,Tryz.ntmps44;go_wp2_with fail
 go_loopw [5] (fun i wr=>∃k:Nat,k<=ms.length/\i=.i k/\Bw w wr) (fun i _=>ms.length-(intOf i).toNat)
 case atStart=>exact⟨0,Nat.zero_le _,rfl,bRf _ _⟩
 case round=>
  obtain⟨k,hk,rfl,hB⟩:=hrel
  by_cases hlt:k<ms.length
  ·obtain⟨b,off,a0,c0,rfl,hb,hsm,hl0,d0,d1,d2,d3,d4,d5,d6⟩:=hw.load hB k hlt
   obtain⟨b',off',a0',c0',rfl,hb',_,hl0',f0,f1,f2,f3,f4,f5,f6⟩:=hw'.load hB k hlt;have hltI:(k:Int)<(ms.length:Int):=by omega
   clear hw hw';go_wp2_with fail
   go_region_with (go_at_call 83;refine(ziO ms[k] a0 c0 a0' c0' _ hsm (by exact hl0.mono ((bRf _ _).drew)) (by exact hl0'.mono ((bRf _ _).drew))).mono ?_;rintro e w1⟨rfl,hb1'⟩;have hb1:=(bRf wr.heap.size wr).drew.trans hb1';clear hb1')
   all_goals go_wp2_with fail
   all_goals exact⟨⟨k+1,by omega,by go_num,hB.trans (hb1.mono hB.size)⟩,by simp[intOf];omega⟩
  ·clear hw hw'
   go_wp2_with fail
   go_ret;exact⟨rfl,hB⟩
structure zax (lo:Nat)(w:World)(bo:Nat)(ms:List Gr)(k:Nat):Prop where
 low:lo<=bo
 rows:∃C,w.heap[bo]?=some (.cells C 76)/\C.size=ms.length*7 /\
  ∀i (h:i<ms.length),i<k->∃g0,lo<=g0/\g0≠bo/\w.heap[g0]?=some (.cells (zbx ms[i].r.vs) 3)/\∀j,j<7->C[i*7+j]?=(Gr.cells ms[i] (some (aD g0 0)) ms[i].r.vs.length)[j]?
theorem zax.at {lo:Nat}{w:World}{bo:Nat}{ms:List Gr}(h:zax lo w bo ms ms.length)(hs:zjQ ms)(hl:ms.length<=maxLen):zbN w (some (aD bo 0)) ms:=by
 obtain⟨C,hC,hsz,hr⟩:=h.rows;refine⟨hl,fun _=>⟨bo,0,rfl,(gES hC).1,fun i hi=>?_⟩⟩;obtain⟨g0,_,_,hk0,hc⟩:=hr i hi hi;obtain⟨s0,s1⟩:=hs.small i hi;refine⟨some (aD g0 0),ms[i].r.vs.length,s0,zfD hk0 s1,fun j hj=>?_⟩;rw[cell_of_block hC,Nat.zero_add];exact hc j hj
theorem zax.above {lo:Nat}{w w':World}{bo:Nat}{ms:List Gr}{k:Nat}(h:zax lo w bo ms k)(ha:yw lo w w'):zax lo w' bo ms k:=by
 obtain⟨C,hC,hsz,hr⟩:=h.rows;refine⟨h.low,C,(ha.same _ h.low (gES hC).1).trans hC,hsz,fun i hi hk=>?_⟩;obtain⟨g0,p0,q0,r0,hc⟩:=hr i hi hk;exact⟨g0,p0,q0,(ha.same _ p0 (gES r0).1).trans r0,hc⟩
theorem zax.later {lo:Nat}{w w':World}{bo:Nat}{ms:List Gr}{k:Nat}(h:zax lo w bo ms k)(hb:Bw w w'):zax lo w' bo ms k:=h.above (yw.below hb)
theorem zax.weaken {lo lo':Nat}{w:World}{bo:Nat}{ms:List Gr}{k:Nat}(h:zax lo w bo ms k)(hl:lo'<=lo):zax lo' w bo ms k:=by
 obtain⟨C,hC,hsz,hr⟩:=h.rows;refine⟨Nat.le_trans hl h.low,C,hC,hsz,fun i hi hk=>?_⟩;obtain⟨g0,p0,q0,r0,hc⟩:=hr i hi hk;exact⟨g0,Nat.le_trans hl p0,q0,r0,hc⟩
def znv (w:World)(b o:Nat)(v0 v1 v2 v3 v4 v5 v6:Value):World:=(((((((w.setCell (aD b o) v0).setCell (aD b (o+1)) v1).setCell (aD b (o+2)) v2).setCell (aD b (o+3)) v3).setCell (aD b (o+4)) v4).setCell (aD b (o+5)) v5).setCell (aD b (o+6)) v6)
def zkf (C:AV)(o:Nat)(v0 v1 v2 v3 v4 v5 v6:Value):AV:=(((((((C.setIfInBounds (o) v0).setIfInBounds (o+1) v1).setIfInBounds (o+2) v2).setIfInBounds (o+3) v3).setIfInBounds (o+4) v4).setIfInBounds (o+5) v5).setIfInBounds (o+6) v6)
theorem zok {w:World}{b o:Nat}{C:AV}{t:TypeId}(h:w.heap[b]?=some (.cells C t))(v0 v1 v2 v3 v4 v5 v6:Value):(znv w b o v0 v1 v2 v3 v4 v5 v6).heap[b]?=some (.cells (zkf C o v0 v1 v2 v3 v4 v5 v6) t):=
 zh (zh (zh (zh (zh (zh (zh h v0) v1) v2) v3) v4) v5) v6
theorem znl {B:Nat}{a w:World}(h:Below B a w){b:Nat}(hb:B<=b)(o:Nat)(v0 v1 v2 v3 v4 v5 v6:Value):Below B a (znv w b o v0 v1 v2 v3 v4 v5 v6):=
 ((((((h.setCell hb v0).setCell hb v1).setCell hb v2).setCell hb v3).setCell hb v4).setCell hb v5).setCell hb v6
theorem zii (w:World)(b o:Nat)(v0 v1 v2 v3 v4 v5 v6:Value){b':Nat}(h:b'≠b):(znv w b o v0 v1 v2 v3 v4 v5 v6).heap[b']?=w.heap[b']?:=by
 unfold znv
 iterate 7 rw[zG h]
theorem zpC (C:AV)(o:Nat)(v0 v1 v2 v3 v4 v5 v6:Value):(zkf C o v0 v1 v2 v3 v4 v5 v6).size=C.size:=by simp[zkf]
theorem zqn (C:AV)(o i:Nat)(v0 v1 v2 v3 v4 v5 v6:Value)(h:i<o \/ o+7<=i):(zkf C o v0 v1 v2 v3 v4 v5 v6)[i]?=C[i]?:=by
 unfold zkf
 iterate 7 rw[Array.getElem?_setIfInBounds,if_neg (by omega)]
theorem zrJ (C:AV)(o j:Nat)(v0 v1 v2 v3 v4 v5 v6:Value)(hj:j<7)(ho:o+7<=C.size):(zkf C o v0 v1 v2 v3 v4 v5 v6)[o+j]?=(#[v0,v1,v2,v3,v4,v5,v6]:AV)[j]?:=by
 have hc:j=0 \/ j=1 \/ j=2 \/ j=3 \/ j=4 \/ j=5 \/ j=6:=by omega
 unfold zkf
 rcases hc with h|h|h|h|h|h|h <;> subst h <;> simp[Array.getElem?_setIfInBounds] <;> omega
theorem zax.put {lo:Nat}{w:World}{bo:Nat}{ms:List Gr}{k:Nat}(h:zax lo w bo ms k)(hk:k<ms.length)(g0:Nat)(p0:lo<=g0)(q0:g0≠bo)(r0:w.heap[g0]?=some (.cells (zbx ms[k].r.vs) 3)) :
 zax lo (znv w bo (k*7) (.i ms[k].no) (.s ms[k].to) (.s ms[k].gb) (.l (some (aD g0 0)) ms[k].r.vs.length ms[k].r.vs.length) (.s ms[k].r.kd) (.s ms[k].r.tm) (.s ms[k].r.px)) bo ms (k+1):=by
 obtain⟨C,hC,hsz,hr⟩:=h.rows;refine⟨h.low,_,zok hC _ _ _ _ _ _ _,by rw[zpC];exact hsz,fun i hi hik=>?_⟩
 rcases Nat.lt_or_ge i k with hlt|hge
 ·obtain⟨g0',x0,y0,z0,hc⟩:=hr i hi hlt
  refine⟨g0',x0,y0,(by rw[zii _ _ _ _ _ _ _ _ _ _ y0];exact z0),fun j hj=>?_⟩;rw[zqn _ _ _ _ _ _ _ _ _ _ (by omega)];exact hc j hj
 ·have e:i=k:=by omega
  subst e;refine⟨g0,p0,q0,(by rw[zii _ _ _ _ _ _ _ _ _ _ q0];exact r0),fun j hj=>?_⟩;rw[zrJ _ _ _ _ _ _ _ _ _ _ hj (by omega)]
  rfl
def zq5:AV:=#[.i 0,.s ByteArray.empty,.s ByteArray.empty,.l none 0 0,.s ByteArray.empty,.s ByteArray.empty,.s ByteArray.empty]
def zp5 (n:Nat):AV:=madeCells zq5 (n*7)
theorem zhB (a:OA)(cap:Nat)(ms:List Gr)(w:World)(hw:zbN w a ms)(hl:ms.length<=1048576)(hls:∀i (h:i<ms.length),ms[i].r.vs.length<=1048576) :
 Calls Tryz.prog 30 #[.l a ms.length cap] w fun e w'=>e=.returned (.l (some (aD w.heap.size 0)) ms.length ms.length)/\zax w.heap.size w' w.heap.size ms ms.length/\Bw w w':=by
 have hmk:∀w:World,(Instr.makeSlice 47 (.i ms.length) (.i ms.length)).run Tryz.prog w=.ok (.l (some (aD w.heap.size 0)) ms.length ms.length) (w.alloc (.cells (zp5 ms.length) 76)):=
  fun w=>qN (P:=Tryz.prog) 47 76 (.agg zq5) 7 112 Tryz.underlying47 (by kernel_rfl) ms.length (by omega) (by omega) w
 go_enter Tryz.func30,Tryz.ntmps30;go_wp2_with fail
 clear hmk
 go_loopw [4] (fun i wr=>∃k:Nat,k<=ms.length/\i=.i k/\Hid (zax w.heap.size wr w.heap.size ms k)/\Bw w wr) (fun i _=>ms.length-(intOf i).toNat)
 case atStart=>exact⟨0,Nat.zero_le _,rfl,⟨Nat.le_refl _,zp5 ms.length,(MapKept.heap_alloc w _).1,size_madeCells _ _,fun i _ h=>absurd h (by omega)⟩,bAl _ _⟩
 case round=>
  obtain⟨k,hk,rfl,HOW,hB⟩:=hrel
  by_cases hlt:k<ms.length
  ·obtain⟨b,off,a0,c0,rfl,hb,hsm,hl0,d0,d1,d2,d3,d4,d5,d6⟩:=hw.load hB k hlt
   have HLS:=hid (hls k hlt);have hltI:(k:Int)<(ms.length:Int):=by omega
   clear hw;go_wp2_with fail
   refine(zjk ms[k] a0 c0 _ hsm hl0 HLS.o).mono ?_;rintro e w1⟨g0,rfl,p0,r0,hb1⟩;have hB1:=hB.trans (hb1.mono hB.size)
   have hbo:w.heap.size<wr.heap.size:=by
    obtain⟨C',hC',_⟩:=HOW.o.rows;exact(gES hC').1
   have HP:=hid (HOW.o.later hb1);obtain⟨C,hC,hsz,_⟩:=HP.o.rows;have hfz:∀o,w1.frozen? (aD w.heap.size o)=false:=fun o=>zl hC
   have hex:∀o,o<ms.length*7->∃v,w1.cell? (aD w.heap.size o)=some v:=fun o ho=>⟨C[o]'(by omega),by rw[cell_of_block hC];exact Array.getElem?_eq_getElem (by omega)⟩
   obtain⟨v0,hv0⟩:=hex (k*7) (by omega);obtain⟨v1,hv1⟩:=hex (k*7+1) (by omega);obtain⟨v2,hv2⟩:=hex (k*7+2) (by omega);obtain⟨v3,hv3⟩:=hex (k*7+3) (by omega);obtain⟨v4,hv4⟩:=hex (k*7+4) (by omega);obtain⟨v5,hv5⟩:=hex (k*7+5) (by omega);obtain⟨v6,hv6⟩:=hex (k*7+6) (by omega);have HR:=ji p0 r0;clear hex hC hsz d0 d1 d2 d3 d4 d5 d6 p0 r0 hl0;unfold Gr.cells;go_wp2_with fail
   obtain⟨p0,r0⟩:=HR.o;exact⟨⟨k+1,by omega,by go_num,HP.o.put hlt g0 (by omega) (by omega) r0,znl hB1 (Nat.le_refl _) _ _ _ _ _ _ _ _⟩,by simp[intOf];omega⟩
  ·have HF:Hid (zax w.heap.size wr w.heap.size ms ms.length):=by
    have e:k=ms.length:=by omega
    subst e;exact HOW.o
   clear hw HOW;go_wp2_with fail
   go_ret;exact⟨rfl,HF.o,hB⟩
theorem lt_of_some {w:World}{b:Nat}{o:Obj}(h:w.heap[b]?=some o):b<w.heap.size:=(gES h).1
theorem zmQ {lo lo':Nat}{w:World}{bo:Nat}{ms:List Mnd}{k:Nat}(h:jM lo w bo ms k)(hl:lo'<=lo):jM lo' w bo ms k:=⟨Nat.le_trans hl h.low,h.rows⟩
theorem zmF {ty:TypeId}{lo lo':Nat}{w:World}{bo:Nat}{ts:List Tm}{k:Nat}(h:zaL ty lo w bo ts k)(hl:lo'<=lo):zaL ty lo' w bo ts k:=⟨Nat.le_trans hl h.low,h.rows⟩
theorem zll (l:Lw)(a b c:OA)(ca cb cc:Nat)(w:World)(hl:yH w l a b c)(hf:l.Few) :
 Calls Tryz.prog 8 #[.agg (l.cells a b c ca cb cc)] w fun e w'=>∃lo a' b' c',e=.returned (.agg (l.cells (some (aD a' 0)) (some (aD b' 0)) (some (aD c' 0)) l.ss.length l.ms.length l.ts.length))/\w.heap.size<=lo/\zrw lo w' l a' b' c'/\Bw w w':=by
 have HL:Hid (yH w l a b c):=hl;have HF:Hid l.Few:=hf;clear hl hf;unfold Lw.cells;go_enter Tryz.func8,Tryz.ntmps8;go_wp2_with fail
 have k0:=zkK w (.cells #[.l a l.ss.length ca,.l b l.ms.length cb,.l c l.ts.length cc] 26) (.cells #[.l none 0 0,.l none 0 0,.l none 0 0] 44) (.cells #[.l none 0 0,.l none 0 0,.l none 0 0] 44);have hB0:=below3' w (.cells #[.l a l.ss.length ca,.l b l.ms.length cb,.l c l.ts.length cc] 26) (.cells #[.l none 0 0,.l none 0 0,.l none 0 0] 44) (.cells #[.l none 0 0,.l none 0 0,.l none 0 0] 44);obtain⟨W0,hW0⟩:=xN (((w.alloc (.cells #[.l a l.ss.length ca,.l b l.ms.length cb,.l c l.ts.length cc] 26)).alloc (.cells #[.l none 0 0,.l none 0 0,.l none 0 0] 44)).alloc (.cells #[.l none 0 0,.l none 0 0,.l none 0 0] 44));have hz0:w.heap.size+1+1<W0.heap.size:=by rw[hW0];simp
 rw[<- hW0]at k0 hB0 ⊢;clear hW0;have HLO:Hid (w.heap.size+1+1<W0.heap.size):=hz0;refine(zh9 _ _ l.ss _ (HL.o.ss.mono hB0) HF.o.ss.1 HF.o.ss.2).mono ?_;rintro e w1⟨rfl,hown,hb⟩;obtain⟨a',ha'⟩:∃a',a'=W0.heap.size:=⟨_,rfl⟩
 have HO1:Hid (zao W0.heap.size w1 a' l.ss l.ss.length):=by rw[ha'];exact hown
 have hX1:=(hb.block _ (by omega)).trans k0.1;have hR1:=(hb.block _ (by omega)).trans k0.2.1;have hO1:=(hb.block _ hz0).trans k0.2.2;have HZ1:Hid (W0.heap.size<=w1.heap.size):=hb.size;have HB1:Hid (Bw w w1):=hB0.trans (hb.mono hB0.size);rw[<- ha'];clear hown hb k0 hB0 hz0 ha';have cO1:=fun j=>cell_of_block (o:=j) hO1
 have fO1:=fun j=>zl (o:=j) hO1
 have HX1':Hid ((w1.setCell (aD (w.heap.size+1+1) 0) (.l (some (aD a' 0)) l.ss.length l.ss.length)).heap[w.heap.size]?=some (.cells #[.l a l.ss.length ca,.l b l.ms.length cb,.l c l.ts.length cc] 26)):=(zG (by omega)).trans hX1;have HR1':Hid ((w1.setCell (aD (w.heap.size+1+1) 0) (.l (some (aD a' 0)) l.ss.length l.ss.length)).heap[w.heap.size+1]?=some (.cells #[.l none 0 0,.l none 0 0,.l none 0 0] 44)):=(zG (by omega)).trans hR1;have HO1':Hid ((w1.setCell (aD (w.heap.size+1+1) 0) (.l (some (aD a' 0)) l.ss.length l.ss.length)).heap[w.heap.size+1+1]?=some (.cells #[.l (some (aD a' 0)) l.ss.length l.ss.length,.l none 0 0,.l none 0 0] 44)):=zh hO1 _;have HAB1:Hid (yw W0.heap.size w1 (w1.setCell (aD (w.heap.size+1+1) 0) (.l (some (aD a' 0)) l.ss.length l.ss.length))):=yw.setCell HLO.o _;have HBB1:Hid (Bw w (w1.setCell (aD (w.heap.size+1+1) 0) (.l (some (aD a' 0)) l.ss.length l.ss.length))):=HB1.o.setCell (by show w.heap.size<=w.heap.size+1+1;omega) _;have HZZ1:Hid (W0.heap.size<=(w1.setCell (aD (w.heap.size+1+1) 0) (.l (some (aD a' 0)) l.ss.length l.ss.length)).heap.size):=by unfold Hid;rw[World.size_setCell];exact HZ1.o
 clear hX1 hR1 hO1;have cX1:=fun j=>cell_of_block (o:=j) HX1'.out
 have cR1:=fun j=>cell_of_block (o:=j) HR1'.out
 have fR1:=fun j=>zl (o:=j) HR1'.out
 have cOO1:=fun j=>cell_of_block (o:=j) HO1'.out
 go_wp2_with fail
 refine(ziK _ _ l.ms _ (HL.o.ms.mono HBB1.o) HF.o.ms).mono ?_;rintro e w2⟨rfl,hown,hb⟩;obtain⟨b',hp'⟩:∃b',b'=(w1.setCell (aD (w.heap.size+1+1) 0) (.l (some (aD a' 0)) l.ss.length l.ss.length)).heap.size:=⟨_,rfl⟩
 have HN2:Hid (jM W0.heap.size w2 b' l.ms l.ms.length):=by rw[hp'];exact zmQ hown HZZ1.o
 have HAA2:Hid (yw W0.heap.size w1 w2):=HAB1.o.trans (yw.below hb);have hX2:=(hb.block _ (lt_of_some HX1'.out)).trans HX1'.out;have hR2:=(hb.block _ (lt_of_some HR1'.out)).trans HR1'.out;have hO2:=(hb.block _ (lt_of_some HO1'.out)).trans HO1'.out;have HZ2:Hid (W0.heap.size<=w2.heap.size):=Nat.le_trans HZZ1.o hb.size;have HB2:Hid (Bw w w2):=HBB1.o.trans (hb.mono HBB1.o.size);rw[<- hp'];clear hown hb hp' cX1 cR1 fR1 cOO1;have cO2:=fun j=>cell_of_block (o:=j) hO2
 have fO2:=fun j=>zl (o:=j) hO2
 have HX2':Hid ((w2.setCell (aD (w.heap.size+1+1) 1) (.l (some (aD b' 0)) l.ms.length l.ms.length)).heap[w.heap.size]?=some (.cells #[.l a l.ss.length ca,.l b l.ms.length cb,.l c l.ts.length cc] 26)):=(zG (by omega)).trans hX2;have HR2':Hid ((w2.setCell (aD (w.heap.size+1+1) 1) (.l (some (aD b' 0)) l.ms.length l.ms.length)).heap[w.heap.size+1]?=some (.cells #[.l none 0 0,.l none 0 0,.l none 0 0] 44)):=(zG (by omega)).trans hR2;have HO2':Hid ((w2.setCell (aD (w.heap.size+1+1) 1) (.l (some (aD b' 0)) l.ms.length l.ms.length)).heap[w.heap.size+1+1]?=some (.cells #[.l (some (aD a' 0)) l.ss.length l.ss.length,.l (some (aD b' 0)) l.ms.length l.ms.length,.l none 0 0] 44)):=zh hO2 _;have HAB2:Hid (yw W0.heap.size w2 (w2.setCell (aD (w.heap.size+1+1) 1) (.l (some (aD b' 0)) l.ms.length l.ms.length))):=yw.setCell HLO.o _;have HBB2:Hid (Bw w (w2.setCell (aD (w.heap.size+1+1) 1) (.l (some (aD b' 0)) l.ms.length l.ms.length))):=HB2.o.setCell (by show w.heap.size<=w.heap.size+1+1;omega) _;have HZZ2:Hid (W0.heap.size<=(w2.setCell (aD (w.heap.size+1+1) 1) (.l (some (aD b' 0)) l.ms.length l.ms.length)).heap.size):=by unfold Hid;rw[World.size_setCell];exact HZ2.o
 clear hX2 hR2 hO2;have cX2:=fun j=>cell_of_block (o:=j) HX2'.out
 have cR2:=fun j=>cell_of_block (o:=j) HR2'.out
 have fR2:=fun j=>zl (o:=j) HR2'.out
 have cOO2:=fun j=>cell_of_block (o:=j) HO2'.out
 go_wp2_with fail
 refine(zi8 _ _ l.ts _ (HL.o.ts.mono HBB2.o) HF.o.ts).mono ?_;rintro e w3⟨rfl,hown,hb⟩;obtain⟨c',hp'⟩:∃c',c'=(w2.setCell (aD (w.heap.size+1+1) 1) (.l (some (aD b' 0)) l.ms.length l.ms.length)).heap.size:=⟨_,rfl⟩
 have HN3:Hid (zaL 143 W0.heap.size w3 c' l.ts l.ts.length):=by rw[hp'];exact zmF hown HZZ2.o
 have HAA3:Hid (yw W0.heap.size w2 w3):=HAB2.o.trans (yw.below hb);have hX3:=(hb.block _ (lt_of_some HX2'.out)).trans HX2'.out;have hR3:=(hb.block _ (lt_of_some HR2'.out)).trans HR2'.out;have hO3:=(hb.block _ (lt_of_some HO2'.out)).trans HO2'.out;have HZ3:Hid (W0.heap.size<=w3.heap.size):=Nat.le_trans HZZ2.o hb.size;have HB3:Hid (Bw w w3):=HBB2.o.trans (hb.mono HBB2.o.size);rw[<- hp'];clear hown hb hp' cX2 cR2 fR2 cOO2;have cO3:=fun j=>cell_of_block (o:=j) hO3
 have fO3:=fun j=>zl (o:=j) hO3
 have HX3':Hid ((w3.setCell (aD (w.heap.size+1+1) 2) (.l (some (aD c' 0)) l.ts.length l.ts.length)).heap[w.heap.size]?=some (.cells #[.l a l.ss.length ca,.l b l.ms.length cb,.l c l.ts.length cc] 26)):=(zG (by omega)).trans hX3;have HR3':Hid ((w3.setCell (aD (w.heap.size+1+1) 2) (.l (some (aD c' 0)) l.ts.length l.ts.length)).heap[w.heap.size+1]?=some (.cells #[.l none 0 0,.l none 0 0,.l none 0 0] 44)):=(zG (by omega)).trans hR3;have HO3':Hid ((w3.setCell (aD (w.heap.size+1+1) 2) (.l (some (aD c' 0)) l.ts.length l.ts.length)).heap[w.heap.size+1+1]?=some (.cells #[.l (some (aD a' 0)) l.ss.length l.ss.length,.l (some (aD b' 0)) l.ms.length l.ms.length,.l (some (aD c' 0)) l.ts.length l.ts.length] 44)):=zh hO3 _;have HAB3:Hid (yw W0.heap.size w3 (w3.setCell (aD (w.heap.size+1+1) 2) (.l (some (aD c' 0)) l.ts.length l.ts.length))):=yw.setCell HLO.o _;have HBB3:Hid (Bw w (w3.setCell (aD (w.heap.size+1+1) 2) (.l (some (aD c' 0)) l.ts.length l.ts.length))):=HB3.o.setCell (by show w.heap.size<=w.heap.size+1+1;omega) _;have HZZ3:Hid (W0.heap.size<=(w3.setCell (aD (w.heap.size+1+1) 2) (.l (some (aD c' 0)) l.ts.length l.ts.length)).heap.size):=by unfold Hid;rw[World.size_setCell];exact HZ3.o
 clear hX3 hR3 hO3;have cX3:=fun j=>cell_of_block (o:=j) HX3'.out
 have cR3:=fun j=>cell_of_block (o:=j) HR3'.out
 have fR3:=fun j=>zl (o:=j) HR3'.out
 have cOO3:=fun j=>cell_of_block (o:=j) HO3'.out
 go_wp2_with fail
 refine bodyPost_ret (v:=.agg #[.l (some (aD a' 0)) l.ss.length l.ss.length,.l (some (aD b' 0)) l.ms.length l.ms.length,.l (some (aD c' 0)) l.ts.length l.ts.length]) (by simp[results,Tryz.results8,go_sem,cR3]) rfl ⟨W0.heap.size,a',b',c',rfl,by have:=HLO.o;omega,?_,?_⟩
 ·have hlt1:w.heap.size+1<W0.heap.size:=by have:=HLO.o;omega
  have hA3:∀v0 v1 v2,yw W0.heap.size w3 ((((w3.setCell (aD (w.heap.size+1+1) 2) (.l (some (aD c' 0)) l.ts.length l.ts.length)).setCell (aD (w.heap.size+1) 0) v0).setCell (aD (w.heap.size+1) 1) v1).setCell (aD (w.heap.size+1) 2) v2):=fun v0 v1 v2=>HAB3.o.trans (((yw.setCell (p:=(aD (w.heap.size+1) 0)) hlt1 v0).trans (yw.setCell (p:=(aD (w.heap.size+1) 1)) hlt1 v1)).trans (yw.setCell (p:=(aD (w.heap.size+1) 2)) hlt1 v2))
  exact⟨HO1.o.above ((HAA2.o.trans HAA3.o).trans (hA3 _ _ _)),HN2.o.above (HAA3.o.trans (hA3 _ _ _)),HN3.o.above (hA3 _ _ _)⟩
 ·exact((HBB3.o.setCell (Nat.le_succ _) _).setCell (Nat.le_succ _) _).setCell (Nat.le_succ _) _
theorem zdP (l:Lw)(a b c:OA)(ca cb cc:Nat)(w:World)(hl:yH w l a b c)(hf:l.Few) :
 Calls Tryz.prog 8 #[.agg (l.cells a b c ca cb cc)] w fun e w'=>∃a' b' c',e=.returned (.agg (l.cells a' b' c' l.ss.length l.ms.length l.ts.length))/\yH w' l a' b' c'/\Bw w w':=by
 refine(zll l a b c ca cb cc w hl hf).mono ?_;rintro e w'⟨lo,a',b',c',he,_,ho,hb⟩;exact⟨_,_,_,he,ho.at hl.small,hb⟩
theorem zb8 (a:OA)(cap:Nat)(ts:List Tm)(v:BA)(w:World)(hw:jB w a ts) :
 Calls Tryz.prog 94 #[.l a ts.length cap,.s v] w fun e w'=>e=.returned (.bool (yD ts v))/\w'=w:=by
 have hl:=hw.len;unfold maxLen at hl;go_enter Tryz.func94,Tryz.ntmps94;go_wp2_with fail
 go_loop [5] (fun i=>∃k:Nat,k<=ts.length/\i=.i k/\yD (ts.take k) v=false) (fun i=>ts.length-(intOf i).toNat)
 case atStart=>exact⟨0,Nat.zero_le _,rfl,rfl⟩
 case round=>
  obtain⟨k,hk,rfl,hall⟩:=hrel
  by_cases hlt:k<ts.length
  ·obtain⟨b,off,rfl,hb,c0,c1⟩:=hw.load (bRf _ _) k hlt
   clear hw;have HS:Hid (yD (ts.take (k+1)) v=(false||decide (ts[k].nm=v))):=by rw[zey ts v k hlt,hall];rfl
   have hltI:(k:Int)<(ts.length:Int):=by omega
   by_cases he:ts[k].nm=v
   ·have hbe:(ts[k].nm.toList == v.toList)=true:=by rw[beq_toList];simpa using he
    have HR:=hid (zpp ts v k hlt he);clear he hall;go_wp2_with fail
    go_ret;exact⟨ze HR.o.symm,rfl⟩
   ·have hbe:(ts[k].nm.toList == v.toList)=false:=by rw[beq_toList];simpa using he
    have HE:=hid he;clear he hall;go_wp2_with fail
    go_round
    case rel=>exact⟨k+1,by omega,by go_num,by rw[HS.o,decide_eq_false HE.o];rfl⟩
    case measure=>simp[intOf];omega
  ·have HR:Hid (yD ts v=false):=by rw[<- zfr ts v k (by omega)];exact hall
   clear hall hw;go_wp2_with fail
   go_ret;exact⟨ze HR.o.symm,rfl⟩
theorem zhk (ts:List Tm)(m:Nat)(z:BA)(h:z.size=0):zac ts m z=z:=by
 cases m with
 | zero=>rfl
 | succ m=>unfold zac;rw[if_pos h]
theorem zir (ts:List Tm)(m:Nat)(z:BA)(h:¬z.size=0):zac ts (m+1) z=zac ts m (over ts z):=by
 rw[zac,if_neg h]
theorem ziV (a:OA)(cap:Nat)(ts:List Tm)(w:World)(hw:jB w a ts) :
 Calls Tryz.prog 92 #[.l a ts.length cap] w fun e w'=>e=.returned (.bool (za5 ts))/\Bw w w':=by
 have hl:=hw.len;unfold maxLen at hl
 by_cases h12:ts.length<=12
 rotate_left
 ·have HF:Hid (za5 ts=false):=by simp[Hid,za5,h12]
  clear hw;go_enter Tryz.func92,Tryz.ntmps92;go_wp2_with fail
  go_ret;exact⟨ze HF.o.symm,bRf _ _⟩
 have HG:Hid (za5 ts=up (zcn ts) ts.length):=by simp[Hid,za5,h12]
 have h12I:(ts.length:Int)<=12:=by omega
 have HW0:=hid hw;clear hw;go_enter Tryz.func92,Tryz.ntmps92;go_wp2_with fail
 go_loopw [3] (fun i wr=>∃k:Nat,k<=ts.length/\i=.i k/\up (zcn ts) k=true/\Bw w wr) (fun i _=>ts.length-(intOf i).toNat)
 case atStart=>exact⟨0,Nat.zero_le _,rfl,rfl,bRf _ _⟩
 case round=>
  obtain⟨k,hk,rfl,hup,hB⟩:=hrel;obtain⟨W0,rfl⟩:∃W0,W0=wr:=⟨wr,rfl⟩
  have hsz:=hB.size
  by_cases hlt:k<ts.length
  ·obtain⟨b,off,rfl,hb,c0,c1⟩:=HW0.o.load hB k hlt
   have hbr:b<W0.heap.size:=by omega
   have hsm:=HW0.o.small k hlt;have hsn:=hsm.nm;have HS:Hid (qH ts k=true->zd7 ts k=true->up (zcn ts) (k+1)=true):=fun h h'=>by rw[jA,hup,zcn,h,h'];rfl
   have HN:Hid (qH ts k=false->za5 ts=false):=fun h=>by rw[HG.o];exact za2 hlt (by rw[zcn,h];rfl)
   have HD:Hid (zd7 ts k=false->za5 ts=false):=fun h=>by rw[HG.o];exact za2 hlt (by rw[zcn,h,Bool.and_false])
   have HDS:Hid (zd7 ts k=decide ((zac ts 5 ts[k].nm).size=0)):=by unfold Hid zd7;rw[getD_at ts k _ hlt]
   have hltI:(k:Int)<(ts.length:Int):=by omega
   have HB:=hid hB;have HBx:Hid (∀(ob:Obj) (n:Nat),Bw W0 ((W0.alloc ob).drewN n)):=fun ob n=>below_drewN (bAl _ _) _
   have HWr:Hid (∀(ob:Obj) (n:Nat),jB ((W0.alloc ob).drewN n) (some (aD b off)) ts):=fun ob n=>(HW0.o.mono hB).mono (below_drewN (bAl _ _) _)
   clear hup hsm hB
   by_cases hn:zm ts[k].nm=true
   rotate_left
   ·have HNm:Hid (zm ts[k].nm=false):=by simpa[Hid] using hn
    have HF:Hid (qH ts k=false):=by unfold Hid;rw[zcX ts k hlt _ rfl,HNm.o];rfl
    clear hn;go_wp2_with fail
    go_quiet ((go_at_call 100;exact Calls.quiet_of_same (zf HNm.o (zi _ _ hsn))))
    go_wp2_with fail
    go_ret;exact⟨ze (HN.o HF.o).symm,HB.o.trans ((HBx.o _ _).mono hsz)⟩
   have HNm:Hid (zm ts[k].nm=true):=hn;clear hn
   by_cases hbad:0<k/\less (ts.getD (k-1) zbA).nm ts[k].nm=false
   ·obtain⟨hkpos,hls⟩:=hbad
    have HF:Hid (qH ts k=false):=by
     unfold Hid;rw[zcX ts k hlt false (by rw[hls,decide_eq_false (show ¬k=0 by omega)];rfl)];simp
    obtain⟨m,rfl⟩:∃m,k=m+1:=⟨k-1,by omega⟩
    rw[Nat.add_sub_cancel,getD_at ts m _ (by omega)]at hls;obtain⟨b',off',e',hb',d0,d1⟩:=HW0.o.load HB.o m (by omega);simp only[Option.some.injEq,Addr.mk.injEq]at e';obtain⟨rfl,rfl,_⟩:=e';have hls':Op.bytesLess ts[m].nm.toList ts[m+1].nm.toList=false:=hls;have hmI:(m:Int)<12:=by omega
    have hm0:(0:Int)<=(m:Int):=by omega
    have hml:(m:Int)<(ts.length:Int):=by omega
    have hmw:IntKind.i64.wrap (m:Int)=m:=by rw[IntKind.wrap_i64];omega
    clear hls;go_wp2_with fail
    go_quiet ((go_at_call 100;exact Calls.quiet_of_same (zf HNm.o (zi _ _ hsn))))
    go_wp2_with fail
    go_ret;exact⟨ze (HN.o HF.o).symm,HB.o.trans ((HBx.o _ _).mono hsz)⟩
   have hgd:(decide (k=0)||less (ts.getD (k-1) zbA).nm ts[k].nm)=true:=by
    by_cases hk0:k=0
    ·simp[hk0]
    ·cases hq:less (ts.getD (k-1) zbA).nm ts[k].nm
     ·exact absurd ⟨by omega,hq⟩ hbad
     ·simp
   have HA:Hid (qH ts k=(ts[k].ov.toList.isEmpty||yD ts ts[k].ov)):=by
    unfold Hid;rw[zcX ts k hlt true hgd,HNm.o];rfl
   have hgood:(decide (0<k)=false) \/ (decide (0<k)=true/\(0:Int)<=(k:Int)-1/\(k:Int)-1<(ts.length:Int)/\∃h:k-1<ts.length,Op.bytesLess ts[k-1].nm.toList ts[k].nm.toList=true/\W0.cell? (aD b (off+(k-1)*2))=some (.s ts[k-1].nm)):=by
    by_cases hk0:k=0
    ·exact Or.inl (by simp;omega)
    ·refine Or.inr ⟨by simp;omega,by omega,by omega,by omega,?_,?_⟩
     ·rw[decide_eq_false hk0,getD_at ts (k-1) _ (by omega)]at hgd
      exact hgd
     ·obtain⟨b',off',e',hb',d0,d1⟩:=HW0.o.load HB.o (k-1) (by omega)
      simp only[Option.some.injEq,Addr.mk.injEq]at e';obtain⟨rfl,rfl,_⟩:=e';exact d0
   clear hbad hgd
   by_cases hov:ts[k].ov.toList.isEmpty=true
   ·have HT:Hid (qH ts k=true):=by unfold Hid;rw[HA.o,hov];rfl
    rcases hgood with hg|⟨hg,hk1,hk2,hkm,hls',d0⟩
    focus
     go_wp2_with fail
    rotate_left
    focus
     go_wp2_with fail
    all_goals
     go_quiet ((go_at_call 100;exact Calls.quiet_of_same (zf HNm.o (zi _ _ hsn))))
     go_wp2_with fail
     obtain⟨W1,hW1⟩:=xN ((W0.alloc (.cells #[.s ts[k].nm,.s ts[k].ov] 143)).drewN nq);have HB1:Hid (Bw w W1):=by unfold Hid;rw[hW1];exact HB.o.trans ((HBx.o _ _).mono hsz)
     have HW1:=hid (HW0.o.mono HB1.o);rw[<- hW1];clear hW1
     go_loopw [5,6] (fun p i wi=>∃(n:Nat) (z:BA),n<=5/\p=.s z/\i=.i n/\zac ts 5 ts[k].nm=zac ts (5-n) z/\wi=W1) (fun _ i _=>5-(intOf i).toNat)
     case atStart=>exact⟨0,ts[k].nm,Nat.zero_le _,rfl,rfl,rfl,rfl⟩
     case round=>
      obtain⟨n,z,hn5,rfl,rfl,hz,rfl⟩:=hrel
      by_cases hn:n<5
      ·have hnI:(n:Int)<=4:=by omega
       by_cases hz0:z.size=0
       ·have hze:z.toList.isEmpty=true:=by rw[zy];simpa using hz0
        have HDT:Hid (zd7 ts (k)=true):=by unfold Hid;rw[HDS.o,hz,zhk ts _ z hz0];simpa using hz0
        clear hz hz0;go_wp2_with fail
        exact⟨⟨k+1,by omega,by go_num,HS.o HT.o HDT.o,HB1.o⟩,by simp[intOf];omega⟩
       ·have hze:z.toList.isEmpty=false:=by rw[zy];simpa using hz0
        have HZ:Hid (zac ts 5 ts[k].nm=zac ts (5-(n+1)) (over ts z)):=by
         obtain⟨q,hq⟩:∃q,5-n=q+1:=⟨4-n,by omega⟩
         rw[Hid,hz,hq,zir ts q z hz0,show 5-(n+1)=q by omega]
        clear hz hz0
        go_wp2_with (go_at_call 107;refine(zdg _ _ ts _ _ HW1.o).mono ?_;rintro e w'⟨rfl,rfl⟩)
        exact⟨⟨n+1,over ts z,by omega,rfl,by go_num,HZ.o,trivial⟩,by simp[intOf];omega⟩
      ·have e5:5-n=0:=by omega
       rw[e5]at hz;have hnI:¬(n:Int)<=4:=by omega
       by_cases hz0:z.size=0
       ·have hze:z.toList.isEmpty=true:=by rw[zy];simpa using hz0
        have HDT:Hid (zd7 ts (k)=true):=by unfold Hid;rw[HDS.o,hz];simpa[zac] using hz0
        clear hz hz0;go_wp2_with fail
        exact⟨⟨k+1,by omega,by go_num,HS.o HT.o HDT.o,HB1.o⟩,by simp[intOf];omega⟩
       ·have hze:z.toList.isEmpty=false:=by rw[zy];simpa using hz0
        have HDT:Hid (zd7 ts (k)=false):=by unfold Hid;rw[HDS.o,hz];simpa[zac] using hz0
        clear hz hz0;go_wp2_with fail
        go_ret;exact⟨ze (HD.o HDT.o).symm,HB1.o⟩
   ·have hov':ts[k].ov.toList.isEmpty=false:=by simpa using hov
    clear hov
    by_cases hit:yD ts ts[k].ov=true
    ·have HI:=hid hit
     have HT:Hid (qH ts k=true):=by unfold Hid;rw[HA.o,hit];simp
     clear hit
     rcases hgood with hg|⟨hg,hk1,hk2,hkm,hls',d0⟩
     focus
      go_wp2_with fail
     rotate_left
     focus
      go_wp2_with fail
     all_goals
      go_quiet (first|(go_at_call 100;exact Calls.quiet_of_same (zf HNm.o (zi _ _ hsn)))|(go_at_call 94;exact Calls.quiet_of_same (zf HI.o (zb8 _ _ ts _ _ (by exact HWr.o _ _)))))
      go_wp2_with fail
      obtain⟨W1,hW1⟩:=xN ((W0.alloc (.cells #[.s ts[k].nm,.s ts[k].ov] 143)).drewN nq);have HB1:Hid (Bw w W1):=by unfold Hid;rw[hW1];exact HB.o.trans ((HBx.o _ _).mono hsz)
      have HW1:=hid (HW0.o.mono HB1.o);rw[<- hW1];clear hW1
      go_loopw [5,6] (fun p i wi=>∃(n:Nat) (z:BA),n<=5/\p=.s z/\i=.i n/\zac ts 5 ts[k].nm=zac ts (5-n) z/\wi=W1) (fun _ i _=>5-(intOf i).toNat)
      case atStart=>exact⟨0,ts[k].nm,Nat.zero_le _,rfl,rfl,rfl,rfl⟩
      case round=>
       obtain⟨n,z,hn5,rfl,rfl,hz,rfl⟩:=hrel
       by_cases hn:n<5
       ·have hnI:(n:Int)<=4:=by omega
        by_cases hz0:z.size=0
        ·have hze:z.toList.isEmpty=true:=by rw[zy];simpa using hz0
         have HDT:Hid (zd7 ts (k)=true):=by unfold Hid;rw[HDS.o,hz,zhk ts _ z hz0];simpa using hz0
         clear hz hz0;go_wp2_with fail
         exact⟨⟨k+1,by omega,by go_num,HS.o HT.o HDT.o,HB1.o⟩,by simp[intOf];omega⟩
        ·have hze:z.toList.isEmpty=false:=by rw[zy];simpa using hz0
         have HZ:Hid (zac ts 5 ts[k].nm=zac ts (5-(n+1)) (over ts z)):=by
          obtain⟨q,hq⟩:∃q,5-n=q+1:=⟨4-n,by omega⟩
          rw[Hid,hz,hq,zir ts q z hz0,show 5-(n+1)=q by omega]
         clear hz hz0
         go_wp2_with (go_at_call 107;refine(zdg _ _ ts _ _ HW1.o).mono ?_;rintro e w'⟨rfl,rfl⟩)
         exact⟨⟨n+1,over ts z,by omega,rfl,by go_num,HZ.o,trivial⟩,by simp[intOf];omega⟩
       ·have e5:5-n=0:=by omega
        rw[e5]at hz;have hnI:¬(n:Int)<=4:=by omega
        by_cases hz0:z.size=0
        ·have hze:z.toList.isEmpty=true:=by rw[zy];simpa using hz0
         have HDT:Hid (zd7 ts (k)=true):=by unfold Hid;rw[HDS.o,hz];simpa[zac] using hz0
         clear hz hz0;go_wp2_with fail
         exact⟨⟨k+1,by omega,by go_num,HS.o HT.o HDT.o,HB1.o⟩,by simp[intOf];omega⟩
        ·have hze:z.toList.isEmpty=false:=by rw[zy];simpa using hz0
         have HDT:Hid (zd7 ts (k)=false):=by unfold Hid;rw[HDS.o,hz];simpa[zac] using hz0
         clear hz hz0;go_wp2_with fail
         go_ret;exact⟨ze (HD.o HDT.o).symm,HB1.o⟩
    ·have HI:Hid (yD ts ts[k].ov=false):=by simpa[Hid] using hit
     have HF:Hid (qH ts k=false):=by unfold Hid;rw[HA.o,HI.o,hov'];rfl
     clear hit
     rcases hgood with hg|⟨hg,hk1,hk2,hkm,hls',d0⟩
     focus
      go_wp2_with fail
     rotate_left
     focus
      go_wp2_with fail
     all_goals
      go_quiet (first|(go_at_call 100;exact Calls.quiet_of_same (zf HNm.o (zi _ _ hsn)))|(go_at_call 94;exact Calls.quiet_of_same (zf HI.o (zb8 _ _ ts _ _ (by exact HWr.o _ _)))))
      go_wp2_with fail
      go_ret;exact⟨ze (HN.o HF.o).symm,HB.o.trans ((HBx.o _ _).mono hsz)⟩
  ·have HF:Hid (za5 ts=true):=by
    have e:k=ts.length:=by omega
    subst e;rw[Hid,HG.o,hup]
   clear hup;go_wp2_with fail
   go_ret;exact⟨ze HF.o.symm,hB⟩
theorem zjO (nm:BA)(kd ls ms:Int)(sl:Value)(to:BA)(rl:Int)(mu fx:Bool)(df wg:BA)(v:BA)(bn:Nat)(w:World)(hb:bn<w.heap.size)(hn:w.cell? (aD bn 0)=some (.s v)) :
 Calls Tryz.prog 239 #[.agg #[.s nm,.i kd,.i ls,.i ms,sl,.s to,.i rl,.bool mu,.bool fx,.s df,.s wg],.pointer (some (aD bn 0))] w fun e w'=>e=.returned (.bool (nm.toList == v.toList))/\Bw w w':=by
 go_enter Tryz.func239,Tryz.ntmps239
 go_wp2
 go_ret;exact⟨rfl,bAl _ _⟩
theorem zlo (a:OA)(cap:Nat)(fs:List Fld)(v:BA)(bn:Nat)(w:World)(hw:yj w a fs)(hbn:bn<w.heap.size)(hn:w.cell? (aD bn 0)=some (.s v)) :
 Calls Tryz.prog 238 #[.l a fs.length cap,.func (.func 239) #[] #[.pointer (some (aD bn 0))]] w fun e w'=>e=.returned (.i (zY fs v))/\Bw w w':=by
 have hl:=hw.len;unfold maxLen at hl;go_enter Tryz.func238,Tryz.ntmps238
 go_wp2
 go_loopw [8] (fun i wr=>∃k:Nat,k<=fs.length/\i=.i k/\hasName (fs.take k) v=false/\Bw w wr) (fun i _=>fs.length-(intOf i).toNat)
 case atStart=>exact⟨0,Nat.zero_le _,rfl,rfl,bRf _ _⟩
 case round=>
  obtain⟨k,hk,rfl,hno,hB⟩:=hrel
  by_cases hlt:k<fs.length
  ·obtain⟨b,off,rfl,hb,hr⟩:=hw.rows (by rintro rfl;simp at hlt)
   obtain⟨wa,wcap,hf⟩:=hr k hlt;obtain⟨c0,c1,c2,c3,c4,c5,c6,c7,c8,c9,c10⟩:=(hf.mono hb hB).load;have hn1:=(hB.cell (p:=(aD bn 0)) hbn).trans hn;have hbn1:bn<wr.heap.size:=nLt hbn hB.size;clear hw hr hf hn
   by_cases he:fs[k].nm=v
   ·have HA:Hid (zY fs v=k):=zem fs v k hlt hno he
    have HE:Hid ((fs[k].nm.toList == v.toList)=true):=by unfold Hid;rw[beq_toList];simpa using he
    clear he hno;go_wp2_with fail
    refine(zf HE.o (zjO _ _ _ _ _ _ _ _ _ _ _ _ _ _ hbn1 hn1)).mono ?_;rintro e w2⟨rfl,hb2⟩;go_wp2_with fail
    go_ret;exact⟨zk HA.o.symm,hB.trans (hb2.mono hB.size)⟩
   ·have HS:Hid (hasName (fs.take (k+1)) v=false):=by unfold Hid;rw[zeA fs v k hlt,hno,decide_eq_false he];rfl
    have HE:Hid ((fs[k].nm.toList == v.toList)=false):=by unfold Hid;rw[beq_toList];simpa using he
    clear he hno;go_wp2_with fail
    refine(zf HE.o (zjO _ _ _ _ _ _ _ _ _ _ _ _ _ _ hbn1 hn1)).mono ?_;rintro e w2⟨rfl,hb2⟩;go_wp2_with fail
    exact⟨⟨k+1,by omega,by go_num,HS.o,hB.trans (hb2.mono hB.size)⟩,by simp[intOf];omega⟩
  ·have HA:Hid (zY fs v=-1):=zhn fs v (by rw[<- ziu fs v k (by omega)];exact hno)
   clear hno hw
   go_wp2
   go_ret;exact⟨zk HA.o.symm,hB⟩
theorem jH (a:OA)(cap:Nat)(fs:List Fld)(v:BA)(w:World)(hw:yj w a fs) :
 Calls Tryz.prog 208 #[.l a fs.length cap,.s v] w fun e w'=>e=.returned (.i (zY fs v))/\Bw w w':=by
 go_enter Tryz.func208,Tryz.ntmps208;go_wp2_with fail
 refine(zlo _ _ _ v _ _ (hw.mono (bAl _ _)) (by simp) (by rw[World.cell?_alloc_at _ _ _ _ rfl];rfl)).mono ?_;rintro e w2⟨rfl,hb2⟩;go_wp2_with fail
 go_ret;exact⟨rfl,(bAl _ _).trans (hb2.mono (by simp))⟩
theorem zev (nm:BA)(ls ms:Int)(a:OA)(n cap:Nat)(to:BA)(rl:Int)(mu fx:Bool)(df wg:BA)(w:World) :
 Calls Tryz.prog 235 #[.agg #[.s nm,.i 1,.i ls,.i ms,.l a n cap,.s to,.i rl,.bool mu,.bool fx,.s df,.s wg]] w fun e w'=>e=.returned (.bool (yV 1 ls ms n to rl wg))/\Bw w w':=by
 go_enter Tryz.func235,Tryz.ntmps235
 go_wp2
 all_goals
  go_ret;refine⟨ze ?_,bAl _ _⟩
  simp_all [yV]
  try first|omega|(intros;omega)|(rw[Bool.eq_iff_iff];simp)
theorem zcb (nm:BA)(ls ms:Int)(a:OA)(n cap:Nat)(to:BA)(rl:Int)(mu fx:Bool)(df wg:BA)(w:World) :
 Calls Tryz.prog 235 #[.agg #[.s nm,.i 2,.i ls,.i ms,.l a n cap,.s to,.i rl,.bool mu,.bool fx,.s df,.s wg]] w fun e w'=>e=.returned (.bool (yV 2 ls ms n to rl wg))/\Bw w w':=by
 go_enter Tryz.func235,Tryz.ntmps235
 go_wp2
 all_goals
  go_ret;refine⟨ze ?_,bAl _ _⟩
  simp_all [yV]
  try first|omega|(intros;omega)|(rw[Bool.eq_iff_iff];simp)
theorem zeh (nm:BA)(ls ms:Int)(a:OA)(n cap:Nat)(to:BA)(rl:Int)(mu fx:Bool)(df wg:BA)(w:World) :
 Calls Tryz.prog 235 #[.agg #[.s nm,.i 3,.i ls,.i ms,.l a n cap,.s to,.i rl,.bool mu,.bool fx,.s df,.s wg]] w fun e w'=>e=.returned (.bool (yV 3 ls ms n to rl wg))/\Bw w w':=by
 go_enter Tryz.func235,Tryz.ntmps235
 go_wp2
 all_goals
  go_ret;refine⟨ze ?_,bAl _ _⟩
  simp_all [yV]
  try first|omega|(intros;omega)|(rw[Bool.eq_iff_iff];simp)
theorem za1 (nm:BA)(ls ms:Int)(a:OA)(n cap:Nat)(to:BA)(rl:Int)(mu fx:Bool)(df wg:BA)(w:World) :
 Calls Tryz.prog 235 #[.agg #[.s nm,.i 4,.i ls,.i ms,.l a n cap,.s to,.i rl,.bool mu,.bool fx,.s df,.s wg]] w fun e w'=>e=.returned (.bool (yV 4 ls ms n to rl wg))/\Bw w w':=by
 go_enter Tryz.func235,Tryz.ntmps235
 go_wp2
 all_goals
  go_ret;refine⟨ze ?_,bAl _ _⟩
  simp_all [yV]
  try first|omega|(intros;omega)|(rw[Bool.eq_iff_iff];simp)
theorem zkh (nm:BA)(kd ls ms:Int)(a:OA)(n cap:Nat)(to:BA)(rl:Int)(mu fx:Bool)(df wg:BA)(w:World)(h1:kd≠1)(h2:kd≠2)(h3:kd≠3)(h4:kd≠4) :
 Calls Tryz.prog 235 #[.agg #[.s nm,.i kd,.i ls,.i ms,.l a n cap,.s to,.i rl,.bool mu,.bool fx,.s df,.s wg]] w fun e w'=>∃b,e=.returned (.bool b)/\Bw w w':=by
 have e1:(kd == 1)=false:=by simpa using h1
 have e2:(kd == 2)=false:=by simpa using h2
 have e3:(kd == 3)=false:=by simpa using h3
 have e4:(kd == 4)=false:=by simpa using h4
 have n1:(kd != 1)=true:=by simpa using h1
 have n2:(kd != 2)=true:=by simpa using h2
 clear h1 h2 h3 h4;go_enter Tryz.func235,Tryz.ntmps235
 go_wp2
 all_goals
  go_ret;exact⟨_,rfl,bAl _ _⟩
end Go.Proofs.YthdfpinbnncghaaGreat
