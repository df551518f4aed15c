import Derived.Test.YtecncindgjdbiaaGreatM14
set_option maxHeartbeats 2000000
namespace Go.Proofs.YtecncindgjdbiaaGreat
open Go.RowKit
structure Lg where
 tm:BA
 rs:BA
 mo:Int
 fr:Int
def Lg.cells (m:Lg):AV:=#[.s m.tm,.s m.rs,.i m.mo,.i m.fr]
structure Lg.Small (m:Lg):Prop where
 tm:m.tm.size<=maxLen
 rs:m.rs.size<=maxLen
structure zbD (w:World)(a:OA)(ms:List Lg):Prop where
 len:ms.length<=maxLen
 small:∀i (h:i<ms.length),ms[i].Small
 rows:ms≠[]->∃b off,a=some (aD b off)/\b<w.heap.size/\∀i (h:i<ms.length),∀j,j<4->w.cell? (aD b (off+i*4+j))=ms[i].cells[j]?
theorem zbD.mono {w w':World}{a:OA}{ms:List Lg}(h:zbD w a ms)(hl:Bw w w'):zbD w' a ms:=
 ⟨h.len,h.small,fun hne=>by
  obtain⟨b,off,ha,hb,hr⟩:=h.rows hne;exact⟨b,off,ha,nLt hb hl.size,fun i hi j hj=>(hl.cell (p:=(aD b (off+i*4+j))) hb).trans (hr i hi j hj)⟩⟩
theorem zbD.load {w w':World}{a:OA}{ms:List Lg}(h:zbD w a ms)(hl:Bw w w')(i:Nat)(hi:i<ms.length):∃b off,a=some (aD b off)/\b<w.heap.size /\
 w'.cell? (aD b (off+i*4))=some (.s ms[i].tm)/\w'.cell? (aD b (off+i*4+1))=some (.s ms[i].rs)/\w'.cell? (aD b (off+i*4+2))=some (.i ms[i].mo)/\w'.cell? (aD b (off+i*4+3))=some (.i ms[i].fr):=by
 obtain⟨b,off,ha,hb,hr⟩:=h.rows (by rintro rfl;simp at hi);have hc:∀j,j<4->w'.cell? (aD b (off+i*4+j))=ms[i].cells[j]?:=fun j hj=>(hl.cell (p:=(aD b (off+i*4+j))) hb).trans (hr i hi j hj)
 exact⟨b,off,ha,hb,hc 0 (by omega),hc 1 (by omega),hc 2 (by omega),hc 3 (by omega)⟩
def Lg.sz (m:Lg):Nat:=m.tm.size+m.rs.size
def zev (ms:List Lg):Nat:=(ms.map Lg.sz).sum
def zcQ (ms:List Lg):Nat:=ms.length+zev ms
theorem zdQ (m:Lg)(left:Int)(w:World)(hm:m.Small)(h0:0<=left)(h1:left<=1048576) :
 Calls Tryz.prog 61 #[.agg m.cells,.i left] w fun e w'=>e=.returned (.i (zL m.sz left))/\Bw w w':=by
 have k0:=hm.tm;have k1:=hm.rs;unfold maxLen at k0 k1;unfold Lg.cells;have hB:∀ob,Bw w (w.alloc ob):=fun ob=>bAl _ _
 by_cases hf:(m.sz:Int)<=left
 ·have HF:Hid (zL m.sz left=left-m.tm.size-m.rs.size):=by
   unfold Hid;rw[zM hf];unfold Lg.sz;omega
  unfold Lg.sz at hf;go_enter Tryz.func61,Tryz.ntmps61;go_wp2_with fail
  go_ret;exact⟨zo HF.o.symm,hB _⟩
 ·have HF:Hid (zL m.sz left=-1):=zC hf
  have HN:Hid (¬((m.tm.size+m.rs.size:Nat):Int)<=left):=hf;clear hf;go_enter Tryz.func61,Tryz.ntmps61;go_wp2_with fail
  all_goals go_ret
  all_goals first|exact⟨zo HF.o.symm,hB _⟩|(exfalso;have:=HN.o;simp at *;omega)
theorem zg8 (m:Lg)(left:Int)(w:World)(hm:m.Small)(h0:0<=left)(h1:left<=1048576)(h:(m.sz:Int)<=left) :
 Calls Tryz.prog 61 #[.agg m.cells,.i left] w fun e w'=>e=.returned (.i (left-m.sz))/\Bw w w':=by
 refine(zdQ m left w hm h0 h1).mono ?_;rintro e w'⟨rfl,hb⟩;exact⟨zo (zM h),hb⟩
theorem zis (m:Lg)(left:Int)(w:World)(hm:m.Small)(h0:0<=left)(h1:left<=1048576)(h:¬(m.sz:Int)<=left) :
 Calls Tryz.prog 61 #[.agg m.cells,.i left] w fun e w'=>e=.returned (.i (-1))/\Bw w w':=by
 refine(zdQ m left w hm h0 h1).mono ?_;rintro e w'⟨rfl,hb⟩;exact⟨zo (zC h),hb⟩
theorem zgn (a:OA)(cap:Nat)(ms:List Lg)(left:Int)(w:World)(hw:zbD w a ms)(h0:0<=left)(h1:left<=1048576) :
 Calls Tryz.prog 20 #[.l a ms.length cap,.i left] w fun e w'=>e=.returned (.i (zL (zcQ ms) left))/\Bw w w':=by
 have hl:=hw.len;unfold maxLen at hl
 by_cases hfit:(ms.length:Int)<=left
 ·go_enter Tryz.func20,Tryz.ntmps20
  go_wp2_with fail
  go_loopw [1,5] (fun l i wr=>∃k:Nat,k<=ms.length/\i=.i k/\0<=left-ms.length-zev (ms.take k)/\l=.i (left-ms.length-zev (ms.take k))/\Bw w wr) (fun _ i _=>ms.length-(intOf i).toNat)
  case atStart=>exact⟨0,Nat.zero_le _,rfl,by simp[zev];omega,by simp[zev],bRf _ _⟩
  case round=>
   obtain⟨k,hk,rfl,hpos,rfl,hB⟩:=hrel
   by_cases hlt:k<ms.length
   ·obtain⟨b,off,rfl,hb,c0,c1,c2,c3⟩:=hw.load hB k hlt
    have hsm:=hw.small k hlt;have HS:Hid (zev (ms.take (k+1))=zev (ms.take k)+ms[k].sz):=za5 Lg.sz ms k hlt;have hle:zev (ms.take (k+1))<=zev ms:=zcI Lg.sz ms (k+1);clear hw
    by_cases hneg:(ms[k].sz:Int)<=left-ms.length-zev (ms.take k)
    ·have HNG:Hid ((ms[k].sz:Int)<=left-ms.length-zev (ms.take k)):=hneg
     clear hle;go_wp2_with fail
     refine(zg8 _ _ _ hsm hpos (by omega) HNG.o).mono ?_;rintro e w1⟨rfl,hb1⟩;have hB1:=hB.trans (hb1.mono hB.size);clear hb1;go_wp2_with fail
     exact⟨⟨k+1,by omega,by go_num,by rw[HS.o];omega,by rw[HS.o];congr 1;omega,hB1⟩,by simp[intOf];omega⟩
    ·have HF:Hid (zL (zcQ ms) left=-1):=zC (by have:=HS.o;unfold zcQ;omega)
     have HNG:=hid hneg;clear hneg hle;go_wp2_with fail
     refine(zis _ _ _ hsm hpos (by omega) (by have:=HNG.o;omega)).mono ?_;rintro e w1⟨rfl,hb1⟩;have hB1:=hB.trans (hb1.mono hB.size);clear hb1;go_wp2_with fail
     go_ret;exact⟨zo HF.o.symm,hB1⟩
   ·have HF:Hid (zL (zcQ ms) left=left-ms.length-zev (ms.take k)):=by
     rw[tOl (by omega)]at hpos ⊢;have e:zL (zcQ ms) left=left-zcQ ms:=zM (by unfold zcQ;omega);unfold Hid;rw[e];unfold zcQ;omega
    clear hw
    go_wp2
    go_ret;exact⟨zo HF.o.symm,hB⟩
 ·have HF:Hid (zL (zcQ ms) left=-1):=zC (by unfold zcQ;omega)
  clear hw;go_enter Tryz.func20,Tryz.ntmps20
  go_wp2
  go_ret;exact⟨zo HF.o.symm,bRf _ _⟩
theorem zhp (m:Lg)(w:World):Calls Tryz.prog 91 #[.agg m.cells,.agg m.cells] w fun e w'=>e=.returned (.bool true)/\Bw w w':=by
 unfold Lg.cells;have hn2:(m.mo != m.mo)=false:=by simp
 have hn3:(m.fr != m.fr)=false:=by simp
 go_enter Tryz.func91,Tryz.ntmps91;go_wp2_with fail
 go_ret;exact⟨rfl,zw _ _ _⟩
theorem zgj (a a':OA)(cap cap':Nat)(ms:List Lg)(w:World)(hw:zbD w a ms)(hw':zbD w a' ms) :
 Calls Tryz.prog 40 #[.l a ms.length cap,.l a' ms.length cap'] w fun e w'=>e=.returned (.bool true)/\Bw w w':=by
 have hl:=hw.len;unfold maxLen at hl;have hnn:((ms.length:Int) != ms.length)=false:=by simp
 go_enter Tryz.func40,Tryz.ntmps40;go_wp2_with fail
 go_loopw [5] (fun i wr=>∃k:Nat,k<=ms.length/\i=.i k/\Bw w wr) (fun i _=>ms.length-(intOf i).toNat)
 case atStart=>exact⟨0,Nat.zero_le _,rfl,bRf _ _⟩
 case round=>
  obtain⟨k,hk,rfl,hB⟩:=hrel
  by_cases hlt:k<ms.length
  ·obtain⟨b,off,rfl,hb,c0,c1,c2,c3⟩:=hw.load hB k hlt
   obtain⟨b',off',rfl,hb',d0,d1,d2,d3⟩:=hw'.load hB k hlt;have hltI:(k:Int)<(ms.length:Int):=by omega
   clear hw hw';go_wp2_with fail
   go_region_with (go_at_call 91;refine(zhp ms[k] _).mono ?_;rintro e w1⟨rfl,hb1'⟩;have hb1:=(bRf wr.heap.size wr).drew.trans hb1';clear hb1')
   all_goals go_wp2_with fail
   all_goals exact⟨⟨k+1,by omega,by go_num,hB.trans (hb1.mono hB.size)⟩,by simp[intOf];omega⟩
  ·clear hw hw'
   go_wp2_with fail
   go_ret;exact⟨rfl,hB⟩
structure j4 (lo:Nat)(w:World)(bo:Nat)(ms:List Lg)(k:Nat):Prop where
 low:lo<=bo
 rows:∃C,w.heap[bo]?=some (.cells C 130)/\C.size=ms.length*4/\∀i (h:i<ms.length),i<k->∀j,j<4->C[i*4+j]?=ms[i].cells[j]?
theorem j4.at {lo:Nat}{w:World}{bo:Nat}{ms:List Lg}(h:j4 lo w bo ms ms.length)(hs:∀i (h:i<ms.length),ms[i].Small)(hl:ms.length<=maxLen):zbD w (some (aD bo 0)) ms:=by
 obtain⟨C,hC,hsz,hr⟩:=h.rows;refine⟨hl,hs,fun _=>⟨bo,0,rfl,(gES hC).1,fun i hi j hj=>?_⟩⟩;rw[cell_of_block hC,Nat.zero_add];exact hr i hi hi j hj
theorem j4.later {lo:Nat}{w w':World}{bo:Nat}{ms:List Lg}{k:Nat}(h:j4 lo w bo ms k)(hb:Bw w w'):j4 lo w' bo ms k:=by
 obtain⟨C,hC,hsz,hr⟩:=h.rows;exact⟨h.low,C,(hb.block bo (gES hC).1).trans hC,hsz,hr⟩
theorem j4.above {lo:Nat}{w w':World}{bo:Nat}{ms:List Lg}{k:Nat}(h:j4 lo w bo ms k)(ha:yL lo w w'):j4 lo w' bo ms k:=by
 obtain⟨C,hC,hr⟩:=h.rows;exact⟨h.low,C,(ha.same _ h.low (gES hC).1).trans hC,hr⟩
theorem j4.weaken {lo lo':Nat}{w:World}{bo:Nat}{ms:List Lg}{k:Nat}(h:j4 lo w bo ms k)(hl:lo'<=lo):j4 lo' w bo ms k:=⟨Nat.le_trans hl h.low,h.rows⟩
def zqC (w:World)(b o:Nat)(v0 v1 v2 v3:Value):World:=((((w.setCell (aD b o) v0).setCell (aD b (o+1)) v1).setCell (aD b (o+2)) v2).setCell (aD b (o+3)) v3)
def zjE (C:AV)(o:Nat)(v0 v1 v2 v3:Value):AV:=((((C.setIfInBounds (o) v0).setIfInBounds (o+1) v1).setIfInBounds (o+2) v2).setIfInBounds (o+3) v3)
theorem zmo {w:World}{b o:Nat}{C:AV}{t:TypeId}(h:w.heap[b]?=some (.cells C t))(v0 v1 v2 v3:Value):(zqC w b o v0 v1 v2 v3).heap[b]?=some (.cells (zjE C o v0 v1 v2 v3) t):=
 zi (zi (zi (zi h v0) v1) v2) v3
theorem zm1 {B:Nat}{a w:World}(h:Below B a w){b:Nat}(hb:B<=b)(o:Nat)(v0 v1 v2 v3:Value):Below B a (zqC w b o v0 v1 v2 v3):=
 (((h.setCell hb v0).setCell hb v1).setCell hb v2).setCell hb v3
theorem zoB (C:AV)(o:Nat)(v0 v1 v2 v3:Value):(zjE C o v0 v1 v2 v3).size=C.size:=by simp[zjE]
theorem zpq (C:AV)(o i:Nat)(v0 v1 v2 v3:Value)(h:i<o \/ o+4<=i):(zjE C o v0 v1 v2 v3)[i]?=C[i]?:=by
 unfold zjE
 iterate 4 rw[Array.getElem?_setIfInBounds,if_neg (by omega)]
theorem zqS (C:AV)(o j:Nat)(v0 v1 v2 v3:Value)(hj:j<4)(ho:o+4<=C.size):(zjE C o v0 v1 v2 v3)[o+j]?=(#[v0,v1,v2,v3]:AV)[j]?:=by
 have hc:j=0 \/ j=1 \/ j=2 \/ j=3:=by omega
 unfold zjE
 rcases hc with h|h|h|h <;> subst h <;> simp[Array.getElem?_setIfInBounds] <;> omega
theorem j4.put {lo:Nat}{w:World}{bo:Nat}{ms:List Lg}{k:Nat}(h:j4 lo w bo ms k)(hk:k<ms.length) :
 j4 lo (zqC w bo (k*4) (.s ms[k].tm) (.s ms[k].rs) (.i ms[k].mo) (.i ms[k].fr)) bo ms (k+1):=by
 obtain⟨C,hC,hsz,hr⟩:=h.rows;refine⟨h.low,_,zmo hC _ _ _ _,by rw[zoB];exact hsz,fun i hi hik j hj=>?_⟩
 rcases Nat.lt_or_ge i k with hlt|hge
 ·rw[zpq _ _ _ _ _ _ _ (by omega)]
  exact hr i hi hlt j hj
 ·have e:i=k:=by omega
  subst e;rw[zqS _ _ _ _ _ _ _ hj (by omega)]
  rfl
theorem zhj (m:Lg)(w:World) :
 Calls Tryz.prog 77 #[.agg m.cells] w fun e w'=>e=.returned (.agg m.cells)/\Bw w w':=by
 unfold Lg.cells;go_enter Tryz.func77,Tryz.ntmps77;go_wp2_with fail
 refine bodyPost_ret (v:=.agg #[.s m.tm,.s m.rs,.i m.mo,.i m.fr]) (by simp[results,Tryz.results77,go_sem]) rfl ⟨rfl,?_⟩;exact(((bAl _ _).alloc (by simp) _).alloc (by simp;omega) _)
def zqi:AV:=#[.s ByteArray.empty,.s ByteArray.empty,.i 0,.i 0]
def zoX (n:Nat):AV:=madeCells zqi (n*4)
theorem zgh (a:OA)(cap:Nat)(ms:List Lg)(w:World)(hw:zbD w a ms)(hl:ms.length<=1048576) :
 Calls Tryz.prog 31 #[.l a ms.length cap] w fun e w'=>e=.returned (.l (some (aD w.heap.size 0)) ms.length ms.length)/\j4 w.heap.size w' w.heap.size ms ms.length/\Bw w w':=by
 have hmk:∀w:World,(Instr.makeSlice 37 (.i ms.length) (.i ms.length)).run Tryz.prog w=.ok (.l (some (aD w.heap.size 0)) ms.length ms.length) (w.alloc (.cells (zoX ms.length) 130)):=
  fun w=>jy (P:=Tryz.prog) 37 130 (.agg zqi) 4 48 Tryz.underlying37 (by kernel_rfl) ms.length (by omega) (by omega) w
 go_enter Tryz.func31,Tryz.ntmps31;go_wp2_with fail
 clear hmk
 go_loopw [4] (fun i wr=>∃k:Nat,k<=ms.length/\i=.i k/\j4 w.heap.size wr w.heap.size ms k/\Bw w wr) (fun i _=>ms.length-(intOf i).toNat)
 case atStart=>exact⟨0,Nat.zero_le _,rfl,⟨Nat.le_refl _,zoX ms.length,(MapKept.heap_alloc w _).1,size_madeCells _ _,fun i _ h=>absurd h (by omega)⟩,bAl _ _⟩
 case round=>
  obtain⟨k,hk,rfl,hown,hB⟩:=hrel
  by_cases hlt:k<ms.length
  ·obtain⟨b,off,rfl,hb,c0,c1,c2,c3⟩:=hw.load hB k hlt
   have hltI:(k:Int)<(ms.length:Int):=by omega
   clear hw;go_wp2_with fail
   refine(zhj ms[k] _).mono ?_;rintro e w1⟨rfl,hb1⟩;have hB1:=hB.trans (hb1.mono hB.size);have hown1:=hown.later hb1
   have hbo:w.heap.size<wr.heap.size:=by
    obtain⟨C',hC',_⟩:=hown.rows;exact(gES hC').1
   obtain⟨C,hC,hsz,_⟩:=hown1.rows;have hfz:∀o,w1.frozen? (aD w.heap.size o)=false:=fun o=>zh hC
   have hex:∀o,o<ms.length*4->∃v,w1.cell? (aD w.heap.size o)=some v:=fun o ho=>⟨C[o]'(by omega),by rw[cell_of_block hC];exact Array.getElem?_eq_getElem (by omega)⟩
   obtain⟨v0,hv0⟩:=hex (k*4) (by omega);obtain⟨v1,hv1⟩:=hex (k*4+1) (by omega);obtain⟨v2,hv2⟩:=hex (k*4+2) (by omega);obtain⟨v3,hv3⟩:=hex (k*4+3) (by omega);have HP:=hid hown1;clear hex hC hsz c0 c1 c2 c3 hown hown1;unfold Lg.cells;go_wp2_with fail
   exact⟨⟨k+1,by omega,by go_num,HP.o.put hlt,zm1 hB1 (Nat.le_refl _) _ _ _ _ _⟩,by simp[intOf];omega⟩
  ·have HF:Hid (j4 w.heap.size wr w.heap.size ms ms.length):=by
    have e:k=ms.length:=by omega
    subst e;exact hown
   clear hw hown;go_wp2_with fail
   go_ret;exact⟨rfl,HF.o,hB⟩
structure Pu where
 dr:BA
 tm:BA
 rs:BA
 am:Int
 un:Int
def Pu.cells (m:Pu):AV:=#[.s m.dr,.s m.tm,.s m.rs,.i m.am,.i m.un]
structure Pu.Small (m:Pu):Prop where
 dr:m.dr.size<=maxLen
 tm:m.tm.size<=maxLen
 rs:m.rs.size<=maxLen
structure zbj (w:World)(a:OA)(ms:List Pu):Prop where
 len:ms.length<=maxLen
 small:∀i (h:i<ms.length),ms[i].Small
 rows:ms≠[]->∃b off,a=some (aD b off)/\b<w.heap.size/\∀i (h:i<ms.length),∀j,j<5->w.cell? (aD b (off+i*5+j))=ms[i].cells[j]?
theorem zbj.mono {w w':World}{a:OA}{ms:List Pu}(h:zbj w a ms)(hl:Bw w w'):zbj w' a ms:=
 ⟨h.len,h.small,fun hne=>by
  obtain⟨b,off,ha,hb,hr⟩:=h.rows hne;exact⟨b,off,ha,nLt hb hl.size,fun i hi j hj=>(hl.cell (p:=(aD b (off+i*5+j))) hb).trans (hr i hi j hj)⟩⟩
theorem zbj.load {w w':World}{a:OA}{ms:List Pu}(h:zbj w a ms)(hl:Bw w w')(i:Nat)(hi:i<ms.length):∃b off,a=some (aD b off)/\b<w.heap.size /\
 w'.cell? (aD b (off+i*5))=some (.s ms[i].dr)/\w'.cell? (aD b (off+i*5+1))=some (.s ms[i].tm)/\w'.cell? (aD b (off+i*5+2))=some (.s ms[i].rs)/\w'.cell? (aD b (off+i*5+3))=some (.i ms[i].am)/\w'.cell? (aD b (off+i*5+4))=some (.i ms[i].un):=by
 obtain⟨b,off,ha,hb,hr⟩:=h.rows (by rintro rfl;simp at hi);have hc:∀j,j<5->w'.cell? (aD b (off+i*5+j))=ms[i].cells[j]?:=fun j hj=>(hl.cell (p:=(aD b (off+i*5+j))) hb).trans (hr i hi j hj)
 exact⟨b,off,ha,hb,hc 0 (by omega),hc 1 (by omega),hc 2 (by omega),hc 3 (by omega),hc 4 (by omega)⟩
def Pu.sz (m:Pu):Nat:=m.dr.size+m.tm.size+m.rs.size
def zeD (ms:List Pu):Nat:=(ms.map Pu.sz).sum
def zc6 (ms:List Pu):Nat:=ms.length+zeD ms
theorem zex (m:Pu)(left:Int)(w:World)(hm:m.Small)(h0:0<=left)(h1:left<=1048576) :
 Calls Tryz.prog 62 #[.agg m.cells,.i left] w fun e w'=>e=.returned (.i (zL m.sz left))/\Bw w w':=by
 have k0:=hm.dr;have k1:=hm.tm;have k2:=hm.rs;unfold maxLen at k0 k1 k2;unfold Pu.cells;have hB:∀ob,Bw w (w.alloc ob):=fun ob=>bAl _ _
 by_cases hf:(m.sz:Int)<=left
 ·have HF:Hid (zL m.sz left=left-m.dr.size-m.tm.size-m.rs.size):=by
   unfold Hid;rw[zM hf];unfold Pu.sz;omega
  unfold Pu.sz at hf;go_enter Tryz.func62,Tryz.ntmps62;go_wp2_with fail
  go_ret;exact⟨zo HF.o.symm,hB _⟩
 ·have HF:Hid (zL m.sz left=-1):=zC hf
  have HN:Hid (¬((m.dr.size+m.tm.size+m.rs.size:Nat):Int)<=left):=hf;clear hf;go_enter Tryz.func62,Tryz.ntmps62;go_wp2_with fail
  all_goals go_ret
  all_goals first|exact⟨zo HF.o.symm,hB _⟩|(exfalso;have:=HN.o;simp at *;omega)
theorem ziy (m:Pu)(left:Int)(w:World)(hm:m.Small)(h0:0<=left)(h1:left<=1048576)(h:(m.sz:Int)<=left) :
 Calls Tryz.prog 62 #[.agg m.cells,.i left] w fun e w'=>e=.returned (.i (left-m.sz))/\Bw w w':=by
 refine(zex m left w hm h0 h1).mono ?_;rintro e w'⟨rfl,hb⟩;exact⟨zo (zM h),hb⟩
theorem zji (m:Pu)(left:Int)(w:World)(hm:m.Small)(h0:0<=left)(h1:left<=1048576)(h:¬(m.sz:Int)<=left) :
 Calls Tryz.prog 62 #[.agg m.cells,.i left] w fun e w'=>e=.returned (.i (-1))/\Bw w w':=by
 refine(zex m left w hm h0 h1).mono ?_;rintro e w'⟨rfl,hb⟩;exact⟨zo (zC h),hb⟩
theorem zg7 (a:OA)(cap:Nat)(ms:List Pu)(left:Int)(w:World)(hw:zbj w a ms)(h0:0<=left)(h1:left<=1048576) :
 Calls Tryz.prog 21 #[.l a ms.length cap,.i left] w fun e w'=>e=.returned (.i (zL (zc6 ms) left))/\Bw w w':=by
 have hl:=hw.len;unfold maxLen at hl
 by_cases hfit:(ms.length:Int)<=left
 ·go_enter Tryz.func21,Tryz.ntmps21
  go_wp2_with fail
  go_loopw [1,5] (fun l i wr=>∃k:Nat,k<=ms.length/\i=.i k/\0<=left-ms.length-zeD (ms.take k)/\l=.i (left-ms.length-zeD (ms.take k))/\Bw w wr) (fun _ i _=>ms.length-(intOf i).toNat)
  case atStart=>exact⟨0,Nat.zero_le _,rfl,by simp[zeD];omega,by simp[zeD],bRf _ _⟩
  case round=>
   obtain⟨k,hk,rfl,hpos,rfl,hB⟩:=hrel
   by_cases hlt:k<ms.length
   ·obtain⟨b,off,rfl,hb,c0,c1,c2,c3,c4⟩:=hw.load hB k hlt
    have hsm:=hw.small k hlt;have HS:Hid (zeD (ms.take (k+1))=zeD (ms.take k)+ms[k].sz):=za5 Pu.sz ms k hlt;have hle:zeD (ms.take (k+1))<=zeD ms:=zcI Pu.sz ms (k+1);clear hw
    by_cases hneg:(ms[k].sz:Int)<=left-ms.length-zeD (ms.take k)
    ·have HNG:Hid ((ms[k].sz:Int)<=left-ms.length-zeD (ms.take k)):=hneg
     clear hle;go_wp2_with fail
     refine(ziy _ _ _ hsm hpos (by omega) HNG.o).mono ?_;rintro e w1⟨rfl,hb1⟩;have hB1:=hB.trans (hb1.mono hB.size);clear hb1;go_wp2_with fail
     exact⟨⟨k+1,by omega,by go_num,by rw[HS.o];omega,by rw[HS.o];congr 1;omega,hB1⟩,by simp[intOf];omega⟩
    ·have HF:Hid (zL (zc6 ms) left=-1):=zC (by have:=HS.o;unfold zc6;omega)
     have HNG:=hid hneg;clear hneg hle;go_wp2_with fail
     refine(zji _ _ _ hsm hpos (by omega) (by have:=HNG.o;omega)).mono ?_;rintro e w1⟨rfl,hb1⟩;have hB1:=hB.trans (hb1.mono hB.size);clear hb1;go_wp2_with fail
     go_ret;exact⟨zo HF.o.symm,hB1⟩
   ·have HF:Hid (zL (zc6 ms) left=left-ms.length-zeD (ms.take k)):=by
     rw[tOl (by omega)]at hpos ⊢;have e:zL (zc6 ms) left=left-zc6 ms:=zM (by unfold zc6;omega);unfold Hid;rw[e];unfold zc6;omega
    clear hw
    go_wp2
    go_ret;exact⟨zo HF.o.symm,hB⟩
 ·have HF:Hid (zL (zc6 ms) left=-1):=zC (by unfold zc6;omega)
  clear hw;go_enter Tryz.func21,Tryz.ntmps21
  go_wp2
  go_ret;exact⟨zo HF.o.symm,bRf _ _⟩
theorem zi0 (m:Pu)(w:World):Calls Tryz.prog 92 #[.agg m.cells,.agg m.cells] w fun e w'=>e=.returned (.bool true)/\Bw w w':=by
 unfold Pu.cells;have hn3:(m.am != m.am)=false:=by simp
 have hn4:(m.un != m.un)=false:=by simp
 go_enter Tryz.func92,Tryz.ntmps92;go_wp2_with fail
 go_ret;exact⟨rfl,zw _ _ _⟩
theorem zhA (a a':OA)(cap cap':Nat)(ms:List Pu)(w:World)(hw:zbj w a ms)(hw':zbj w a' ms) :
 Calls Tryz.prog 41 #[.l a ms.length cap,.l a' ms.length cap'] w fun e w'=>e=.returned (.bool true)/\Bw w w':=by
 have hl:=hw.len;unfold maxLen at hl;have hnn:((ms.length:Int) != ms.length)=false:=by simp
 go_enter Tryz.func41,Tryz.ntmps41;go_wp2_with fail
 go_loopw [5] (fun i wr=>∃k:Nat,k<=ms.length/\i=.i k/\Bw w wr) (fun i _=>ms.length-(intOf i).toNat)
 case atStart=>exact⟨0,Nat.zero_le _,rfl,bRf _ _⟩
 case round=>
  obtain⟨k,hk,rfl,hB⟩:=hrel
  by_cases hlt:k<ms.length
  ·obtain⟨b,off,rfl,hb,c0,c1,c2,c3,c4⟩:=hw.load hB k hlt
   obtain⟨b',off',rfl,hb',d0,d1,d2,d3,d4⟩:=hw'.load hB k hlt;have hltI:(k:Int)<(ms.length:Int):=by omega
   clear hw hw';go_wp2_with fail
   go_region_with (go_at_call 92;refine(zi0 ms[k] _).mono ?_;rintro e w1⟨rfl,hb1'⟩;have hb1:=(bRf wr.heap.size wr).drew.trans hb1';clear hb1')
   all_goals go_wp2_with fail
   all_goals exact⟨⟨k+1,by omega,by go_num,hB.trans (hb1.mono hB.size)⟩,by simp[intOf];omega⟩
  ·clear hw hw'
   go_wp2_with fail
   go_ret;exact⟨rfl,hB⟩
structure j6 (lo:Nat)(w:World)(bo:Nat)(ms:List Pu)(k:Nat):Prop where
 low:lo<=bo
 rows:∃C,w.heap[bo]?=some (.cells C 79)/\C.size=ms.length*5/\∀i (h:i<ms.length),i<k->∀j,j<5->C[i*5+j]?=ms[i].cells[j]?
theorem j6.at {lo:Nat}{w:World}{bo:Nat}{ms:List Pu}(h:j6 lo w bo ms ms.length)(hs:∀i (h:i<ms.length),ms[i].Small)(hl:ms.length<=maxLen):zbj w (some (aD bo 0)) ms:=by
 obtain⟨C,hC,hsz,hr⟩:=h.rows;refine⟨hl,hs,fun _=>⟨bo,0,rfl,(gES hC).1,fun i hi j hj=>?_⟩⟩;rw[cell_of_block hC,Nat.zero_add];exact hr i hi hi j hj
theorem j6.later {lo:Nat}{w w':World}{bo:Nat}{ms:List Pu}{k:Nat}(h:j6 lo w bo ms k)(hb:Bw w w'):j6 lo w' bo ms k:=by
 obtain⟨C,hC,hsz,hr⟩:=h.rows;exact⟨h.low,C,(hb.block bo (gES hC).1).trans hC,hsz,hr⟩
theorem j6.above {lo:Nat}{w w':World}{bo:Nat}{ms:List Pu}{k:Nat}(h:j6 lo w bo ms k)(ha:yL lo w w'):j6 lo w' bo ms k:=by
 obtain⟨C,hC,hr⟩:=h.rows;exact⟨h.low,C,(ha.same _ h.low (gES hC).1).trans hC,hr⟩
theorem j6.weaken {lo lo':Nat}{w:World}{bo:Nat}{ms:List Pu}{k:Nat}(h:j6 lo w bo ms k)(hl:lo'<=lo):j6 lo' w bo ms k:=⟨Nat.le_trans hl h.low,h.rows⟩
def zqn (w:World)(b o:Nat)(v0 v1 v2 v3 v4:Value):World:=(((((w.setCell (aD b o) v0).setCell (aD b (o+1)) v1).setCell (aD b (o+2)) v2).setCell (aD b (o+3)) v3).setCell (aD b (o+4)) v4)
def zj9 (C:AV)(o:Nat)(v0 v1 v2 v3 v4:Value):AV:=(((((C.setIfInBounds (o) v0).setIfInBounds (o+1) v1).setIfInBounds (o+2) v2).setIfInBounds (o+3) v3).setIfInBounds (o+4) v4)
theorem zmq {w:World}{b o:Nat}{C:AV}{t:TypeId}(h:w.heap[b]?=some (.cells C t))(v0 v1 v2 v3 v4:Value):(zqn w b o v0 v1 v2 v3 v4).heap[b]?=some (.cells (zj9 C o v0 v1 v2 v3 v4) t):=
 zi (zi (zi (zi (zi h v0) v1) v2) v3) v4
theorem zmM {B:Nat}{a w:World}(h:Below B a w){b:Nat}(hb:B<=b)(o:Nat)(v0 v1 v2 v3 v4:Value):Below B a (zqn w b o v0 v1 v2 v3 v4):=
 ((((h.setCell hb v0).setCell hb v1).setCell hb v2).setCell hb v3).setCell hb v4
theorem zov (C:AV)(o:Nat)(v0 v1 v2 v3 v4:Value):(zj9 C o v0 v1 v2 v3 v4).size=C.size:=by simp[zj9]
theorem zph (C:AV)(o i:Nat)(v0 v1 v2 v3 v4:Value)(h:i<o \/ o+5<=i):(zj9 C o v0 v1 v2 v3 v4)[i]?=C[i]?:=by
 unfold zj9
 iterate 5 rw[Array.getElem?_setIfInBounds,if_neg (by omega)]
theorem zqz (C:AV)(o j:Nat)(v0 v1 v2 v3 v4:Value)(hj:j<5)(ho:o+5<=C.size):(zj9 C o v0 v1 v2 v3 v4)[o+j]?=(#[v0,v1,v2,v3,v4]:AV)[j]?:=by
 have hc:j=0 \/ j=1 \/ j=2 \/ j=3 \/ j=4:=by omega
 unfold zj9
 rcases hc with h|h|h|h|h <;> subst h <;> simp[Array.getElem?_setIfInBounds] <;> omega
theorem j6.put {lo:Nat}{w:World}{bo:Nat}{ms:List Pu}{k:Nat}(h:j6 lo w bo ms k)(hk:k<ms.length) :
 j6 lo (zqn w bo (k*5) (.s ms[k].dr) (.s ms[k].tm) (.s ms[k].rs) (.i ms[k].am) (.i ms[k].un)) bo ms (k+1):=by
 obtain⟨C,hC,hsz,hr⟩:=h.rows;refine⟨h.low,_,zmq hC _ _ _ _ _,by rw[zov];exact hsz,fun i hi hik j hj=>?_⟩
 rcases Nat.lt_or_ge i k with hlt|hge
 ·rw[zph _ _ _ _ _ _ _ _ (by omega)]
  exact hr i hi hlt j hj
 ·have e:i=k:=by omega
  subst e;rw[zqz _ _ _ _ _ _ _ _ hj (by omega)]
  rfl
theorem ziU (m:Pu)(w:World) :
 Calls Tryz.prog 78 #[.agg m.cells] w fun e w'=>e=.returned (.agg m.cells)/\Bw w w':=by
 unfold Pu.cells;go_enter Tryz.func78,Tryz.ntmps78;go_wp2_with fail
 refine bodyPost_ret (v:=.agg #[.s m.dr,.s m.tm,.s m.rs,.i m.am,.i m.un]) (by simp[results,Tryz.results78,go_sem]) rfl ⟨rfl,?_⟩;exact(((bAl _ _).alloc (by simp) _).alloc (by simp;omega) _)
def zqp:AV:=#[.s ByteArray.empty,.s ByteArray.empty,.s ByteArray.empty,.i 0,.i 0]
def zo0 (n:Nat):AV:=madeCells zqp (n*5)
theorem zhB (a:OA)(cap:Nat)(ms:List Pu)(w:World)(hw:zbj w a ms)(hl:ms.length<=1048576) :
 Calls Tryz.prog 32 #[.l a ms.length cap] w fun e w'=>e=.returned (.l (some (aD w.heap.size 0)) ms.length ms.length)/\j6 w.heap.size w' w.heap.size ms ms.length/\Bw w w':=by
 have hmk:∀w:World,(Instr.makeSlice 38 (.i ms.length) (.i ms.length)).run Tryz.prog w=.ok (.l (some (aD w.heap.size 0)) ms.length ms.length) (w.alloc (.cells (zo0 ms.length) 79)):=
  fun w=>jy (P:=Tryz.prog) 38 79 (.agg zqp) 5 64 Tryz.underlying38 (by kernel_rfl) ms.length (by omega) (by omega) w
 go_enter Tryz.func32,Tryz.ntmps32;go_wp2_with fail
 clear hmk
 go_loopw [4] (fun i wr=>∃k:Nat,k<=ms.length/\i=.i k/\j6 w.heap.size wr w.heap.size ms k/\Bw w wr) (fun i _=>ms.length-(intOf i).toNat)
 case atStart=>exact⟨0,Nat.zero_le _,rfl,⟨Nat.le_refl _,zo0 ms.length,(MapKept.heap_alloc w _).1,size_madeCells _ _,fun i _ h=>absurd h (by omega)⟩,bAl _ _⟩
 case round=>
  obtain⟨k,hk,rfl,hown,hB⟩:=hrel
  by_cases hlt:k<ms.length
  ·obtain⟨b,off,rfl,hb,c0,c1,c2,c3,c4⟩:=hw.load hB k hlt
   have hltI:(k:Int)<(ms.length:Int):=by omega
   clear hw;go_wp2_with fail
   refine(ziU ms[k] _).mono ?_;rintro e w1⟨rfl,hb1⟩;have hB1:=hB.trans (hb1.mono hB.size);have hown1:=hown.later hb1
   have hbo:w.heap.size<wr.heap.size:=by
    obtain⟨C',hC',_⟩:=hown.rows;exact(gES hC').1
   obtain⟨C,hC,hsz,_⟩:=hown1.rows;have hfz:∀o,w1.frozen? (aD w.heap.size o)=false:=fun o=>zh hC
   have hex:∀o,o<ms.length*5->∃v,w1.cell? (aD w.heap.size o)=some v:=fun o ho=>⟨C[o]'(by omega),by rw[cell_of_block hC];exact Array.getElem?_eq_getElem (by omega)⟩
   obtain⟨v0,hv0⟩:=hex (k*5) (by omega);obtain⟨v1,hv1⟩:=hex (k*5+1) (by omega);obtain⟨v2,hv2⟩:=hex (k*5+2) (by omega);obtain⟨v3,hv3⟩:=hex (k*5+3) (by omega);obtain⟨v4,hv4⟩:=hex (k*5+4) (by omega);have HP:=hid hown1;clear hex hC hsz c0 c1 c2 c3 c4 hown hown1;unfold Pu.cells;go_wp2_with fail
   exact⟨⟨k+1,by omega,by go_num,HP.o.put hlt,zmM hB1 (Nat.le_refl _) _ _ _ _ _ _⟩,by simp[intOf];omega⟩
  ·have HF:Hid (j6 w.heap.size wr w.heap.size ms ms.length):=by
    have e:k=ms.length:=by omega
    subst e;exact hown
   clear hw hown;go_wp2_with fail
   go_ret;exact⟨rfl,HF.o,hB⟩
structure Gr where
 no:Int
 to:BA
 gb:BA
 r:Rl
def Gr.cells (g:Gr)(a0:OA)(c0:Nat):AV:=#[.i g.no,.s g.to,.s g.gb,.l a0 g.r.vs.length c0,.s g.r.kd,.s g.r.tm,.s g.r.px]
structure Gr.Small (g:Gr):Prop where
 to:g.to.size<=maxLen
 gb:g.gb.size<=maxLen
 r:g.r.Small
def Gr.sz (g:Gr):Nat:=g.to.size+g.gb.size+g.r.sz
theorem Gr.zoa {g:Gr}(h:(g.sz:Int)<=1048576):g.r.vs.length<=1048576:=by unfold Gr.sz Rl.sz at h;omega
theorem zey (g:Gr)(a0:OA)(c0:Nat)(left:Int)(w:World)(hm:g.Small)(hi:y9 w a0 g.r.vs)(h0:0<=left)(h1:left<=1048576) :
 Calls Tryz.prog 60 #[.agg (g.cells a0 c0),.i left] w fun e w'=>e=.returned (.i (zL g.sz left))/\Bw w w':=by
 have k1:=hm.to;have k2:=hm.gb;have HM:=qw hm.r hi.len;unfold maxLen at k1 k2;clear hm hi;unfold Gr.cells;have hB:∀ob,Bw w (w.alloc ob):=fun ob=>bAl _ _
 by_cases c1:(g.to.size:Int)<=left
 rotate_left
 ·have HF:Hid (zL g.sz left=-1):=zC (by unfold Gr.sz;omega)
  go_enter Tryz.func60,Tryz.ntmps60;go_wp2_with fail
  go_ret;exact⟨zo HF.o.symm,hB _⟩
 by_cases c2:(g.gb.size:Int)<=left-g.to.size
 rotate_left
 ·have HF:Hid (zL g.sz left=-1):=zC (by unfold Gr.sz;omega)
  go_enter Tryz.func60,Tryz.ntmps60;go_wp2_with fail
  go_ret;exact⟨zo HF.o.symm,hB _⟩
 by_cases c3:(g.r.sz:Int)<=left-g.to.size-g.gb.size
 ·have HF:Hid (zL g.sz left=left-g.to.size-g.gb.size-g.r.sz):=by
   unfold Hid;rw[zM (by unfold Gr.sz;omega)];unfold Gr.sz;omega
  go_enter Tryz.func60,Tryz.ntmps60;go_wp2_with fail
  refine(zfc g.r a0 c0 _ _ HM.o.1 HM.o.2 (by omega) (by omega)).mono ?_;rintro e w1⟨rfl,hb⟩;rw[zM c3];have hB1:=(hB _).trans (hb.mono (by simp));clear hb;go_wp2_with fail
  go_ret;exact⟨zo HF.o.symm,hB1⟩
 ·have HF:Hid (zL g.sz left=-1):=zC (by unfold Gr.sz;omega)
  have HC:=hid c3;clear c3;go_enter Tryz.func60,Tryz.ntmps60;go_wp2_with fail
  refine(zfc g.r a0 c0 _ _ HM.o.1 HM.o.2 (by omega) (by omega)).mono ?_;rintro e w1⟨rfl,hb⟩;rw[zC (by have:=HC.o;omega)];have hB1:=(hB _).trans (hb.mono (by simp));clear hb;go_wp2_with fail
  go_ret;exact⟨zo HF.o.symm,hB1⟩
theorem ziA (g:Gr)(a0:OA)(c0:Nat)(a0':OA)(c0':Nat)(w:World)(_hm:g.Small)(hi:y9 w a0 g.r.vs)(hi':y9 w a0' g.r.vs) :
 Calls Tryz.prog 90 #[.agg (g.cells a0 c0),.agg (g.cells a0' c0')] w fun e w'=>e=.returned (.bool true)/\Bw w w':=by
 have hn:(g.no != g.no)=false:=by simp
 unfold Gr.cells;go_enter Tryz.func90,Tryz.ntmps90;go_wp2_with fail
 refine(zkj g.r _ _ _ _ _ (hi.mono (zw _ _ _)) (hi'.mono (zw _ _ _))).mono ?_;rintro e w1⟨rfl,hb⟩;have hB1:=(zw w _ _).trans (hb.mono (by simp;omega));clear hb;go_wp2_with fail
 go_ret;exact⟨rfl,hB1⟩
theorem ziN (g:Gr)(a0:OA)(c0:Nat)(w:World)(_hm:g.Small)(hi:y9 w a0 g.r.vs)(hl:g.r.vs.length<=1048576) :
 Calls Tryz.prog 76 #[.agg (g.cells a0 c0)] w fun e w'=>∃g0,e=.returned (.agg (g.cells (some (aD g0 0)) g.r.vs.length))/\w.heap.size<=g0/\w'.heap[g0]?=some (.cells (zbQ g.r.vs) 3)/\Bw w w':=by
 unfold Gr.cells;go_enter Tryz.func76,Tryz.ntmps76;go_wp2_with fail
 have k0:=zmR w (.cells #[.i g.no,.s g.to,.s g.gb,.l a0 g.r.vs.length c0,.s g.r.kd,.s g.r.tm,.s g.r.px] 114) (.cells #[.i 0,.s ByteArray.empty,.s ByteArray.empty,.l none 0 0,.s ByteArray.empty,.s ByteArray.empty,.s ByteArray.empty] 127) (.cells #[.i g.no,.s g.to,.s g.gb,.l none 0 0,.s ByteArray.empty,.s ByteArray.empty,.s ByteArray.empty] 127);have hB0:=below3' w (.cells #[.i g.no,.s g.to,.s g.gb,.l a0 g.r.vs.length c0,.s g.r.kd,.s g.r.tm,.s g.r.px] 114) (.cells #[.i 0,.s ByteArray.empty,.s ByteArray.empty,.l none 0 0,.s ByteArray.empty,.s ByteArray.empty,.s ByteArray.empty] 127) (.cells #[.i g.no,.s g.to,.s g.gb,.l none 0 0,.s ByteArray.empty,.s ByteArray.empty,.s ByteArray.empty] 127);refine(zjs g.r a0 c0 _ (hi.mono (below3' _ _ _ _)) hl).mono ?_;rintro e w1⟨bk,rfl,hlo,hhi,hbk,hb⟩;have hlo':w.heap.size+1+1+1<=bk:=by simpa using hlo
 have hR1:=(hb.block _ (by simp)).trans k0.2.1;have hO1:=(hb.block _ (by simp)).trans k0.2.2;have hB1:=hB0.trans (hb.mono (by simp;omega));have HK:=hid hbk;have cR:=fun j=>cell_of_block (o:=j) hR1
 have fR:=fun j=>zh (o:=j) hR1
 have cO:=fun j=>cell_of_block (o:=j) hO1
 have fO:=fun j=>zh (o:=j) hO1
 have hz1:=(gES hO1).1;clear hb hbk k0 hB0 hlo hR1 hO1;unfold Rl.cells;go_wp2_with fail
 refine bodyPost_ret (v:=.agg #[.i g.no,.s g.to,.s g.gb,.l (some (aD bk 0)) g.r.vs.length g.r.vs.length,.s g.r.kd,.s g.r.tm,.s g.r.px]) (by simp[results,Tryz.results76,go_sem,cR]) rfl ⟨bk,rfl,by omega,?_,?_⟩
 ·have h1:bk≠w.heap.size+1:=by omega
  have h2:bk≠w.heap.size+1+1:=by omega
  exact(zG h1).trans ((zG h1).trans ((zG h1).trans ((zG h1).trans ((zG h1).trans ((zG h1).trans ((zG h1).trans ((zG h2).trans ((zG h2).trans ((zG h2).trans ((zG h2).trans HK.o))))))))))
 ·have h3:w.heap.size<=w.heap.size+1:=by omega
  have h4:w.heap.size<=w.heap.size+1+1:=by omega
  exact((((((((((hB1.setCell h4 _).setCell h4 _).setCell h4 _).setCell h4 _).setCell h3 _).setCell h3 _).setCell h3 _).setCell h3 _).setCell h3 _).setCell h3 _).setCell h3 _
structure zp4 (w:World)(b off:Nat)(x:Gr)(a0:OA)(c0:Nat):Prop where
 small:x.Small
 l0:y9 w a0 x.r.vs
 cell:∀j,j<7->w.cell? (aD b (off+j))=(Gr.cells x a0 c0)[j]?
structure zce (w:World)(a:OA)(ms:List Gr):Prop where
 len:ms.length<=maxLen
 rows:ms≠[]->∃b off,a=some (aD b off)/\b<w.heap.size/\∀i (h:i<ms.length),∃a0 c0,zp4 w b (off+i*7) ms[i] a0 c0
theorem zp4.mono {w w':World}{b off:Nat}{x:Gr}{a0:OA}{c0:Nat}(h:zp4 w b off x a0 c0)(hb:b<w.heap.size)(hl:Bw w w'):zp4 w' b off x a0 c0:=
 ⟨h.small,h.l0.mono hl,fun j hj=>(hl.cell (p:=(aD b (off+j))) hb).trans (h.cell j hj)⟩
theorem zce.mono {w w':World}{a:OA}{ms:List Gr}(h:zce w a ms)(hl:Bw w w'):zce w' a ms:=
 ⟨h.len,fun hne=>by
  obtain⟨b,off,ha,hb,hr⟩:=h.rows hne;refine⟨b,off,ha,nLt hb hl.size,fun i hi=>?_⟩;obtain⟨a0,c0,hf⟩:=hr i hi;exact⟨a0,c0,hf.mono hb hl⟩⟩
theorem zce.load {w w':World}{a:OA}{ms:List Gr}(h:zce w a ms)(hl:Bw w w')(i:Nat)(hi:i<ms.length):∃b off a0 c0,a=some (aD b off)/\b<w.heap.size/\ms[i].Small/\y9 w' a0 ms[i].r.vs /\
 w'.cell? (aD b (off+i*7))=some (.i ms[i].no)/\w'.cell? (aD b (off+i*7+1))=some (.s ms[i].to)/\w'.cell? (aD b (off+i*7+2))=some (.s ms[i].gb)/\w'.cell? (aD b (off+i*7+3))=some (.l a0 ms[i].r.vs.length c0)/\w'.cell? (aD b (off+i*7+4))=some (.s ms[i].r.kd)/\w'.cell? (aD b (off+i*7+5))=some (.s ms[i].r.tm)/\w'.cell? (aD b (off+i*7+6))=some (.s ms[i].r.px):=by
 obtain⟨b,off,ha,hb,hr⟩:=h.rows (by rintro rfl;simp at hi);obtain⟨a0,c0,hf0⟩:=hr i hi;have hf:=hf0.mono hb hl;exact⟨b,off,a0,c0,ha,hb,hf.small,hf.l0,hf.cell 0 (by omega),hf.cell 1 (by omega),hf.cell 2 (by omega),hf.cell 3 (by omega),hf.cell 4 (by omega),hf.cell 5 (by omega),hf.cell 6 (by omega)⟩
def zdH (ms:List Gr):Nat:=(ms.map Gr.sz).sum
def zch (ms:List Gr):Nat:=ms.length+zdH ms
structure zgO (ms:List Gr):Prop where
 small:∀i (h:i<ms.length),ms[i].Small/\ms[i].r.vs.length<=maxLen
theorem zce.smalls {w:World}{a:OA}{ms:List Gr}(h:zce w a ms):zgO ms:=
 ⟨fun i hi=>by
  obtain⟨b,off,_,_,hr⟩:=h.rows (by rintro rfl;simp at hi);obtain⟨a0,c0,hf⟩:=hr i hi;exact⟨hf.small,hf.l0.len⟩⟩
theorem zqZ {ms:List Gr}{left:Int}(h:(zch ms:Int)<=left)(hl:left<=1048576):ms.length<=1048576/\∀i (h:i<ms.length),ms[i].r.vs.length<=1048576:=by
 unfold zch at h;refine⟨by omega,fun i hi=>?_⟩;have h1:ms[i].sz<=zdH ms:=zi7 Gr.sz ms i hi;exact Gr.zoa (by omega)
theorem zhg (a:OA)(cap:Nat)(ms:List Gr)(left:Int)(w:World)(hw:zce w a ms)(h0:0<=left)(h1:left<=1048576) :
 Calls Tryz.prog 19 #[.l a ms.length cap,.i left] w fun e w'=>e=.returned (.i (zL (zch ms) left))/\Bw w w':=by
 have hl:=hw.len;unfold maxLen at hl
 by_cases hfit:(ms.length:Int)<=left
 ·go_enter Tryz.func19,Tryz.ntmps19
  go_wp2_with fail
  go_loopw [1,5] (fun l i wr=>∃k:Nat,k<=ms.length/\i=.i k/\0<=left-ms.length-zdH (ms.take k)/\l=.i (left-ms.length-zdH (ms.take k))/\Bw w wr) (fun _ i _=>ms.length-(intOf i).toNat)
  case atStart=>exact⟨0,Nat.zero_le _,rfl,by simp[zdH];omega,by simp[zdH],bRf _ _⟩
  case round=>
   obtain⟨k,hk,rfl,hpos,rfl,hB⟩:=hrel
   by_cases hlt:k<ms.length
   ·obtain⟨b,off,a0,c0,rfl,hb,hsm,hl0,d0,d1,d2,d3,d4,d5,d6⟩:=hw.load hB k hlt
    have hbr:=nLt hb hB.size;have HS:Hid (zdH (ms.take (k+1))=zdH (ms.take k)+ms[k].sz):=za5 Gr.sz ms k hlt;have hle:zdH (ms.take (k+1))<=zdH ms:=zcI Gr.sz ms (k+1);have HI:Hid (y9 wr a0 ms[k].r.vs):=hl0;clear hw hl0
    by_cases hneg:(ms[k].sz:Int)<=left-ms.length-zdH (ms.take k)
    ·have HNG:Hid ((ms[k].sz:Int)<=left-ms.length-zdH (ms.take k)):=hneg
     clear hle;go_wp2_with fail
     refine(zey ms[k] a0 c0 _ _ hsm HI.o hpos (by omega)).mono ?_;rintro e w1⟨rfl,hb1⟩;rw[zM HNG.o];have hB1:=hB.trans (hb1.mono hB.size);clear hb1;go_wp2_with fail
     exact⟨⟨k+1,by omega,by go_num,by rw[HS.o];omega,by rw[HS.o];congr 1;omega,hB1⟩,by simp[intOf];omega⟩
    ·have HF:Hid (zL (zch ms) left=-1):=zC (by have:=HS.o;unfold zch;omega)
     have HNG:=hid hneg;clear hneg hle;go_wp2_with fail
     refine(zey ms[k] a0 c0 _ _ hsm HI.o hpos (by omega)).mono ?_;rintro e w1⟨rfl,hb1⟩;rw[zC (by have:=HNG.o;omega)];have hB1:=hB.trans (hb1.mono hB.size);clear hb1;go_wp2_with fail
     go_ret;exact⟨zo HF.o.symm,hB1⟩
   ·have HF:Hid (zL (zch ms) left=left-ms.length-zdH (ms.take k)):=by
     rw[tOl (by omega)]at hpos ⊢;have e:zL (zch ms) left=left-zch ms:=zM (by unfold zch;omega);unfold Hid;rw[e];unfold zch;omega
    clear hw
    go_wp2
    go_ret;exact⟨zo HF.o.symm,hB⟩
 ·have HF:Hid (zL (zch ms) left=-1):=zC (by unfold zch;omega)
  clear hw;go_enter Tryz.func19,Tryz.ntmps19
  go_wp2
  go_ret;exact⟨zo HF.o.symm,bRf _ _⟩
theorem zho (a a':OA)(cap cap':Nat)(ms:List Gr)(w:World)(hw:zce w a ms)(hw':zce w a' ms) :
 Calls Tryz.prog 39 #[.l a ms.length cap,.l a' ms.length cap'] w fun e w'=>e=.returned (.bool true)/\Bw w w':=by
 have hl:=hw.len;unfold maxLen at hl;have hnn:((ms.length:Int) != ms.length)=false:=by simp
 go_enter Tryz.func39,Tryz.ntmps39;go_wp2_with fail
 go_loopw [5] (fun i wr=>∃k:Nat,k<=ms.length/\i=.i k/\Bw w wr) (fun i _=>ms.length-(intOf i).toNat)
 case atStart=>exact⟨0,Nat.zero_le _,rfl,bRf _ _⟩
 case round=>
  obtain⟨k,hk,rfl,hB⟩:=hrel
  by_cases hlt:k<ms.length
  ·obtain⟨b,off,a0,c0,rfl,hb,hsm,hl0,d0,d1,d2,d3,d4,d5,d6⟩:=hw.load hB k hlt
   obtain⟨b',off',a0',c0',rfl,hb',_,hl0',f0,f1,f2,f3,f4,f5,f6⟩:=hw'.load hB k hlt;have hltI:(k:Int)<(ms.length:Int):=by omega
   clear hw hw';go_wp2_with fail
   go_region_with (go_at_call 90;refine(ziA ms[k] a0 c0 a0' c0' _ hsm (by exact hl0.mono ((bRf _ _).drew)) (by exact hl0'.mono ((bRf _ _).drew))).mono ?_;rintro e w1⟨rfl,hb1'⟩;have hb1:=(bRf wr.heap.size wr).drew.trans hb1';clear hb1')
   all_goals go_wp2_with fail
   all_goals exact⟨⟨k+1,by omega,by go_num,hB.trans (hb1.mono hB.size)⟩,by simp[intOf];omega⟩
  ·clear hw hw'
   go_wp2_with fail
   go_ret;exact⟨rfl,hB⟩
structure jZ (lo:Nat)(w:World)(bo:Nat)(ms:List Gr)(k:Nat):Prop where
 low:lo<=bo
 rows:∃C,w.heap[bo]?=some (.cells C 127)/\C.size=ms.length*7 /\
  ∀i (h:i<ms.length),i<k->∃g0,lo<=g0/\g0≠bo/\w.heap[g0]?=some (.cells (zbQ ms[i].r.vs) 3)/\∀j,j<7->C[i*7+j]?=(Gr.cells ms[i] (some (aD g0 0)) ms[i].r.vs.length)[j]?
theorem jZ.at {lo:Nat}{w:World}{bo:Nat}{ms:List Gr}(h:jZ lo w bo ms ms.length)(hs:zgO ms)(hl:ms.length<=maxLen):zce w (some (aD bo 0)) ms:=by
 obtain⟨C,hC,hsz,hr⟩:=h.rows;refine⟨hl,fun _=>⟨bo,0,rfl,(gES hC).1,fun i hi=>?_⟩⟩;obtain⟨g0,_,_,hk0,hc⟩:=hr i hi hi;obtain⟨s0,s1⟩:=hs.small i hi;refine⟨some (aD g0 0),ms[i].r.vs.length,s0,zhe hk0 s1,fun j hj=>?_⟩;rw[cell_of_block hC,Nat.zero_add];exact hc j hj
theorem jZ.above {lo:Nat}{w w':World}{bo:Nat}{ms:List Gr}{k:Nat}(h:jZ lo w bo ms k)(ha:yL lo w w'):jZ lo w' bo ms k:=by
 obtain⟨C,hC,hsz,hr⟩:=h.rows;refine⟨h.low,C,(ha.same _ h.low (gES hC).1).trans hC,hsz,fun i hi hk=>?_⟩;obtain⟨g0,p0,q0,r0,hc⟩:=hr i hi hk;exact⟨g0,p0,q0,(ha.same _ p0 (gES r0).1).trans r0,hc⟩
theorem jZ.later {lo:Nat}{w w':World}{bo:Nat}{ms:List Gr}{k:Nat}(h:jZ lo w bo ms k)(hb:Bw w w'):jZ lo w' bo ms k:=h.above (yL.below hb)
theorem jZ.weaken {lo lo':Nat}{w:World}{bo:Nat}{ms:List Gr}{k:Nat}(h:jZ lo w bo ms k)(hl:lo'<=lo):jZ lo' w bo ms k:=by
 obtain⟨C,hC,hsz,hr⟩:=h.rows;refine⟨Nat.le_trans hl h.low,C,hC,hsz,fun i hi hk=>?_⟩;obtain⟨g0,p0,q0,r0,hc⟩:=hr i hi hk;exact⟨g0,Nat.le_trans hl p0,q0,r0,hc⟩
def znr (w:World)(b o:Nat)(v0 v1 v2 v3 v4 v5 v6:Value):World:=(((((((w.setCell (aD b o) v0).setCell (aD b (o+1)) v1).setCell (aD b (o+2)) v2).setCell (aD b (o+3)) v3).setCell (aD b (o+4)) v4).setCell (aD b (o+5)) v5).setCell (aD b (o+6)) v6)
def zjQ (C:AV)(o:Nat)(v0 v1 v2 v3 v4 v5 v6:Value):AV:=(((((((C.setIfInBounds (o) v0).setIfInBounds (o+1) v1).setIfInBounds (o+2) v2).setIfInBounds (o+3) v3).setIfInBounds (o+4) v4).setIfInBounds (o+5) v5).setIfInBounds (o+6) v6)
theorem zmz {w:World}{b o:Nat}{C:AV}{t:TypeId}(h:w.heap[b]?=some (.cells C t))(v0 v1 v2 v3 v4 v5 v6:Value):(znr w b o v0 v1 v2 v3 v4 v5 v6).heap[b]?=some (.cells (zjQ C o v0 v1 v2 v3 v4 v5 v6) t):=
 zi (zi (zi (zi (zi (zi (zi h v0) v1) v2) v3) v4) v5) v6
theorem zm0 {B:Nat}{a w:World}(h:Below B a w){b:Nat}(hb:B<=b)(o:Nat)(v0 v1 v2 v3 v4 v5 v6:Value):Below B a (znr w b o v0 v1 v2 v3 v4 v5 v6):=
 ((((((h.setCell hb v0).setCell hb v1).setCell hb v2).setCell hb v3).setCell hb v4).setCell hb v5).setCell hb v6
theorem zh7 (w:World)(b o:Nat)(v0 v1 v2 v3 v4 v5 v6:Value){b':Nat}(h:b'≠b):(znr w b o v0 v1 v2 v3 v4 v5 v6).heap[b']?=w.heap[b']?:=by
 unfold znr
 iterate 7 rw[zG h]
theorem zoz (C:AV)(o:Nat)(v0 v1 v2 v3 v4 v5 v6:Value):(zjQ C o v0 v1 v2 v3 v4 v5 v6).size=C.size:=by simp[zjQ]
theorem zpI (C:AV)(o i:Nat)(v0 v1 v2 v3 v4 v5 v6:Value)(h:i<o \/ o+7<=i):(zjQ C o v0 v1 v2 v3 v4 v5 v6)[i]?=C[i]?:=by
 unfold zjQ
 iterate 7 rw[Array.getElem?_setIfInBounds,if_neg (by omega)]
theorem zqh (C:AV)(o j:Nat)(v0 v1 v2 v3 v4 v5 v6:Value)(hj:j<7)(ho:o+7<=C.size):(zjQ C o v0 v1 v2 v3 v4 v5 v6)[o+j]?=(#[v0,v1,v2,v3,v4,v5,v6]:AV)[j]?:=by
 have hc:j=0 \/ j=1 \/ j=2 \/ j=3 \/ j=4 \/ j=5 \/ j=6:=by omega
 unfold zjQ
 rcases hc with h|h|h|h|h|h|h <;> subst h <;> simp[Array.getElem?_setIfInBounds] <;> omega
theorem jZ.put {lo:Nat}{w:World}{bo:Nat}{ms:List Gr}{k:Nat}(h:jZ lo w bo ms k)(hk:k<ms.length)(g0:Nat)(p0:lo<=g0)(q0:g0≠bo)(r0:w.heap[g0]?=some (.cells (zbQ ms[k].r.vs) 3)) :
 jZ lo (znr w bo (k*7) (.i ms[k].no) (.s ms[k].to) (.s ms[k].gb) (.l (some (aD g0 0)) ms[k].r.vs.length ms[k].r.vs.length) (.s ms[k].r.kd) (.s ms[k].r.tm) (.s ms[k].r.px)) bo ms (k+1):=by
 obtain⟨C,hC,hsz,hr⟩:=h.rows;refine⟨h.low,_,zmz hC _ _ _ _ _ _ _,by rw[zoz];exact hsz,fun i hi hik=>?_⟩
 rcases Nat.lt_or_ge i k with hlt|hge
 ·obtain⟨g0',x0,y0,z0,hc⟩:=hr i hi hlt
  refine⟨g0',x0,y0,(by rw[zh7 _ _ _ _ _ _ _ _ _ _ y0];exact z0),fun j hj=>?_⟩;rw[zpI _ _ _ _ _ _ _ _ _ _ (by omega)];exact hc j hj
 ·have e:i=k:=by omega
  subst e;refine⟨g0,p0,q0,(by rw[zh7 _ _ _ _ _ _ _ _ _ _ q0];exact r0),fun j hj=>?_⟩;rw[zqh _ _ _ _ _ _ _ _ _ _ hj (by omega)]
  rfl
def zqI:AV:=#[.i 0,.s ByteArray.empty,.s ByteArray.empty,.l none 0 0,.s ByteArray.empty,.s ByteArray.empty,.s ByteArray.empty]
def zo6 (n:Nat):AV:=madeCells zqI (n*7)
theorem zhq (a:OA)(cap:Nat)(ms:List Gr)(w:World)(hw:zce w a ms)(hl:ms.length<=1048576)(hls:∀i (h:i<ms.length),ms[i].r.vs.length<=1048576) :
 Calls Tryz.prog 30 #[.l a ms.length cap] w fun e w'=>e=.returned (.l (some (aD w.heap.size 0)) ms.length ms.length)/\jZ w.heap.size w' w.heap.size ms ms.length/\Bw w w':=by
 have hmk:∀w:World,(Instr.makeSlice 36 (.i ms.length) (.i ms.length)).run Tryz.prog w=.ok (.l (some (aD w.heap.size 0)) ms.length ms.length) (w.alloc (.cells (zo6 ms.length) 127)):=
  fun w=>jy (P:=Tryz.prog) 36 127 (.agg zqI) 7 112 Tryz.underlying36 (by kernel_rfl) ms.length (by omega) (by omega) w
 go_enter Tryz.func30,Tryz.ntmps30;go_wp2_with fail
 clear hmk
 go_loopw [4] (fun i wr=>∃k:Nat,k<=ms.length/\i=.i k/\Hid (jZ w.heap.size wr w.heap.size ms k)/\Bw w wr) (fun i _=>ms.length-(intOf i).toNat)
 case atStart=>exact⟨0,Nat.zero_le _,rfl,⟨Nat.le_refl _,zo6 ms.length,(MapKept.heap_alloc w _).1,size_madeCells _ _,fun i _ h=>absurd h (by omega)⟩,bAl _ _⟩
 case round=>
  obtain⟨k,hk,rfl,HOW,hB⟩:=hrel
  by_cases hlt:k<ms.length
  ·obtain⟨b,off,a0,c0,rfl,hb,hsm,hl0,d0,d1,d2,d3,d4,d5,d6⟩:=hw.load hB k hlt
   have HLS:=hid (hls k hlt);have hltI:(k:Int)<(ms.length:Int):=by omega
   clear hw;go_wp2_with fail
   refine(ziN ms[k] a0 c0 _ hsm hl0 HLS.o).mono ?_;rintro e w1⟨g0,rfl,p0,r0,hb1⟩;have hB1:=hB.trans (hb1.mono hB.size)
   have hbo:w.heap.size<wr.heap.size:=by
    obtain⟨C',hC',_⟩:=HOW.o.rows;exact(gES hC').1
   have HP:=hid (HOW.o.later hb1);obtain⟨C,hC,hsz,_⟩:=HP.o.rows;have hfz:∀o,w1.frozen? (aD w.heap.size o)=false:=fun o=>zh hC
   have hex:∀o,o<ms.length*7->∃v,w1.cell? (aD w.heap.size o)=some v:=fun o ho=>⟨C[o]'(by omega),by rw[cell_of_block hC];exact Array.getElem?_eq_getElem (by omega)⟩
   obtain⟨v0,hv0⟩:=hex (k*7) (by omega);obtain⟨v1,hv1⟩:=hex (k*7+1) (by omega);obtain⟨v2,hv2⟩:=hex (k*7+2) (by omega);obtain⟨v3,hv3⟩:=hex (k*7+3) (by omega);obtain⟨v4,hv4⟩:=hex (k*7+4) (by omega);obtain⟨v5,hv5⟩:=hex (k*7+5) (by omega);obtain⟨v6,hv6⟩:=hex (k*7+6) (by omega);have HR:=qw p0 r0;clear hex hC hsz d0 d1 d2 d3 d4 d5 d6 p0 r0 hl0;unfold Gr.cells;go_wp2_with fail
   obtain⟨p0,r0⟩:=HR.o;exact⟨⟨k+1,by omega,by go_num,HP.o.put hlt g0 (by omega) (by omega) r0,zm0 hB1 (Nat.le_refl _) _ _ _ _ _ _ _ _⟩,by simp[intOf];omega⟩
  ·have HF:Hid (jZ w.heap.size wr w.heap.size ms ms.length):=by
    have e:k=ms.length:=by omega
    subst e;exact HOW.o
   clear hw HOW;go_wp2_with fail
   go_ret;exact⟨rfl,HF.o,hB⟩
def Ob.row (o:Ob)(a0 a1:OA)(c0 c1:Nat):AV:=#[.s o.kd,.s o.nm,.s o.tm,.l a0 o.vs.length c0,.bool o.en,.l a1 o.hs.length c1,.i o.vr]
def Ob.sz (o:Ob):Nat:=zdI o
theorem Ob.zoa {o:Ob}(h:(o.sz:Int)<=1048576):o.vs.length<=1048576/\o.hs.length<=1048576:=zrb h (Int.le_refl _)
theorem zdx (o:Ob)(a0 a1:OA)(c0 c1:Nat)(left:Int)(w:World)(hm:o.Small)(h0':zF w a0 o.vs)(h1':zF w a1 o.hs)(h0:0<=left)(h1:left<=1048576) :
 Calls Tryz.prog 59 #[.agg (o.row a0 a1 c0 c1),.i left] w fun e w'=>e=.returned (.i (zL o.sz left))/\Bw w w':=zhH o a0 a1 c0 c1 left w ⟨hm,h0',h1'⟩ h0 h1
theorem zg5 (o:Ob)(a0 a1:OA)(c0 c1:Nat)(a0' a1':OA)(c0' c1':Nat)(w:World)(hm:o.Small)(h0:zF w a0 o.vs)(h1:zF w a1 o.hs)(h0':zF w a0' o.vs)(h1':zF w a1' o.hs) :
 Calls Tryz.prog 89 #[.agg (o.row a0 a1 c0 c1),.agg (o.row a0' a1' c0' c1')] w fun e w'=>e=.returned (.bool true)/\Bw w w':=zhd o a0 a1 a0' a1' c0 c1 c0' c1' w ⟨hm,h0,h1⟩ ⟨hm,h0',h1'⟩
theorem zhJ (o:Ob)(a0 a1:OA)(c0 c1:Nat)(w:World)(hm:o.Small)(h0:zF w a0 o.vs)(h1:zF w a1 o.hs)(hl:o.vs.length<=1048576/\o.hs.length<=1048576) :
 Calls Tryz.prog 75 #[.agg (o.row a0 a1 c0 c1)] w fun e w'=>∃g0 g1,e=.returned (.agg (o.row (some (aD g0 0)) (some (aD g1 0)) o.vs.length o.hs.length))/\w.heap.size<=g0/\w'.heap[g0]?=some (.cells (jS o.vs) 9)/\w.heap.size<=g1/\w'.heap[g1]?=some (.cells (jS o.hs) 9)/\Bw w w':=by
 refine(zhc o a0 a1 c0 c1 w ⟨hm,h0,h1⟩ hl.1 hl.2).mono ?_;rintro e w'⟨bv,bh,he,hv,hh,_,hbv,hbh,hb⟩;exact⟨bv,bh,he,hv,hbv,hh,hbh,hb⟩
structure zpl (w:World)(b off:Nat)(x:Ob)(a0 a1:OA)(c0 c1:Nat):Prop where
 small:x.Small
 l0:zF w a0 x.vs
 l1:zF w a1 x.hs
 cell:∀j,j<7->w.cell? (aD b (off+j))=(Ob.row x a0 a1 c0 c1)[j]?
structure zbJ (w:World)(a:OA)(ms:List Ob):Prop where
 len:ms.length<=maxLen
 rows:ms≠[]->∃b off,a=some (aD b off)/\b<w.heap.size/\∀i (h:i<ms.length),∃a0 a1 c0 c1,zpl w b (off+i*7) ms[i] a0 a1 c0 c1
theorem zpl.mono {w w':World}{b off:Nat}{x:Ob}{a0 a1:OA}{c0 c1:Nat}(h:zpl w b off x a0 a1 c0 c1)(hb:b<w.heap.size)(hl:Bw w w'):zpl w' b off x a0 a1 c0 c1:=
 ⟨h.small,h.l0.mono hl,h.l1.mono hl,fun j hj=>(hl.cell (p:=(aD b (off+j))) hb).trans (h.cell j hj)⟩
theorem zbJ.mono {w w':World}{a:OA}{ms:List Ob}(h:zbJ w a ms)(hl:Bw w w'):zbJ w' a ms:=
 ⟨h.len,fun hne=>by
  obtain⟨b,off,ha,hb,hr⟩:=h.rows hne;refine⟨b,off,ha,nLt hb hl.size,fun i hi=>?_⟩;obtain⟨a0,a1,c0,c1,hf⟩:=hr i hi;exact⟨a0,a1,c0,c1,hf.mono hb hl⟩⟩
theorem zbJ.load {w w':World}{a:OA}{ms:List Ob}(h:zbJ w a ms)(hl:Bw w w')(i:Nat)(hi:i<ms.length):∃b off a0 a1 c0 c1,a=some (aD b off)/\b<w.heap.size/\ms[i].Small/\zF w' a0 ms[i].vs/\zF w' a1 ms[i].hs /\
 w'.cell? (aD b (off+i*7))=some (.s ms[i].kd)/\w'.cell? (aD b (off+i*7+1))=some (.s ms[i].nm)/\w'.cell? (aD b (off+i*7+2))=some (.s ms[i].tm)/\w'.cell? (aD b (off+i*7+3))=some (.l a0 ms[i].vs.length c0)/\w'.cell? (aD b (off+i*7+4))=some (.bool ms[i].en)/\w'.cell? (aD b (off+i*7+5))=some (.l a1 ms[i].hs.length c1)/\w'.cell? (aD b (off+i*7+6))=some (.i ms[i].vr):=by
 obtain⟨b,off,ha,hb,hr⟩:=h.rows (by rintro rfl;simp at hi);obtain⟨a0,a1,c0,c1,hf0⟩:=hr i hi;have hf:=hf0.mono hb hl;exact⟨b,off,a0,a1,c0,c1,ha,hb,hf.small,hf.l0,hf.l1,hf.cell 0 (by omega),hf.cell 1 (by omega),hf.cell 2 (by omega),hf.cell 3 (by omega),hf.cell 4 (by omega),hf.cell 5 (by omega),hf.cell 6 (by omega)⟩
def za2 (ms:List Ob):Nat:=(ms.map Ob.sz).sum
def qO (ms:List Ob):Nat:=ms.length+za2 ms
structure zeK (ms:List Ob):Prop where
 small:∀i (h:i<ms.length),ms[i].Small/\(ms[i].vs.length<=maxLen/\∀s∈ms[i].vs,s.size<=maxLen)/\(ms[i].hs.length<=maxLen/\∀s∈ms[i].hs,s.size<=maxLen)
theorem zbJ.smalls {w:World}{a:OA}{ms:List Ob}(h:zbJ w a ms):zeK ms:=
 ⟨fun i hi=>by
  obtain⟨b,off,_,_,hr⟩:=h.rows (by rintro rfl;simp at hi);obtain⟨a0,a1,c0,c1,hf⟩:=hr i hi;exact⟨hf.small,⟨hf.l0.len,hf.l0.small⟩,⟨hf.l1.len,hf.l1.small⟩⟩⟩
theorem zl6 {ms:List Ob}{left:Int}(h:(qO ms:Int)<=left)(hl:left<=1048576):ms.length<=1048576/\∀i (h:i<ms.length),ms[i].vs.length<=1048576/\ms[i].hs.length<=1048576:=by
 unfold qO at h;refine⟨by omega,fun i hi=>?_⟩;have h1:ms[i].sz<=za2 ms:=zi7 Ob.sz ms i hi;exact Ob.zoa (by omega)
theorem zgb (a:OA)(cap:Nat)(ms:List Ob)(left:Int)(w:World)(hw:zbJ w a ms)(h0:0<=left)(h1:left<=1048576) :
 Calls Tryz.prog 18 #[.l a ms.length cap,.i left] w fun e w'=>e=.returned (.i (zL (qO ms) left))/\Bw w w':=by
 have hl:=hw.len;unfold maxLen at hl
 by_cases hfit:(ms.length:Int)<=left
 ·go_enter Tryz.func18,Tryz.ntmps18
  go_wp2_with fail
  go_loopw [1,5] (fun l i wr=>∃k:Nat,k<=ms.length/\i=.i k/\0<=left-ms.length-za2 (ms.take k)/\l=.i (left-ms.length-za2 (ms.take k))/\Bw w wr) (fun _ i _=>ms.length-(intOf i).toNat)
  case atStart=>exact⟨0,Nat.zero_le _,rfl,by simp[za2];omega,by simp[za2],bRf _ _⟩
  case round=>
   obtain⟨k,hk,rfl,hpos,rfl,hB⟩:=hrel
   by_cases hlt:k<ms.length
   ·obtain⟨b,off,a0,a1,c0,c1,rfl,hb,hsm,hl0,hl1,d0,d1,d2,d3,d4,d5,d6⟩:=hw.load hB k hlt
    have hbr:=nLt hb hB.size;have HS:Hid (za2 (ms.take (k+1))=za2 (ms.take k)+ms[k].sz):=za5 Ob.sz ms k hlt;have hle:za2 (ms.take (k+1))<=za2 ms:=zcI Ob.sz ms (k+1);have HI:Hid (zF wr a0 ms[k].vs/\zF wr a1 ms[k].hs):=⟨hl0,hl1⟩
    clear hw hl0 hl1
    by_cases hneg:(ms[k].sz:Int)<=left-ms.length-za2 (ms.take k)
    ·have HNG:Hid ((ms[k].sz:Int)<=left-ms.length-za2 (ms.take k)):=hneg
     clear hle;go_wp2_with fail
     refine(zdx ms[k] a0 a1 c0 c1 _ _ hsm HI.o.1 HI.o.2 hpos (by omega)).mono ?_;rintro e w1⟨rfl,hb1⟩;rw[zM HNG.o];have hB1:=hB.trans (hb1.mono hB.size);clear hb1;go_wp2_with fail
     exact⟨⟨k+1,by omega,by go_num,by rw[HS.o];omega,by rw[HS.o];congr 1;omega,hB1⟩,by simp[intOf];omega⟩
    ·have HF:Hid (zL (qO ms) left=-1):=zC (by have:=HS.o;unfold qO;omega)
     have HNG:=hid hneg;clear hneg hle;go_wp2_with fail
     refine(zdx ms[k] a0 a1 c0 c1 _ _ hsm HI.o.1 HI.o.2 hpos (by omega)).mono ?_;rintro e w1⟨rfl,hb1⟩;rw[zC (by have:=HNG.o;omega)];have hB1:=hB.trans (hb1.mono hB.size);clear hb1;go_wp2_with fail
     go_ret;exact⟨zo HF.o.symm,hB1⟩
   ·have HF:Hid (zL (qO ms) left=left-ms.length-za2 (ms.take k)):=by
     rw[tOl (by omega)]at hpos ⊢;have e:zL (qO ms) left=left-qO ms:=zM (by unfold qO;omega);unfold Hid;rw[e];unfold qO;omega
    clear hw
    go_wp2
    go_ret;exact⟨zo HF.o.symm,hB⟩
 ·have HF:Hid (zL (qO ms) left=-1):=zC (by unfold qO;omega)
  clear hw;go_enter Tryz.func18,Tryz.ntmps18
  go_wp2
  go_ret;exact⟨zo HF.o.symm,bRf _ _⟩
theorem zf8 (a a':OA)(cap cap':Nat)(ms:List Ob)(w:World)(hw:zbJ w a ms)(hw':zbJ w a' ms) :
 Calls Tryz.prog 38 #[.l a ms.length cap,.l a' ms.length cap'] w fun e w'=>e=.returned (.bool true)/\Bw w w':=by
 have hl:=hw.len;unfold maxLen at hl;have hnn:((ms.length:Int) != ms.length)=false:=by simp
 go_enter Tryz.func38,Tryz.ntmps38;go_wp2_with fail
 go_loopw [5] (fun i wr=>∃k:Nat,k<=ms.length/\i=.i k/\Bw w wr) (fun i _=>ms.length-(intOf i).toNat)
 case atStart=>exact⟨0,Nat.zero_le _,rfl,bRf _ _⟩
 case round=>
  obtain⟨k,hk,rfl,hB⟩:=hrel
  by_cases hlt:k<ms.length
  ·obtain⟨b,off,a0,a1,c0,c1,rfl,hb,hsm,hl0,hl1,d0,d1,d2,d3,d4,d5,d6⟩:=hw.load hB k hlt
   obtain⟨b',off',a0',a1',c0',c1',rfl,hb',_,hl0',hl1',f0,f1,f2,f3,f4,f5,f6⟩:=hw'.load hB k hlt;have hltI:(k:Int)<(ms.length:Int):=by omega
   clear hw hw';go_wp2_with fail
   go_region_with (go_at_call 89;refine(zg5 ms[k] a0 a1 c0 c1 a0' a1' c0' c1' _ hsm (by exact hl0.mono ((bRf _ _).drew)) (by exact hl1.mono ((bRf _ _).drew)) (by exact hl0'.mono ((bRf _ _).drew)) (by exact hl1'.mono ((bRf _ _).drew))).mono ?_;rintro e w1⟨rfl,hb1'⟩;have hb1:=(bRf wr.heap.size wr).drew.trans hb1';clear hb1')
   all_goals go_wp2_with fail
   all_goals exact⟨⟨k+1,by omega,by go_num,hB.trans (hb1.mono hB.size)⟩,by simp[intOf];omega⟩
  ·clear hw hw'
   go_wp2_with fail
   go_ret;exact⟨rfl,hB⟩
structure zad (lo:Nat)(w:World)(bo:Nat)(ms:List Ob)(k:Nat):Prop where
 low:lo<=bo
 rows:∃C,w.heap[bo]?=some (.cells C 123)/\C.size=ms.length*7 /\
  ∀i (h:i<ms.length),i<k->∃g0 g1,lo<=g0/\g0≠bo/\w.heap[g0]?=some (.cells (jS ms[i].vs) 9)/\lo<=g1/\g1≠bo/\w.heap[g1]?=some (.cells (jS ms[i].hs) 9)/\∀j,j<7->C[i*7+j]?=(Ob.row ms[i] (some (aD g0 0)) (some (aD g1 0)) ms[i].vs.length ms[i].hs.length)[j]?
theorem zad.at {lo:Nat}{w:World}{bo:Nat}{ms:List Ob}(h:zad lo w bo ms ms.length)(hs:zeK ms)(hl:ms.length<=maxLen):zbJ w (some (aD bo 0)) ms:=by
 obtain⟨C,hC,hsz,hr⟩:=h.rows;refine⟨hl,fun _=>⟨bo,0,rfl,(gES hC).1,fun i hi=>?_⟩⟩;obtain⟨g0,g1,_,_,hk0,_,_,hk1,hc⟩:=hr i hi hi;obtain⟨s0,s1,s2⟩:=hs.small i hi;refine⟨some (aD g0 0),some (aD g1 0),ms[i].vs.length,ms[i].hs.length,s0,zdE hk0 s1.1 s1.2,zdE hk1 s2.1 s2.2,fun j hj=>?_⟩;rw[cell_of_block hC,Nat.zero_add];exact hc j hj
theorem zad.above {lo:Nat}{w w':World}{bo:Nat}{ms:List Ob}{k:Nat}(h:zad lo w bo ms k)(ha:yL lo w w'):zad lo w' bo ms k:=by
 obtain⟨C,hC,hsz,hr⟩:=h.rows;refine⟨h.low,C,(ha.same _ h.low (gES hC).1).trans hC,hsz,fun i hi hk=>?_⟩;obtain⟨g0,g1,p0,q0,r0,p1,q1,r1,hc⟩:=hr i hi hk;exact⟨g0,g1,p0,q0,(ha.same _ p0 (gES r0).1).trans r0,p1,q1,(ha.same _ p1 (gES r1).1).trans r1,hc⟩
theorem zad.later {lo:Nat}{w w':World}{bo:Nat}{ms:List Ob}{k:Nat}(h:zad lo w bo ms k)(hb:Bw w w'):zad lo w' bo ms k:=h.above (yL.below hb)
def znl (w:World)(b o:Nat)(v0 v1 v2 v3 v4 v5 v6:Value):World:=(((((((w.setCell (aD b o) v0).setCell (aD b (o+1)) v1).setCell (aD b (o+2)) v2).setCell (aD b (o+3)) v3).setCell (aD b (o+4)) v4).setCell (aD b (o+5)) v5).setCell (aD b (o+6)) v6)
def zjT (C:AV)(o:Nat)(v0 v1 v2 v3 v4 v5 v6:Value):AV:=(((((((C.setIfInBounds (o) v0).setIfInBounds (o+1) v1).setIfInBounds (o+2) v2).setIfInBounds (o+3) v3).setIfInBounds (o+4) v4).setIfInBounds (o+5) v5).setIfInBounds (o+6) v6)
theorem znp {w:World}{b o:Nat}{C:AV}{t:TypeId}(h:w.heap[b]?=some (.cells C t))(v0 v1 v2 v3 v4 v5 v6:Value):(znl w b o v0 v1 v2 v3 v4 v5 v6).heap[b]?=some (.cells (zjT C o v0 v1 v2 v3 v4 v5 v6) t):=
 zi (zi (zi (zi (zi (zi (zi h v0) v1) v2) v3) v4) v5) v6
theorem zmA {B:Nat}{a w:World}(h:Below B a w){b:Nat}(hb:B<=b)(o:Nat)(v0 v1 v2 v3 v4 v5 v6:Value):Below B a (znl w b o v0 v1 v2 v3 v4 v5 v6):=
 ((((((h.setCell hb v0).setCell hb v1).setCell hb v2).setCell hb v3).setCell hb v4).setCell hb v5).setCell hb v6
theorem zde (w:World)(b o:Nat)(v0 v1 v2 v3 v4 v5 v6:Value){b':Nat}(h:b'≠b):(znl w b o v0 v1 v2 v3 v4 v5 v6).heap[b']?=w.heap[b']?:=by
 unfold znl
 iterate 7 rw[zG h]
theorem zoV (C:AV)(o:Nat)(v0 v1 v2 v3 v4 v5 v6:Value):(zjT C o v0 v1 v2 v3 v4 v5 v6).size=C.size:=by simp[zjT]
theorem zpw (C:AV)(o i:Nat)(v0 v1 v2 v3 v4 v5 v6:Value)(h:i<o \/ o+7<=i):(zjT C o v0 v1 v2 v3 v4 v5 v6)[i]?=C[i]?:=by
 unfold zjT
 iterate 7 rw[Array.getElem?_setIfInBounds,if_neg (by omega)]
theorem zqc (C:AV)(o j:Nat)(v0 v1 v2 v3 v4 v5 v6:Value)(hj:j<7)(ho:o+7<=C.size):(zjT C o v0 v1 v2 v3 v4 v5 v6)[o+j]?=(#[v0,v1,v2,v3,v4,v5,v6]:AV)[j]?:=by
 have hc:j=0 \/ j=1 \/ j=2 \/ j=3 \/ j=4 \/ j=5 \/ j=6:=by omega
 unfold zjT
 rcases hc with h|h|h|h|h|h|h <;> subst h <;> simp[Array.getElem?_setIfInBounds] <;> omega
theorem zad.put {lo:Nat}{w:World}{bo:Nat}{ms:List Ob}{k:Nat}(h:zad lo w bo ms k)(hk:k<ms.length)(g0 g1:Nat)(p0:lo<=g0)(q0:g0≠bo)(r0:w.heap[g0]?=some (.cells (jS ms[k].vs) 9))(p1:lo<=g1)(q1:g1≠bo)(r1:w.heap[g1]?=some (.cells (jS ms[k].hs) 9)) :
 zad lo (znl w bo (k*7) (.s ms[k].kd) (.s ms[k].nm) (.s ms[k].tm) (.l (some (aD g0 0)) ms[k].vs.length ms[k].vs.length) (.bool ms[k].en) (.l (some (aD g1 0)) ms[k].hs.length ms[k].hs.length) (.i ms[k].vr)) bo ms (k+1):=by
 obtain⟨C,hC,hsz,hr⟩:=h.rows;refine⟨h.low,_,znp hC _ _ _ _ _ _ _,by rw[zoV];exact hsz,fun i hi hik=>?_⟩
 rcases Nat.lt_or_ge i k with hlt|hge
 ·obtain⟨g0',g1',x0,y0,z0,x1,y1,z1,hc⟩:=hr i hi hlt
  refine⟨g0',g1',x0,y0,(by rw[zde _ _ _ _ _ _ _ _ _ _ y0];exact z0),x1,y1,(by rw[zde _ _ _ _ _ _ _ _ _ _ y1];exact z1),fun j hj=>?_⟩;rw[zpw _ _ _ _ _ _ _ _ _ _ (by omega)];exact hc j hj
 ·have e:i=k:=by omega
  subst e;refine⟨g0,g1,p0,q0,(by rw[zde _ _ _ _ _ _ _ _ _ _ q0];exact r0),p1,q1,(by rw[zde _ _ _ _ _ _ _ _ _ _ q1];exact r1),fun j hj=>?_⟩;rw[zqc _ _ _ _ _ _ _ _ _ _ hj (by omega)]
  rfl
def zqv:AV:=#[.s ByteArray.empty,.s ByteArray.empty,.s ByteArray.empty,.l none 0 0,.bool false,.l none 0 0,.i 0]
def zoZ (n:Nat):AV:=madeCells zqv (n*7)
theorem zf7 (a:OA)(cap:Nat)(ms:List Ob)(w:World)(hw:zbJ w a ms)(hl:ms.length<=1048576)(hls:∀i (h:i<ms.length),ms[i].vs.length<=1048576/\ms[i].hs.length<=1048576) :
 Calls Tryz.prog 29 #[.l a ms.length cap] w fun e w'=>e=.returned (.l (some (aD w.heap.size 0)) ms.length ms.length)/\zad w.heap.size w' w.heap.size ms ms.length/\Bw w w':=by
 have hmk:∀w:World,(Instr.makeSlice 35 (.i ms.length) (.i ms.length)).run Tryz.prog w=.ok (.l (some (aD w.heap.size 0)) ms.length ms.length) (w.alloc (.cells (zoZ ms.length) 123)):=
  fun w=>jy (P:=Tryz.prog) 35 123 (.agg zqv) 7 112 Tryz.underlying35 (by kernel_rfl) ms.length (by omega) (by omega) w
 go_enter Tryz.func29,Tryz.ntmps29;go_wp2_with fail
 clear hmk
 go_loopw [4] (fun i wr=>∃k:Nat,k<=ms.length/\i=.i k/\Hid (zad w.heap.size wr w.heap.size ms k)/\Bw w wr) (fun i _=>ms.length-(intOf i).toNat)
 case atStart=>exact⟨0,Nat.zero_le _,rfl,⟨Nat.le_refl _,zoZ ms.length,(MapKept.heap_alloc w _).1,size_madeCells _ _,fun i _ h=>absurd h (by omega)⟩,bAl _ _⟩
 case round=>
  obtain⟨k,hk,rfl,HOW,hB⟩:=hrel
  by_cases hlt:k<ms.length
  ·obtain⟨b,off,a0,a1,c0,c1,rfl,hb,hsm,hl0,hl1,d0,d1,d2,d3,d4,d5,d6⟩:=hw.load hB k hlt
   have HLS:=hid (hls k hlt);have hltI:(k:Int)<(ms.length:Int):=by omega
   clear hw;go_wp2_with fail
   refine(zhJ ms[k] a0 a1 c0 c1 _ hsm hl0 hl1 HLS.o).mono ?_;rintro e w1⟨g0,g1,rfl,p0,r0,p1,r1,hb1⟩;have hB1:=hB.trans (hb1.mono hB.size)
   have hbo:w.heap.size<wr.heap.size:=by
    obtain⟨C',hC',_⟩:=HOW.o.rows;exact(gES hC').1
   have HP:=hid (HOW.o.later hb1);obtain⟨C,hC,hsz,_⟩:=HP.o.rows;have hfz:∀o,w1.frozen? (aD w.heap.size o)=false:=fun o=>zh hC
   have hex:∀o,o<ms.length*7->∃v,w1.cell? (aD w.heap.size o)=some v:=fun o ho=>⟨C[o]'(by omega),by rw[cell_of_block hC];exact Array.getElem?_eq_getElem (by omega)⟩
   obtain⟨v0,hv0⟩:=hex (k*7) (by omega);obtain⟨v1,hv1⟩:=hex (k*7+1) (by omega);obtain⟨v2,hv2⟩:=hex (k*7+2) (by omega);obtain⟨v3,hv3⟩:=hex (k*7+3) (by omega);obtain⟨v4,hv4⟩:=hex (k*7+4) (by omega);obtain⟨v5,hv5⟩:=hex (k*7+5) (by omega);obtain⟨v6,hv6⟩:=hex (k*7+6) (by omega);have HR:=zcg p0 r0 p1 r1;clear hex hC hsz d0 d1 d2 d3 d4 d5 d6 p0 r0 p1 r1 hl0 hl1;unfold Ob.row;go_wp2_with fail
   obtain⟨p0,r0,p1,r1⟩:=HR.o;exact⟨⟨k+1,by omega,by go_num,HP.o.put hlt g0 g1 (by omega) (by omega) r0 (by omega) (by omega) r1,zmA hB1 (Nat.le_refl _) _ _ _ _ _ _ _ _⟩,by simp[intOf];omega⟩
  ·have HF:Hid (zad w.heap.size wr w.heap.size ms ms.length):=by
    have e:k=ms.length:=by omega
    subst e;exact HOW.o
   clear hw HOW;go_wp2_with fail
   go_ret;exact⟨rfl,HF.o,hB⟩
theorem lt_of_some {w:World}{b:Nat}{o:Obj}(h:w.heap[b]?=some o):b<w.heap.size:=(gES h).1
theorem zlX {lo lo':Nat}{w:World}{bo:Nat}{ms:List Mnd}{k:Nat}(h:je lo w bo ms k)(hl:lo'<=lo):je lo' w bo ms k:=⟨Nat.le_trans hl h.low,h.rows⟩
theorem zlI {ty:TypeId}{lo lo':Nat}{w:World}{bo:Nat}{ts:List Tm}{k:Nat}(h:zae ty lo w bo ts k)(hl:lo'<=lo):zae ty lo' w bo ts k:=⟨Nat.le_trans hl h.low,h.rows⟩
theorem zfI (l:Lw)(a b c:OA)(ca cb cc:Nat)(w:World)(hl:jr w l a b c)(hf:l.Few) :
 Calls Tryz.prog 7 #[.agg (l.cells a b c ca cb cc)] w fun e w'=>∃lo a' b' c',e=.returned (.agg (l.cells (some (aD a' 0)) (some (aD b' 0)) (some (aD c' 0)) l.ss.length l.ms.length l.ts.length))/\w.heap.size<=lo/\zmZ lo w' l a' b' c'/\Bw w w':=by
 have HL:Hid (jr w l a b c):=hl;have HF:Hid l.Few:=hf;clear hl hf;unfold Lw.cells;go_enter Tryz.func7,Tryz.ntmps7;go_wp2_with fail
 have k0:=zmR w (.cells #[.l a l.ss.length ca,.l b l.ms.length cb,.l c l.ts.length cc] 26) (.cells #[.l none 0 0,.l none 0 0,.l none 0 0] 47) (.cells #[.l none 0 0,.l none 0 0,.l none 0 0] 47);have hB0:=below3' w (.cells #[.l a l.ss.length ca,.l b l.ms.length cb,.l c l.ts.length cc] 26) (.cells #[.l none 0 0,.l none 0 0,.l none 0 0] 47) (.cells #[.l none 0 0,.l none 0 0,.l none 0 0] 47);obtain⟨W0,hW0⟩:=nm (((w.alloc (.cells #[.l a l.ss.length ca,.l b l.ms.length cb,.l c l.ts.length cc] 26)).alloc (.cells #[.l none 0 0,.l none 0 0,.l none 0 0] 47)).alloc (.cells #[.l none 0 0,.l none 0 0,.l none 0 0] 47));have hz0:w.heap.size+1+1<W0.heap.size:=by rw[hW0];simp
 rw[<- hW0]at k0 hB0 ⊢;clear hW0;have HLO:Hid (w.heap.size+1+1<W0.heap.size):=hz0;refine(zhQ _ _ l.ss _ (HL.o.ss.mono hB0) HF.o.ss.1 HF.o.ss.2).mono ?_;rintro e w1⟨rfl,hown,hb⟩;obtain⟨a',ha'⟩:∃a',a'=W0.heap.size:=⟨_,rfl⟩
 have HO1:Hid (jO W0.heap.size w1 a' l.ss l.ss.length):=by rw[ha'];exact hown
 have hX1:=(hb.block _ (by omega)).trans k0.1;have hR1:=(hb.block _ (by omega)).trans k0.2.1;have hO1:=(hb.block _ hz0).trans k0.2.2;have HZ1:Hid (W0.heap.size<=w1.heap.size):=hb.size;have HB1:Hid (Bw w w1):=hB0.trans (hb.mono hB0.size);rw[<- ha'];clear hown hb k0 hB0 hz0 ha';have cO1:=fun j=>cell_of_block (o:=j) hO1
 have fO1:=fun j=>zh (o:=j) hO1
 have HX1':Hid ((w1.setCell (aD (w.heap.size+1+1) 0) (.l (some (aD a' 0)) l.ss.length l.ss.length)).heap[w.heap.size]?=some (.cells #[.l a l.ss.length ca,.l b l.ms.length cb,.l c l.ts.length cc] 26)):=(zG (by omega)).trans hX1;have HR1':Hid ((w1.setCell (aD (w.heap.size+1+1) 0) (.l (some (aD a' 0)) l.ss.length l.ss.length)).heap[w.heap.size+1]?=some (.cells #[.l none 0 0,.l none 0 0,.l none 0 0] 47)):=(zG (by omega)).trans hR1;have HO1':Hid ((w1.setCell (aD (w.heap.size+1+1) 0) (.l (some (aD a' 0)) l.ss.length l.ss.length)).heap[w.heap.size+1+1]?=some (.cells #[.l (some (aD a' 0)) l.ss.length l.ss.length,.l none 0 0,.l none 0 0] 47)):=zi hO1 _;have HAB1:Hid (yL W0.heap.size w1 (w1.setCell (aD (w.heap.size+1+1) 0) (.l (some (aD a' 0)) l.ss.length l.ss.length))):=yL.setCell HLO.o _;have HBB1:Hid (Bw w (w1.setCell (aD (w.heap.size+1+1) 0) (.l (some (aD a' 0)) l.ss.length l.ss.length))):=HB1.o.setCell (by show w.heap.size<=w.heap.size+1+1;omega) _;have HZZ1:Hid (W0.heap.size<=(w1.setCell (aD (w.heap.size+1+1) 0) (.l (some (aD a' 0)) l.ss.length l.ss.length)).heap.size):=by unfold Hid;rw[World.size_setCell];exact HZ1.o
 clear hX1 hR1 hO1;have cX1:=fun j=>cell_of_block (o:=j) HX1'.out
 have cR1:=fun j=>cell_of_block (o:=j) HR1'.out
 have fR1:=fun j=>zh (o:=j) HR1'.out
 have cOO1:=fun j=>cell_of_block (o:=j) HO1'.out
 go_wp2_with fail
 refine(ziv _ _ l.ms _ (HL.o.ms.mono HBB1.o) HF.o.ms).mono ?_;rintro e w2⟨rfl,hown,hb⟩;obtain⟨b',hp'⟩:∃b',b'=(w1.setCell (aD (w.heap.size+1+1) 0) (.l (some (aD a' 0)) l.ss.length l.ss.length)).heap.size:=⟨_,rfl⟩
 have HN2:Hid (je W0.heap.size w2 b' l.ms l.ms.length):=by rw[hp'];exact zlX hown HZZ1.o
 have HAA2:Hid (yL W0.heap.size w1 w2):=HAB1.o.trans (yL.below hb);have hX2:=(hb.block _ (lt_of_some HX1'.out)).trans HX1'.out;have hR2:=(hb.block _ (lt_of_some HR1'.out)).trans HR1'.out;have hO2:=(hb.block _ (lt_of_some HO1'.out)).trans HO1'.out;have HZ2:Hid (W0.heap.size<=w2.heap.size):=Nat.le_trans HZZ1.o hb.size;have HB2:Hid (Bw w w2):=HBB1.o.trans (hb.mono HBB1.o.size);rw[<- hp'];clear hown hb hp' cX1 cR1 fR1 cOO1;have cO2:=fun j=>cell_of_block (o:=j) hO2
 have fO2:=fun j=>zh (o:=j) hO2
 have HX2':Hid ((w2.setCell (aD (w.heap.size+1+1) 1) (.l (some (aD b' 0)) l.ms.length l.ms.length)).heap[w.heap.size]?=some (.cells #[.l a l.ss.length ca,.l b l.ms.length cb,.l c l.ts.length cc] 26)):=(zG (by omega)).trans hX2;have HR2':Hid ((w2.setCell (aD (w.heap.size+1+1) 1) (.l (some (aD b' 0)) l.ms.length l.ms.length)).heap[w.heap.size+1]?=some (.cells #[.l none 0 0,.l none 0 0,.l none 0 0] 47)):=(zG (by omega)).trans hR2;have HO2':Hid ((w2.setCell (aD (w.heap.size+1+1) 1) (.l (some (aD b' 0)) l.ms.length l.ms.length)).heap[w.heap.size+1+1]?=some (.cells #[.l (some (aD a' 0)) l.ss.length l.ss.length,.l (some (aD b' 0)) l.ms.length l.ms.length,.l none 0 0] 47)):=zi hO2 _;have HAB2:Hid (yL W0.heap.size w2 (w2.setCell (aD (w.heap.size+1+1) 1) (.l (some (aD b' 0)) l.ms.length l.ms.length))):=yL.setCell HLO.o _;have HBB2:Hid (Bw w (w2.setCell (aD (w.heap.size+1+1) 1) (.l (some (aD b' 0)) l.ms.length l.ms.length))):=HB2.o.setCell (by show w.heap.size<=w.heap.size+1+1;omega) _;have HZZ2:Hid (W0.heap.size<=(w2.setCell (aD (w.heap.size+1+1) 1) (.l (some (aD b' 0)) l.ms.length l.ms.length)).heap.size):=by unfold Hid;rw[World.size_setCell];exact HZ2.o
 clear hX2 hR2 hO2;have cX2:=fun j=>cell_of_block (o:=j) HX2'.out
 have cR2:=fun j=>cell_of_block (o:=j) HR2'.out
 have fR2:=fun j=>zh (o:=j) HR2'.out
 have cOO2:=fun j=>cell_of_block (o:=j) HO2'.out
 go_wp2_with fail
 refine(ziY _ _ l.ts _ (HL.o.ts.mono HBB2.o) HF.o.ts).mono ?_;rintro e w3⟨rfl,hown,hb⟩;obtain⟨c',hp'⟩:∃c',c'=(w2.setCell (aD (w.heap.size+1+1) 1) (.l (some (aD b' 0)) l.ms.length l.ms.length)).heap.size:=⟨_,rfl⟩
 have HN3:Hid (zae 138 W0.heap.size w3 c' l.ts l.ts.length):=by rw[hp'];exact zlI hown HZZ2.o
 have HAA3:Hid (yL W0.heap.size w2 w3):=HAB2.o.trans (yL.below hb);have hX3:=(hb.block _ (lt_of_some HX2'.out)).trans HX2'.out;have hR3:=(hb.block _ (lt_of_some HR2'.out)).trans HR2'.out;have hO3:=(hb.block _ (lt_of_some HO2'.out)).trans HO2'.out;have HZ3:Hid (W0.heap.size<=w3.heap.size):=Nat.le_trans HZZ2.o hb.size;have HB3:Hid (Bw w w3):=HBB2.o.trans (hb.mono HBB2.o.size);rw[<- hp'];clear hown hb hp' cX2 cR2 fR2 cOO2;have cO3:=fun j=>cell_of_block (o:=j) hO3
 have fO3:=fun j=>zh (o:=j) hO3
 have HX3':Hid ((w3.setCell (aD (w.heap.size+1+1) 2) (.l (some (aD c' 0)) l.ts.length l.ts.length)).heap[w.heap.size]?=some (.cells #[.l a l.ss.length ca,.l b l.ms.length cb,.l c l.ts.length cc] 26)):=(zG (by omega)).trans hX3;have HR3':Hid ((w3.setCell (aD (w.heap.size+1+1) 2) (.l (some (aD c' 0)) l.ts.length l.ts.length)).heap[w.heap.size+1]?=some (.cells #[.l none 0 0,.l none 0 0,.l none 0 0] 47)):=(zG (by omega)).trans hR3;have HO3':Hid ((w3.setCell (aD (w.heap.size+1+1) 2) (.l (some (aD c' 0)) l.ts.length l.ts.length)).heap[w.heap.size+1+1]?=some (.cells #[.l (some (aD a' 0)) l.ss.length l.ss.length,.l (some (aD b' 0)) l.ms.length l.ms.length,.l (some (aD c' 0)) l.ts.length l.ts.length] 47)):=zi hO3 _;have HAB3:Hid (yL W0.heap.size w3 (w3.setCell (aD (w.heap.size+1+1) 2) (.l (some (aD c' 0)) l.ts.length l.ts.length))):=yL.setCell HLO.o _;have HBB3:Hid (Bw w (w3.setCell (aD (w.heap.size+1+1) 2) (.l (some (aD c' 0)) l.ts.length l.ts.length))):=HB3.o.setCell (by show w.heap.size<=w.heap.size+1+1;omega) _;have HZZ3:Hid (W0.heap.size<=(w3.setCell (aD (w.heap.size+1+1) 2) (.l (some (aD c' 0)) l.ts.length l.ts.length)).heap.size):=by unfold Hid;rw[World.size_setCell];exact HZ3.o
 clear hX3 hR3 hO3;have cX3:=fun j=>cell_of_block (o:=j) HX3'.out
 have cR3:=fun j=>cell_of_block (o:=j) HR3'.out
 have fR3:=fun j=>zh (o:=j) HR3'.out
 have cOO3:=fun j=>cell_of_block (o:=j) HO3'.out
 go_wp2_with fail
 refine bodyPost_ret (v:=.agg #[.l (some (aD a' 0)) l.ss.length l.ss.length,.l (some (aD b' 0)) l.ms.length l.ms.length,.l (some (aD c' 0)) l.ts.length l.ts.length]) (by simp[results,Tryz.results7,go_sem,cR3]) rfl ⟨W0.heap.size,a',b',c',rfl,by have:=HLO.o;omega,?_,?_⟩
 ·have hlt1:w.heap.size+1<W0.heap.size:=by have:=HLO.o;omega
  have hA3:∀v0 v1 v2,yL W0.heap.size w3 ((((w3.setCell (aD (w.heap.size+1+1) 2) (.l (some (aD c' 0)) l.ts.length l.ts.length)).setCell (aD (w.heap.size+1) 0) v0).setCell (aD (w.heap.size+1) 1) v1).setCell (aD (w.heap.size+1) 2) v2):=fun v0 v1 v2=>HAB3.o.trans (((yL.setCell (p:=(aD (w.heap.size+1) 0)) hlt1 v0).trans (yL.setCell (p:=(aD (w.heap.size+1) 1)) hlt1 v1)).trans (yL.setCell (p:=(aD (w.heap.size+1) 2)) hlt1 v2))
  exact⟨HO1.o.above ((HAA2.o.trans HAA3.o).trans (hA3 _ _ _)),HN2.o.above (HAA3.o.trans (hA3 _ _ _)),HN3.o.above (hA3 _ _ _)⟩
 ·exact((HBB3.o.setCell (Nat.le_succ _) _).setCell (Nat.le_succ _) _).setCell (Nat.le_succ _) _
theorem zdk (l:Lw)(a b c:OA)(ca cb cc:Nat)(w:World)(hl:jr w l a b c)(hf:l.Few) :
 Calls Tryz.prog 7 #[.agg (l.cells a b c ca cb cc)] w fun e w'=>∃a' b' c',e=.returned (.agg (l.cells a' b' c' l.ss.length l.ms.length l.ts.length))/\jr w' l a' b' c'/\Bw w w':=by
 refine(zfI l a b c ca cb cc w hl hf).mono ?_;rintro e w'⟨lo,a',b',c',he,_,ho,hb⟩;exact⟨_,_,_,he,ho.at hl.small,hb⟩
end Go.Proofs.YtecncindgjdbiaaGreat
