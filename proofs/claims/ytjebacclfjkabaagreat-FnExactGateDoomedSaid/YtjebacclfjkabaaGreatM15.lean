import Derived.Test.YtjebacclfjkabaaGreatM12
import Derived.Test.YtjebacclfjkabaaGreatM13
set_option maxHeartbeats 2000000
namespace Go.Proofs.YtjebacclfjkabaaGreat
open Go.RowKit
structure Pu where
 dr:ByteArray
 tm:ByteArray
 rs:ByteArray
 am:Int
 un:Int
def Pu.cells (m:Pu):Array Value:=#[.string m.dr,.string m.tm,.string m.rs,.int .i64 m.am,.int .i64 m.un]
structure Pu.Small (m:Pu):Prop where
 dr:m.dr.size<=maxLen
 tm:m.tm.size<=maxLen
 rs:m.rs.size<=maxLen
structure zdK (w:World)(a:Option Addr)(ms:List Pu):Prop where
 len:ms.length<=maxLen
 small:∀i (h:i<ms.length),ms[i].Small
 rows:ms≠[]->∃b off,a=some ⟨b,off,none⟩/\b<w.heap.size/\∀i (h:i<ms.length),∀j,j<5->w.cell? ⟨b,off+i*5+j,none⟩=ms[i].cells[j]?
theorem zdK.mono {w w':World}{a:Option Addr}{ms:List Pu}(h:zdK w a ms)(hl:Below w.heap.size w w'):zdK w' a ms:=
 ⟨h.len,h.small,fun hne=>by
  obtain⟨b,off,ha,hb,hr⟩:=h.rows hne;exact⟨b,off,ha,nLt hb hl.size,fun i hi j hj=>(hl.cell (p:=⟨b,off+i*5+j,none⟩) hb).trans (hr i hi j hj)⟩⟩
theorem zdK.load {w w':World}{a:Option Addr}{ms:List Pu}(h:zdK w a ms)(hl:Below w.heap.size w w')(i:Nat)(hi:i<ms.length):∃b off,a=some ⟨b,off,none⟩/\b<w.heap.size /\
 w'.cell? ⟨b,off+i*5,none⟩=some (.string ms[i].dr)/\w'.cell? ⟨b,off+i*5+1,none⟩=some (.string ms[i].tm)/\w'.cell? ⟨b,off+i*5+2,none⟩=some (.string ms[i].rs)/\w'.cell? ⟨b,off+i*5+3,none⟩=some (.int .i64 ms[i].am)/\w'.cell? ⟨b,off+i*5+4,none⟩=some (.int .i64 ms[i].un):=by
 obtain⟨b,off,ha,hb,hr⟩:=h.rows (by rintro rfl;simp at hi);have hc:∀j,j<5->w'.cell? ⟨b,off+i*5+j,none⟩=ms[i].cells[j]?:=fun j hj=>(hl.cell (p:=⟨b,off+i*5+j,none⟩) hb).trans (hr i hi j hj)
 exact⟨b,off,ha,hb,hc 0 (by omega),hc 1 (by omega),hc 2 (by omega),hc 3 (by omega),hc 4 (by omega)⟩
def Pu.sz (m:Pu):Nat:=m.dr.size+m.tm.size+m.rs.size
def zey (ms:List Pu):Nat:=(ms.map Pu.sz).sum
def zdg (ms:List Pu):Nat:=ms.length+zey ms
theorem zeH (m:Pu)(left:Int)(w:World)(hm:m.Small)(h0:0<=left)(h1:left<=1048576) :
 Calls Tryz.prog 59 #[.agg m.cells,.int .i64 left] w fun e w'=>e=.returned (.int .i64 (zK m.sz left))/\Below w.heap.size w w':=by
 have k0:=hm.dr;have k1:=hm.tm;have k2:=hm.rs;unfold maxLen at k0 k1 k2;unfold Pu.cells;have hB:∀ob,Below w.heap.size w (w.alloc ob):=fun ob=>bAl _ _
 by_cases hf:(m.sz:Int)<=left
 ·have HF:Hid (zK m.sz left=left-m.dr.size-m.tm.size-m.rs.size):=by
   unfold Hid;rw[zL hf];unfold Pu.sz;omega
  unfold Pu.sz at hf;go_enter Tryz.func59,Tryz.ntmps59;go_wp2_with fail
  go_ret;exact⟨zo HF.out.symm,hB _⟩
 ·have HF:Hid (zK m.sz left=-1):=zC hf
  have HN:Hid (¬((m.dr.size+m.tm.size+m.rs.size:Nat):Int)<=left):=hf;clear hf;go_enter Tryz.func59,Tryz.ntmps59;go_wp2_with fail
  all_goals go_ret
  all_goals first|exact⟨zo HF.out.symm,hB _⟩|(exfalso;have:=HN.out;simp at *;omega)
theorem ziS (m:Pu)(left:Int)(w:World)(hm:m.Small)(h0:0<=left)(h1:left<=1048576)(h:(m.sz:Int)<=left) :
 Calls Tryz.prog 59 #[.agg m.cells,.int .i64 left] w fun e w'=>e=.returned (.int .i64 (left-m.sz))/\Below w.heap.size w w':=by
 refine(zeH m left w hm h0 h1).mono ?_;rintro e w'⟨rfl,hb⟩;exact⟨zo (zL h),hb⟩
theorem zjJ (m:Pu)(left:Int)(w:World)(hm:m.Small)(h0:0<=left)(h1:left<=1048576)(h:¬(m.sz:Int)<=left) :
 Calls Tryz.prog 59 #[.agg m.cells,.int .i64 left] w fun e w'=>e=.returned (.int .i64 (-1))/\Below w.heap.size w w':=by
 refine(zeH m left w hm h0 h1).mono ?_;rintro e w'⟨rfl,hb⟩;exact⟨zo (zC h),hb⟩
theorem zhc (a:Option Addr)(cap:Nat)(ms:List Pu)(left:Int)(w:World)(hw:zdK w a ms)(h0:0<=left)(h1:left<=1048576) :
 Calls Tryz.prog 23 #[.slice a ms.length cap,.int .i64 left] w fun e w'=>e=.returned (.int .i64 (zK (zdg ms) left))/\Below w.heap.size w w':=by
 have hl:=hw.len;unfold maxLen at hl
 by_cases hfit:(ms.length:Int)<=left
 ·go_enter Tryz.func23,Tryz.ntmps23
  go_wp2_with fail
  go_loopw [1,5] (fun l i wr=>∃k:Nat,k<=ms.length/\i=.int .i64 k/\0<=left-ms.length-zey (ms.take k)/\l=.int .i64 (left-ms.length-zey (ms.take k))/\Below w.heap.size w wr) (fun _ i _=>ms.length-(intOf i).toNat)
  case atStart=>exact⟨0,Nat.zero_le _,rfl,by simp[zey];omega,by simp[zey],bRf _ _⟩
  case round=>
   obtain⟨k,hk,rfl,hpos,rfl,hB⟩:=hrel
   by_cases hlt:k<ms.length
   ·obtain⟨b,off,rfl,hb,c0,c1,c2,c3,c4⟩:=hw.load hB k hlt
    have hsm:=hw.small k hlt;have HS:Hid (zey (ms.take (k+1))=zey (ms.take k)+ms[k].sz):=zbb Pu.sz ms k hlt;have hle:zey (ms.take (k+1))<=zey ms:=zcR Pu.sz ms (k+1);clear hw
    by_cases hneg:(ms[k].sz:Int)<=left-ms.length-zey (ms.take k)
    ·have HNG:Hid ((ms[k].sz:Int)<=left-ms.length-zey (ms.take k)):=hneg
     clear hle;go_wp2_with fail
     refine(ziS _ _ _ hsm hpos (by omega) HNG.out).mono ?_;rintro e w1⟨rfl,hb1⟩;have hB1:=hB.trans (hb1.mono hB.size);clear hb1;go_wp2_with fail
     exact⟨⟨k+1,by omega,by go_num,by rw[HS.out];omega,by rw[HS.out];congr 1;omega,hB1⟩,by simp[intOf];omega⟩
    ·have HF:Hid (zK (zdg ms) left=-1):=zC (by have:=HS.out;unfold zdg;omega)
     have HNG:=hid hneg;clear hneg hle;go_wp2_with fail
     refine(zjJ _ _ _ hsm hpos (by omega) (by have:=HNG.out;omega)).mono ?_;rintro e w1⟨rfl,hb1⟩;have hB1:=hB.trans (hb1.mono hB.size);clear hb1;go_wp2_with fail
     go_ret;exact⟨zo HF.out.symm,hB1⟩
   ·have HF:Hid (zK (zdg ms) left=left-ms.length-zey (ms.take k)):=by
     rw[tOl (by omega)]at hpos ⊢;have e:zK (zdg ms) left=left-zdg ms:=zL (by unfold zdg;omega);unfold Hid;rw[e];unfold zdg;omega
    clear hw
    go_wp2
    go_ret;exact⟨zo HF.out.symm,hB⟩
 ·have HF:Hid (zK (zdg ms) left=-1):=zC (by unfold zdg;omega)
  clear hw;go_enter Tryz.func23,Tryz.ntmps23
  go_wp2
  go_ret;exact⟨zo HF.out.symm,bRf _ _⟩
theorem zi1 (m:Pu)(w:World):Calls Tryz.prog 89 #[.agg m.cells,.agg m.cells] w fun e w'=>e=.returned (.bool true)/\Below w.heap.size w w':=by
 unfold Pu.cells;have hn3:(m.am != m.am)=false:=by simp
 have hn4:(m.un != m.un)=false:=by simp
 go_enter Tryz.func89,Tryz.ntmps89;go_wp2_with fail
 go_ret;exact⟨rfl,zw _ _ _⟩
theorem zhu (a a':Option Addr)(cap cap':Nat)(ms:List Pu)(w:World)(hw:zdK w a ms)(hw':zdK w a' ms) :
 Calls Tryz.prog 45 #[.slice a ms.length cap,.slice a' ms.length cap'] w fun e w'=>e=.returned (.bool true)/\Below w.heap.size w w':=by
 have hl:=hw.len;unfold maxLen at hl;have hnn:((ms.length:Int) != ms.length)=false:=by simp
 go_enter Tryz.func45,Tryz.ntmps45;go_wp2_with fail
 go_loopw [5] (fun i wr=>∃k:Nat,k<=ms.length/\i=.int .i64 k/\Below w.heap.size w wr) (fun i _=>ms.length-(intOf i).toNat)
 case atStart=>exact⟨0,Nat.zero_le _,rfl,bRf _ _⟩
 case round=>
  obtain⟨k,hk,rfl,hB⟩:=hrel
  by_cases hlt:k<ms.length
  ·obtain⟨b,off,rfl,hb,c0,c1,c2,c3,c4⟩:=hw.load hB k hlt
   obtain⟨b',off',rfl,hb',d0,d1,d2,d3,d4⟩:=hw'.load hB k hlt;have hltI:(k:Int)<(ms.length:Int):=by omega
   clear hw hw';go_wp2_with fail
   go_region_with (go_at_call 89;refine(zi1 ms[k] _).mono ?_;rintro e w1⟨rfl,hb1'⟩;have hb1:=(bRf wr.heap.size wr).drew.trans hb1';clear hb1')
   all_goals go_wp2_with fail
   all_goals exact⟨⟨k+1,by omega,by go_num,hB.trans (hb1.mono hB.size)⟩,by simp[intOf];omega⟩
  ·clear hw hw'
   go_wp2_with fail
   go_ret;exact⟨rfl,hB⟩
structure zac (lo:Nat)(w:World)(bo:Nat)(ms:List Pu)(k:Nat):Prop where
 low:lo<=bo
 rows:∃C,w.heap[bo]?=some (.cells C 144)/\C.size=ms.length*5/\∀i (h:i<ms.length),i<k->∀j,j<5->C[i*5+j]?=ms[i].cells[j]?
theorem zac.at {lo:Nat}{w:World}{bo:Nat}{ms:List Pu}(h:zac lo w bo ms ms.length)(hs:∀i (h:i<ms.length),ms[i].Small)(hl:ms.length<=maxLen):zdK w (some ⟨bo,0,none⟩) ms:=by
 obtain⟨C,hC,hsz,hr⟩:=h.rows;refine⟨hl,hs,fun _=>⟨bo,0,rfl,(gES hC).1,fun i hi j hj=>?_⟩⟩;rw[cell_of_block hC,Nat.zero_add];exact hr i hi hi j hj
theorem zac.later {lo:Nat}{w w':World}{bo:Nat}{ms:List Pu}{k:Nat}(h:zac lo w bo ms k)(hb:Below w.heap.size w w'):zac lo w' bo ms k:=by
 obtain⟨C,hC,hsz,hr⟩:=h.rows;exact⟨h.low,C,(hb.block bo (gES hC).1).trans hC,hsz,hr⟩
theorem zac.above {lo:Nat}{w w':World}{bo:Nat}{ms:List Pu}{k:Nat}(h:zac lo w bo ms k)(ha:yP lo w w'):zac lo w' bo ms k:=by
 obtain⟨C,hC,hr⟩:=h.rows;exact⟨h.low,C,(ha.same _ h.low (gES hC).1).trans hC,hr⟩
theorem zac.weaken {lo lo':Nat}{w:World}{bo:Nat}{ms:List Pu}{k:Nat}(h:zac lo w bo ms k)(hl:lo'<=lo):zac lo' w bo ms k:=⟨Nat.le_trans hl h.low,h.rows⟩
def zqf (w:World)(b o:Nat)(v0 v1 v2 v3 v4:Value):World:=(((((w.setCell ⟨b,o,none⟩ v0).setCell ⟨b,o+1,none⟩ v1).setCell ⟨b,o+2,none⟩ v2).setCell ⟨b,o+3,none⟩ v3).setCell ⟨b,o+4,none⟩ v4)
def zjc (C:Array Value)(o:Nat)(v0 v1 v2 v3 v4:Value):Array Value:=(((((C.setIfInBounds (o) v0).setIfInBounds (o+1) v1).setIfInBounds (o+2) v2).setIfInBounds (o+3) v3).setIfInBounds (o+4) v4)
theorem znq {w:World}{b o:Nat}{C:Array Value}{t:TypeId}(h:w.heap[b]?=some (.cells C t))(v0 v1 v2 v3 v4:Value):(zqf w b o v0 v1 v2 v3 v4).heap[b]?=some (.cells (zjc C o v0 v1 v2 v3 v4) t):=
 zk (zk (zk (zk (zk h v0) v1) v2) v3) v4
theorem zmU {B:Nat}{a w:World}(h:Below B a w){b:Nat}(hb:B<=b)(o:Nat)(v0 v1 v2 v3 v4:Value):Below B a (zqf w b o v0 v1 v2 v3 v4):=
 ((((h.setCell hb v0).setCell hb v1).setCell hb v2).setCell hb v3).setCell hb v4
theorem zo3 (C:Array Value)(o:Nat)(v0 v1 v2 v3 v4:Value):(zjc C o v0 v1 v2 v3 v4).size=C.size:=by simp[zjc]
theorem zpw (C:Array Value)(o i:Nat)(v0 v1 v2 v3 v4:Value)(h:i<o \/ o+5<=i):(zjc C o v0 v1 v2 v3 v4)[i]?=C[i]?:=by
 unfold zjc
 iterate 5 rw[Array.getElem?_setIfInBounds,if_neg (by omega)]
theorem zqa (C:Array Value)(o j:Nat)(v0 v1 v2 v3 v4:Value)(hj:j<5)(ho:o+5<=C.size):(zjc C o v0 v1 v2 v3 v4)[o+j]?=(#[v0,v1,v2,v3,v4]:Array Value)[j]?:=by
 have hc:j=0 \/ j=1 \/ j=2 \/ j=3 \/ j=4:=by omega
 unfold zjc
 rcases hc with h|h|h|h|h <;> subst h <;> simp[Array.getElem?_setIfInBounds] <;> omega
theorem zac.put {lo:Nat}{w:World}{bo:Nat}{ms:List Pu}{k:Nat}(h:zac lo w bo ms k)(hk:k<ms.length) :
 zac lo (zqf w bo (k*5) (.string ms[k].dr) (.string ms[k].tm) (.string ms[k].rs) (.int .i64 ms[k].am) (.int .i64 ms[k].un)) bo ms (k+1):=by
 obtain⟨C,hC,hsz,hr⟩:=h.rows;refine⟨h.low,_,znq hC _ _ _ _ _,by rw[zo3];exact hsz,fun i hi hik j hj=>?_⟩
 rcases Nat.lt_or_ge i k with hlt|hge
 ·rw[zpw _ _ _ _ _ _ _ _ (by omega)]
  exact hr i hi hlt j hj
 ·have e:i=k:=by omega
  subst e;rw[zqa _ _ _ _ _ _ _ _ hj (by omega)]
  rfl
theorem ziB (m:Pu)(w:World) :
 Calls Tryz.prog 73 #[.agg m.cells] w fun e w'=>e=.returned (.agg m.cells)/\Below w.heap.size w w':=by
 unfold Pu.cells;go_enter Tryz.func73,Tryz.ntmps73;go_wp2_with fail
 refine bodyPost_ret (v:=.agg #[.string m.dr,.string m.tm,.string m.rs,.int .i64 m.am,.int .i64 m.un]) (by simp[results,Tryz.results73,go_sem]) rfl ⟨rfl,?_⟩;exact(((bAl _ _).alloc (by simp) _).alloc (by simp;omega) _)
def zqn:Array Value:=#[.string ByteArray.empty,.string ByteArray.empty,.string ByteArray.empty,.int .i64 0,.int .i64 0]
def zo9 (n:Nat):Array Value:=madeCells zqn (n*5)
theorem zhe (a:Option Addr)(cap:Nat)(ms:List Pu)(w:World)(hw:zdK w a ms)(hl:ms.length<=1048576) :
 Calls Tryz.prog 35 #[.slice a ms.length cap] w fun e w'=>e=.returned (.slice (some ⟨w.heap.size,0,none⟩) ms.length ms.length)/\zac w.heap.size w' w.heap.size ms ms.length/\Below w.heap.size w w':=by
 have hmk:∀w:World,(Instr.makeSlice 46 (.int .i64 ms.length) (.int .i64 ms.length)).run Tryz.prog w=.ok (.slice (some ⟨w.heap.size,0,none⟩) ms.length ms.length) (w.alloc (.cells (zo9 ms.length) 144)):=
  fun w=>jI (P:=Tryz.prog) 46 144 (.agg zqn) 5 64 Tryz.underlying46 (by kernel_rfl) ms.length (by omega) (by omega) w
 go_enter Tryz.func35,Tryz.ntmps35;go_wp2_with fail
 clear hmk
 go_loopw [4] (fun i wr=>∃k:Nat,k<=ms.length/\i=.int .i64 k/\zac w.heap.size wr w.heap.size ms k/\Below w.heap.size w wr) (fun i _=>ms.length-(intOf i).toNat)
 case atStart=>exact⟨0,Nat.zero_le _,rfl,⟨Nat.le_refl _,zo9 ms.length,(MapKept.heap_alloc w _).1,size_madeCells _ _,fun i _ h=>absurd h (by omega)⟩,bAl _ _⟩
 case round=>
  obtain⟨k,hk,rfl,hown,hB⟩:=hrel
  by_cases hlt:k<ms.length
  ·obtain⟨b,off,rfl,hb,c0,c1,c2,c3,c4⟩:=hw.load hB k hlt
   have hltI:(k:Int)<(ms.length:Int):=by omega
   clear hw;go_wp2_with fail
   refine(ziB ms[k] _).mono ?_;rintro e w1⟨rfl,hb1⟩;have hB1:=hB.trans (hb1.mono hB.size);have hown1:=hown.later hb1
   have hbo:w.heap.size<wr.heap.size:=by
    obtain⟨C',hC',_⟩:=hown.rows;exact(gES hC').1
   obtain⟨C,hC,hsz,_⟩:=hown1.rows;have hfz:∀o,w1.frozen? ⟨w.heap.size,o,none⟩=false:=fun o=>zh hC
   have hex:∀o,o<ms.length*5->∃v,w1.cell? ⟨w.heap.size,o,none⟩=some v:=fun o ho=>⟨C[o]'(by omega),by rw[cell_of_block hC];exact Array.getElem?_eq_getElem (by omega)⟩
   obtain⟨v0,hv0⟩:=hex (k*5) (by omega);obtain⟨v1,hv1⟩:=hex (k*5+1) (by omega);obtain⟨v2,hv2⟩:=hex (k*5+2) (by omega);obtain⟨v3,hv3⟩:=hex (k*5+3) (by omega);obtain⟨v4,hv4⟩:=hex (k*5+4) (by omega);have HP:=hid hown1;clear hex hC hsz c0 c1 c2 c3 c4 hown hown1;unfold Pu.cells;go_wp2_with fail
   exact⟨⟨k+1,by omega,by go_num,HP.out.put hlt,zmU hB1 (Nat.le_refl _) _ _ _ _ _ _⟩,by simp[intOf];omega⟩
  ·have HF:Hid (zac w.heap.size wr w.heap.size ms ms.length):=by
    have e:k=ms.length:=by omega
    subst e;exact hown
   clear hw hown;go_wp2_with fail
   go_ret;exact⟨rfl,HF.out,hB⟩
structure Gr where
 no:Int
 to:ByteArray
 gb:ByteArray
 r:Rl
def Gr.cells (g:Gr)(a0:Option Addr)(c0:Nat):Array Value:=#[.int .i64 g.no,.string g.to,.string g.gb,.slice a0 g.r.vs.length c0,.string g.r.kd,.string g.r.tm,.string g.r.px]
structure Gr.Small (g:Gr):Prop where
 to:g.to.size<=maxLen
 gb:g.gb.size<=maxLen
 r:g.r.Small
def Gr.sz (g:Gr):Nat:=g.to.size+g.gb.size+g.r.sz
theorem Gr.zoa {g:Gr}(h:(g.sz:Int)<=1048576):g.r.vs.length<=1048576:=by unfold Gr.sz Rl.sz at h;omega
theorem zeG (g:Gr)(a0:Option Addr)(c0:Nat)(left:Int)(w:World)(hm:g.Small)(hi:qy w a0 g.r.vs)(h0:0<=left)(h1:left<=1048576) :
 Calls Tryz.prog 57 #[.agg (g.cells a0 c0),.int .i64 left] w fun e w'=>e=.returned (.int .i64 (zK g.sz left))/\Below w.heap.size w w':=by
 have k1:=hm.to;have k2:=hm.gb;have HM:=jC hm.r hi.len;unfold maxLen at k1 k2;clear hm hi;unfold Gr.cells;have hB:∀ob,Below w.heap.size w (w.alloc ob):=fun ob=>bAl _ _
 by_cases c1:(g.to.size:Int)<=left
 rotate_left
 ·have HF:Hid (zK g.sz left=-1):=zC (by unfold Gr.sz;omega)
  go_enter Tryz.func57,Tryz.ntmps57;go_wp2_with fail
  go_ret;exact⟨zo HF.out.symm,hB _⟩
 by_cases c2:(g.gb.size:Int)<=left-g.to.size
 rotate_left
 ·have HF:Hid (zK g.sz left=-1):=zC (by unfold Gr.sz;omega)
  go_enter Tryz.func57,Tryz.ntmps57;go_wp2_with fail
  go_ret;exact⟨zo HF.out.symm,hB _⟩
 by_cases c3:(g.r.sz:Int)<=left-g.to.size-g.gb.size
 ·have HF:Hid (zK g.sz left=left-g.to.size-g.gb.size-g.r.sz):=by
   unfold Hid;rw[zL (by unfold Gr.sz;omega)];unfold Gr.sz;omega
  go_enter Tryz.func57,Tryz.ntmps57;go_wp2_with fail
  refine(zeK g.r a0 c0 _ _ HM.out.1 HM.out.2 (by omega) (by omega)).mono ?_;rintro e w1⟨rfl,hb⟩;rw[zL c3];have hB1:=(hB _).trans (hb.mono (by simp));clear hb;go_wp2_with fail
  go_ret;exact⟨zo HF.out.symm,hB1⟩
 ·have HF:Hid (zK g.sz left=-1):=zC (by unfold Gr.sz;omega)
  have HC:=hid c3;clear c3;go_enter Tryz.func57,Tryz.ntmps57;go_wp2_with fail
  refine(zeK g.r a0 c0 _ _ HM.out.1 HM.out.2 (by omega) (by omega)).mono ?_;rintro e w1⟨rfl,hb⟩;rw[zC (by have:=HC.out;omega)];have hB1:=(hB _).trans (hb.mono (by simp));clear hb;go_wp2_with fail
  go_ret;exact⟨zo HF.out.symm,hB1⟩
theorem ziA (g:Gr)(a0:Option Addr)(c0:Nat)(a0':Option Addr)(c0':Nat)(w:World)(_hm:g.Small)(hi:qy w a0 g.r.vs)(hi':qy w a0' g.r.vs) :
 Calls Tryz.prog 87 #[.agg (g.cells a0 c0),.agg (g.cells a0' c0')] w fun e w'=>e=.returned (.bool true)/\Below w.heap.size w w':=by
 have hn:(g.no != g.no)=false:=by simp
 unfold Gr.cells;go_enter Tryz.func87,Tryz.ntmps87;go_wp2_with fail
 refine(zka g.r _ _ _ _ _ (hi.mono (zw _ _ _)) (hi'.mono (zw _ _ _))).mono ?_;rintro e w1⟨rfl,hb⟩;have hB1:=(zw w _ _).trans (hb.mono (by simp;omega));clear hb;go_wp2_with fail
 go_ret;exact⟨rfl,hB1⟩
theorem ziV (g:Gr)(a0:Option Addr)(c0:Nat)(w:World)(_hm:g.Small)(hi:qy w a0 g.r.vs)(hl:g.r.vs.length<=1048576) :
 Calls Tryz.prog 71 #[.agg (g.cells a0 c0)] w fun e w'=>∃g0,e=.returned (.agg (g.cells (some ⟨g0,0,none⟩) g.r.vs.length))/\w.heap.size<=g0/\w'.heap[g0]?=some (.cells (zb8 g.r.vs) 3)/\Below w.heap.size w w':=by
 unfold Gr.cells;go_enter Tryz.func71,Tryz.ntmps71;go_wp2_with fail
 have k0:=zps w (.cells #[.int .i64 g.no,.string g.to,.string g.gb,.slice a0 g.r.vs.length c0,.string g.r.kd,.string g.r.tm,.string g.r.px] 113) (.cells #[.int .i64 0,.string ByteArray.empty,.string ByteArray.empty,.slice none 0 0,.string ByteArray.empty,.string ByteArray.empty,.string ByteArray.empty] 140) (.cells #[.int .i64 g.no,.string g.to,.string g.gb,.slice none 0 0,.string ByteArray.empty,.string ByteArray.empty,.string ByteArray.empty] 140);have hB0:=below3' w (.cells #[.int .i64 g.no,.string g.to,.string g.gb,.slice a0 g.r.vs.length c0,.string g.r.kd,.string g.r.tm,.string g.r.px] 113) (.cells #[.int .i64 0,.string ByteArray.empty,.string ByteArray.empty,.slice none 0 0,.string ByteArray.empty,.string ByteArray.empty,.string ByteArray.empty] 140) (.cells #[.int .i64 g.no,.string g.to,.string g.gb,.slice none 0 0,.string ByteArray.empty,.string ByteArray.empty,.string ByteArray.empty] 140);refine(zjR g.r a0 c0 _ (hi.mono (below3' _ _ _ _)) hl).mono ?_;rintro e w1⟨bk,rfl,hlo,hhi,hbk,hb⟩;have hlo':w.heap.size+1+1+1<=bk:=by simpa using hlo
 have hR1:=(hb.block _ (by simp)).trans k0.2.1;have hO1:=(hb.block _ (by simp)).trans k0.2.2;have hB1:=hB0.trans (hb.mono (by simp;omega));have HK:=hid hbk;have cR:=fun j=>cell_of_block (o:=j) hR1
 have fR:=fun j=>zh (o:=j) hR1
 have cO:=fun j=>cell_of_block (o:=j) hO1
 have fO:=fun j=>zh (o:=j) hO1
 have hz1:=(gES hO1).1;clear hb hbk k0 hB0 hlo hR1 hO1;unfold Rl.cells;go_wp2_with fail
 refine bodyPost_ret (v:=.agg #[.int .i64 g.no,.string g.to,.string g.gb,.slice (some ⟨bk,0,none⟩) g.r.vs.length g.r.vs.length,.string g.r.kd,.string g.r.tm,.string g.r.px]) (by simp[results,Tryz.results71,go_sem,cR]) rfl ⟨bk,rfl,by omega,?_,?_⟩
 ·have h1:bk≠w.heap.size+1:=by omega
  have h2:bk≠w.heap.size+1+1:=by omega
  exact(zM h1).trans ((zM h1).trans ((zM h1).trans ((zM h1).trans ((zM h1).trans ((zM h1).trans ((zM h1).trans ((zM h2).trans ((zM h2).trans ((zM h2).trans ((zM h2).trans HK.out))))))))))
 ·have h3:w.heap.size<=w.heap.size+1:=by omega
  have h4:w.heap.size<=w.heap.size+1+1:=by omega
  exact((((((((((hB1.setCell h4 _).setCell h4 _).setCell h4 _).setCell h4 _).setCell h3 _).setCell h3 _).setCell h3 _).setCell h3 _).setCell h3 _).setCell h3 _).setCell h3 _
structure zqt (w:World)(b off:Nat)(x:Gr)(a0:Option Addr)(c0:Nat):Prop where
 small:x.Small
 l0:qy w a0 x.r.vs
 cell:∀j,j<7->w.cell? ⟨b,off+j,none⟩=(Gr.cells x a0 c0)[j]?
structure zc5 (w:World)(a:Option Addr)(ms:List Gr):Prop where
 len:ms.length<=maxLen
 rows:ms≠[]->∃b off,a=some ⟨b,off,none⟩/\b<w.heap.size/\∀i (h:i<ms.length),∃a0 c0,zqt w b (off+i*7) ms[i] a0 c0
theorem zqt.mono {w w':World}{b off:Nat}{x:Gr}{a0:Option Addr}{c0:Nat}(h:zqt w b off x a0 c0)(hb:b<w.heap.size)(hl:Below w.heap.size w w'):zqt w' b off x a0 c0:=
 ⟨h.small,h.l0.mono hl,fun j hj=>(hl.cell (p:=⟨b,off+j,none⟩) hb).trans (h.cell j hj)⟩
theorem zc5.mono {w w':World}{a:Option Addr}{ms:List Gr}(h:zc5 w a ms)(hl:Below w.heap.size w w'):zc5 w' a ms:=
 ⟨h.len,fun hne=>by
  obtain⟨b,off,ha,hb,hr⟩:=h.rows hne;refine⟨b,off,ha,nLt hb hl.size,fun i hi=>?_⟩;obtain⟨a0,c0,hf⟩:=hr i hi;exact⟨a0,c0,hf.mono hb hl⟩⟩
theorem zc5.load {w w':World}{a:Option Addr}{ms:List Gr}(h:zc5 w a ms)(hl:Below w.heap.size w w')(i:Nat)(hi:i<ms.length):∃b off a0 c0,a=some ⟨b,off,none⟩/\b<w.heap.size/\ms[i].Small/\qy w' a0 ms[i].r.vs /\
 w'.cell? ⟨b,off+i*7,none⟩=some (.int .i64 ms[i].no)/\w'.cell? ⟨b,off+i*7+1,none⟩=some (.string ms[i].to)/\w'.cell? ⟨b,off+i*7+2,none⟩=some (.string ms[i].gb)/\w'.cell? ⟨b,off+i*7+3,none⟩=some (.slice a0 ms[i].r.vs.length c0)/\w'.cell? ⟨b,off+i*7+4,none⟩=some (.string ms[i].r.kd)/\w'.cell? ⟨b,off+i*7+5,none⟩=some (.string ms[i].r.tm)/\w'.cell? ⟨b,off+i*7+6,none⟩=some (.string ms[i].r.px):=by
 obtain⟨b,off,ha,hb,hr⟩:=h.rows (by rintro rfl;simp at hi);obtain⟨a0,c0,hf0⟩:=hr i hi;have hf:=hf0.mono hb hl;exact⟨b,off,a0,c0,ha,hb,hf.small,hf.l0,hf.cell 0 (by omega),hf.cell 1 (by omega),hf.cell 2 (by omega),hf.cell 3 (by omega),hf.cell 4 (by omega),hf.cell 5 (by omega),hf.cell 6 (by omega)⟩
def zdE (ms:List Gr):Nat:=(ms.map Gr.sz).sum
def zcq (ms:List Gr):Nat:=ms.length+zdE ms
structure zjo (ms:List Gr):Prop where
 small:∀i (h:i<ms.length),ms[i].Small/\ms[i].r.vs.length<=maxLen
theorem zc5.smalls {w:World}{a:Option Addr}{ms:List Gr}(h:zc5 w a ms):zjo ms:=
 ⟨fun i hi=>by
  obtain⟨b,off,_,_,hr⟩:=h.rows (by rintro rfl;simp at hi);obtain⟨a0,c0,hf⟩:=hr i hi;exact⟨hf.small,hf.l0.len⟩⟩
theorem zqW {ms:List Gr}{left:Int}(h:(zcq ms:Int)<=left)(hl:left<=1048576):ms.length<=1048576/\∀i (h:i<ms.length),ms[i].r.vs.length<=1048576:=by
 unfold zcq at h;refine⟨by omega,fun i hi=>?_⟩;have h1:ms[i].sz<=zdE ms:=zi6 Gr.sz ms i hi;exact Gr.zoa (by omega)
theorem zhG (a:Option Addr)(cap:Nat)(ms:List Gr)(left:Int)(w:World)(hw:zc5 w a ms)(h0:0<=left)(h1:left<=1048576) :
 Calls Tryz.prog 21 #[.slice a ms.length cap,.int .i64 left] w fun e w'=>e=.returned (.int .i64 (zK (zcq ms) left))/\Below w.heap.size w w':=by
 have hl:=hw.len;unfold maxLen at hl
 by_cases hfit:(ms.length:Int)<=left
 ·go_enter Tryz.func21,Tryz.ntmps21
  go_wp2_with fail
  go_loopw [1,5] (fun l i wr=>∃k:Nat,k<=ms.length/\i=.int .i64 k/\0<=left-ms.length-zdE (ms.take k)/\l=.int .i64 (left-ms.length-zdE (ms.take k))/\Below w.heap.size w wr) (fun _ i _=>ms.length-(intOf i).toNat)
  case atStart=>exact⟨0,Nat.zero_le _,rfl,by simp[zdE];omega,by simp[zdE],bRf _ _⟩
  case round=>
   obtain⟨k,hk,rfl,hpos,rfl,hB⟩:=hrel
   by_cases hlt:k<ms.length
   ·obtain⟨b,off,a0,c0,rfl,hb,hsm,hl0,d0,d1,d2,d3,d4,d5,d6⟩:=hw.load hB k hlt
    have hbr:=nLt hb hB.size;have HS:Hid (zdE (ms.take (k+1))=zdE (ms.take k)+ms[k].sz):=zbb Gr.sz ms k hlt;have hle:zdE (ms.take (k+1))<=zdE ms:=zcR Gr.sz ms (k+1);have HI:Hid (qy wr a0 ms[k].r.vs):=hl0;clear hw hl0
    by_cases hneg:(ms[k].sz:Int)<=left-ms.length-zdE (ms.take k)
    ·have HNG:Hid ((ms[k].sz:Int)<=left-ms.length-zdE (ms.take k)):=hneg
     clear hle;go_wp2_with fail
     refine(zeG ms[k] a0 c0 _ _ hsm HI.out hpos (by omega)).mono ?_;rintro e w1⟨rfl,hb1⟩;rw[zL HNG.out];have hB1:=hB.trans (hb1.mono hB.size);clear hb1;go_wp2_with fail
     exact⟨⟨k+1,by omega,by go_num,by rw[HS.out];omega,by rw[HS.out];congr 1;omega,hB1⟩,by simp[intOf];omega⟩
    ·have HF:Hid (zK (zcq ms) left=-1):=zC (by have:=HS.out;unfold zcq;omega)
     have HNG:=hid hneg;clear hneg hle;go_wp2_with fail
     refine(zeG ms[k] a0 c0 _ _ hsm HI.out hpos (by omega)).mono ?_;rintro e w1⟨rfl,hb1⟩;rw[zC (by have:=HNG.out;omega)];have hB1:=hB.trans (hb1.mono hB.size);clear hb1;go_wp2_with fail
     go_ret;exact⟨zo HF.out.symm,hB1⟩
   ·have HF:Hid (zK (zcq ms) left=left-ms.length-zdE (ms.take k)):=by
     rw[tOl (by omega)]at hpos ⊢;have e:zK (zcq ms) left=left-zcq ms:=zL (by unfold zcq;omega);unfold Hid;rw[e];unfold zcq;omega
    clear hw
    go_wp2
    go_ret;exact⟨zo HF.out.symm,hB⟩
 ·have HF:Hid (zK (zcq ms) left=-1):=zC (by unfold zcq;omega)
  clear hw;go_enter Tryz.func21,Tryz.ntmps21
  go_wp2
  go_ret;exact⟨zo HF.out.symm,bRf _ _⟩
theorem zhI (a a':Option Addr)(cap cap':Nat)(ms:List Gr)(w:World)(hw:zc5 w a ms)(hw':zc5 w a' ms) :
 Calls Tryz.prog 43 #[.slice a ms.length cap,.slice a' ms.length cap'] w fun e w'=>e=.returned (.bool true)/\Below w.heap.size w w':=by
 have hl:=hw.len;unfold maxLen at hl;have hnn:((ms.length:Int) != ms.length)=false:=by simp
 go_enter Tryz.func43,Tryz.ntmps43;go_wp2_with fail
 go_loopw [5] (fun i wr=>∃k:Nat,k<=ms.length/\i=.int .i64 k/\Below w.heap.size w wr) (fun i _=>ms.length-(intOf i).toNat)
 case atStart=>exact⟨0,Nat.zero_le _,rfl,bRf _ _⟩
 case round=>
  obtain⟨k,hk,rfl,hB⟩:=hrel
  by_cases hlt:k<ms.length
  ·obtain⟨b,off,a0,c0,rfl,hb,hsm,hl0,d0,d1,d2,d3,d4,d5,d6⟩:=hw.load hB k hlt
   obtain⟨b',off',a0',c0',rfl,hb',_,hl0',f0,f1,f2,f3,f4,f5,f6⟩:=hw'.load hB k hlt;have hltI:(k:Int)<(ms.length:Int):=by omega
   clear hw hw';go_wp2_with fail
   go_region_with (go_at_call 87;refine(ziA ms[k] a0 c0 a0' c0' _ hsm (by exact hl0.mono ((bRf _ _).drew)) (by exact hl0'.mono ((bRf _ _).drew))).mono ?_;rintro e w1⟨rfl,hb1'⟩;have hb1:=(bRf wr.heap.size wr).drew.trans hb1';clear hb1')
   all_goals go_wp2_with fail
   all_goals exact⟨⟨k+1,by omega,by go_num,hB.trans (hb1.mono hB.size)⟩,by simp[intOf];omega⟩
  ·clear hw hw'
   go_wp2_with fail
   go_ret;exact⟨rfl,hB⟩
structure zaf (lo:Nat)(w:World)(bo:Nat)(ms:List Gr)(k:Nat):Prop where
 low:lo<=bo
 rows:∃C,w.heap[bo]?=some (.cells C 140)/\C.size=ms.length*7 /\
  ∀i (h:i<ms.length),i<k->∃g0,lo<=g0/\g0≠bo/\w.heap[g0]?=some (.cells (zb8 ms[i].r.vs) 3)/\∀j,j<7->C[i*7+j]?=(Gr.cells ms[i] (some ⟨g0,0,none⟩) ms[i].r.vs.length)[j]?
theorem zaf.at {lo:Nat}{w:World}{bo:Nat}{ms:List Gr}(h:zaf lo w bo ms ms.length)(hs:zjo ms)(hl:ms.length<=maxLen):zc5 w (some ⟨bo,0,none⟩) ms:=by
 obtain⟨C,hC,hsz,hr⟩:=h.rows;refine⟨hl,fun _=>⟨bo,0,rfl,(gES hC).1,fun i hi=>?_⟩⟩;obtain⟨g0,_,_,hk0,hc⟩:=hr i hi hi;obtain⟨s0,s1⟩:=hs.small i hi;refine⟨some ⟨g0,0,none⟩,ms[i].r.vs.length,s0,zhs hk0 s1,fun j hj=>?_⟩;rw[cell_of_block hC,Nat.zero_add];exact hc j hj
theorem zaf.above {lo:Nat}{w w':World}{bo:Nat}{ms:List Gr}{k:Nat}(h:zaf lo w bo ms k)(ha:yP lo w w'):zaf lo w' bo ms k:=by
 obtain⟨C,hC,hsz,hr⟩:=h.rows;refine⟨h.low,C,(ha.same _ h.low (gES hC).1).trans hC,hsz,fun i hi hk=>?_⟩;obtain⟨g0,p0,q0,r0,hc⟩:=hr i hi hk;exact⟨g0,p0,q0,(ha.same _ p0 (gES r0).1).trans r0,hc⟩
theorem zaf.later {lo:Nat}{w w':World}{bo:Nat}{ms:List Gr}{k:Nat}(h:zaf lo w bo ms k)(hb:Below w.heap.size w w'):zaf lo w' bo ms k:=h.above (yP.below hb)
theorem zaf.weaken {lo lo':Nat}{w:World}{bo:Nat}{ms:List Gr}{k:Nat}(h:zaf lo w bo ms k)(hl:lo'<=lo):zaf lo' w bo ms k:=by
 obtain⟨C,hC,hsz,hr⟩:=h.rows;refine⟨Nat.le_trans hl h.low,C,hC,hsz,fun i hi hk=>?_⟩;obtain⟨g0,p0,q0,r0,hc⟩:=hr i hi hk;exact⟨g0,Nat.le_trans hl p0,q0,r0,hc⟩
def zmO (w:World)(b o:Nat)(v0 v1 v2 v3 v4 v5 v6:Value):World:=(((((((w.setCell ⟨b,o,none⟩ v0).setCell ⟨b,o+1,none⟩ v1).setCell ⟨b,o+2,none⟩ v2).setCell ⟨b,o+3,none⟩ v3).setCell ⟨b,o+4,none⟩ v4).setCell ⟨b,o+5,none⟩ v5).setCell ⟨b,o+6,none⟩ v6)
def zji (C:Array Value)(o:Nat)(v0 v1 v2 v3 v4 v5 v6:Value):Array Value:=(((((((C.setIfInBounds (o) v0).setIfInBounds (o+1) v1).setIfInBounds (o+2) v2).setIfInBounds (o+3) v3).setIfInBounds (o+4) v4).setIfInBounds (o+5) v5).setIfInBounds (o+6) v6)
theorem zne {w:World}{b o:Nat}{C:Array Value}{t:TypeId}(h:w.heap[b]?=some (.cells C t))(v0 v1 v2 v3 v4 v5 v6:Value):(zmO w b o v0 v1 v2 v3 v4 v5 v6).heap[b]?=some (.cells (zji C o v0 v1 v2 v3 v4 v5 v6) t):=
 zk (zk (zk (zk (zk (zk (zk h v0) v1) v2) v3) v4) v5) v6
theorem znV {B:Nat}{a w:World}(h:Below B a w){b:Nat}(hb:B<=b)(o:Nat)(v0 v1 v2 v3 v4 v5 v6:Value):Below B a (zmO w b o v0 v1 v2 v3 v4 v5 v6):=
 ((((((h.setCell hb v0).setCell hb v1).setCell hb v2).setCell hb v3).setCell hb v4).setCell hb v5).setCell hb v6
theorem zh6 (w:World)(b o:Nat)(v0 v1 v2 v3 v4 v5 v6:Value){b':Nat}(h:b'≠b):(zmO w b o v0 v1 v2 v3 v4 v5 v6).heap[b']?=w.heap[b']?:=by
 unfold zmO
 iterate 7 rw[zM h]
theorem zol (C:Array Value)(o:Nat)(v0 v1 v2 v3 v4 v5 v6:Value):(zji C o v0 v1 v2 v3 v4 v5 v6).size=C.size:=by simp[zji]
theorem zpB (C:Array Value)(o i:Nat)(v0 v1 v2 v3 v4 v5 v6:Value)(h:i<o \/ o+7<=i):(zji C o v0 v1 v2 v3 v4 v5 v6)[i]?=C[i]?:=by
 unfold zji
 iterate 7 rw[Array.getElem?_setIfInBounds,if_neg (by omega)]
theorem zqb (C:Array Value)(o j:Nat)(v0 v1 v2 v3 v4 v5 v6:Value)(hj:j<7)(ho:o+7<=C.size):(zji C o v0 v1 v2 v3 v4 v5 v6)[o+j]?=(#[v0,v1,v2,v3,v4,v5,v6]:Array Value)[j]?:=by
 have hc:j=0 \/ j=1 \/ j=2 \/ j=3 \/ j=4 \/ j=5 \/ j=6:=by omega
 unfold zji
 rcases hc with h|h|h|h|h|h|h <;> subst h <;> simp[Array.getElem?_setIfInBounds] <;> omega
theorem zaf.put {lo:Nat}{w:World}{bo:Nat}{ms:List Gr}{k:Nat}(h:zaf lo w bo ms k)(hk:k<ms.length)(g0:Nat)(p0:lo<=g0)(q0:g0≠bo)(r0:w.heap[g0]?=some (.cells (zb8 ms[k].r.vs) 3)) :
 zaf lo (zmO w bo (k*7) (.int .i64 ms[k].no) (.string ms[k].to) (.string ms[k].gb) (.slice (some ⟨g0,0,none⟩) ms[k].r.vs.length ms[k].r.vs.length) (.string ms[k].r.kd) (.string ms[k].r.tm) (.string ms[k].r.px)) bo ms (k+1):=by
 obtain⟨C,hC,hsz,hr⟩:=h.rows;refine⟨h.low,_,zne hC _ _ _ _ _ _ _,by rw[zol];exact hsz,fun i hi hik=>?_⟩
 rcases Nat.lt_or_ge i k with hlt|hge
 ·obtain⟨g0',x0,y0,z0,hc⟩:=hr i hi hlt
  refine⟨g0',x0,y0,(by rw[zh6 _ _ _ _ _ _ _ _ _ _ y0];exact z0),fun j hj=>?_⟩;rw[zpB _ _ _ _ _ _ _ _ _ _ (by omega)];exact hc j hj
 ·have e:i=k:=by omega
  subst e;refine⟨g0,p0,q0,(by rw[zh6 _ _ _ _ _ _ _ _ _ _ q0];exact r0),fun j hj=>?_⟩;rw[zqb _ _ _ _ _ _ _ _ _ _ hj (by omega)]
  rfl
def zqH:Array Value:=#[.int .i64 0,.string ByteArray.empty,.string ByteArray.empty,.slice none 0 0,.string ByteArray.empty,.string ByteArray.empty,.string ByteArray.empty]
def zpb (n:Nat):Array Value:=madeCells zqH (n*7)
theorem zhv (a:Option Addr)(cap:Nat)(ms:List Gr)(w:World)(hw:zc5 w a ms)(hl:ms.length<=1048576)(hls:∀i (h:i<ms.length),ms[i].r.vs.length<=1048576) :
 Calls Tryz.prog 33 #[.slice a ms.length cap] w fun e w'=>e=.returned (.slice (some ⟨w.heap.size,0,none⟩) ms.length ms.length)/\zaf w.heap.size w' w.heap.size ms ms.length/\Below w.heap.size w w':=by
 have hmk:∀w:World,(Instr.makeSlice 44 (.int .i64 ms.length) (.int .i64 ms.length)).run Tryz.prog w=.ok (.slice (some ⟨w.heap.size,0,none⟩) ms.length ms.length) (w.alloc (.cells (zpb ms.length) 140)):=
  fun w=>jI (P:=Tryz.prog) 44 140 (.agg zqH) 7 112 Tryz.underlying44 (by kernel_rfl) ms.length (by omega) (by omega) w
 go_enter Tryz.func33,Tryz.ntmps33;go_wp2_with fail
 clear hmk
 go_loopw [4] (fun i wr=>∃k:Nat,k<=ms.length/\i=.int .i64 k/\Hid (zaf w.heap.size wr w.heap.size ms k)/\Below w.heap.size w wr) (fun i _=>ms.length-(intOf i).toNat)
 case atStart=>exact⟨0,Nat.zero_le _,rfl,⟨Nat.le_refl _,zpb ms.length,(MapKept.heap_alloc w _).1,size_madeCells _ _,fun i _ h=>absurd h (by omega)⟩,bAl _ _⟩
 case round=>
  obtain⟨k,hk,rfl,HOW,hB⟩:=hrel
  by_cases hlt:k<ms.length
  ·obtain⟨b,off,a0,c0,rfl,hb,hsm,hl0,d0,d1,d2,d3,d4,d5,d6⟩:=hw.load hB k hlt
   have HLS:=hid (hls k hlt);have hltI:(k:Int)<(ms.length:Int):=by omega
   clear hw;go_wp2_with fail
   refine(ziV ms[k] a0 c0 _ hsm hl0 HLS.out).mono ?_;rintro e w1⟨g0,rfl,p0,r0,hb1⟩;have hB1:=hB.trans (hb1.mono hB.size)
   have hbo:w.heap.size<wr.heap.size:=by
    obtain⟨C',hC',_⟩:=HOW.out.rows;exact(gES hC').1
   have HP:=hid (HOW.out.later hb1);obtain⟨C,hC,hsz,_⟩:=HP.out.rows;have hfz:∀o,w1.frozen? ⟨w.heap.size,o,none⟩=false:=fun o=>zh hC
   have hex:∀o,o<ms.length*7->∃v,w1.cell? ⟨w.heap.size,o,none⟩=some v:=fun o ho=>⟨C[o]'(by omega),by rw[cell_of_block hC];exact Array.getElem?_eq_getElem (by omega)⟩
   obtain⟨v0,hv0⟩:=hex (k*7) (by omega);obtain⟨v1,hv1⟩:=hex (k*7+1) (by omega);obtain⟨v2,hv2⟩:=hex (k*7+2) (by omega);obtain⟨v3,hv3⟩:=hex (k*7+3) (by omega);obtain⟨v4,hv4⟩:=hex (k*7+4) (by omega);obtain⟨v5,hv5⟩:=hex (k*7+5) (by omega);obtain⟨v6,hv6⟩:=hex (k*7+6) (by omega);have HR:=jC p0 r0;clear hex hC hsz d0 d1 d2 d3 d4 d5 d6 p0 r0 hl0;unfold Gr.cells;go_wp2_with fail
   obtain⟨p0,r0⟩:=HR.out;exact⟨⟨k+1,by omega,by go_num,HP.out.put hlt g0 (by omega) (by omega) r0,znV hB1 (Nat.le_refl _) _ _ _ _ _ _ _ _⟩,by simp[intOf];omega⟩
  ·have HF:Hid (zaf w.heap.size wr w.heap.size ms ms.length):=by
    have e:k=ms.length:=by omega
    subst e;exact HOW.out
   clear hw HOW;go_wp2_with fail
   go_ret;exact⟨rfl,HF.out,hB⟩
def Ob.row (o:Ob)(a0 a1:Option Addr)(c0 c1:Nat):Array Value:=#[.string o.kd,.string o.nm,.string o.tm,.slice a0 o.vs.length c0,.bool o.en,.slice a1 o.hs.length c1,.int .i64 o.vr]
def Ob.sz (o:Ob):Nat:=zdB o
theorem Ob.zoa {o:Ob}(h:(o.sz:Int)<=1048576):o.vs.length<=1048576/\o.hs.length<=1048576:=zq6 h (Int.le_refl _)
theorem zdN (o:Ob)(a0 a1:Option Addr)(c0 c1:Nat)(left:Int)(w:World)(hm:o.Small)(h0':zD w a0 o.vs)(h1':zD w a1 o.hs)(h0:0<=left)(h1:left<=1048576) :
 Calls Tryz.prog 56 #[.agg (o.row a0 a1 c0 c1),.int .i64 left] w fun e w'=>e=.returned (.int .i64 (zK o.sz left))/\Below w.heap.size w w':=zhJ o a0 a1 c0 c1 left w ⟨hm,h0',h1'⟩ h0 h1
theorem zht (o:Ob)(a0 a1:Option Addr)(c0 c1:Nat)(a0' a1':Option Addr)(c0' c1':Nat)(w:World)(hm:o.Small)(h0:zD w a0 o.vs)(h1:zD w a1 o.hs)(h0':zD w a0' o.vs)(h1':zD w a1' o.hs) :
 Calls Tryz.prog 86 #[.agg (o.row a0 a1 c0 c1),.agg (o.row a0' a1' c0' c1')] w fun e w'=>e=.returned (.bool true)/\Below w.heap.size w w':=zhk o a0 a1 a0' a1' c0 c1 c0' c1' w ⟨hm,h0,h1⟩ ⟨hm,h0',h1'⟩
theorem zhQ (o:Ob)(a0 a1:Option Addr)(c0 c1:Nat)(w:World)(hm:o.Small)(h0:zD w a0 o.vs)(h1:zD w a1 o.hs)(hl:o.vs.length<=1048576/\o.hs.length<=1048576) :
 Calls Tryz.prog 70 #[.agg (o.row a0 a1 c0 c1)] w fun e w'=>∃g0 g1,e=.returned (.agg (o.row (some ⟨g0,0,none⟩) (some ⟨g1,0,none⟩) o.vs.length o.hs.length))/\w.heap.size<=g0/\w'.heap[g0]?=some (.cells (jY o.vs) 9)/\w.heap.size<=g1/\w'.heap[g1]?=some (.cells (jY o.hs) 9)/\Below w.heap.size w w':=by
 refine(zhL o a0 a1 c0 c1 w ⟨hm,h0,h1⟩ hl.1 hl.2).mono ?_;rintro e w'⟨bv,bh,he,hv,hh,_,hbv,hbh,hb⟩;exact⟨bv,bh,he,hv,hbv,hh,hbh,hb⟩
structure zp1 (w:World)(b off:Nat)(x:Ob)(a0 a1:Option Addr)(c0 c1:Nat):Prop where
 small:x.Small
 l0:zD w a0 x.vs
 l1:zD w a1 x.hs
 cell:∀j,j<7->w.cell? ⟨b,off+j,none⟩=(Ob.row x a0 a1 c0 c1)[j]?
structure zbT (w:World)(a:Option Addr)(ms:List Ob):Prop where
 len:ms.length<=maxLen
 rows:ms≠[]->∃b off,a=some ⟨b,off,none⟩/\b<w.heap.size/\∀i (h:i<ms.length),∃a0 a1 c0 c1,zp1 w b (off+i*7) ms[i] a0 a1 c0 c1
theorem zp1.mono {w w':World}{b off:Nat}{x:Ob}{a0 a1:Option Addr}{c0 c1:Nat}(h:zp1 w b off x a0 a1 c0 c1)(hb:b<w.heap.size)(hl:Below w.heap.size w w'):zp1 w' b off x a0 a1 c0 c1:=
 ⟨h.small,h.l0.mono hl,h.l1.mono hl,fun j hj=>(hl.cell (p:=⟨b,off+j,none⟩) hb).trans (h.cell j hj)⟩
theorem zbT.mono {w w':World}{a:Option Addr}{ms:List Ob}(h:zbT w a ms)(hl:Below w.heap.size w w'):zbT w' a ms:=
 ⟨h.len,fun hne=>by
  obtain⟨b,off,ha,hb,hr⟩:=h.rows hne;refine⟨b,off,ha,nLt hb hl.size,fun i hi=>?_⟩;obtain⟨a0,a1,c0,c1,hf⟩:=hr i hi;exact⟨a0,a1,c0,c1,hf.mono hb hl⟩⟩
theorem zbT.load {w w':World}{a:Option Addr}{ms:List Ob}(h:zbT w a ms)(hl:Below w.heap.size w w')(i:Nat)(hi:i<ms.length):∃b off a0 a1 c0 c1,a=some ⟨b,off,none⟩/\b<w.heap.size/\ms[i].Small/\zD w' a0 ms[i].vs/\zD w' a1 ms[i].hs /\
 w'.cell? ⟨b,off+i*7,none⟩=some (.string ms[i].kd)/\w'.cell? ⟨b,off+i*7+1,none⟩=some (.string ms[i].nm)/\w'.cell? ⟨b,off+i*7+2,none⟩=some (.string ms[i].tm)/\w'.cell? ⟨b,off+i*7+3,none⟩=some (.slice a0 ms[i].vs.length c0)/\w'.cell? ⟨b,off+i*7+4,none⟩=some (.bool ms[i].en)/\w'.cell? ⟨b,off+i*7+5,none⟩=some (.slice a1 ms[i].hs.length c1)/\w'.cell? ⟨b,off+i*7+6,none⟩=some (.int .i64 ms[i].vr):=by
 obtain⟨b,off,ha,hb,hr⟩:=h.rows (by rintro rfl;simp at hi);obtain⟨a0,a1,c0,c1,hf0⟩:=hr i hi;have hf:=hf0.mono hb hl;exact⟨b,off,a0,a1,c0,c1,ha,hb,hf.small,hf.l0,hf.l1,hf.cell 0 (by omega),hf.cell 1 (by omega),hf.cell 2 (by omega),hf.cell 3 (by omega),hf.cell 4 (by omega),hf.cell 5 (by omega),hf.cell 6 (by omega)⟩
def zbf (ms:List Ob):Nat:=(ms.map Ob.sz).sum
def qG (ms:List Ob):Nat:=ms.length+zbf ms
structure zgq (ms:List Ob):Prop where
 small:∀i (h:i<ms.length),ms[i].Small/\(ms[i].vs.length<=maxLen/\∀s∈ms[i].vs,s.size<=maxLen)/\(ms[i].hs.length<=maxLen/\∀s∈ms[i].hs,s.size<=maxLen)
theorem zbT.smalls {w:World}{a:Option Addr}{ms:List Ob}(h:zbT w a ms):zgq ms:=
 ⟨fun i hi=>by
  obtain⟨b,off,_,_,hr⟩:=h.rows (by rintro rfl;simp at hi);obtain⟨a0,a1,c0,c1,hf⟩:=hr i hi;exact⟨hf.small,⟨hf.l0.len,hf.l0.small⟩,⟨hf.l1.len,hf.l1.small⟩⟩⟩
theorem zmr {ms:List Ob}{left:Int}(h:(qG ms:Int)<=left)(hl:left<=1048576):ms.length<=1048576/\∀i (h:i<ms.length),ms[i].vs.length<=1048576/\ms[i].hs.length<=1048576:=by
 unfold qG at h;refine⟨by omega,fun i hi=>?_⟩;have h1:ms[i].sz<=zbf ms:=zi6 Ob.sz ms i hi;exact Ob.zoa (by omega)
theorem zhb (a:Option Addr)(cap:Nat)(ms:List Ob)(left:Int)(w:World)(hw:zbT w a ms)(h0:0<=left)(h1:left<=1048576) :
 Calls Tryz.prog 20 #[.slice a ms.length cap,.int .i64 left] w fun e w'=>e=.returned (.int .i64 (zK (qG ms) left))/\Below w.heap.size w w':=by
 have hl:=hw.len;unfold maxLen at hl
 by_cases hfit:(ms.length:Int)<=left
 ·go_enter Tryz.func20,Tryz.ntmps20
  go_wp2_with fail
  go_loopw [1,5] (fun l i wr=>∃k:Nat,k<=ms.length/\i=.int .i64 k/\0<=left-ms.length-zbf (ms.take k)/\l=.int .i64 (left-ms.length-zbf (ms.take k))/\Below w.heap.size w wr) (fun _ i _=>ms.length-(intOf i).toNat)
  case atStart=>exact⟨0,Nat.zero_le _,rfl,by simp[zbf];omega,by simp[zbf],bRf _ _⟩
  case round=>
   obtain⟨k,hk,rfl,hpos,rfl,hB⟩:=hrel
   by_cases hlt:k<ms.length
   ·obtain⟨b,off,a0,a1,c0,c1,rfl,hb,hsm,hl0,hl1,d0,d1,d2,d3,d4,d5,d6⟩:=hw.load hB k hlt
    have hbr:=nLt hb hB.size;have HS:Hid (zbf (ms.take (k+1))=zbf (ms.take k)+ms[k].sz):=zbb Ob.sz ms k hlt;have hle:zbf (ms.take (k+1))<=zbf ms:=zcR Ob.sz ms (k+1);have HI:Hid (zD wr a0 ms[k].vs/\zD wr a1 ms[k].hs):=⟨hl0,hl1⟩
    clear hw hl0 hl1
    by_cases hneg:(ms[k].sz:Int)<=left-ms.length-zbf (ms.take k)
    ·have HNG:Hid ((ms[k].sz:Int)<=left-ms.length-zbf (ms.take k)):=hneg
     clear hle;go_wp2_with fail
     refine(zdN ms[k] a0 a1 c0 c1 _ _ hsm HI.out.1 HI.out.2 hpos (by omega)).mono ?_;rintro e w1⟨rfl,hb1⟩;rw[zL HNG.out];have hB1:=hB.trans (hb1.mono hB.size);clear hb1;go_wp2_with fail
     exact⟨⟨k+1,by omega,by go_num,by rw[HS.out];omega,by rw[HS.out];congr 1;omega,hB1⟩,by simp[intOf];omega⟩
    ·have HF:Hid (zK (qG ms) left=-1):=zC (by have:=HS.out;unfold qG;omega)
     have HNG:=hid hneg;clear hneg hle;go_wp2_with fail
     refine(zdN ms[k] a0 a1 c0 c1 _ _ hsm HI.out.1 HI.out.2 hpos (by omega)).mono ?_;rintro e w1⟨rfl,hb1⟩;rw[zC (by have:=HNG.out;omega)];have hB1:=hB.trans (hb1.mono hB.size);clear hb1;go_wp2_with fail
     go_ret;exact⟨zo HF.out.symm,hB1⟩
   ·have HF:Hid (zK (qG ms) left=left-ms.length-zbf (ms.take k)):=by
     rw[tOl (by omega)]at hpos ⊢;have e:zK (qG ms) left=left-qG ms:=zL (by unfold qG;omega);unfold Hid;rw[e];unfold qG;omega
    clear hw
    go_wp2
    go_ret;exact⟨zo HF.out.symm,hB⟩
 ·have HF:Hid (zK (qG ms) left=-1):=zC (by unfold qG;omega)
  clear hw;go_enter Tryz.func20,Tryz.ntmps20
  go_wp2
  go_ret;exact⟨zo HF.out.symm,bRf _ _⟩
theorem zg7 (a a':Option Addr)(cap cap':Nat)(ms:List Ob)(w:World)(hw:zbT w a ms)(hw':zbT w a' ms) :
 Calls Tryz.prog 42 #[.slice a ms.length cap,.slice a' ms.length cap'] w fun e w'=>e=.returned (.bool true)/\Below w.heap.size w w':=by
 have hl:=hw.len;unfold maxLen at hl;have hnn:((ms.length:Int) != ms.length)=false:=by simp
 go_enter Tryz.func42,Tryz.ntmps42;go_wp2_with fail
 go_loopw [5] (fun i wr=>∃k:Nat,k<=ms.length/\i=.int .i64 k/\Below w.heap.size w wr) (fun i _=>ms.length-(intOf i).toNat)
 case atStart=>exact⟨0,Nat.zero_le _,rfl,bRf _ _⟩
 case round=>
  obtain⟨k,hk,rfl,hB⟩:=hrel
  by_cases hlt:k<ms.length
  ·obtain⟨b,off,a0,a1,c0,c1,rfl,hb,hsm,hl0,hl1,d0,d1,d2,d3,d4,d5,d6⟩:=hw.load hB k hlt
   obtain⟨b',off',a0',a1',c0',c1',rfl,hb',_,hl0',hl1',f0,f1,f2,f3,f4,f5,f6⟩:=hw'.load hB k hlt;have hltI:(k:Int)<(ms.length:Int):=by omega
   clear hw hw';go_wp2_with fail
   go_region_with (go_at_call 86;refine(zht ms[k] a0 a1 c0 c1 a0' a1' c0' c1' _ hsm (by exact hl0.mono ((bRf _ _).drew)) (by exact hl1.mono ((bRf _ _).drew)) (by exact hl0'.mono ((bRf _ _).drew)) (by exact hl1'.mono ((bRf _ _).drew))).mono ?_;rintro e w1⟨rfl,hb1'⟩;have hb1:=(bRf wr.heap.size wr).drew.trans hb1';clear hb1')
   all_goals go_wp2_with fail
   all_goals exact⟨⟨k+1,by omega,by go_num,hB.trans (hb1.mono hB.size)⟩,by simp[intOf];omega⟩
  ·clear hw hw'
   go_wp2_with fail
   go_ret;exact⟨rfl,hB⟩
structure zal (lo:Nat)(w:World)(bo:Nat)(ms:List Ob)(k:Nat):Prop where
 low:lo<=bo
 rows:∃C,w.heap[bo]?=some (.cells C 123)/\C.size=ms.length*7 /\
  ∀i (h:i<ms.length),i<k->∃g0 g1,lo<=g0/\g0≠bo/\w.heap[g0]?=some (.cells (jY ms[i].vs) 9)/\lo<=g1/\g1≠bo/\w.heap[g1]?=some (.cells (jY ms[i].hs) 9)/\∀j,j<7->C[i*7+j]?=(Ob.row ms[i] (some ⟨g0,0,none⟩) (some ⟨g1,0,none⟩) ms[i].vs.length ms[i].hs.length)[j]?
theorem zal.at {lo:Nat}{w:World}{bo:Nat}{ms:List Ob}(h:zal lo w bo ms ms.length)(hs:zgq ms)(hl:ms.length<=maxLen):zbT w (some ⟨bo,0,none⟩) ms:=by
 obtain⟨C,hC,hsz,hr⟩:=h.rows;refine⟨hl,fun _=>⟨bo,0,rfl,(gES hC).1,fun i hi=>?_⟩⟩;obtain⟨g0,g1,_,_,hk0,_,_,hk1,hc⟩:=hr i hi hi;obtain⟨s0,s1,s2⟩:=hs.small i hi;refine⟨some ⟨g0,0,none⟩,some ⟨g1,0,none⟩,ms[i].vs.length,ms[i].hs.length,s0,zdC hk0 s1.1 s1.2,zdC hk1 s2.1 s2.2,fun j hj=>?_⟩;rw[cell_of_block hC,Nat.zero_add];exact hc j hj
theorem zal.above {lo:Nat}{w w':World}{bo:Nat}{ms:List Ob}{k:Nat}(h:zal lo w bo ms k)(ha:yP lo w w'):zal lo w' bo ms k:=by
 obtain⟨C,hC,hsz,hr⟩:=h.rows;refine⟨h.low,C,(ha.same _ h.low (gES hC).1).trans hC,hsz,fun i hi hk=>?_⟩;obtain⟨g0,g1,p0,q0,r0,p1,q1,r1,hc⟩:=hr i hi hk;exact⟨g0,g1,p0,q0,(ha.same _ p0 (gES r0).1).trans r0,p1,q1,(ha.same _ p1 (gES r1).1).trans r1,hc⟩
theorem zal.later {lo:Nat}{w w':World}{bo:Nat}{ms:List Ob}{k:Nat}(h:zal lo w bo ms k)(hb:Below w.heap.size w w'):zal lo w' bo ms k:=h.above (yP.below hb)
def znk (w:World)(b o:Nat)(v0 v1 v2 v3 v4 v5 v6:Value):World:=(((((((w.setCell ⟨b,o,none⟩ v0).setCell ⟨b,o+1,none⟩ v1).setCell ⟨b,o+2,none⟩ v2).setCell ⟨b,o+3,none⟩ v3).setCell ⟨b,o+4,none⟩ v4).setCell ⟨b,o+5,none⟩ v5).setCell ⟨b,o+6,none⟩ v6)
def zkd (C:Array Value)(o:Nat)(v0 v1 v2 v3 v4 v5 v6:Value):Array Value:=(((((((C.setIfInBounds (o) v0).setIfInBounds (o+1) v1).setIfInBounds (o+2) v2).setIfInBounds (o+3) v3).setIfInBounds (o+4) v4).setIfInBounds (o+5) v5).setIfInBounds (o+6) v6)
theorem znU {w:World}{b o:Nat}{C:Array Value}{t:TypeId}(h:w.heap[b]?=some (.cells C t))(v0 v1 v2 v3 v4 v5 v6:Value):(znk w b o v0 v1 v2 v3 v4 v5 v6).heap[b]?=some (.cells (zkd C o v0 v1 v2 v3 v4 v5 v6) t):=
 zk (zk (zk (zk (zk (zk (zk h v0) v1) v2) v3) v4) v5) v6
theorem zmZ {B:Nat}{a w:World}(h:Below B a w){b:Nat}(hb:B<=b)(o:Nat)(v0 v1 v2 v3 v4 v5 v6:Value):Below B a (znk w b o v0 v1 v2 v3 v4 v5 v6):=
 ((((((h.setCell hb v0).setCell hb v1).setCell hb v2).setCell hb v3).setCell hb v4).setCell hb v5).setCell hb v6
theorem zdd (w:World)(b o:Nat)(v0 v1 v2 v3 v4 v5 v6:Value){b':Nat}(h:b'≠b):(znk w b o v0 v1 v2 v3 v4 v5 v6).heap[b']?=w.heap[b']?:=by
 unfold znk
 iterate 7 rw[zM h]
theorem zo2 (C:Array Value)(o:Nat)(v0 v1 v2 v3 v4 v5 v6:Value):(zkd C o v0 v1 v2 v3 v4 v5 v6).size=C.size:=by simp[zkd]
theorem zpS (C:Array Value)(o i:Nat)(v0 v1 v2 v3 v4 v5 v6:Value)(h:i<o \/ o+7<=i):(zkd C o v0 v1 v2 v3 v4 v5 v6)[i]?=C[i]?:=by
 unfold zkd
 iterate 7 rw[Array.getElem?_setIfInBounds,if_neg (by omega)]
theorem zqg (C:Array Value)(o j:Nat)(v0 v1 v2 v3 v4 v5 v6:Value)(hj:j<7)(ho:o+7<=C.size):(zkd C o v0 v1 v2 v3 v4 v5 v6)[o+j]?=(#[v0,v1,v2,v3,v4,v5,v6]:Array Value)[j]?:=by
 have hc:j=0 \/ j=1 \/ j=2 \/ j=3 \/ j=4 \/ j=5 \/ j=6:=by omega
 unfold zkd
 rcases hc with h|h|h|h|h|h|h <;> subst h <;> simp[Array.getElem?_setIfInBounds] <;> omega
theorem zal.put {lo:Nat}{w:World}{bo:Nat}{ms:List Ob}{k:Nat}(h:zal lo w bo ms k)(hk:k<ms.length)(g0 g1:Nat)(p0:lo<=g0)(q0:g0≠bo)(r0:w.heap[g0]?=some (.cells (jY ms[k].vs) 9))(p1:lo<=g1)(q1:g1≠bo)(r1:w.heap[g1]?=some (.cells (jY ms[k].hs) 9)) :
 zal lo (znk w bo (k*7) (.string ms[k].kd) (.string ms[k].nm) (.string ms[k].tm) (.slice (some ⟨g0,0,none⟩) ms[k].vs.length ms[k].vs.length) (.bool ms[k].en) (.slice (some ⟨g1,0,none⟩) ms[k].hs.length ms[k].hs.length) (.int .i64 ms[k].vr)) bo ms (k+1):=by
 obtain⟨C,hC,hsz,hr⟩:=h.rows;refine⟨h.low,_,znU hC _ _ _ _ _ _ _,by rw[zo2];exact hsz,fun i hi hik=>?_⟩
 rcases Nat.lt_or_ge i k with hlt|hge
 ·obtain⟨g0',g1',x0,y0,z0,x1,y1,z1,hc⟩:=hr i hi hlt
  refine⟨g0',g1',x0,y0,(by rw[zdd _ _ _ _ _ _ _ _ _ _ y0];exact z0),x1,y1,(by rw[zdd _ _ _ _ _ _ _ _ _ _ y1];exact z1),fun j hj=>?_⟩;rw[zpS _ _ _ _ _ _ _ _ _ _ (by omega)];exact hc j hj
 ·have e:i=k:=by omega
  subst e;refine⟨g0,g1,p0,q0,(by rw[zdd _ _ _ _ _ _ _ _ _ _ q0];exact r0),p1,q1,(by rw[zdd _ _ _ _ _ _ _ _ _ _ q1];exact r1),fun j hj=>?_⟩;rw[zqg _ _ _ _ _ _ _ _ _ _ hj (by omega)]
  rfl
def zqq:Array Value:=#[.string ByteArray.empty,.string ByteArray.empty,.string ByteArray.empty,.slice none 0 0,.bool false,.slice none 0 0,.int .i64 0]
def zpm (n:Nat):Array Value:=madeCells zqq (n*7)
theorem zg9 (a:Option Addr)(cap:Nat)(ms:List Ob)(w:World)(hw:zbT w a ms)(hl:ms.length<=1048576)(hls:∀i (h:i<ms.length),ms[i].vs.length<=1048576/\ms[i].hs.length<=1048576) :
 Calls Tryz.prog 32 #[.slice a ms.length cap] w fun e w'=>e=.returned (.slice (some ⟨w.heap.size,0,none⟩) ms.length ms.length)/\zal w.heap.size w' w.heap.size ms ms.length/\Below w.heap.size w w':=by
 have hmk:∀w:World,(Instr.makeSlice 43 (.int .i64 ms.length) (.int .i64 ms.length)).run Tryz.prog w=.ok (.slice (some ⟨w.heap.size,0,none⟩) ms.length ms.length) (w.alloc (.cells (zpm ms.length) 123)):=
  fun w=>jI (P:=Tryz.prog) 43 123 (.agg zqq) 7 112 Tryz.underlying43 (by kernel_rfl) ms.length (by omega) (by omega) w
 go_enter Tryz.func32,Tryz.ntmps32;go_wp2_with fail
 clear hmk
 go_loopw [4] (fun i wr=>∃k:Nat,k<=ms.length/\i=.int .i64 k/\Hid (zal w.heap.size wr w.heap.size ms k)/\Below w.heap.size w wr) (fun i _=>ms.length-(intOf i).toNat)
 case atStart=>exact⟨0,Nat.zero_le _,rfl,⟨Nat.le_refl _,zpm ms.length,(MapKept.heap_alloc w _).1,size_madeCells _ _,fun i _ h=>absurd h (by omega)⟩,bAl _ _⟩
 case round=>
  obtain⟨k,hk,rfl,HOW,hB⟩:=hrel
  by_cases hlt:k<ms.length
  ·obtain⟨b,off,a0,a1,c0,c1,rfl,hb,hsm,hl0,hl1,d0,d1,d2,d3,d4,d5,d6⟩:=hw.load hB k hlt
   have HLS:=hid (hls k hlt);have hltI:(k:Int)<(ms.length:Int):=by omega
   clear hw;go_wp2_with fail
   refine(zhQ ms[k] a0 a1 c0 c1 _ hsm hl0 hl1 HLS.out).mono ?_;rintro e w1⟨g0,g1,rfl,p0,r0,p1,r1,hb1⟩;have hB1:=hB.trans (hb1.mono hB.size)
   have hbo:w.heap.size<wr.heap.size:=by
    obtain⟨C',hC',_⟩:=HOW.out.rows;exact(gES hC').1
   have HP:=hid (HOW.out.later hb1);obtain⟨C,hC,hsz,_⟩:=HP.out.rows;have hfz:∀o,w1.frozen? ⟨w.heap.size,o,none⟩=false:=fun o=>zh hC
   have hex:∀o,o<ms.length*7->∃v,w1.cell? ⟨w.heap.size,o,none⟩=some v:=fun o ho=>⟨C[o]'(by omega),by rw[cell_of_block hC];exact Array.getElem?_eq_getElem (by omega)⟩
   obtain⟨v0,hv0⟩:=hex (k*7) (by omega);obtain⟨v1,hv1⟩:=hex (k*7+1) (by omega);obtain⟨v2,hv2⟩:=hex (k*7+2) (by omega);obtain⟨v3,hv3⟩:=hex (k*7+3) (by omega);obtain⟨v4,hv4⟩:=hex (k*7+4) (by omega);obtain⟨v5,hv5⟩:=hex (k*7+5) (by omega);obtain⟨v6,hv6⟩:=hex (k*7+6) (by omega);have HR:=zkK p0 r0 p1 r1;clear hex hC hsz d0 d1 d2 d3 d4 d5 d6 p0 r0 p1 r1 hl0 hl1;unfold Ob.row;go_wp2_with fail
   obtain⟨p0,r0,p1,r1⟩:=HR.out;exact⟨⟨k+1,by omega,by go_num,HP.out.put hlt g0 g1 (by omega) (by omega) r0 (by omega) (by omega) r1,zmZ hB1 (Nat.le_refl _) _ _ _ _ _ _ _ _⟩,by simp[intOf];omega⟩
  ·have HF:Hid (zal w.heap.size wr w.heap.size ms ms.length):=by
    have e:k=ms.length:=by omega
    subst e;exact HOW.out
   clear hw HOW;go_wp2_with fail
   go_ret;exact⟨rfl,HF.out,hB⟩
theorem lt_of_some {w:World}{b:Nat}{o:Obj}(h:w.heap[b]?=some o):b<w.heap.size:=(gES h).1
theorem zlJ {lo lo':Nat}{w:World}{bo:Nat}{ms:List Mnd}{k:Nat}(h:jc lo w bo ms k)(hl:lo'<=lo):jc lo' w bo ms k:=⟨Nat.le_trans hl h.low,h.rows⟩
theorem zlV {ty:TypeId}{lo lo':Nat}{w:World}{bo:Nat}{ts:List Tm}{k:Nat}(h:zam ty lo w bo ts k)(hl:lo'<=lo):zam ty lo' w bo ts k:=⟨Nat.le_trans hl h.low,h.rows⟩
theorem zfO (l:Lw)(a b c:Option Addr)(ca cb cc:Nat)(w:World)(hl:je w l a b c)(hf:l.Few) :
 Calls Tryz.prog 7 #[.agg (l.cells a b c ca cb cc)] w fun e w'=>∃lo a' b' c',e=.returned (.agg (l.cells (some ⟨a',0,none⟩) (some ⟨b',0,none⟩) (some ⟨c',0,none⟩) l.ss.length l.ms.length l.ts.length))/\w.heap.size<=lo/\zmQ lo w' l a' b' c'/\Below w.heap.size w w':=by
 have HL:Hid (je w l a b c):=hl;have HF:Hid l.Few:=hf;clear hl hf;unfold Lw.cells;go_enter Tryz.func7,Tryz.ntmps7;go_wp2_with fail
 have k0:=zps w (.cells #[.slice a l.ss.length ca,.slice b l.ms.length cb,.slice c l.ts.length cc] 26) (.cells #[.slice none 0 0,.slice none 0 0,.slice none 0 0] 41) (.cells #[.slice none 0 0,.slice none 0 0,.slice none 0 0] 41);have hB0:=below3' w (.cells #[.slice a l.ss.length ca,.slice b l.ms.length cb,.slice c l.ts.length cc] 26) (.cells #[.slice none 0 0,.slice none 0 0,.slice none 0 0] 41) (.cells #[.slice none 0 0,.slice none 0 0,.slice none 0 0] 41);obtain⟨W0,hW0⟩:∃W0,W0=((w.alloc (.cells #[.slice a l.ss.length ca,.slice b l.ms.length cb,.slice c l.ts.length cc] 26)).alloc (.cells #[.slice none 0 0,.slice none 0 0,.slice none 0 0] 41)).alloc (.cells #[.slice none 0 0,.slice none 0 0,.slice none 0 0] 41):=⟨_,rfl⟩
 have hz0:w.heap.size+1+1<W0.heap.size:=by rw[hW0];simp
 rw[<- hW0]at k0 hB0 ⊢;clear hW0;have HLO:Hid (w.heap.size+1+1<W0.heap.size):=hz0;refine(zhE _ _ l.ss _ (HL.out.ss.mono hB0) HF.out.ss.1 HF.out.ss.2).mono ?_;rintro e w1⟨rfl,hown,hb⟩;obtain⟨a',ha'⟩:∃a',a'=W0.heap.size:=⟨_,rfl⟩
 have HO1:Hid (jU W0.heap.size w1 a' l.ss l.ss.length):=by rw[ha'];exact hown
 have hX1:=(hb.block _ (by omega)).trans k0.1;have hR1:=(hb.block _ (by omega)).trans k0.2.1;have hO1:=(hb.block _ hz0).trans k0.2.2;have HZ1:Hid (W0.heap.size<=w1.heap.size):=hb.size;have HB1:Hid (Below w.heap.size w w1):=hB0.trans (hb.mono hB0.size);rw[<- ha'];clear hown hb k0 hB0 hz0 ha';have cO1:=fun j=>cell_of_block (o:=j) hO1
 have fO1:=fun j=>zh (o:=j) hO1
 have HX1':Hid ((w1.setCell ⟨w.heap.size+1+1,0,none⟩ (.slice (some ⟨a',0,none⟩) l.ss.length l.ss.length)).heap[w.heap.size]?=some (.cells #[.slice a l.ss.length ca,.slice b l.ms.length cb,.slice c l.ts.length cc] 26)):=(zM (by omega)).trans hX1;have HR1':Hid ((w1.setCell ⟨w.heap.size+1+1,0,none⟩ (.slice (some ⟨a',0,none⟩) l.ss.length l.ss.length)).heap[w.heap.size+1]?=some (.cells #[.slice none 0 0,.slice none 0 0,.slice none 0 0] 41)):=(zM (by omega)).trans hR1;have HO1':Hid ((w1.setCell ⟨w.heap.size+1+1,0,none⟩ (.slice (some ⟨a',0,none⟩) l.ss.length l.ss.length)).heap[w.heap.size+1+1]?=some (.cells #[.slice (some ⟨a',0,none⟩) l.ss.length l.ss.length,.slice none 0 0,.slice none 0 0] 41)):=zk hO1 _;have HAB1:Hid (yP W0.heap.size w1 (w1.setCell ⟨w.heap.size+1+1,0,none⟩ (.slice (some ⟨a',0,none⟩) l.ss.length l.ss.length))):=yP.setCell HLO.out _;have HBB1:Hid (Below w.heap.size w (w1.setCell ⟨w.heap.size+1+1,0,none⟩ (.slice (some ⟨a',0,none⟩) l.ss.length l.ss.length))):=HB1.out.setCell (by show w.heap.size<=w.heap.size+1+1;omega) _;have HZZ1:Hid (W0.heap.size<=(w1.setCell ⟨w.heap.size+1+1,0,none⟩ (.slice (some ⟨a',0,none⟩) l.ss.length l.ss.length)).heap.size):=by unfold Hid;rw[World.size_setCell];exact HZ1.out
 clear hX1 hR1 hO1;have cX1:=fun j=>cell_of_block (o:=j) HX1'.out
 have cR1:=fun j=>cell_of_block (o:=j) HR1'.out
 have fR1:=fun j=>zh (o:=j) HR1'.out
 have cOO1:=fun j=>cell_of_block (o:=j) HO1'.out
 go_wp2_with fail
 refine(ziO _ _ l.ms _ (HL.out.ms.mono HBB1.out) HF.out.ms).mono ?_;rintro e w2⟨rfl,hown,hb⟩;obtain⟨b',hp'⟩:∃b',b'=(w1.setCell ⟨w.heap.size+1+1,0,none⟩ (.slice (some ⟨a',0,none⟩) l.ss.length l.ss.length)).heap.size:=⟨_,rfl⟩
 have HN2:Hid (jc W0.heap.size w2 b' l.ms l.ms.length):=by rw[hp'];exact zlJ hown HZZ1.out
 have HAA2:Hid (yP W0.heap.size w1 w2):=HAB1.out.trans (yP.below hb);have hX2:=(hb.block _ (lt_of_some HX1'.out)).trans HX1'.out;have hR2:=(hb.block _ (lt_of_some HR1'.out)).trans HR1'.out;have hO2:=(hb.block _ (lt_of_some HO1'.out)).trans HO1'.out;have HZ2:Hid (W0.heap.size<=w2.heap.size):=Nat.le_trans HZZ1.out hb.size;have HB2:Hid (Below w.heap.size w w2):=HBB1.out.trans (hb.mono HBB1.out.size);rw[<- hp'];clear hown hb hp' cX1 cR1 fR1 cOO1;have cO2:=fun j=>cell_of_block (o:=j) hO2
 have fO2:=fun j=>zh (o:=j) hO2
 have HX2':Hid ((w2.setCell ⟨w.heap.size+1+1,1,none⟩ (.slice (some ⟨b',0,none⟩) l.ms.length l.ms.length)).heap[w.heap.size]?=some (.cells #[.slice a l.ss.length ca,.slice b l.ms.length cb,.slice c l.ts.length cc] 26)):=(zM (by omega)).trans hX2;have HR2':Hid ((w2.setCell ⟨w.heap.size+1+1,1,none⟩ (.slice (some ⟨b',0,none⟩) l.ms.length l.ms.length)).heap[w.heap.size+1]?=some (.cells #[.slice none 0 0,.slice none 0 0,.slice none 0 0] 41)):=(zM (by omega)).trans hR2;have HO2':Hid ((w2.setCell ⟨w.heap.size+1+1,1,none⟩ (.slice (some ⟨b',0,none⟩) l.ms.length l.ms.length)).heap[w.heap.size+1+1]?=some (.cells #[.slice (some ⟨a',0,none⟩) l.ss.length l.ss.length,.slice (some ⟨b',0,none⟩) l.ms.length l.ms.length,.slice none 0 0] 41)):=zk hO2 _;have HAB2:Hid (yP W0.heap.size w2 (w2.setCell ⟨w.heap.size+1+1,1,none⟩ (.slice (some ⟨b',0,none⟩) l.ms.length l.ms.length))):=yP.setCell HLO.out _;have HBB2:Hid (Below w.heap.size w (w2.setCell ⟨w.heap.size+1+1,1,none⟩ (.slice (some ⟨b',0,none⟩) l.ms.length l.ms.length))):=HB2.out.setCell (by show w.heap.size<=w.heap.size+1+1;omega) _;have HZZ2:Hid (W0.heap.size<=(w2.setCell ⟨w.heap.size+1+1,1,none⟩ (.slice (some ⟨b',0,none⟩) l.ms.length l.ms.length)).heap.size):=by unfold Hid;rw[World.size_setCell];exact HZ2.out
 clear hX2 hR2 hO2;have cX2:=fun j=>cell_of_block (o:=j) HX2'.out
 have cR2:=fun j=>cell_of_block (o:=j) HR2'.out
 have fR2:=fun j=>zh (o:=j) HR2'.out
 have cOO2:=fun j=>cell_of_block (o:=j) HO2'.out
 go_wp2_with fail
 refine(zit _ _ l.ts _ (HL.out.ts.mono HBB2.out) HF.out.ts).mono ?_;rintro e w3⟨rfl,hown,hb⟩;obtain⟨c',hp'⟩:∃c',c'=(w2.setCell ⟨w.heap.size+1+1,1,none⟩ (.slice (some ⟨b',0,none⟩) l.ms.length l.ms.length)).heap.size:=⟨_,rfl⟩
 have HN3:Hid (zam 135 W0.heap.size w3 c' l.ts l.ts.length):=by rw[hp'];exact zlV hown HZZ2.out
 have HAA3:Hid (yP W0.heap.size w2 w3):=HAB2.out.trans (yP.below hb);have hX3:=(hb.block _ (lt_of_some HX2'.out)).trans HX2'.out;have hR3:=(hb.block _ (lt_of_some HR2'.out)).trans HR2'.out;have hO3:=(hb.block _ (lt_of_some HO2'.out)).trans HO2'.out;have HZ3:Hid (W0.heap.size<=w3.heap.size):=Nat.le_trans HZZ2.out hb.size;have HB3:Hid (Below w.heap.size w w3):=HBB2.out.trans (hb.mono HBB2.out.size);rw[<- hp'];clear hown hb hp' cX2 cR2 fR2 cOO2;have cO3:=fun j=>cell_of_block (o:=j) hO3
 have fO3:=fun j=>zh (o:=j) hO3
 have HX3':Hid ((w3.setCell ⟨w.heap.size+1+1,2,none⟩ (.slice (some ⟨c',0,none⟩) l.ts.length l.ts.length)).heap[w.heap.size]?=some (.cells #[.slice a l.ss.length ca,.slice b l.ms.length cb,.slice c l.ts.length cc] 26)):=(zM (by omega)).trans hX3;have HR3':Hid ((w3.setCell ⟨w.heap.size+1+1,2,none⟩ (.slice (some ⟨c',0,none⟩) l.ts.length l.ts.length)).heap[w.heap.size+1]?=some (.cells #[.slice none 0 0,.slice none 0 0,.slice none 0 0] 41)):=(zM (by omega)).trans hR3;have HO3':Hid ((w3.setCell ⟨w.heap.size+1+1,2,none⟩ (.slice (some ⟨c',0,none⟩) l.ts.length l.ts.length)).heap[w.heap.size+1+1]?=some (.cells #[.slice (some ⟨a',0,none⟩) l.ss.length l.ss.length,.slice (some ⟨b',0,none⟩) l.ms.length l.ms.length,.slice (some ⟨c',0,none⟩) l.ts.length l.ts.length] 41)):=zk hO3 _;have HAB3:Hid (yP W0.heap.size w3 (w3.setCell ⟨w.heap.size+1+1,2,none⟩ (.slice (some ⟨c',0,none⟩) l.ts.length l.ts.length))):=yP.setCell HLO.out _;have HBB3:Hid (Below w.heap.size w (w3.setCell ⟨w.heap.size+1+1,2,none⟩ (.slice (some ⟨c',0,none⟩) l.ts.length l.ts.length))):=HB3.out.setCell (by show w.heap.size<=w.heap.size+1+1;omega) _;have HZZ3:Hid (W0.heap.size<=(w3.setCell ⟨w.heap.size+1+1,2,none⟩ (.slice (some ⟨c',0,none⟩) l.ts.length l.ts.length)).heap.size):=by unfold Hid;rw[World.size_setCell];exact HZ3.out
 clear hX3 hR3 hO3;have cX3:=fun j=>cell_of_block (o:=j) HX3'.out
 have cR3:=fun j=>cell_of_block (o:=j) HR3'.out
 have fR3:=fun j=>zh (o:=j) HR3'.out
 have cOO3:=fun j=>cell_of_block (o:=j) HO3'.out
 go_wp2_with fail
 refine bodyPost_ret (v:=.agg #[.slice (some ⟨a',0,none⟩) l.ss.length l.ss.length,.slice (some ⟨b',0,none⟩) l.ms.length l.ms.length,.slice (some ⟨c',0,none⟩) l.ts.length l.ts.length]) (by simp[results,Tryz.results7,go_sem,cR3]) rfl ⟨W0.heap.size,a',b',c',rfl,by have:=HLO.out;omega,?_,?_⟩
 ·have hlt1:w.heap.size+1<W0.heap.size:=by have:=HLO.out;omega
  have hA3:∀v0 v1 v2,yP W0.heap.size w3 ((((w3.setCell ⟨w.heap.size+1+1,2,none⟩ (.slice (some ⟨c',0,none⟩) l.ts.length l.ts.length)).setCell ⟨w.heap.size+1,0,none⟩ v0).setCell ⟨w.heap.size+1,1,none⟩ v1).setCell ⟨w.heap.size+1,2,none⟩ v2):=fun v0 v1 v2=>HAB3.out.trans (((yP.setCell (p:=⟨w.heap.size+1,0,none⟩) hlt1 v0).trans (yP.setCell (p:=⟨w.heap.size+1,1,none⟩) hlt1 v1)).trans (yP.setCell (p:=⟨w.heap.size+1,2,none⟩) hlt1 v2))
  exact⟨HO1.out.above ((HAA2.out.trans HAA3.out).trans (hA3 _ _ _)),HN2.out.above (HAA3.out.trans (hA3 _ _ _)),HN3.out.above (hA3 _ _ _)⟩
 ·exact((HBB3.out.setCell (Nat.le_succ _) _).setCell (Nat.le_succ _) _).setCell (Nat.le_succ _) _
theorem zdx (l:Lw)(a b c:Option Addr)(ca cb cc:Nat)(w:World)(hl:je w l a b c)(hf:l.Few) :
 Calls Tryz.prog 7 #[.agg (l.cells a b c ca cb cc)] w fun e w'=>∃a' b' c',e=.returned (.agg (l.cells a' b' c' l.ss.length l.ms.length l.ts.length))/\je w' l a' b' c'/\Below w.heap.size w w':=by
 refine(zfO l a b c ca cb cc w hl hf).mono ?_;rintro e w'⟨lo,a',b',c',he,_,ho,hb⟩;exact⟨_,_,_,he,ho.at hl.small,hb⟩
def yL (f:Fld)(v res:ByteArray):Int:=if f.kd=1/\f.wg=res then zaF v else 0
def zen (fs:List Fld)(vs:List ByteArray)(res:ByteArray):Nat->Int
 | 0=>0
 | k+1=>zen fs vs res k+yL (fs.getD k zbS) (vs.getD k ByteArray.empty) res
def qZ (ss:List Shp)(o:Ob)(res:ByteArray):Int:=
 if zy ss o=true/\res.toList.isEmpty=false then (if res=o.kd then 1 else 0)+zen (shapeOf ss o.kd).fs o.vs res (shapeOf ss o.kd).fs.length else 0
theorem zer (s:ByteArray):0<=zaF s/\zaF s<=10000000:=by
 unfold zaF
 split
 ·rename_i h
  refine⟨zc8 s h,?_⟩;unfold zao at h;simp only[Bool.and_eq_true,decide_eq_true_eq]at h
  have:=(zft s.data.toList h.2 7 (by have:=h.1.1.2;simpa using this)).2
  unfold zgW;omega
 ·omega
theorem zgK (f:Fld)(v res:ByteArray):0<=yL f v res/\yL f v res<=10000000:=by
 unfold yL
 split
 ·exact zer v
 ·omega
theorem zcN (fs:List Fld)(vs:List ByteArray)(res:ByteArray):∀k,0<=zen fs vs res k/\zen fs vs res k<=k*10000000
 | 0=>by simp[zen]
 | k+1=>by
  have h1:=zcN fs vs res k;have h2:=zgK (fs.getD k zbS) (vs.getD k ByteArray.empty) res;simp only[zen];omega
theorem zgt (ss:List Shp)(o:Ob)(res:ByteArray)(h:o.vs.length<=1048576):0<=qZ ss o res/\qZ ss o res<=20000000000000:=by
 unfold qZ
 split
 ·rename_i hc
  have hc1:=hc.1;unfold zy at hc1;simp only[Bool.and_eq_true,decide_eq_true_eq]at hc1
  have:=zcN (shapeOf ss o.kd).fs o.vs res (shapeOf ss o.kd).fs.length
  have h3:=hc1.2
  split <;> omega
 ·omega
theorem zpk (fs:List Fld)(vs:List ByteArray)(res:ByteArray)(k:Nat)(h:k<fs.length)(h':k<vs.length):zen fs vs res (k+1)=zen fs vs res k+yL fs[k] vs[k] res:=by
 have e1:fs.getD k zbS=fs[k]:=by simp[List.getD,h]
 have e2:vs.getD k ByteArray.empty=vs[k]:=by simp[List.getD,h']
 simp only[zen];rw[e1,e2]
end Go.Proofs.YtjebacclfjkabaaGreat
