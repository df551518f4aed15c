import Derived.Test.YtnapmdofidgliaaGreatM12
import Derived.Test.YtnapmdofidgliaaGreatM13
set_option maxHeartbeats 2000000
namespace Go.Proofs.YtnapmdofidgliaaGreat
open Go.RowKit
structure Pu where
 dr:ByteArray
 tm:ByteArray
 rs:ByteArray
 am:Int
 un:Int
def Pu.cells (m:Pu):Array Value:=#[.string m.dr,.string m.tm,.string m.rs,.int .i64 m.am,.int .i64 m.un]
structure Pu.Small (m:Pu):Prop where
 dr:m.dr.size<=maxLen
 tm:m.tm.size<=maxLen
 rs:m.rs.size<=maxLen
structure zdF (w:World)(a:Option Addr)(ms:List Pu):Prop where
 len:ms.length<=maxLen
 small:∀i (h:i<ms.length),ms[i].Small
 rows:ms≠[]->∃b off,a=some ⟨b,off,none⟩/\b<w.heap.size/\∀i (h:i<ms.length),∀j,j<5->w.cell? ⟨b,off+i*5+j,none⟩=ms[i].cells[j]?
theorem zdF.mono {w w':World}{a:Option Addr}{ms:List Pu}(h:zdF w a ms)(hl:Below w.heap.size w w'):zdF w' a ms:=
 ⟨h.len,h.small,fun hne=>by
  obtain⟨b,off,ha,hb,hr⟩:=h.rows hne;exact⟨b,off,ha,nLt hb hl.size,fun i hi j hj=>(hl.cell (p:=⟨b,off+i*5+j,none⟩) hb).trans (hr i hi j hj)⟩⟩
theorem zdF.load {w w':World}{a:Option Addr}{ms:List Pu}(h:zdF w a ms)(hl:Below w.heap.size w w')(i:Nat)(hi:i<ms.length):∃b off,a=some ⟨b,off,none⟩/\b<w.heap.size /\
 w'.cell? ⟨b,off+i*5,none⟩=some (.string ms[i].dr)/\w'.cell? ⟨b,off+i*5+1,none⟩=some (.string ms[i].tm)/\w'.cell? ⟨b,off+i*5+2,none⟩=some (.string ms[i].rs)/\w'.cell? ⟨b,off+i*5+3,none⟩=some (.int .i64 ms[i].am)/\w'.cell? ⟨b,off+i*5+4,none⟩=some (.int .i64 ms[i].un):=by
 obtain⟨b,off,ha,hb,hr⟩:=h.rows (by rintro rfl;simp at hi);have hc:∀j,j<5->w'.cell? ⟨b,off+i*5+j,none⟩=ms[i].cells[j]?:=fun j hj=>(hl.cell (p:=⟨b,off+i*5+j,none⟩) hb).trans (hr i hi j hj)
 exact⟨b,off,ha,hb,hc 0 (by omega),hc 1 (by omega),hc 2 (by omega),hc 3 (by omega),hc 4 (by omega)⟩
def Pu.sz (m:Pu):Nat:=m.dr.size+m.tm.size+m.rs.size
def zeI (ms:List Pu):Nat:=(ms.map Pu.sz).sum
def zc9 (ms:List Pu):Nat:=ms.length+zeI ms
theorem zeD (m:Pu)(left:Int)(w:World)(hm:m.Small)(h0:0<=left)(h1:left<=1048576) :
 Calls Tryz.prog 59 #[.agg m.cells,.int .i64 left] w fun e w'=>e=.returned (.int .i64 (zK m.sz left))/\Below w.heap.size w w':=by
 have k0:=hm.dr;have k1:=hm.tm;have k2:=hm.rs;unfold maxLen at k0 k1 k2;unfold Pu.cells;have hB:∀ob,Below w.heap.size w (w.alloc ob):=fun ob=>bAl _ _
 by_cases hf:(m.sz:Int)<=left
 ·have HF:Hid (zK m.sz left=left-m.dr.size-m.tm.size-m.rs.size):=by
   unfold Hid;rw[zL hf];unfold Pu.sz;omega
  unfold Pu.sz at hf;go_enter Tryz.func59,Tryz.ntmps59;go_wp2_with fail
  go_ret;exact⟨zo HF.out.symm,hB _⟩
 ·have HF:Hid (zK m.sz left=-1):=zC hf
  have HN:Hid (¬((m.dr.size+m.tm.size+m.rs.size:Nat):Int)<=left):=hf;clear hf;go_enter Tryz.func59,Tryz.ntmps59;go_wp2_with fail
  all_goals go_ret
  all_goals first|exact⟨zo HF.out.symm,hB _⟩|(exfalso;have:=HN.out;simp at *;omega)
theorem ziz (m:Pu)(left:Int)(w:World)(hm:m.Small)(h0:0<=left)(h1:left<=1048576)(h:(m.sz:Int)<=left) :
 Calls Tryz.prog 59 #[.agg m.cells,.int .i64 left] w fun e w'=>e=.returned (.int .i64 (left-m.sz))/\Below w.heap.size w w':=by
 refine(zeD m left w hm h0 h1).mono ?_;rintro e w'⟨rfl,hb⟩;exact⟨zo (zL h),hb⟩
theorem zjx (m:Pu)(left:Int)(w:World)(hm:m.Small)(h0:0<=left)(h1:left<=1048576)(h:¬(m.sz:Int)<=left) :
 Calls Tryz.prog 59 #[.agg m.cells,.int .i64 left] w fun e w'=>e=.returned (.int .i64 (-1))/\Below w.heap.size w w':=by
 refine(zeD m left w hm h0 h1).mono ?_;rintro e w'⟨rfl,hb⟩;exact⟨zo (zC h),hb⟩
theorem zhg (a:Option Addr)(cap:Nat)(ms:List Pu)(left:Int)(w:World)(hw:zdF w a ms)(h0:0<=left)(h1:left<=1048576) :
 Calls Tryz.prog 23 #[.slice a ms.length cap,.int .i64 left] w fun e w'=>e=.returned (.int .i64 (zK (zc9 ms) left))/\Below w.heap.size w w':=by
 have hl:=hw.len;unfold maxLen at hl
 by_cases hfit:(ms.length:Int)<=left
 ·go_enter Tryz.func23,Tryz.ntmps23
  go_wp2_with fail
  go_loopw [1,5] (fun l i wr=>∃k:Nat,k<=ms.length/\i=.int .i64 k/\0<=left-ms.length-zeI (ms.take k)/\l=.int .i64 (left-ms.length-zeI (ms.take k))/\Below w.heap.size w wr) (fun _ i _=>ms.length-(intOf i).toNat)
  case atStart=>exact⟨0,Nat.zero_le _,rfl,by simp[zeI];omega,by simp[zeI],bRf _ _⟩
  case round=>
   obtain⟨k,hk,rfl,hpos,rfl,hB⟩:=hrel
   by_cases hlt:k<ms.length
   ·obtain⟨b,off,rfl,hb,c0,c1,c2,c3,c4⟩:=hw.load hB k hlt
    have hsm:=hw.small k hlt;have HS:Hid (zeI (ms.take (k+1))=zeI (ms.take k)+ms[k].sz):=zbd Pu.sz ms k hlt;have hle:zeI (ms.take (k+1))<=zeI ms:=zcY Pu.sz ms (k+1);clear hw
    by_cases hneg:(ms[k].sz:Int)<=left-ms.length-zeI (ms.take k)
    ·have HNG:Hid ((ms[k].sz:Int)<=left-ms.length-zeI (ms.take k)):=hneg
     clear hle;go_wp2_with fail
     refine(ziz _ _ _ hsm hpos (by omega) HNG.out).mono ?_;rintro e w1⟨rfl,hb1⟩;have hB1:=hB.trans (hb1.mono hB.size);clear hb1;go_wp2_with fail
     exact⟨⟨k+1,by omega,by go_num,by rw[HS.out];omega,by rw[HS.out];congr 1;omega,hB1⟩,by simp[intOf];omega⟩
    ·have HF:Hid (zK (zc9 ms) left=-1):=zC (by have:=HS.out;unfold zc9;omega)
     have HNG:=hid hneg;clear hneg hle;go_wp2_with fail
     refine(zjx _ _ _ hsm hpos (by omega) (by have:=HNG.out;omega)).mono ?_;rintro e w1⟨rfl,hb1⟩;have hB1:=hB.trans (hb1.mono hB.size);clear hb1;go_wp2_with fail
     go_ret;exact⟨zo HF.out.symm,hB1⟩
   ·have HF:Hid (zK (zc9 ms) left=left-ms.length-zeI (ms.take k)):=by
     rw[tOl (by omega)]at hpos ⊢;have e:zK (zc9 ms) left=left-zc9 ms:=zL (by unfold zc9;omega);unfold Hid;rw[e];unfold zc9;omega
    clear hw
    go_wp2
    go_ret;exact⟨zo HF.out.symm,hB⟩
 ·have HF:Hid (zK (zc9 ms) left=-1):=zC (by unfold zc9;omega)
  clear hw;go_enter Tryz.func23,Tryz.ntmps23
  go_wp2
  go_ret;exact⟨zo HF.out.symm,bRf _ _⟩
theorem zi4 (m:Pu)(w:World):Calls Tryz.prog 89 #[.agg m.cells,.agg m.cells] w fun e w'=>e=.returned (.bool true)/\Below w.heap.size w w':=by
 unfold Pu.cells;have hn3:(m.am != m.am)=false:=by simp
 have hn4:(m.un != m.un)=false:=by simp
 go_enter Tryz.func89,Tryz.ntmps89;go_wp2_with fail
 go_ret;exact⟨rfl,zw _ _ _⟩
theorem zho (a a':Option Addr)(cap cap':Nat)(ms:List Pu)(w:World)(hw:zdF w a ms)(hw':zdF w a' ms) :
 Calls Tryz.prog 45 #[.slice a ms.length cap,.slice a' ms.length cap'] w fun e w'=>e=.returned (.bool true)/\Below w.heap.size w w':=by
 have hl:=hw.len;unfold maxLen at hl;have hnn:((ms.length:Int) != ms.length)=false:=by simp
 go_enter Tryz.func45,Tryz.ntmps45;go_wp2_with fail
 go_loopw [5] (fun i wr=>∃k:Nat,k<=ms.length/\i=.int .i64 k/\Below w.heap.size w wr) (fun i _=>ms.length-(intOf i).toNat)
 case atStart=>exact⟨0,Nat.zero_le _,rfl,bRf _ _⟩
 case round=>
  obtain⟨k,hk,rfl,hB⟩:=hrel
  by_cases hlt:k<ms.length
  ·obtain⟨b,off,rfl,hb,c0,c1,c2,c3,c4⟩:=hw.load hB k hlt
   obtain⟨b',off',rfl,hb',d0,d1,d2,d3,d4⟩:=hw'.load hB k hlt;have hltI:(k:Int)<(ms.length:Int):=by omega
   clear hw hw';go_wp2_with fail
   go_region_with (go_at_call 89;refine(zi4 ms[k] _).mono ?_;rintro e w1⟨rfl,hb1'⟩;have hb1:=(bRf wr.heap.size wr).drew.trans hb1';clear hb1')
   all_goals go_wp2_with fail
   all_goals exact⟨⟨k+1,by omega,by go_num,hB.trans (hb1.mono hB.size)⟩,by simp[intOf];omega⟩
  ·clear hw hw'
   go_wp2_with fail
   go_ret;exact⟨rfl,hB⟩
structure zae (lo:Nat)(w:World)(bo:Nat)(ms:List Pu)(k:Nat):Prop where
 low:lo<=bo
 rows:∃C,w.heap[bo]?=some (.cells C 144)/\C.size=ms.length*5/\∀i (h:i<ms.length),i<k->∀j,j<5->C[i*5+j]?=ms[i].cells[j]?
theorem zae.at {lo:Nat}{w:World}{bo:Nat}{ms:List Pu}(h:zae lo w bo ms ms.length)(hs:∀i (h:i<ms.length),ms[i].Small)(hl:ms.length<=maxLen):zdF w (some ⟨bo,0,none⟩) ms:=by
 obtain⟨C,hC,hsz,hr⟩:=h.rows;refine⟨hl,hs,fun _=>⟨bo,0,rfl,(gES hC).1,fun i hi j hj=>?_⟩⟩;rw[cell_of_block hC,Nat.zero_add];exact hr i hi hi j hj
theorem zae.later {lo:Nat}{w w':World}{bo:Nat}{ms:List Pu}{k:Nat}(h:zae lo w bo ms k)(hb:Below w.heap.size w w'):zae lo w' bo ms k:=by
 obtain⟨C,hC,hsz,hr⟩:=h.rows;exact⟨h.low,C,(hb.block bo (gES hC).1).trans hC,hsz,hr⟩
theorem zae.above {lo:Nat}{w w':World}{bo:Nat}{ms:List Pu}{k:Nat}(h:zae lo w bo ms k)(ha:yP lo w w'):zae lo w' bo ms k:=by
 obtain⟨C,hC,hr⟩:=h.rows;exact⟨h.low,C,(ha.same _ h.low (gES hC).1).trans hC,hr⟩
theorem zae.weaken {lo lo':Nat}{w:World}{bo:Nat}{ms:List Pu}{k:Nat}(h:zae lo w bo ms k)(hl:lo'<=lo):zae lo' w bo ms k:=⟨Nat.le_trans hl h.low,h.rows⟩
def zqH (w:World)(b o:Nat)(v0 v1 v2 v3 v4:Value):World:=(((((w.setCell ⟨b,o,none⟩ v0).setCell ⟨b,o+1,none⟩ v1).setCell ⟨b,o+2,none⟩ v2).setCell ⟨b,o+3,none⟩ v3).setCell ⟨b,o+4,none⟩ v4)
def zkg (C:Array Value)(o:Nat)(v0 v1 v2 v3 v4:Value):Array Value:=(((((C.setIfInBounds (o) v0).setIfInBounds (o+1) v1).setIfInBounds (o+2) v2).setIfInBounds (o+3) v3).setIfInBounds (o+4) v4)
theorem zmE {w:World}{b o:Nat}{C:Array Value}{t:TypeId}(h:w.heap[b]?=some (.cells C t))(v0 v1 v2 v3 v4:Value):(zqH w b o v0 v1 v2 v3 v4).heap[b]?=some (.cells (zkg C o v0 v1 v2 v3 v4) t):=
 zk (zk (zk (zk (zk h v0) v1) v2) v3) v4
theorem znO {B:Nat}{a w:World}(h:Below B a w){b:Nat}(hb:B<=b)(o:Nat)(v0 v1 v2 v3 v4:Value):Below B a (zqH w b o v0 v1 v2 v3 v4):=
 ((((h.setCell hb v0).setCell hb v1).setCell hb v2).setCell hb v3).setCell hb v4
theorem zoz (C:Array Value)(o:Nat)(v0 v1 v2 v3 v4:Value):(zkg C o v0 v1 v2 v3 v4).size=C.size:=by simp[zkg]
theorem zpT (C:Array Value)(o i:Nat)(v0 v1 v2 v3 v4:Value)(h:i<o \/ o+5<=i):(zkg C o v0 v1 v2 v3 v4)[i]?=C[i]?:=by
 unfold zkg
 iterate 5 rw[Array.getElem?_setIfInBounds,if_neg (by omega)]
theorem zqm (C:Array Value)(o j:Nat)(v0 v1 v2 v3 v4:Value)(hj:j<5)(ho:o+5<=C.size):(zkg C o v0 v1 v2 v3 v4)[o+j]?=(#[v0,v1,v2,v3,v4]:Array Value)[j]?:=by
 have hc:j=0 \/ j=1 \/ j=2 \/ j=3 \/ j=4:=by omega
 unfold zkg
 rcases hc with h|h|h|h|h <;> subst h <;> simp[Array.getElem?_setIfInBounds] <;> omega
theorem zae.put {lo:Nat}{w:World}{bo:Nat}{ms:List Pu}{k:Nat}(h:zae lo w bo ms k)(hk:k<ms.length) :
 zae lo (zqH w bo (k*5) (.string ms[k].dr) (.string ms[k].tm) (.string ms[k].rs) (.int .i64 ms[k].am) (.int .i64 ms[k].un)) bo ms (k+1):=by
 obtain⟨C,hC,hsz,hr⟩:=h.rows;refine⟨h.low,_,zmE hC _ _ _ _ _,by rw[zoz];exact hsz,fun i hi hik j hj=>?_⟩
 rcases Nat.lt_or_ge i k with hlt|hge
 ·rw[zpT _ _ _ _ _ _ _ _ (by omega)]
  exact hr i hi hlt j hj
 ·have e:i=k:=by omega
  subst e;rw[zqm _ _ _ _ _ _ _ _ hj (by omega)]
  rfl
theorem ziI (m:Pu)(w:World) :
 Calls Tryz.prog 73 #[.agg m.cells] w fun e w'=>e=.returned (.agg m.cells)/\Below w.heap.size w w':=by
 unfold Pu.cells;go_enter Tryz.func73,Tryz.ntmps73;go_wp2_with fail
 refine bodyPost_ret (v:=.agg #[.string m.dr,.string m.tm,.string m.rs,.int .i64 m.am,.int .i64 m.un]) (by simp[results,Tryz.results73,go_sem]) rfl ⟨rfl,?_⟩;exact(((bAl _ _).alloc (by simp) _).alloc (by simp;omega) _)
def zqE:Array Value:=#[.string ByteArray.empty,.string ByteArray.empty,.string ByteArray.empty,.int .i64 0,.int .i64 0]
def zpi (n:Nat):Array Value:=madeCells zqE (n*5)
theorem zhu (a:Option Addr)(cap:Nat)(ms:List Pu)(w:World)(hw:zdF w a ms)(hl:ms.length<=1048576) :
 Calls Tryz.prog 35 #[.slice a ms.length cap] w fun e w'=>e=.returned (.slice (some ⟨w.heap.size,0,none⟩) ms.length ms.length)/\zae w.heap.size w' w.heap.size ms ms.length/\Below w.heap.size w w':=by
 have hmk:∀w:World,(Instr.makeSlice 46 (.int .i64 ms.length) (.int .i64 ms.length)).run Tryz.prog w=.ok (.slice (some ⟨w.heap.size,0,none⟩) ms.length ms.length) (w.alloc (.cells (zpi ms.length) 144)):=
  fun w=>jI (P:=Tryz.prog) 46 144 (.agg zqE) 5 64 Tryz.underlying46 (by kernel_rfl) ms.length (by omega) (by omega) w
 go_enter Tryz.func35,Tryz.ntmps35;go_wp2_with fail
 clear hmk
 go_loopw [4] (fun i wr=>∃k:Nat,k<=ms.length/\i=.int .i64 k/\zae w.heap.size wr w.heap.size ms k/\Below w.heap.size w wr) (fun i _=>ms.length-(intOf i).toNat)
 case atStart=>exact⟨0,Nat.zero_le _,rfl,⟨Nat.le_refl _,zpi ms.length,(MapKept.heap_alloc w _).1,size_madeCells _ _,fun i _ h=>absurd h (by omega)⟩,bAl _ _⟩
 case round=>
  obtain⟨k,hk,rfl,hown,hB⟩:=hrel
  by_cases hlt:k<ms.length
  ·obtain⟨b,off,rfl,hb,c0,c1,c2,c3,c4⟩:=hw.load hB k hlt
   have hltI:(k:Int)<(ms.length:Int):=by omega
   clear hw;go_wp2_with fail
   refine(ziI ms[k] _).mono ?_;rintro e w1⟨rfl,hb1⟩;have hB1:=hB.trans (hb1.mono hB.size);have hown1:=hown.later hb1
   have hbo:w.heap.size<wr.heap.size:=by
    obtain⟨C',hC',_⟩:=hown.rows;exact(gES hC').1
   obtain⟨C,hC,hsz,_⟩:=hown1.rows;have hfz:∀o,w1.frozen? ⟨w.heap.size,o,none⟩=false:=fun o=>zh hC
   have hex:∀o,o<ms.length*5->∃v,w1.cell? ⟨w.heap.size,o,none⟩=some v:=fun o ho=>⟨C[o]'(by omega),by rw[cell_of_block hC];exact Array.getElem?_eq_getElem (by omega)⟩
   obtain⟨v0,hv0⟩:=hex (k*5) (by omega);obtain⟨v1,hv1⟩:=hex (k*5+1) (by omega);obtain⟨v2,hv2⟩:=hex (k*5+2) (by omega);obtain⟨v3,hv3⟩:=hex (k*5+3) (by omega);obtain⟨v4,hv4⟩:=hex (k*5+4) (by omega);have HP:=hid hown1;clear hex hC hsz c0 c1 c2 c3 c4 hown hown1;unfold Pu.cells;go_wp2_with fail
   exact⟨⟨k+1,by omega,by go_num,HP.out.put hlt,znO hB1 (Nat.le_refl _) _ _ _ _ _ _⟩,by simp[intOf];omega⟩
  ·have HF:Hid (zae w.heap.size wr w.heap.size ms ms.length):=by
    have e:k=ms.length:=by omega
    subst e;exact hown
   clear hw hown;go_wp2_with fail
   go_ret;exact⟨rfl,HF.out,hB⟩
structure Gr where
 no:Int
 to:ByteArray
 gb:ByteArray
 r:Rl
def Gr.cells (g:Gr)(a0:Option Addr)(c0:Nat):Array Value:=#[.int .i64 g.no,.string g.to,.string g.gb,.slice a0 g.r.vs.length c0,.string g.r.kd,.string g.r.tm,.string g.r.px]
structure Gr.Small (g:Gr):Prop where
 to:g.to.size<=maxLen
 gb:g.gb.size<=maxLen
 r:g.r.Small
def Gr.sz (g:Gr):Nat:=g.to.size+g.gb.size+g.r.sz
theorem Gr.zox {g:Gr}(h:(g.sz:Int)<=1048576):g.r.vs.length<=1048576:=by unfold Gr.sz Rl.sz at h;omega
theorem zeB (g:Gr)(a0:Option Addr)(c0:Nat)(left:Int)(w:World)(hm:g.Small)(hi:qy w a0 g.r.vs)(h0:0<=left)(h1:left<=1048576) :
 Calls Tryz.prog 57 #[.agg (g.cells a0 c0),.int .i64 left] w fun e w'=>e=.returned (.int .i64 (zK g.sz left))/\Below w.heap.size w w':=by
 have k1:=hm.to;have k2:=hm.gb;have HM:=jC hm.r hi.len;unfold maxLen at k1 k2;clear hm hi;unfold Gr.cells;have hB:∀ob,Below w.heap.size w (w.alloc ob):=fun ob=>bAl _ _
 by_cases c1:(g.to.size:Int)<=left
 rotate_left
 ·have HF:Hid (zK g.sz left=-1):=zC (by unfold Gr.sz;omega)
  go_enter Tryz.func57,Tryz.ntmps57;go_wp2_with fail
  go_ret;exact⟨zo HF.out.symm,hB _⟩
 by_cases c2:(g.gb.size:Int)<=left-g.to.size
 rotate_left
 ·have HF:Hid (zK g.sz left=-1):=zC (by unfold Gr.sz;omega)
  go_enter Tryz.func57,Tryz.ntmps57;go_wp2_with fail
  go_ret;exact⟨zo HF.out.symm,hB _⟩
 by_cases c3:(g.r.sz:Int)<=left-g.to.size-g.gb.size
 ·have HF:Hid (zK g.sz left=left-g.to.size-g.gb.size-g.r.sz):=by
   unfold Hid;rw[zL (by unfold Gr.sz;omega)];unfold Gr.sz;omega
  go_enter Tryz.func57,Tryz.ntmps57;go_wp2_with fail
  refine(zfb g.r a0 c0 _ _ HM.out.1 HM.out.2 (by omega) (by omega)).mono ?_;rintro e w1⟨rfl,hb⟩;rw[zL c3];have hB1:=(hB _).trans (hb.mono (by simp));clear hb;go_wp2_with fail
  go_ret;exact⟨zo HF.out.symm,hB1⟩
 ·have HF:Hid (zK g.sz left=-1):=zC (by unfold Gr.sz;omega)
  have HC:=hid c3;clear c3;go_enter Tryz.func57,Tryz.ntmps57;go_wp2_with fail
  refine(zfb g.r a0 c0 _ _ HM.out.1 HM.out.2 (by omega) (by omega)).mono ?_;rintro e w1⟨rfl,hb⟩;rw[zC (by have:=HC.out;omega)];have hB1:=(hB _).trans (hb.mono (by simp));clear hb;go_wp2_with fail
  go_ret;exact⟨zo HF.out.symm,hB1⟩
theorem ziQ (g:Gr)(a0:Option Addr)(c0:Nat)(a0':Option Addr)(c0':Nat)(w:World)(_hm:g.Small)(hi:qy w a0 g.r.vs)(hi':qy w a0' g.r.vs) :
 Calls Tryz.prog 87 #[.agg (g.cells a0 c0),.agg (g.cells a0' c0')] w fun e w'=>e=.returned (.bool true)/\Below w.heap.size w w':=by
 have hn:(g.no != g.no)=false:=by simp
 unfold Gr.cells;go_enter Tryz.func87,Tryz.ntmps87;go_wp2_with fail
 refine(zjL g.r _ _ _ _ _ (hi.mono (zw _ _ _)) (hi'.mono (zw _ _ _))).mono ?_;rintro e w1⟨rfl,hb⟩;have hB1:=(zw w _ _).trans (hb.mono (by simp;omega));clear hb;go_wp2_with fail
 go_ret;exact⟨rfl,hB1⟩
theorem ziH (g:Gr)(a0:Option Addr)(c0:Nat)(w:World)(_hm:g.Small)(hi:qy w a0 g.r.vs)(hl:g.r.vs.length<=1048576) :
 Calls Tryz.prog 71 #[.agg (g.cells a0 c0)] w fun e w'=>∃g0,e=.returned (.agg (g.cells (some ⟨g0,0,none⟩) g.r.vs.length))/\w.heap.size<=g0/\w'.heap[g0]?=some (.cells (zb5 g.r.vs) 3)/\Below w.heap.size w w':=by
 unfold Gr.cells;go_enter Tryz.func71,Tryz.ntmps71;go_wp2_with fail
 have k0:=zpC w (.cells #[.int .i64 g.no,.string g.to,.string g.gb,.slice a0 g.r.vs.length c0,.string g.r.kd,.string g.r.tm,.string g.r.px] 113) (.cells #[.int .i64 0,.string ByteArray.empty,.string ByteArray.empty,.slice none 0 0,.string ByteArray.empty,.string ByteArray.empty,.string ByteArray.empty] 140) (.cells #[.int .i64 g.no,.string g.to,.string g.gb,.slice none 0 0,.string ByteArray.empty,.string ByteArray.empty,.string ByteArray.empty] 140);have hB0:=below3' w (.cells #[.int .i64 g.no,.string g.to,.string g.gb,.slice a0 g.r.vs.length c0,.string g.r.kd,.string g.r.tm,.string g.r.px] 113) (.cells #[.int .i64 0,.string ByteArray.empty,.string ByteArray.empty,.slice none 0 0,.string ByteArray.empty,.string ByteArray.empty,.string ByteArray.empty] 140) (.cells #[.int .i64 g.no,.string g.to,.string g.gb,.slice none 0 0,.string ByteArray.empty,.string ByteArray.empty,.string ByteArray.empty] 140);refine(zjJ g.r a0 c0 _ (hi.mono (below3' _ _ _ _)) hl).mono ?_;rintro e w1⟨bk,rfl,hlo,hhi,hbk,hb⟩;have hlo':w.heap.size+1+1+1<=bk:=by simpa using hlo
 have hR1:=(hb.block _ (by simp)).trans k0.2.1;have hO1:=(hb.block _ (by simp)).trans k0.2.2;have hB1:=hB0.trans (hb.mono (by simp;omega));have HK:=hid hbk;have cR:=fun j=>cell_of_block (o:=j) hR1
 have fR:=fun j=>zh (o:=j) hR1
 have cO:=fun j=>cell_of_block (o:=j) hO1
 have fO:=fun j=>zh (o:=j) hO1
 have hz1:=(gES hO1).1;clear hb hbk k0 hB0 hlo hR1 hO1;unfold Rl.cells;go_wp2_with fail
 refine bodyPost_ret (v:=.agg #[.int .i64 g.no,.string g.to,.string g.gb,.slice (some ⟨bk,0,none⟩) g.r.vs.length g.r.vs.length,.string g.r.kd,.string g.r.tm,.string g.r.px]) (by simp[results,Tryz.results71,go_sem,cR]) rfl ⟨bk,rfl,by omega,?_,?_⟩
 ·have h1:bk≠w.heap.size+1:=by omega
  have h2:bk≠w.heap.size+1+1:=by omega
  exact(zM h1).trans ((zM h1).trans ((zM h1).trans ((zM h1).trans ((zM h1).trans ((zM h1).trans ((zM h1).trans ((zM h2).trans ((zM h2).trans ((zM h2).trans ((zM h2).trans HK.out))))))))))
 ·have h3:w.heap.size<=w.heap.size+1:=by omega
  have h4:w.heap.size<=w.heap.size+1+1:=by omega
  exact((((((((((hB1.setCell h4 _).setCell h4 _).setCell h4 _).setCell h4 _).setCell h3 _).setCell h3 _).setCell h3 _).setCell h3 _).setCell h3 _).setCell h3 _).setCell h3 _
structure zqx (w:World)(b off:Nat)(x:Gr)(a0:Option Addr)(c0:Nat):Prop where
 small:x.Small
 l0:qy w a0 x.r.vs
 cell:∀j,j<7->w.cell? ⟨b,off+j,none⟩=(Gr.cells x a0 c0)[j]?
structure zc2 (w:World)(a:Option Addr)(ms:List Gr):Prop where
 len:ms.length<=maxLen
 rows:ms≠[]->∃b off,a=some ⟨b,off,none⟩/\b<w.heap.size/\∀i (h:i<ms.length),∃a0 c0,zqx w b (off+i*7) ms[i] a0 c0
theorem zqx.mono {w w':World}{b off:Nat}{x:Gr}{a0:Option Addr}{c0:Nat}(h:zqx w b off x a0 c0)(hb:b<w.heap.size)(hl:Below w.heap.size w w'):zqx w' b off x a0 c0:=
 ⟨h.small,h.l0.mono hl,fun j hj=>(hl.cell (p:=⟨b,off+j,none⟩) hb).trans (h.cell j hj)⟩
theorem zc2.mono {w w':World}{a:Option Addr}{ms:List Gr}(h:zc2 w a ms)(hl:Below w.heap.size w w'):zc2 w' a ms:=
 ⟨h.len,fun hne=>by
  obtain⟨b,off,ha,hb,hr⟩:=h.rows hne;refine⟨b,off,ha,nLt hb hl.size,fun i hi=>?_⟩;obtain⟨a0,c0,hf⟩:=hr i hi;exact⟨a0,c0,hf.mono hb hl⟩⟩
theorem zc2.load {w w':World}{a:Option Addr}{ms:List Gr}(h:zc2 w a ms)(hl:Below w.heap.size w w')(i:Nat)(hi:i<ms.length):∃b off a0 c0,a=some ⟨b,off,none⟩/\b<w.heap.size/\ms[i].Small/\qy w' a0 ms[i].r.vs /\
 w'.cell? ⟨b,off+i*7,none⟩=some (.int .i64 ms[i].no)/\w'.cell? ⟨b,off+i*7+1,none⟩=some (.string ms[i].to)/\w'.cell? ⟨b,off+i*7+2,none⟩=some (.string ms[i].gb)/\w'.cell? ⟨b,off+i*7+3,none⟩=some (.slice a0 ms[i].r.vs.length c0)/\w'.cell? ⟨b,off+i*7+4,none⟩=some (.string ms[i].r.kd)/\w'.cell? ⟨b,off+i*7+5,none⟩=some (.string ms[i].r.tm)/\w'.cell? ⟨b,off+i*7+6,none⟩=some (.string ms[i].r.px):=by
 obtain⟨b,off,ha,hb,hr⟩:=h.rows (by rintro rfl;simp at hi);obtain⟨a0,c0,hf0⟩:=hr i hi;have hf:=hf0.mono hb hl;exact⟨b,off,a0,c0,ha,hb,hf.small,hf.l0,hf.cell 0 (by omega),hf.cell 1 (by omega),hf.cell 2 (by omega),hf.cell 3 (by omega),hf.cell 4 (by omega),hf.cell 5 (by omega),hf.cell 6 (by omega)⟩
def zdO (ms:List Gr):Nat:=(ms.map Gr.sz).sum
def zcm (ms:List Gr):Nat:=ms.length+zdO ms
structure zjK (ms:List Gr):Prop where
 small:∀i (h:i<ms.length),ms[i].Small/\ms[i].r.vs.length<=maxLen
theorem zc2.smalls {w:World}{a:Option Addr}{ms:List Gr}(h:zc2 w a ms):zjK ms:=
 ⟨fun i hi=>by
  obtain⟨b,off,_,_,hr⟩:=h.rows (by rintro rfl;simp at hi);obtain⟨a0,c0,hf⟩:=hr i hi;exact⟨hf.small,hf.l0.len⟩⟩
theorem zqR {ms:List Gr}{left:Int}(h:(zcm ms:Int)<=left)(hl:left<=1048576):ms.length<=1048576/\∀i (h:i<ms.length),ms[i].r.vs.length<=1048576:=by
 unfold zcm at h;refine⟨by omega,fun i hi=>?_⟩;have h1:ms[i].sz<=zdO ms:=zi5 Gr.sz ms i hi;exact Gr.zox (by omega)
theorem zhi (a:Option Addr)(cap:Nat)(ms:List Gr)(left:Int)(w:World)(hw:zc2 w a ms)(h0:0<=left)(h1:left<=1048576) :
 Calls Tryz.prog 21 #[.slice a ms.length cap,.int .i64 left] w fun e w'=>e=.returned (.int .i64 (zK (zcm ms) left))/\Below w.heap.size w w':=by
 have hl:=hw.len;unfold maxLen at hl
 by_cases hfit:(ms.length:Int)<=left
 ·go_enter Tryz.func21,Tryz.ntmps21
  go_wp2_with fail
  go_loopw [1,5] (fun l i wr=>∃k:Nat,k<=ms.length/\i=.int .i64 k/\0<=left-ms.length-zdO (ms.take k)/\l=.int .i64 (left-ms.length-zdO (ms.take k))/\Below w.heap.size w wr) (fun _ i _=>ms.length-(intOf i).toNat)
  case atStart=>exact⟨0,Nat.zero_le _,rfl,by simp[zdO];omega,by simp[zdO],bRf _ _⟩
  case round=>
   obtain⟨k,hk,rfl,hpos,rfl,hB⟩:=hrel
   by_cases hlt:k<ms.length
   ·obtain⟨b,off,a0,c0,rfl,hb,hsm,hl0,d0,d1,d2,d3,d4,d5,d6⟩:=hw.load hB k hlt
    have hbr:=nLt hb hB.size;have HS:Hid (zdO (ms.take (k+1))=zdO (ms.take k)+ms[k].sz):=zbd Gr.sz ms k hlt;have hle:zdO (ms.take (k+1))<=zdO ms:=zcY Gr.sz ms (k+1);have HI:Hid (qy wr a0 ms[k].r.vs):=hl0;clear hw hl0
    by_cases hneg:(ms[k].sz:Int)<=left-ms.length-zdO (ms.take k)
    ·have HNG:Hid ((ms[k].sz:Int)<=left-ms.length-zdO (ms.take k)):=hneg
     clear hle;go_wp2_with fail
     refine(zeB ms[k] a0 c0 _ _ hsm HI.out hpos (by omega)).mono ?_;rintro e w1⟨rfl,hb1⟩;rw[zL HNG.out];have hB1:=hB.trans (hb1.mono hB.size);clear hb1;go_wp2_with fail
     exact⟨⟨k+1,by omega,by go_num,by rw[HS.out];omega,by rw[HS.out];congr 1;omega,hB1⟩,by simp[intOf];omega⟩
    ·have HF:Hid (zK (zcm ms) left=-1):=zC (by have:=HS.out;unfold zcm;omega)
     have HNG:=hid hneg;clear hneg hle;go_wp2_with fail
     refine(zeB ms[k] a0 c0 _ _ hsm HI.out hpos (by omega)).mono ?_;rintro e w1⟨rfl,hb1⟩;rw[zC (by have:=HNG.out;omega)];have hB1:=hB.trans (hb1.mono hB.size);clear hb1;go_wp2_with fail
     go_ret;exact⟨zo HF.out.symm,hB1⟩
   ·have HF:Hid (zK (zcm ms) left=left-ms.length-zdO (ms.take k)):=by
     rw[tOl (by omega)]at hpos ⊢;have e:zK (zcm ms) left=left-zcm ms:=zL (by unfold zcm;omega);unfold Hid;rw[e];unfold zcm;omega
    clear hw
    go_wp2
    go_ret;exact⟨zo HF.out.symm,hB⟩
 ·have HF:Hid (zK (zcm ms) left=-1):=zC (by unfold zcm;omega)
  clear hw;go_enter Tryz.func21,Tryz.ntmps21
  go_wp2
  go_ret;exact⟨zo HF.out.symm,bRf _ _⟩
theorem zhx (a a':Option Addr)(cap cap':Nat)(ms:List Gr)(w:World)(hw:zc2 w a ms)(hw':zc2 w a' ms) :
 Calls Tryz.prog 43 #[.slice a ms.length cap,.slice a' ms.length cap'] w fun e w'=>e=.returned (.bool true)/\Below w.heap.size w w':=by
 have hl:=hw.len;unfold maxLen at hl;have hnn:((ms.length:Int) != ms.length)=false:=by simp
 go_enter Tryz.func43,Tryz.ntmps43;go_wp2_with fail
 go_loopw [5] (fun i wr=>∃k:Nat,k<=ms.length/\i=.int .i64 k/\Below w.heap.size w wr) (fun i _=>ms.length-(intOf i).toNat)
 case atStart=>exact⟨0,Nat.zero_le _,rfl,bRf _ _⟩
 case round=>
  obtain⟨k,hk,rfl,hB⟩:=hrel
  by_cases hlt:k<ms.length
  ·obtain⟨b,off,a0,c0,rfl,hb,hsm,hl0,d0,d1,d2,d3,d4,d5,d6⟩:=hw.load hB k hlt
   obtain⟨b',off',a0',c0',rfl,hb',_,hl0',f0,f1,f2,f3,f4,f5,f6⟩:=hw'.load hB k hlt;have hltI:(k:Int)<(ms.length:Int):=by omega
   clear hw hw';go_wp2_with fail
   go_region_with (go_at_call 87;refine(ziQ ms[k] a0 c0 a0' c0' _ hsm (by exact hl0.mono ((bRf _ _).drew)) (by exact hl0'.mono ((bRf _ _).drew))).mono ?_;rintro e w1⟨rfl,hb1'⟩;have hb1:=(bRf wr.heap.size wr).drew.trans hb1';clear hb1')
   all_goals go_wp2_with fail
   all_goals exact⟨⟨k+1,by omega,by go_num,hB.trans (hb1.mono hB.size)⟩,by simp[intOf];omega⟩
  ·clear hw hw'
   go_wp2_with fail
   go_ret;exact⟨rfl,hB⟩
structure zad (lo:Nat)(w:World)(bo:Nat)(ms:List Gr)(k:Nat):Prop where
 low:lo<=bo
 rows:∃C,w.heap[bo]?=some (.cells C 140)/\C.size=ms.length*7 /\
  ∀i (h:i<ms.length),i<k->∃g0,lo<=g0/\g0≠bo/\w.heap[g0]?=some (.cells (zb5 ms[i].r.vs) 3)/\∀j,j<7->C[i*7+j]?=(Gr.cells ms[i] (some ⟨g0,0,none⟩) ms[i].r.vs.length)[j]?
theorem zad.at {lo:Nat}{w:World}{bo:Nat}{ms:List Gr}(h:zad lo w bo ms ms.length)(hs:zjK ms)(hl:ms.length<=maxLen):zc2 w (some ⟨bo,0,none⟩) ms:=by
 obtain⟨C,hC,hsz,hr⟩:=h.rows;refine⟨hl,fun _=>⟨bo,0,rfl,(gES hC).1,fun i hi=>?_⟩⟩;obtain⟨g0,_,_,hk0,hc⟩:=hr i hi hi;obtain⟨s0,s1⟩:=hs.small i hi;refine⟨some ⟨g0,0,none⟩,ms[i].r.vs.length,s0,zhF hk0 s1,fun j hj=>?_⟩;rw[cell_of_block hC,Nat.zero_add];exact hc j hj
theorem zad.above {lo:Nat}{w w':World}{bo:Nat}{ms:List Gr}{k:Nat}(h:zad lo w bo ms k)(ha:yP lo w w'):zad lo w' bo ms k:=by
 obtain⟨C,hC,hsz,hr⟩:=h.rows;refine⟨h.low,C,(ha.same _ h.low (gES hC).1).trans hC,hsz,fun i hi hk=>?_⟩;obtain⟨g0,p0,q0,r0,hc⟩:=hr i hi hk;exact⟨g0,p0,q0,(ha.same _ p0 (gES r0).1).trans r0,hc⟩
theorem zad.later {lo:Nat}{w w':World}{bo:Nat}{ms:List Gr}{k:Nat}(h:zad lo w bo ms k)(hb:Below w.heap.size w w'):zad lo w' bo ms k:=h.above (yP.below hb)
theorem zad.weaken {lo lo':Nat}{w:World}{bo:Nat}{ms:List Gr}{k:Nat}(h:zad lo w bo ms k)(hl:lo'<=lo):zad lo' w bo ms k:=by
 obtain⟨C,hC,hsz,hr⟩:=h.rows;refine⟨Nat.le_trans hl h.low,C,hC,hsz,fun i hi hk=>?_⟩;obtain⟨g0,p0,q0,r0,hc⟩:=hr i hi hk;exact⟨g0,Nat.le_trans hl p0,q0,r0,hc⟩
def znv (w:World)(b o:Nat)(v0 v1 v2 v3 v4 v5 v6:Value):World:=(((((((w.setCell ⟨b,o,none⟩ v0).setCell ⟨b,o+1,none⟩ v1).setCell ⟨b,o+2,none⟩ v2).setCell ⟨b,o+3,none⟩ v3).setCell ⟨b,o+4,none⟩ v4).setCell ⟨b,o+5,none⟩ v5).setCell ⟨b,o+6,none⟩ v6)
def zj3 (C:Array Value)(o:Nat)(v0 v1 v2 v3 v4 v5 v6:Value):Array Value:=(((((((C.setIfInBounds (o) v0).setIfInBounds (o+1) v1).setIfInBounds (o+2) v2).setIfInBounds (o+3) v3).setIfInBounds (o+4) v4).setIfInBounds (o+5) v5).setIfInBounds (o+6) v6)
theorem znk {w:World}{b o:Nat}{C:Array Value}{t:TypeId}(h:w.heap[b]?=some (.cells C t))(v0 v1 v2 v3 v4 v5 v6:Value):(znv w b o v0 v1 v2 v3 v4 v5 v6).heap[b]?=some (.cells (zj3 C o v0 v1 v2 v3 v4 v5 v6) t):=
 zk (zk (zk (zk (zk (zk (zk h v0) v1) v2) v3) v4) v5) v6
theorem znt {B:Nat}{a w:World}(h:Below B a w){b:Nat}(hb:B<=b)(o:Nat)(v0 v1 v2 v3 v4 v5 v6:Value):Below B a (znv w b o v0 v1 v2 v3 v4 v5 v6):=
 ((((((h.setCell hb v0).setCell hb v1).setCell hb v2).setCell hb v3).setCell hb v4).setCell hb v5).setCell hb v6
theorem zib (w:World)(b o:Nat)(v0 v1 v2 v3 v4 v5 v6:Value){b':Nat}(h:b'≠b):(znv w b o v0 v1 v2 v3 v4 v5 v6).heap[b']?=w.heap[b']?:=by
 unfold znv
 iterate 7 rw[zM h]
theorem zoG (C:Array Value)(o:Nat)(v0 v1 v2 v3 v4 v5 v6:Value):(zj3 C o v0 v1 v2 v3 v4 v5 v6).size=C.size:=by simp[zj3]
theorem zpy (C:Array Value)(o i:Nat)(v0 v1 v2 v3 v4 v5 v6:Value)(h:i<o \/ o+7<=i):(zj3 C o v0 v1 v2 v3 v4 v5 v6)[i]?=C[i]?:=by
 unfold zj3
 iterate 7 rw[Array.getElem?_setIfInBounds,if_neg (by omega)]
theorem zp9 (C:Array Value)(o j:Nat)(v0 v1 v2 v3 v4 v5 v6:Value)(hj:j<7)(ho:o+7<=C.size):(zj3 C o v0 v1 v2 v3 v4 v5 v6)[o+j]?=(#[v0,v1,v2,v3,v4,v5,v6]:Array Value)[j]?:=by
 have hc:j=0 \/ j=1 \/ j=2 \/ j=3 \/ j=4 \/ j=5 \/ j=6:=by omega
 unfold zj3
 rcases hc with h|h|h|h|h|h|h <;> subst h <;> simp[Array.getElem?_setIfInBounds] <;> omega
theorem zad.put {lo:Nat}{w:World}{bo:Nat}{ms:List Gr}{k:Nat}(h:zad lo w bo ms k)(hk:k<ms.length)(g0:Nat)(p0:lo<=g0)(q0:g0≠bo)(r0:w.heap[g0]?=some (.cells (zb5 ms[k].r.vs) 3)) :
 zad lo (znv w bo (k*7) (.int .i64 ms[k].no) (.string ms[k].to) (.string ms[k].gb) (.slice (some ⟨g0,0,none⟩) ms[k].r.vs.length ms[k].r.vs.length) (.string ms[k].r.kd) (.string ms[k].r.tm) (.string ms[k].r.px)) bo ms (k+1):=by
 obtain⟨C,hC,hsz,hr⟩:=h.rows;refine⟨h.low,_,znk hC _ _ _ _ _ _ _,by rw[zoG];exact hsz,fun i hi hik=>?_⟩
 rcases Nat.lt_or_ge i k with hlt|hge
 ·obtain⟨g0',x0,y0,z0,hc⟩:=hr i hi hlt
  refine⟨g0',x0,y0,(by rw[zib _ _ _ _ _ _ _ _ _ _ y0];exact z0),fun j hj=>?_⟩;rw[zpy _ _ _ _ _ _ _ _ _ _ (by omega)];exact hc j hj
 ·have e:i=k:=by omega
  subst e;refine⟨g0,p0,q0,(by rw[zib _ _ _ _ _ _ _ _ _ _ q0];exact r0),fun j hj=>?_⟩;rw[zp9 _ _ _ _ _ _ _ _ _ _ hj (by omega)]
  rfl
def zqt:Array Value:=#[.int .i64 0,.string ByteArray.empty,.string ByteArray.empty,.slice none 0 0,.string ByteArray.empty,.string ByteArray.empty,.string ByteArray.empty]
def zo9 (n:Nat):Array Value:=madeCells zqt (n*7)
theorem zhw (a:Option Addr)(cap:Nat)(ms:List Gr)(w:World)(hw:zc2 w a ms)(hl:ms.length<=1048576)(hls:∀i (h:i<ms.length),ms[i].r.vs.length<=1048576) :
 Calls Tryz.prog 33 #[.slice a ms.length cap] w fun e w'=>e=.returned (.slice (some ⟨w.heap.size,0,none⟩) ms.length ms.length)/\zad w.heap.size w' w.heap.size ms ms.length/\Below w.heap.size w w':=by
 have hmk:∀w:World,(Instr.makeSlice 44 (.int .i64 ms.length) (.int .i64 ms.length)).run Tryz.prog w=.ok (.slice (some ⟨w.heap.size,0,none⟩) ms.length ms.length) (w.alloc (.cells (zo9 ms.length) 140)):=
  fun w=>jI (P:=Tryz.prog) 44 140 (.agg zqt) 7 112 Tryz.underlying44 (by kernel_rfl) ms.length (by omega) (by omega) w
 go_enter Tryz.func33,Tryz.ntmps33;go_wp2_with fail
 clear hmk
 go_loopw [4] (fun i wr=>∃k:Nat,k<=ms.length/\i=.int .i64 k/\Hid (zad w.heap.size wr w.heap.size ms k)/\Below w.heap.size w wr) (fun i _=>ms.length-(intOf i).toNat)
 case atStart=>exact⟨0,Nat.zero_le _,rfl,⟨Nat.le_refl _,zo9 ms.length,(MapKept.heap_alloc w _).1,size_madeCells _ _,fun i _ h=>absurd h (by omega)⟩,bAl _ _⟩
 case round=>
  obtain⟨k,hk,rfl,HOW,hB⟩:=hrel
  by_cases hlt:k<ms.length
  ·obtain⟨b,off,a0,c0,rfl,hb,hsm,hl0,d0,d1,d2,d3,d4,d5,d6⟩:=hw.load hB k hlt
   have HLS:=hid (hls k hlt);have hltI:(k:Int)<(ms.length:Int):=by omega
   clear hw;go_wp2_with fail
   refine(ziH ms[k] a0 c0 _ hsm hl0 HLS.out).mono ?_;rintro e w1⟨g0,rfl,p0,r0,hb1⟩;have hB1:=hB.trans (hb1.mono hB.size)
   have hbo:w.heap.size<wr.heap.size:=by
    obtain⟨C',hC',_⟩:=HOW.out.rows;exact(gES hC').1
   have HP:=hid (HOW.out.later hb1);obtain⟨C,hC,hsz,_⟩:=HP.out.rows;have hfz:∀o,w1.frozen? ⟨w.heap.size,o,none⟩=false:=fun o=>zh hC
   have hex:∀o,o<ms.length*7->∃v,w1.cell? ⟨w.heap.size,o,none⟩=some v:=fun o ho=>⟨C[o]'(by omega),by rw[cell_of_block hC];exact Array.getElem?_eq_getElem (by omega)⟩
   obtain⟨v0,hv0⟩:=hex (k*7) (by omega);obtain⟨v1,hv1⟩:=hex (k*7+1) (by omega);obtain⟨v2,hv2⟩:=hex (k*7+2) (by omega);obtain⟨v3,hv3⟩:=hex (k*7+3) (by omega);obtain⟨v4,hv4⟩:=hex (k*7+4) (by omega);obtain⟨v5,hv5⟩:=hex (k*7+5) (by omega);obtain⟨v6,hv6⟩:=hex (k*7+6) (by omega);have HR:=jC p0 r0;clear hex hC hsz d0 d1 d2 d3 d4 d5 d6 p0 r0 hl0;unfold Gr.cells;go_wp2_with fail
   obtain⟨p0,r0⟩:=HR.out;exact⟨⟨k+1,by omega,by go_num,HP.out.put hlt g0 (by omega) (by omega) r0,znt hB1 (Nat.le_refl _) _ _ _ _ _ _ _ _⟩,by simp[intOf];omega⟩
  ·have HF:Hid (zad w.heap.size wr w.heap.size ms ms.length):=by
    have e:k=ms.length:=by omega
    subst e;exact HOW.out
   clear hw HOW;go_wp2_with fail
   go_ret;exact⟨rfl,HF.out,hB⟩
def Ob.row (o:Ob)(a0 a1:Option Addr)(c0 c1:Nat):Array Value:=#[.string o.kd,.string o.nm,.string o.tm,.slice a0 o.vs.length c0,.bool o.en,.slice a1 o.hs.length c1,.int .i64 o.vr]
def Ob.sz (o:Ob):Nat:=zdN o
theorem Ob.zox {o:Ob}(h:(o.sz:Int)<=1048576):o.vs.length<=1048576/\o.hs.length<=1048576:=zq4 h (Int.le_refl _)
theorem zdS (o:Ob)(a0 a1:Option Addr)(c0 c1:Nat)(left:Int)(w:World)(hm:o.Small)(h0':zD w a0 o.vs)(h1':zD w a1 o.hs)(h0:0<=left)(h1:left<=1048576) :
 Calls Tryz.prog 56 #[.agg (o.row a0 a1 c0 c1),.int .i64 left] w fun e w'=>e=.returned (.int .i64 (zK o.sz left))/\Below w.heap.size w w':=zhR o a0 a1 c0 c1 left w ⟨hm,h0',h1'⟩ h0 h1
theorem zhL (o:Ob)(a0 a1:Option Addr)(c0 c1:Nat)(a0' a1':Option Addr)(c0' c1':Nat)(w:World)(hm:o.Small)(h0:zD w a0 o.vs)(h1:zD w a1 o.hs)(h0':zD w a0' o.vs)(h1':zD w a1' o.hs) :
 Calls Tryz.prog 86 #[.agg (o.row a0 a1 c0 c1),.agg (o.row a0' a1' c0' c1')] w fun e w'=>e=.returned (.bool true)/\Below w.heap.size w w':=zhs o a0 a1 a0' a1' c0 c1 c0' c1' w ⟨hm,h0,h1⟩ ⟨hm,h0',h1'⟩
theorem zhr (o:Ob)(a0 a1:Option Addr)(c0 c1:Nat)(w:World)(hm:o.Small)(h0:zD w a0 o.vs)(h1:zD w a1 o.hs)(hl:o.vs.length<=1048576/\o.hs.length<=1048576) :
 Calls Tryz.prog 70 #[.agg (o.row a0 a1 c0 c1)] w fun e w'=>∃g0 g1,e=.returned (.agg (o.row (some ⟨g0,0,none⟩) (some ⟨g1,0,none⟩) o.vs.length o.hs.length))/\w.heap.size<=g0/\w'.heap[g0]?=some (.cells (jY o.vs) 9)/\w.heap.size<=g1/\w'.heap[g1]?=some (.cells (jY o.hs) 9)/\Below w.heap.size w w':=by
 refine(zhm o a0 a1 c0 c1 w ⟨hm,h0,h1⟩ hl.1 hl.2).mono ?_;rintro e w'⟨bv,bh,he,hv,hh,_,hbv,hbh,hb⟩;exact⟨bv,bh,he,hv,hbv,hh,hbh,hb⟩
structure zpX (w:World)(b off:Nat)(x:Ob)(a0 a1:Option Addr)(c0 c1:Nat):Prop where
 small:x.Small
 l0:zD w a0 x.vs
 l1:zD w a1 x.hs
 cell:∀j,j<7->w.cell? ⟨b,off+j,none⟩=(Ob.row x a0 a1 c0 c1)[j]?
structure zbV (w:World)(a:Option Addr)(ms:List Ob):Prop where
 len:ms.length<=maxLen
 rows:ms≠[]->∃b off,a=some ⟨b,off,none⟩/\b<w.heap.size/\∀i (h:i<ms.length),∃a0 a1 c0 c1,zpX w b (off+i*7) ms[i] a0 a1 c0 c1
theorem zpX.mono {w w':World}{b off:Nat}{x:Ob}{a0 a1:Option Addr}{c0 c1:Nat}(h:zpX w b off x a0 a1 c0 c1)(hb:b<w.heap.size)(hl:Below w.heap.size w w'):zpX w' b off x a0 a1 c0 c1:=
 ⟨h.small,h.l0.mono hl,h.l1.mono hl,fun j hj=>(hl.cell (p:=⟨b,off+j,none⟩) hb).trans (h.cell j hj)⟩
theorem zbV.mono {w w':World}{a:Option Addr}{ms:List Ob}(h:zbV w a ms)(hl:Below w.heap.size w w'):zbV w' a ms:=
 ⟨h.len,fun hne=>by
  obtain⟨b,off,ha,hb,hr⟩:=h.rows hne;refine⟨b,off,ha,nLt hb hl.size,fun i hi=>?_⟩;obtain⟨a0,a1,c0,c1,hf⟩:=hr i hi;exact⟨a0,a1,c0,c1,hf.mono hb hl⟩⟩
theorem zbV.load {w w':World}{a:Option Addr}{ms:List Ob}(h:zbV w a ms)(hl:Below w.heap.size w w')(i:Nat)(hi:i<ms.length):∃b off a0 a1 c0 c1,a=some ⟨b,off,none⟩/\b<w.heap.size/\ms[i].Small/\zD w' a0 ms[i].vs/\zD w' a1 ms[i].hs /\
 w'.cell? ⟨b,off+i*7,none⟩=some (.string ms[i].kd)/\w'.cell? ⟨b,off+i*7+1,none⟩=some (.string ms[i].nm)/\w'.cell? ⟨b,off+i*7+2,none⟩=some (.string ms[i].tm)/\w'.cell? ⟨b,off+i*7+3,none⟩=some (.slice a0 ms[i].vs.length c0)/\w'.cell? ⟨b,off+i*7+4,none⟩=some (.bool ms[i].en)/\w'.cell? ⟨b,off+i*7+5,none⟩=some (.slice a1 ms[i].hs.length c1)/\w'.cell? ⟨b,off+i*7+6,none⟩=some (.int .i64 ms[i].vr):=by
 obtain⟨b,off,ha,hb,hr⟩:=h.rows (by rintro rfl;simp at hi);obtain⟨a0,a1,c0,c1,hf0⟩:=hr i hi;have hf:=hf0.mono hb hl;exact⟨b,off,a0,a1,c0,c1,ha,hb,hf.small,hf.l0,hf.l1,hf.cell 0 (by omega),hf.cell 1 (by omega),hf.cell 2 (by omega),hf.cell 3 (by omega),hf.cell 4 (by omega),hf.cell 5 (by omega),hf.cell 6 (by omega)⟩
def zbe (ms:List Ob):Nat:=(ms.map Ob.sz).sum
def qG (ms:List Ob):Nat:=ms.length+zbe ms
structure zgn (ms:List Ob):Prop where
 small:∀i (h:i<ms.length),ms[i].Small/\(ms[i].vs.length<=maxLen/\∀s∈ms[i].vs,s.size<=maxLen)/\(ms[i].hs.length<=maxLen/\∀s∈ms[i].hs,s.size<=maxLen)
theorem zbV.smalls {w:World}{a:Option Addr}{ms:List Ob}(h:zbV w a ms):zgn ms:=
 ⟨fun i hi=>by
  obtain⟨b,off,_,_,hr⟩:=h.rows (by rintro rfl;simp at hi);obtain⟨a0,a1,c0,c1,hf⟩:=hr i hi;exact⟨hf.small,⟨hf.l0.len,hf.l0.small⟩,⟨hf.l1.len,hf.l1.small⟩⟩⟩
theorem zmi {ms:List Ob}{left:Int}(h:(qG ms:Int)<=left)(hl:left<=1048576):ms.length<=1048576/\∀i (h:i<ms.length),ms[i].vs.length<=1048576/\ms[i].hs.length<=1048576:=by
 unfold qG at h;refine⟨by omega,fun i hi=>?_⟩;have h1:ms[i].sz<=zbe ms:=zi5 Ob.sz ms i hi;exact Ob.zox (by omega)
theorem zgk (a:Option Addr)(cap:Nat)(ms:List Ob)(left:Int)(w:World)(hw:zbV w a ms)(h0:0<=left)(h1:left<=1048576) :
 Calls Tryz.prog 20 #[.slice a ms.length cap,.int .i64 left] w fun e w'=>e=.returned (.int .i64 (zK (qG ms) left))/\Below w.heap.size w w':=by
 have hl:=hw.len;unfold maxLen at hl
 by_cases hfit:(ms.length:Int)<=left
 ·go_enter Tryz.func20,Tryz.ntmps20
  go_wp2_with fail
  go_loopw [1,5] (fun l i wr=>∃k:Nat,k<=ms.length/\i=.int .i64 k/\0<=left-ms.length-zbe (ms.take k)/\l=.int .i64 (left-ms.length-zbe (ms.take k))/\Below w.heap.size w wr) (fun _ i _=>ms.length-(intOf i).toNat)
  case atStart=>exact⟨0,Nat.zero_le _,rfl,by simp[zbe];omega,by simp[zbe],bRf _ _⟩
  case round=>
   obtain⟨k,hk,rfl,hpos,rfl,hB⟩:=hrel
   by_cases hlt:k<ms.length
   ·obtain⟨b,off,a0,a1,c0,c1,rfl,hb,hsm,hl0,hl1,d0,d1,d2,d3,d4,d5,d6⟩:=hw.load hB k hlt
    have hbr:=nLt hb hB.size;have HS:Hid (zbe (ms.take (k+1))=zbe (ms.take k)+ms[k].sz):=zbd Ob.sz ms k hlt;have hle:zbe (ms.take (k+1))<=zbe ms:=zcY Ob.sz ms (k+1);have HI:Hid (zD wr a0 ms[k].vs/\zD wr a1 ms[k].hs):=⟨hl0,hl1⟩
    clear hw hl0 hl1
    by_cases hneg:(ms[k].sz:Int)<=left-ms.length-zbe (ms.take k)
    ·have HNG:Hid ((ms[k].sz:Int)<=left-ms.length-zbe (ms.take k)):=hneg
     clear hle;go_wp2_with fail
     refine(zdS ms[k] a0 a1 c0 c1 _ _ hsm HI.out.1 HI.out.2 hpos (by omega)).mono ?_;rintro e w1⟨rfl,hb1⟩;rw[zL HNG.out];have hB1:=hB.trans (hb1.mono hB.size);clear hb1;go_wp2_with fail
     exact⟨⟨k+1,by omega,by go_num,by rw[HS.out];omega,by rw[HS.out];congr 1;omega,hB1⟩,by simp[intOf];omega⟩
    ·have HF:Hid (zK (qG ms) left=-1):=zC (by have:=HS.out;unfold qG;omega)
     have HNG:=hid hneg;clear hneg hle;go_wp2_with fail
     refine(zdS ms[k] a0 a1 c0 c1 _ _ hsm HI.out.1 HI.out.2 hpos (by omega)).mono ?_;rintro e w1⟨rfl,hb1⟩;rw[zC (by have:=HNG.out;omega)];have hB1:=hB.trans (hb1.mono hB.size);clear hb1;go_wp2_with fail
     go_ret;exact⟨zo HF.out.symm,hB1⟩
   ·have HF:Hid (zK (qG ms) left=left-ms.length-zbe (ms.take k)):=by
     rw[tOl (by omega)]at hpos ⊢;have e:zK (qG ms) left=left-qG ms:=zL (by unfold qG;omega);unfold Hid;rw[e];unfold qG;omega
    clear hw
    go_wp2
    go_ret;exact⟨zo HF.out.symm,hB⟩
 ·have HF:Hid (zK (qG ms) left=-1):=zC (by unfold qG;omega)
  clear hw;go_enter Tryz.func20,Tryz.ntmps20
  go_wp2
  go_ret;exact⟨zo HF.out.symm,bRf _ _⟩
theorem zgQ (a a':Option Addr)(cap cap':Nat)(ms:List Ob)(w:World)(hw:zbV w a ms)(hw':zbV w a' ms) :
 Calls Tryz.prog 42 #[.slice a ms.length cap,.slice a' ms.length cap'] w fun e w'=>e=.returned (.bool true)/\Below w.heap.size w w':=by
 have hl:=hw.len;unfold maxLen at hl;have hnn:((ms.length:Int) != ms.length)=false:=by simp
 go_enter Tryz.func42,Tryz.ntmps42;go_wp2_with fail
 go_loopw [5] (fun i wr=>∃k:Nat,k<=ms.length/\i=.int .i64 k/\Below w.heap.size w wr) (fun i _=>ms.length-(intOf i).toNat)
 case atStart=>exact⟨0,Nat.zero_le _,rfl,bRf _ _⟩
 case round=>
  obtain⟨k,hk,rfl,hB⟩:=hrel
  by_cases hlt:k<ms.length
  ·obtain⟨b,off,a0,a1,c0,c1,rfl,hb,hsm,hl0,hl1,d0,d1,d2,d3,d4,d5,d6⟩:=hw.load hB k hlt
   obtain⟨b',off',a0',a1',c0',c1',rfl,hb',_,hl0',hl1',f0,f1,f2,f3,f4,f5,f6⟩:=hw'.load hB k hlt;have hltI:(k:Int)<(ms.length:Int):=by omega
   clear hw hw';go_wp2_with fail
   go_region_with (go_at_call 86;refine(zhL ms[k] a0 a1 c0 c1 a0' a1' c0' c1' _ hsm (by exact hl0.mono ((bRf _ _).drew)) (by exact hl1.mono ((bRf _ _).drew)) (by exact hl0'.mono ((bRf _ _).drew)) (by exact hl1'.mono ((bRf _ _).drew))).mono ?_;rintro e w1⟨rfl,hb1'⟩;have hb1:=(bRf wr.heap.size wr).drew.trans hb1';clear hb1')
   all_goals go_wp2_with fail
   all_goals exact⟨⟨k+1,by omega,by go_num,hB.trans (hb1.mono hB.size)⟩,by simp[intOf];omega⟩
  ·clear hw hw'
   go_wp2_with fail
   go_ret;exact⟨rfl,hB⟩
structure zan (lo:Nat)(w:World)(bo:Nat)(ms:List Ob)(k:Nat):Prop where
 low:lo<=bo
 rows:∃C,w.heap[bo]?=some (.cells C 123)/\C.size=ms.length*7 /\
  ∀i (h:i<ms.length),i<k->∃g0 g1,lo<=g0/\g0≠bo/\w.heap[g0]?=some (.cells (jY ms[i].vs) 9)/\lo<=g1/\g1≠bo/\w.heap[g1]?=some (.cells (jY ms[i].hs) 9)/\∀j,j<7->C[i*7+j]?=(Ob.row ms[i] (some ⟨g0,0,none⟩) (some ⟨g1,0,none⟩) ms[i].vs.length ms[i].hs.length)[j]?
theorem zan.at {lo:Nat}{w:World}{bo:Nat}{ms:List Ob}(h:zan lo w bo ms ms.length)(hs:zgn ms)(hl:ms.length<=maxLen):zbV w (some ⟨bo,0,none⟩) ms:=by
 obtain⟨C,hC,hsz,hr⟩:=h.rows;refine⟨hl,fun _=>⟨bo,0,rfl,(gES hC).1,fun i hi=>?_⟩⟩;obtain⟨g0,g1,_,_,hk0,_,_,hk1,hc⟩:=hr i hi hi;obtain⟨s0,s1,s2⟩:=hs.small i hi;refine⟨some ⟨g0,0,none⟩,some ⟨g1,0,none⟩,ms[i].vs.length,ms[i].hs.length,s0,zdL hk0 s1.1 s1.2,zdL hk1 s2.1 s2.2,fun j hj=>?_⟩;rw[cell_of_block hC,Nat.zero_add];exact hc j hj
theorem zan.above {lo:Nat}{w w':World}{bo:Nat}{ms:List Ob}{k:Nat}(h:zan lo w bo ms k)(ha:yP lo w w'):zan lo w' bo ms k:=by
 obtain⟨C,hC,hsz,hr⟩:=h.rows;refine⟨h.low,C,(ha.same _ h.low (gES hC).1).trans hC,hsz,fun i hi hk=>?_⟩;obtain⟨g0,g1,p0,q0,r0,p1,q1,r1,hc⟩:=hr i hi hk;exact⟨g0,g1,p0,q0,(ha.same _ p0 (gES r0).1).trans r0,p1,q1,(ha.same _ p1 (gES r1).1).trans r1,hc⟩
theorem zan.later {lo:Nat}{w w':World}{bo:Nat}{ms:List Ob}{k:Nat}(h:zan lo w bo ms k)(hb:Below w.heap.size w w'):zan lo w' bo ms k:=h.above (yP.below hb)
def znx (w:World)(b o:Nat)(v0 v1 v2 v3 v4 v5 v6:Value):World:=(((((((w.setCell ⟨b,o,none⟩ v0).setCell ⟨b,o+1,none⟩ v1).setCell ⟨b,o+2,none⟩ v2).setCell ⟨b,o+3,none⟩ v3).setCell ⟨b,o+4,none⟩ v4).setCell ⟨b,o+5,none⟩ v5).setCell ⟨b,o+6,none⟩ v6)
def zj1 (C:Array Value)(o:Nat)(v0 v1 v2 v3 v4 v5 v6:Value):Array Value:=(((((((C.setIfInBounds (o) v0).setIfInBounds (o+1) v1).setIfInBounds (o+2) v2).setIfInBounds (o+3) v3).setIfInBounds (o+4) v4).setIfInBounds (o+5) v5).setIfInBounds (o+6) v6)
theorem zm7 {w:World}{b o:Nat}{C:Array Value}{t:TypeId}(h:w.heap[b]?=some (.cells C t))(v0 v1 v2 v3 v4 v5 v6:Value):(znx w b o v0 v1 v2 v3 v4 v5 v6).heap[b]?=some (.cells (zj1 C o v0 v1 v2 v3 v4 v5 v6) t):=
 zk (zk (zk (zk (zk (zk (zk h v0) v1) v2) v3) v4) v5) v6
theorem znH {B:Nat}{a w:World}(h:Below B a w){b:Nat}(hb:B<=b)(o:Nat)(v0 v1 v2 v3 v4 v5 v6:Value):Below B a (znx w b o v0 v1 v2 v3 v4 v5 v6):=
 ((((((h.setCell hb v0).setCell hb v1).setCell hb v2).setCell hb v3).setCell hb v4).setCell hb v5).setCell hb v6
theorem zc8 (w:World)(b o:Nat)(v0 v1 v2 v3 v4 v5 v6:Value){b':Nat}(h:b'≠b):(znx w b o v0 v1 v2 v3 v4 v5 v6).heap[b']?=w.heap[b']?:=by
 unfold znx
 iterate 7 rw[zM h]
theorem zn8 (C:Array Value)(o:Nat)(v0 v1 v2 v3 v4 v5 v6:Value):(zj1 C o v0 v1 v2 v3 v4 v5 v6).size=C.size:=by simp[zj1]
theorem zpW (C:Array Value)(o i:Nat)(v0 v1 v2 v3 v4 v5 v6:Value)(h:i<o \/ o+7<=i):(zj1 C o v0 v1 v2 v3 v4 v5 v6)[i]?=C[i]?:=by
 unfold zj1
 iterate 7 rw[Array.getElem?_setIfInBounds,if_neg (by omega)]
theorem zqv (C:Array Value)(o j:Nat)(v0 v1 v2 v3 v4 v5 v6:Value)(hj:j<7)(ho:o+7<=C.size):(zj1 C o v0 v1 v2 v3 v4 v5 v6)[o+j]?=(#[v0,v1,v2,v3,v4,v5,v6]:Array Value)[j]?:=by
 have hc:j=0 \/ j=1 \/ j=2 \/ j=3 \/ j=4 \/ j=5 \/ j=6:=by omega
 unfold zj1
 rcases hc with h|h|h|h|h|h|h <;> subst h <;> simp[Array.getElem?_setIfInBounds] <;> omega
theorem zan.put {lo:Nat}{w:World}{bo:Nat}{ms:List Ob}{k:Nat}(h:zan lo w bo ms k)(hk:k<ms.length)(g0 g1:Nat)(p0:lo<=g0)(q0:g0≠bo)(r0:w.heap[g0]?=some (.cells (jY ms[k].vs) 9))(p1:lo<=g1)(q1:g1≠bo)(r1:w.heap[g1]?=some (.cells (jY ms[k].hs) 9)) :
 zan lo (znx w bo (k*7) (.string ms[k].kd) (.string ms[k].nm) (.string ms[k].tm) (.slice (some ⟨g0,0,none⟩) ms[k].vs.length ms[k].vs.length) (.bool ms[k].en) (.slice (some ⟨g1,0,none⟩) ms[k].hs.length ms[k].hs.length) (.int .i64 ms[k].vr)) bo ms (k+1):=by
 obtain⟨C,hC,hsz,hr⟩:=h.rows;refine⟨h.low,_,zm7 hC _ _ _ _ _ _ _,by rw[zn8];exact hsz,fun i hi hik=>?_⟩
 rcases Nat.lt_or_ge i k with hlt|hge
 ·obtain⟨g0',g1',x0,y0,z0,x1,y1,z1,hc⟩:=hr i hi hlt
  refine⟨g0',g1',x0,y0,(by rw[zc8 _ _ _ _ _ _ _ _ _ _ y0];exact z0),x1,y1,(by rw[zc8 _ _ _ _ _ _ _ _ _ _ y1];exact z1),fun j hj=>?_⟩;rw[zpW _ _ _ _ _ _ _ _ _ _ (by omega)];exact hc j hj
 ·have e:i=k:=by omega
  subst e;refine⟨g0,g1,p0,q0,(by rw[zc8 _ _ _ _ _ _ _ _ _ _ q0];exact r0),p1,q1,(by rw[zc8 _ _ _ _ _ _ _ _ _ _ q1];exact r1),fun j hj=>?_⟩;rw[zqv _ _ _ _ _ _ _ _ _ _ hj (by omega)]
  rfl
def zqs:Array Value:=#[.string ByteArray.empty,.string ByteArray.empty,.string ByteArray.empty,.slice none 0 0,.bool false,.slice none 0 0,.int .i64 0]
def zpm (n:Nat):Array Value:=madeCells zqs (n*7)
theorem zgS (a:Option Addr)(cap:Nat)(ms:List Ob)(w:World)(hw:zbV w a ms)(hl:ms.length<=1048576)(hls:∀i (h:i<ms.length),ms[i].vs.length<=1048576/\ms[i].hs.length<=1048576) :
 Calls Tryz.prog 32 #[.slice a ms.length cap] w fun e w'=>e=.returned (.slice (some ⟨w.heap.size,0,none⟩) ms.length ms.length)/\zan w.heap.size w' w.heap.size ms ms.length/\Below w.heap.size w w':=by
 have hmk:∀w:World,(Instr.makeSlice 43 (.int .i64 ms.length) (.int .i64 ms.length)).run Tryz.prog w=.ok (.slice (some ⟨w.heap.size,0,none⟩) ms.length ms.length) (w.alloc (.cells (zpm ms.length) 123)):=
  fun w=>jI (P:=Tryz.prog) 43 123 (.agg zqs) 7 112 Tryz.underlying43 (by kernel_rfl) ms.length (by omega) (by omega) w
 go_enter Tryz.func32,Tryz.ntmps32;go_wp2_with fail
 clear hmk
 go_loopw [4] (fun i wr=>∃k:Nat,k<=ms.length/\i=.int .i64 k/\Hid (zan w.heap.size wr w.heap.size ms k)/\Below w.heap.size w wr) (fun i _=>ms.length-(intOf i).toNat)
 case atStart=>exact⟨0,Nat.zero_le _,rfl,⟨Nat.le_refl _,zpm ms.length,(MapKept.heap_alloc w _).1,size_madeCells _ _,fun i _ h=>absurd h (by omega)⟩,bAl _ _⟩
 case round=>
  obtain⟨k,hk,rfl,HOW,hB⟩:=hrel
  by_cases hlt:k<ms.length
  ·obtain⟨b,off,a0,a1,c0,c1,rfl,hb,hsm,hl0,hl1,d0,d1,d2,d3,d4,d5,d6⟩:=hw.load hB k hlt
   have HLS:=hid (hls k hlt);have hltI:(k:Int)<(ms.length:Int):=by omega
   clear hw;go_wp2_with fail
   refine(zhr ms[k] a0 a1 c0 c1 _ hsm hl0 hl1 HLS.out).mono ?_;rintro e w1⟨g0,g1,rfl,p0,r0,p1,r1,hb1⟩;have hB1:=hB.trans (hb1.mono hB.size)
   have hbo:w.heap.size<wr.heap.size:=by
    obtain⟨C',hC',_⟩:=HOW.out.rows;exact(gES hC').1
   have HP:=hid (HOW.out.later hb1);obtain⟨C,hC,hsz,_⟩:=HP.out.rows;have hfz:∀o,w1.frozen? ⟨w.heap.size,o,none⟩=false:=fun o=>zh hC
   have hex:∀o,o<ms.length*7->∃v,w1.cell? ⟨w.heap.size,o,none⟩=some v:=fun o ho=>⟨C[o]'(by omega),by rw[cell_of_block hC];exact Array.getElem?_eq_getElem (by omega)⟩
   obtain⟨v0,hv0⟩:=hex (k*7) (by omega);obtain⟨v1,hv1⟩:=hex (k*7+1) (by omega);obtain⟨v2,hv2⟩:=hex (k*7+2) (by omega);obtain⟨v3,hv3⟩:=hex (k*7+3) (by omega);obtain⟨v4,hv4⟩:=hex (k*7+4) (by omega);obtain⟨v5,hv5⟩:=hex (k*7+5) (by omega);obtain⟨v6,hv6⟩:=hex (k*7+6) (by omega);have HR:=zkC p0 r0 p1 r1;clear hex hC hsz d0 d1 d2 d3 d4 d5 d6 p0 r0 p1 r1 hl0 hl1;unfold Ob.row;go_wp2_with fail
   obtain⟨p0,r0,p1,r1⟩:=HR.out;exact⟨⟨k+1,by omega,by go_num,HP.out.put hlt g0 g1 (by omega) (by omega) r0 (by omega) (by omega) r1,znH hB1 (Nat.le_refl _) _ _ _ _ _ _ _ _⟩,by simp[intOf];omega⟩
  ·have HF:Hid (zan w.heap.size wr w.heap.size ms ms.length):=by
    have e:k=ms.length:=by omega
    subst e;exact HOW.out
   clear hw HOW;go_wp2_with fail
   go_ret;exact⟨rfl,HF.out,hB⟩
theorem lt_of_some {w:World}{b:Nat}{o:Obj}(h:w.heap[b]?=some o):b<w.heap.size:=(gES h).1
theorem zma {lo lo':Nat}{w:World}{bo:Nat}{ms:List Mnd}{k:Nat}(h:je lo w bo ms k)(hl:lo'<=lo):je lo' w bo ms k:=⟨Nat.le_trans hl h.low,h.rows⟩
theorem zlY {ty:TypeId}{lo lo':Nat}{w:World}{bo:Nat}{ts:List Tm}{k:Nat}(h:zam ty lo w bo ts k)(hl:lo'<=lo):zam ty lo' w bo ts k:=⟨Nat.le_trans hl h.low,h.rows⟩
theorem zfK (l:Lw)(a b c:Option Addr)(ca cb cc:Nat)(w:World)(hl:jh w l a b c)(hf:l.Few) :
 Calls Tryz.prog 7 #[.agg (l.cells a b c ca cb cc)] w fun e w'=>∃lo a' b' c',e=.returned (.agg (l.cells (some ⟨a',0,none⟩) (some ⟨b',0,none⟩) (some ⟨c',0,none⟩) l.ss.length l.ms.length l.ts.length))/\w.heap.size<=lo/\zmC lo w' l a' b' c'/\Below w.heap.size w w':=by
 have HL:Hid (jh w l a b c):=hl;have HF:Hid l.Few:=hf;clear hl hf;unfold Lw.cells;go_enter Tryz.func7,Tryz.ntmps7;go_wp2_with fail
 have k0:=zpC w (.cells #[.slice a l.ss.length ca,.slice b l.ms.length cb,.slice c l.ts.length cc] 26) (.cells #[.slice none 0 0,.slice none 0 0,.slice none 0 0] 41) (.cells #[.slice none 0 0,.slice none 0 0,.slice none 0 0] 41);have hB0:=below3' w (.cells #[.slice a l.ss.length ca,.slice b l.ms.length cb,.slice c l.ts.length cc] 26) (.cells #[.slice none 0 0,.slice none 0 0,.slice none 0 0] 41) (.cells #[.slice none 0 0,.slice none 0 0,.slice none 0 0] 41);obtain⟨W0,hW0⟩:∃W0,W0=((w.alloc (.cells #[.slice a l.ss.length ca,.slice b l.ms.length cb,.slice c l.ts.length cc] 26)).alloc (.cells #[.slice none 0 0,.slice none 0 0,.slice none 0 0] 41)).alloc (.cells #[.slice none 0 0,.slice none 0 0,.slice none 0 0] 41):=⟨_,rfl⟩
 have hz0:w.heap.size+1+1<W0.heap.size:=by rw[hW0];simp
 rw[<- hW0]at k0 hB0 ⊢;clear hW0;have HLO:Hid (w.heap.size+1+1<W0.heap.size):=hz0;refine(zhB _ _ l.ss _ (HL.out.ss.mono hB0) HF.out.ss.1 HF.out.ss.2).mono ?_;rintro e w1⟨rfl,hown,hb⟩;obtain⟨a',ha'⟩:∃a',a'=W0.heap.size:=⟨_,rfl⟩
 have HO1:Hid (jU W0.heap.size w1 a' l.ss l.ss.length):=by rw[ha'];exact hown
 have hX1:=(hb.block _ (by omega)).trans k0.1;have hR1:=(hb.block _ (by omega)).trans k0.2.1;have hO1:=(hb.block _ hz0).trans k0.2.2;have HZ1:Hid (W0.heap.size<=w1.heap.size):=hb.size;have HB1:Hid (Below w.heap.size w w1):=hB0.trans (hb.mono hB0.size);rw[<- ha'];clear hown hb k0 hB0 hz0 ha';have cO1:=fun j=>cell_of_block (o:=j) hO1
 have fO1:=fun j=>zh (o:=j) hO1
 have HX1':Hid ((w1.setCell ⟨w.heap.size+1+1,0,none⟩ (.slice (some ⟨a',0,none⟩) l.ss.length l.ss.length)).heap[w.heap.size]?=some (.cells #[.slice a l.ss.length ca,.slice b l.ms.length cb,.slice c l.ts.length cc] 26)):=(zM (by omega)).trans hX1;have HR1':Hid ((w1.setCell ⟨w.heap.size+1+1,0,none⟩ (.slice (some ⟨a',0,none⟩) l.ss.length l.ss.length)).heap[w.heap.size+1]?=some (.cells #[.slice none 0 0,.slice none 0 0,.slice none 0 0] 41)):=(zM (by omega)).trans hR1;have HO1':Hid ((w1.setCell ⟨w.heap.size+1+1,0,none⟩ (.slice (some ⟨a',0,none⟩) l.ss.length l.ss.length)).heap[w.heap.size+1+1]?=some (.cells #[.slice (some ⟨a',0,none⟩) l.ss.length l.ss.length,.slice none 0 0,.slice none 0 0] 41)):=zk hO1 _;have HAB1:Hid (yP W0.heap.size w1 (w1.setCell ⟨w.heap.size+1+1,0,none⟩ (.slice (some ⟨a',0,none⟩) l.ss.length l.ss.length))):=yP.setCell HLO.out _;have HBB1:Hid (Below w.heap.size w (w1.setCell ⟨w.heap.size+1+1,0,none⟩ (.slice (some ⟨a',0,none⟩) l.ss.length l.ss.length))):=HB1.out.setCell (by show w.heap.size<=w.heap.size+1+1;omega) _;have HZZ1:Hid (W0.heap.size<=(w1.setCell ⟨w.heap.size+1+1,0,none⟩ (.slice (some ⟨a',0,none⟩) l.ss.length l.ss.length)).heap.size):=by unfold Hid;rw[World.size_setCell];exact HZ1.out
 clear hX1 hR1 hO1;have cX1:=fun j=>cell_of_block (o:=j) HX1'.out
 have cR1:=fun j=>cell_of_block (o:=j) HR1'.out
 have fR1:=fun j=>zh (o:=j) HR1'.out
 have cOO1:=fun j=>cell_of_block (o:=j) HO1'.out
 go_wp2_with fail
 refine(ziT _ _ l.ms _ (HL.out.ms.mono HBB1.out) HF.out.ms).mono ?_;rintro e w2⟨rfl,hown,hb⟩;obtain⟨b',hp'⟩:∃b',b'=(w1.setCell ⟨w.heap.size+1+1,0,none⟩ (.slice (some ⟨a',0,none⟩) l.ss.length l.ss.length)).heap.size:=⟨_,rfl⟩
 have HN2:Hid (je W0.heap.size w2 b' l.ms l.ms.length):=by rw[hp'];exact zma hown HZZ1.out
 have HAA2:Hid (yP W0.heap.size w1 w2):=HAB1.out.trans (yP.below hb);have hX2:=(hb.block _ (lt_of_some HX1'.out)).trans HX1'.out;have hR2:=(hb.block _ (lt_of_some HR1'.out)).trans HR1'.out;have hO2:=(hb.block _ (lt_of_some HO1'.out)).trans HO1'.out;have HZ2:Hid (W0.heap.size<=w2.heap.size):=Nat.le_trans HZZ1.out hb.size;have HB2:Hid (Below w.heap.size w w2):=HBB1.out.trans (hb.mono HBB1.out.size);rw[<- hp'];clear hown hb hp' cX1 cR1 fR1 cOO1;have cO2:=fun j=>cell_of_block (o:=j) hO2
 have fO2:=fun j=>zh (o:=j) hO2
 have HX2':Hid ((w2.setCell ⟨w.heap.size+1+1,1,none⟩ (.slice (some ⟨b',0,none⟩) l.ms.length l.ms.length)).heap[w.heap.size]?=some (.cells #[.slice a l.ss.length ca,.slice b l.ms.length cb,.slice c l.ts.length cc] 26)):=(zM (by omega)).trans hX2;have HR2':Hid ((w2.setCell ⟨w.heap.size+1+1,1,none⟩ (.slice (some ⟨b',0,none⟩) l.ms.length l.ms.length)).heap[w.heap.size+1]?=some (.cells #[.slice none 0 0,.slice none 0 0,.slice none 0 0] 41)):=(zM (by omega)).trans hR2;have HO2':Hid ((w2.setCell ⟨w.heap.size+1+1,1,none⟩ (.slice (some ⟨b',0,none⟩) l.ms.length l.ms.length)).heap[w.heap.size+1+1]?=some (.cells #[.slice (some ⟨a',0,none⟩) l.ss.length l.ss.length,.slice (some ⟨b',0,none⟩) l.ms.length l.ms.length,.slice none 0 0] 41)):=zk hO2 _;have HAB2:Hid (yP W0.heap.size w2 (w2.setCell ⟨w.heap.size+1+1,1,none⟩ (.slice (some ⟨b',0,none⟩) l.ms.length l.ms.length))):=yP.setCell HLO.out _;have HBB2:Hid (Below w.heap.size w (w2.setCell ⟨w.heap.size+1+1,1,none⟩ (.slice (some ⟨b',0,none⟩) l.ms.length l.ms.length))):=HB2.out.setCell (by show w.heap.size<=w.heap.size+1+1;omega) _;have HZZ2:Hid (W0.heap.size<=(w2.setCell ⟨w.heap.size+1+1,1,none⟩ (.slice (some ⟨b',0,none⟩) l.ms.length l.ms.length)).heap.size):=by unfold Hid;rw[World.size_setCell];exact HZ2.out
 clear hX2 hR2 hO2;have cX2:=fun j=>cell_of_block (o:=j) HX2'.out
 have cR2:=fun j=>cell_of_block (o:=j) HR2'.out
 have fR2:=fun j=>zh (o:=j) HR2'.out
 have cOO2:=fun j=>cell_of_block (o:=j) HO2'.out
 go_wp2_with fail
 refine(ziP _ _ l.ts _ (HL.out.ts.mono HBB2.out) HF.out.ts).mono ?_;rintro e w3⟨rfl,hown,hb⟩;obtain⟨c',hp'⟩:∃c',c'=(w2.setCell ⟨w.heap.size+1+1,1,none⟩ (.slice (some ⟨b',0,none⟩) l.ms.length l.ms.length)).heap.size:=⟨_,rfl⟩
 have HN3:Hid (zam 135 W0.heap.size w3 c' l.ts l.ts.length):=by rw[hp'];exact zlY hown HZZ2.out
 have HAA3:Hid (yP W0.heap.size w2 w3):=HAB2.out.trans (yP.below hb);have hX3:=(hb.block _ (lt_of_some HX2'.out)).trans HX2'.out;have hR3:=(hb.block _ (lt_of_some HR2'.out)).trans HR2'.out;have hO3:=(hb.block _ (lt_of_some HO2'.out)).trans HO2'.out;have HZ3:Hid (W0.heap.size<=w3.heap.size):=Nat.le_trans HZZ2.out hb.size;have HB3:Hid (Below w.heap.size w w3):=HBB2.out.trans (hb.mono HBB2.out.size);rw[<- hp'];clear hown hb hp' cX2 cR2 fR2 cOO2;have cO3:=fun j=>cell_of_block (o:=j) hO3
 have fO3:=fun j=>zh (o:=j) hO3
 have HX3':Hid ((w3.setCell ⟨w.heap.size+1+1,2,none⟩ (.slice (some ⟨c',0,none⟩) l.ts.length l.ts.length)).heap[w.heap.size]?=some (.cells #[.slice a l.ss.length ca,.slice b l.ms.length cb,.slice c l.ts.length cc] 26)):=(zM (by omega)).trans hX3;have HR3':Hid ((w3.setCell ⟨w.heap.size+1+1,2,none⟩ (.slice (some ⟨c',0,none⟩) l.ts.length l.ts.length)).heap[w.heap.size+1]?=some (.cells #[.slice none 0 0,.slice none 0 0,.slice none 0 0] 41)):=(zM (by omega)).trans hR3;have HO3':Hid ((w3.setCell ⟨w.heap.size+1+1,2,none⟩ (.slice (some ⟨c',0,none⟩) l.ts.length l.ts.length)).heap[w.heap.size+1+1]?=some (.cells #[.slice (some ⟨a',0,none⟩) l.ss.length l.ss.length,.slice (some ⟨b',0,none⟩) l.ms.length l.ms.length,.slice (some ⟨c',0,none⟩) l.ts.length l.ts.length] 41)):=zk hO3 _;have HAB3:Hid (yP W0.heap.size w3 (w3.setCell ⟨w.heap.size+1+1,2,none⟩ (.slice (some ⟨c',0,none⟩) l.ts.length l.ts.length))):=yP.setCell HLO.out _;have HBB3:Hid (Below w.heap.size w (w3.setCell ⟨w.heap.size+1+1,2,none⟩ (.slice (some ⟨c',0,none⟩) l.ts.length l.ts.length))):=HB3.out.setCell (by show w.heap.size<=w.heap.size+1+1;omega) _;have HZZ3:Hid (W0.heap.size<=(w3.setCell ⟨w.heap.size+1+1,2,none⟩ (.slice (some ⟨c',0,none⟩) l.ts.length l.ts.length)).heap.size):=by unfold Hid;rw[World.size_setCell];exact HZ3.out
 clear hX3 hR3 hO3;have cX3:=fun j=>cell_of_block (o:=j) HX3'.out
 have cR3:=fun j=>cell_of_block (o:=j) HR3'.out
 have fR3:=fun j=>zh (o:=j) HR3'.out
 have cOO3:=fun j=>cell_of_block (o:=j) HO3'.out
 go_wp2_with fail
 refine bodyPost_ret (v:=.agg #[.slice (some ⟨a',0,none⟩) l.ss.length l.ss.length,.slice (some ⟨b',0,none⟩) l.ms.length l.ms.length,.slice (some ⟨c',0,none⟩) l.ts.length l.ts.length]) (by simp[results,Tryz.results7,go_sem,cR3]) rfl ⟨W0.heap.size,a',b',c',rfl,by have:=HLO.out;omega,?_,?_⟩
 ·have hlt1:w.heap.size+1<W0.heap.size:=by have:=HLO.out;omega
  have hA3:∀v0 v1 v2,yP W0.heap.size w3 ((((w3.setCell ⟨w.heap.size+1+1,2,none⟩ (.slice (some ⟨c',0,none⟩) l.ts.length l.ts.length)).setCell ⟨w.heap.size+1,0,none⟩ v0).setCell ⟨w.heap.size+1,1,none⟩ v1).setCell ⟨w.heap.size+1,2,none⟩ v2):=fun v0 v1 v2=>HAB3.out.trans (((yP.setCell (p:=⟨w.heap.size+1,0,none⟩) hlt1 v0).trans (yP.setCell (p:=⟨w.heap.size+1,1,none⟩) hlt1 v1)).trans (yP.setCell (p:=⟨w.heap.size+1,2,none⟩) hlt1 v2))
  exact⟨HO1.out.above ((HAA2.out.trans HAA3.out).trans (hA3 _ _ _)),HN2.out.above (HAA3.out.trans (hA3 _ _ _)),HN3.out.above (hA3 _ _ _)⟩
 ·exact((HBB3.out.setCell (Nat.le_succ _) _).setCell (Nat.le_succ _) _).setCell (Nat.le_succ _) _
theorem zdu (l:Lw)(a b c:Option Addr)(ca cb cc:Nat)(w:World)(hl:jh w l a b c)(hf:l.Few) :
 Calls Tryz.prog 7 #[.agg (l.cells a b c ca cb cc)] w fun e w'=>∃a' b' c',e=.returned (.agg (l.cells a' b' c' l.ss.length l.ms.length l.ts.length))/\jh w' l a' b' c'/\Below w.heap.size w w':=by
 refine(zfK l a b c ca cb cc w hl hf).mono ?_;rintro e w'⟨lo,a',b',c',he,_,ho,hb⟩;exact⟨_,_,_,he,ho.at hl.small,hb⟩
def yN (f:Fld)(v res:ByteArray):Int:=if f.kd=1/\f.wg=res then zaF v else 0
def zet (fs:List Fld)(vs:List ByteArray)(res:ByteArray):Nat->Int
 | 0=>0
 | k+1=>zet fs vs res k+yN (fs.getD k zbO) (vs.getD k ByteArray.empty) res
def qV (ss:List Shp)(o:Ob)(res:ByteArray):Int:=
 if zy ss o=true/\res.toList.isEmpty=false then (if res=o.kd then 1 else 0)+zet (shapeOf ss o.kd).fs o.vs res (shapeOf ss o.kd).fs.length else 0
theorem zeb (s:ByteArray):0<=zaF s/\zaF s<=10000000:=by
 unfold zaF
 split
 ·rename_i h
  refine⟨zdb s h,?_⟩;unfold zao at h;simp only[Bool.and_eq_true,decide_eq_true_eq]at h
  have:=(zfs s.data.toList h.2 7 (by have:=h.1.1.2;simpa using this)).2
  unfold zgM;omega
 ·omega
theorem zgH (f:Fld)(v res:ByteArray):0<=yN f v res/\yN f v res<=10000000:=by
 unfold yN
 split
 ·exact zeb v
 ·omega
theorem zcM (fs:List Fld)(vs:List ByteArray)(res:ByteArray):∀k,0<=zet fs vs res k/\zet fs vs res k<=k*10000000
 | 0=>by simp[zet]
 | k+1=>by
  have h1:=zcM fs vs res k;have h2:=zgH (fs.getD k zbO) (vs.getD k ByteArray.empty) res;simp only[zet];omega
theorem zgE (ss:List Shp)(o:Ob)(res:ByteArray)(h:o.vs.length<=1048576):0<=qV ss o res/\qV ss o res<=20000000000000:=by
 unfold qV
 split
 ·rename_i hc
  have hc1:=hc.1;unfold zy at hc1;simp only[Bool.and_eq_true,decide_eq_true_eq]at hc1
  have:=zcM (shapeOf ss o.kd).fs o.vs res (shapeOf ss o.kd).fs.length
  have h3:=hc1.2
  split <;> omega
 ·omega
theorem zpf (fs:List Fld)(vs:List ByteArray)(res:ByteArray)(k:Nat)(h:k<fs.length)(h':k<vs.length):zet fs vs res (k+1)=zet fs vs res k+yN fs[k] vs[k] res:=by
 have e1:fs.getD k zbO=fs[k]:=by simp[List.getD,h]
 have e2:vs.getD k ByteArray.empty=vs[k]:=by simp[List.getD,h']
 simp only[zet];rw[e1,e2]
end Go.Proofs.YtnapmdofidgliaaGreat
