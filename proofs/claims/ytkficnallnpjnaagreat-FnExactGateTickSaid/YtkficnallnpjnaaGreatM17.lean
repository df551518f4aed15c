import Derived.Test.YtkficnallnpjnaaGreatM13
import Derived.Test.YtkficnallnpjnaaGreatM14
set_option maxHeartbeats 2000000
namespace Go.Proofs.YtkficnallnpjnaaGreat
open Go.RowKit
structure Pu where
 dr:ByteArray
 tm:ByteArray
 rs:ByteArray
 am:Int
 un:Int
def Pu.cells (m:Pu):Array Value:=#[.string m.dr,.string m.tm,.string m.rs,.int .i64 m.am,.int .i64 m.un]
structure Pu.Small (m:Pu):Prop where
 dr:m.dr.size<=maxLen
 tm:m.tm.size<=maxLen
 rs:m.rs.size<=maxLen
structure zcb (w:World)(a:Option Addr)(ms:List Pu):Prop where
 len:ms.length<=maxLen
 small:∀i (h:i<ms.length),ms[i].Small
 rows:ms≠[]->∃b off,a=some ⟨b,off,none⟩/\b<w.heap.size/\∀i (h:i<ms.length),∀j,j<5->w.cell? ⟨b,off+i*5+j,none⟩=ms[i].cells[j]?
theorem zcb.mono {w w':World}{a:Option Addr}{ms:List Pu}(h:zcb w a ms)(hl:Below w.heap.size w w'):zcb w' a ms:=
 ⟨h.len,h.small,fun hne=>by
  obtain⟨b,off,ha,hb,hr⟩:=h.rows hne;exact⟨b,off,ha,nLt hb hl.size,fun i hi j hj=>(hl.cell (p:=⟨b,off+i*5+j,none⟩) hb).trans (hr i hi j hj)⟩⟩
theorem zcb.load {w w':World}{a:Option Addr}{ms:List Pu}(h:zcb w a ms)(hl:Below w.heap.size w w')(i:Nat)(hi:i<ms.length):∃b off,a=some ⟨b,off,none⟩/\b<w.heap.size /\
 w'.cell? ⟨b,off+i*5,none⟩=some (.string ms[i].dr)/\w'.cell? ⟨b,off+i*5+1,none⟩=some (.string ms[i].tm)/\w'.cell? ⟨b,off+i*5+2,none⟩=some (.string ms[i].rs)/\w'.cell? ⟨b,off+i*5+3,none⟩=some (.int .i64 ms[i].am)/\w'.cell? ⟨b,off+i*5+4,none⟩=some (.int .i64 ms[i].un):=by
 obtain⟨b,off,ha,hb,hr⟩:=h.rows (by rintro rfl;simp at hi);have hc:∀j,j<5->w'.cell? ⟨b,off+i*5+j,none⟩=ms[i].cells[j]?:=fun j hj=>(hl.cell (p:=⟨b,off+i*5+j,none⟩) hb).trans (hr i hi j hj)
 exact⟨b,off,ha,hb,hc 0 (by omega),hc 1 (by omega),hc 2 (by omega),hc 3 (by omega),hc 4 (by omega)⟩
def Pu.sz (m:Pu):Nat:=m.dr.size+m.tm.size+m.rs.size
def zex (ms:List Pu):Nat:=(ms.map Pu.sz).sum
def zc4 (ms:List Pu):Nat:=ms.length+zex ms
theorem zeo (m:Pu)(left:Int)(w:World)(hm:m.Small)(h0:0<=left)(h1:left<=1048576) :
 Calls Tryz.prog 59 #[.agg m.cells,.int .i64 left] w fun e w'=>e=.returned (.int .i64 (zL m.sz left))/\Below w.heap.size w w':=by
 have k0:=hm.dr;have k1:=hm.tm;have k2:=hm.rs;unfold maxLen at k0 k1 k2;unfold Pu.cells;have hB:∀ob,Below w.heap.size w (w.alloc ob):=fun ob=>bAl _ _
 by_cases hf:(m.sz:Int)<=left
 ·have HF:Hid (zL m.sz left=left-m.dr.size-m.tm.size-m.rs.size):=by
   unfold Hid;rw[zM hf];unfold Pu.sz;omega
  unfold Pu.sz at hf;go_enter Tryz.func59,Tryz.ntmps59;go_wp2_with fail
  go_ret;exact⟨zo HF.out.symm,hB _⟩
 ·have HF:Hid (zL m.sz left=-1):=zC hf
  have HN:Hid (¬((m.dr.size+m.tm.size+m.rs.size:Nat):Int)<=left):=hf;clear hf;go_enter Tryz.func59,Tryz.ntmps59;go_wp2_with fail
  all_goals go_ret
  all_goals first|exact⟨zo HF.out.symm,hB _⟩|(exfalso;have:=HN.out;simp at *;omega)
theorem ziK (m:Pu)(left:Int)(w:World)(hm:m.Small)(h0:0<=left)(h1:left<=1048576)(h:(m.sz:Int)<=left) :
 Calls Tryz.prog 59 #[.agg m.cells,.int .i64 left] w fun e w'=>e=.returned (.int .i64 (left-m.sz))/\Below w.heap.size w w':=by
 refine(zeo m left w hm h0 h1).mono ?_;rintro e w'⟨rfl,hb⟩;exact⟨zo (zM h),hb⟩
theorem zjz (m:Pu)(left:Int)(w:World)(hm:m.Small)(h0:0<=left)(h1:left<=1048576)(h:¬(m.sz:Int)<=left) :
 Calls Tryz.prog 59 #[.agg m.cells,.int .i64 left] w fun e w'=>e=.returned (.int .i64 (-1))/\Below w.heap.size w w':=by
 refine(zeo m left w hm h0 h1).mono ?_;rintro e w'⟨rfl,hb⟩;exact⟨zo (zC h),hb⟩
theorem zhz (a:Option Addr)(cap:Nat)(ms:List Pu)(left:Int)(w:World)(hw:zcb w a ms)(h0:0<=left)(h1:left<=1048576) :
 Calls Tryz.prog 21 #[.slice a ms.length cap,.int .i64 left] w fun e w'=>e=.returned (.int .i64 (zL (zc4 ms) left))/\Below w.heap.size w w':=by
 have hl:=hw.len;unfold maxLen at hl
 by_cases hfit:(ms.length:Int)<=left
 ·go_enter Tryz.func21,Tryz.ntmps21
  go_wp2_with fail
  go_loopw [1,5] (fun l i wr=>∃k:Nat,k<=ms.length/\i=.int .i64 k/\0<=left-ms.length-zex (ms.take k)/\l=.int .i64 (left-ms.length-zex (ms.take k))/\Below w.heap.size w wr) (fun _ i _=>ms.length-(intOf i).toNat)
  case atStart=>exact⟨0,Nat.zero_le _,rfl,by simp[zex];omega,by simp[zex],bRf _ _⟩
  case round=>
   obtain⟨k,hk,rfl,hpos,rfl,hB⟩:=hrel
   by_cases hlt:k<ms.length
   ·obtain⟨b,off,rfl,hb,c0,c1,c2,c3,c4⟩:=hw.load hB k hlt
    have hsm:=hw.small k hlt;have HS:Hid (zex (ms.take (k+1))=zex (ms.take k)+ms[k].sz):=za8 Pu.sz ms k hlt;have hle:zex (ms.take (k+1))<=zex ms:=zcW Pu.sz ms (k+1);clear hw
    by_cases hneg:(ms[k].sz:Int)<=left-ms.length-zex (ms.take k)
    ·have HNG:Hid ((ms[k].sz:Int)<=left-ms.length-zex (ms.take k)):=hneg
     clear hle;go_wp2_with fail
     refine(ziK _ _ _ hsm hpos (by omega) HNG.out).mono ?_;rintro e w1⟨rfl,hb1⟩;have hB1:=hB.trans (hb1.mono hB.size);clear hb1;go_wp2_with fail
     exact⟨⟨k+1,by omega,by go_num,by rw[HS.out];omega,by rw[HS.out];congr 1;omega,hB1⟩,by simp[intOf];omega⟩
    ·have HF:Hid (zL (zc4 ms) left=-1):=zC (by have:=HS.out;unfold zc4;omega)
     have HNG:=hid hneg;clear hneg hle;go_wp2_with fail
     refine(zjz _ _ _ hsm hpos (by omega) (by have:=HNG.out;omega)).mono ?_;rintro e w1⟨rfl,hb1⟩;have hB1:=hB.trans (hb1.mono hB.size);clear hb1;go_wp2_with fail
     go_ret;exact⟨zo HF.out.symm,hB1⟩
   ·have HF:Hid (zL (zc4 ms) left=left-ms.length-zex (ms.take k)):=by
     rw[tOl (by omega)]at hpos ⊢;have e:zL (zc4 ms) left=left-zc4 ms:=zM (by unfold zc4;omega);unfold Hid;rw[e];unfold zc4;omega
    clear hw
    go_wp2
    go_ret;exact⟨zo HF.out.symm,hB⟩
 ·have HF:Hid (zL (zc4 ms) left=-1):=zC (by unfold zc4;omega)
  clear hw;go_enter Tryz.func21,Tryz.ntmps21
  go_wp2
  go_ret;exact⟨zo HF.out.symm,bRf _ _⟩
theorem ziS (m:Pu)(w:World):Calls Tryz.prog 87 #[.agg m.cells,.agg m.cells] w fun e w'=>e=.returned (.bool true)/\Below w.heap.size w w':=by
 unfold Pu.cells;have hn3:(m.am != m.am)=false:=by simp
 have hn4:(m.un != m.un)=false:=by simp
 go_enter Tryz.func87,Tryz.ntmps87;go_wp2_with fail
 go_ret;exact⟨rfl,zw _ _ _⟩
theorem zhc (a a':Option Addr)(cap cap':Nat)(ms:List Pu)(w:World)(hw:zcb w a ms)(hw':zcb w a' ms) :
 Calls Tryz.prog 38 #[.slice a ms.length cap,.slice a' ms.length cap'] w fun e w'=>e=.returned (.bool true)/\Below w.heap.size w w':=by
 have hl:=hw.len;unfold maxLen at hl;have hnn:((ms.length:Int) != ms.length)=false:=by simp
 go_enter Tryz.func38,Tryz.ntmps38;go_wp2_with fail
 go_loopw [5] (fun i wr=>∃k:Nat,k<=ms.length/\i=.int .i64 k/\Below w.heap.size w wr) (fun i _=>ms.length-(intOf i).toNat)
 case atStart=>exact⟨0,Nat.zero_le _,rfl,bRf _ _⟩
 case round=>
  obtain⟨k,hk,rfl,hB⟩:=hrel
  by_cases hlt:k<ms.length
  ·obtain⟨b,off,rfl,hb,c0,c1,c2,c3,c4⟩:=hw.load hB k hlt
   obtain⟨b',off',rfl,hb',d0,d1,d2,d3,d4⟩:=hw'.load hB k hlt;have hltI:(k:Int)<(ms.length:Int):=by omega
   clear hw hw';go_wp2_with fail
   go_region_with (go_at_call 87;refine(ziS ms[k] _).mono ?_;rintro e w1⟨rfl,hb1'⟩;have hb1:=(bRf wr.heap.size wr).drew.trans hb1';clear hb1')
   all_goals go_wp2_with fail
   all_goals exact⟨⟨k+1,by omega,by go_num,hB.trans (hb1.mono hB.size)⟩,by simp[intOf];omega⟩
  ·clear hw hw'
   go_wp2_with fail
   go_ret;exact⟨rfl,hB⟩
structure j4 (lo:Nat)(w:World)(bo:Nat)(ms:List Pu)(k:Nat):Prop where
 low:lo<=bo
 rows:∃C,w.heap[bo]?=some (.cells C 65)/\C.size=ms.length*5/\∀i (h:i<ms.length),i<k->∀j,j<5->C[i*5+j]?=ms[i].cells[j]?
theorem j4.at {lo:Nat}{w:World}{bo:Nat}{ms:List Pu}(h:j4 lo w bo ms ms.length)(hs:∀i (h:i<ms.length),ms[i].Small)(hl:ms.length<=maxLen):zcb w (some ⟨bo,0,none⟩) ms:=by
 obtain⟨C,hC,hsz,hr⟩:=h.rows;refine⟨hl,hs,fun _=>⟨bo,0,rfl,(gES hC).1,fun i hi j hj=>?_⟩⟩;rw[cell_of_block hC,Nat.zero_add];exact hr i hi hi j hj
theorem j4.later {lo:Nat}{w w':World}{bo:Nat}{ms:List Pu}{k:Nat}(h:j4 lo w bo ms k)(hb:Below w.heap.size w w'):j4 lo w' bo ms k:=by
 obtain⟨C,hC,hsz,hr⟩:=h.rows;exact⟨h.low,C,(hb.block bo (gES hC).1).trans hC,hsz,hr⟩
theorem j4.above {lo:Nat}{w w':World}{bo:Nat}{ms:List Pu}{k:Nat}(h:j4 lo w bo ms k)(ha:yM lo w w'):j4 lo w' bo ms k:=by
 obtain⟨C,hC,hr⟩:=h.rows;exact⟨h.low,C,(ha.same _ h.low (gES hC).1).trans hC,hr⟩
theorem j4.weaken {lo lo':Nat}{w:World}{bo:Nat}{ms:List Pu}{k:Nat}(h:j4 lo w bo ms k)(hl:lo'<=lo):j4 lo' w bo ms k:=⟨Nat.le_trans hl h.low,h.rows⟩
def zqd (w:World)(b o:Nat)(v0 v1 v2 v3 v4:Value):World:=(((((w.setCell ⟨b,o,none⟩ v0).setCell ⟨b,o+1,none⟩ v1).setCell ⟨b,o+2,none⟩ v2).setCell ⟨b,o+3,none⟩ v3).setCell ⟨b,o+4,none⟩ v4)
def zjj (C:Array Value)(o:Nat)(v0 v1 v2 v3 v4:Value):Array Value:=(((((C.setIfInBounds (o) v0).setIfInBounds (o+1) v1).setIfInBounds (o+2) v2).setIfInBounds (o+3) v3).setIfInBounds (o+4) v4)
theorem zmi {w:World}{b o:Nat}{C:Array Value}{t:TypeId}(h:w.heap[b]?=some (.cells C t))(v0 v1 v2 v3 v4:Value):(zqd w b o v0 v1 v2 v3 v4).heap[b]?=some (.cells (zjj C o v0 v1 v2 v3 v4) t):=
 zi (zi (zi (zi (zi h v0) v1) v2) v3) v4
theorem zmC {B:Nat}{a w:World}(h:Below B a w){b:Nat}(hb:B<=b)(o:Nat)(v0 v1 v2 v3 v4:Value):Below B a (zqd w b o v0 v1 v2 v3 v4):=
 ((((h.setCell hb v0).setCell hb v1).setCell hb v2).setCell hb v3).setCell hb v4
theorem zoP (C:Array Value)(o:Nat)(v0 v1 v2 v3 v4:Value):(zjj C o v0 v1 v2 v3 v4).size=C.size:=by simp[zjj]
theorem zpH (C:Array Value)(o i:Nat)(v0 v1 v2 v3 v4:Value)(h:i<o \/ o+5<=i):(zjj C o v0 v1 v2 v3 v4)[i]?=C[i]?:=by
 unfold zjj
 iterate 5 rw[Array.getElem?_setIfInBounds,if_neg (by omega)]
theorem zqH (C:Array Value)(o j:Nat)(v0 v1 v2 v3 v4:Value)(hj:j<5)(ho:o+5<=C.size):(zjj C o v0 v1 v2 v3 v4)[o+j]?=(#[v0,v1,v2,v3,v4]:Array Value)[j]?:=by
 have hc:j=0 \/ j=1 \/ j=2 \/ j=3 \/ j=4:=by omega
 unfold zjj
 rcases hc with h|h|h|h|h <;> subst h <;> simp[Array.getElem?_setIfInBounds] <;> omega
theorem j4.put {lo:Nat}{w:World}{bo:Nat}{ms:List Pu}{k:Nat}(h:j4 lo w bo ms k)(hk:k<ms.length) :
 j4 lo (zqd w bo (k*5) (.string ms[k].dr) (.string ms[k].tm) (.string ms[k].rs) (.int .i64 ms[k].am) (.int .i64 ms[k].un)) bo ms (k+1):=by
 obtain⟨C,hC,hsz,hr⟩:=h.rows;refine⟨h.low,_,zmi hC _ _ _ _ _,by rw[zoP];exact hsz,fun i hi hik j hj=>?_⟩
 rcases Nat.lt_or_ge i k with hlt|hge
 ·rw[zpH _ _ _ _ _ _ _ _ (by omega)]
  exact hr i hi hlt j hj
 ·have e:i=k:=by omega
  subst e;rw[zqH _ _ _ _ _ _ _ _ hj (by omega)]
  rfl
theorem zis (m:Pu)(w:World) :
 Calls Tryz.prog 75 #[.agg m.cells] w fun e w'=>e=.returned (.agg m.cells)/\Below w.heap.size w w':=by
 unfold Pu.cells;go_enter Tryz.func75,Tryz.ntmps75;go_wp2_with fail
 refine bodyPost_ret (v:=.agg #[.string m.dr,.string m.tm,.string m.rs,.int .i64 m.am,.int .i64 m.un]) (by simp[results,Tryz.results75,go_sem]) rfl ⟨rfl,?_⟩;exact(((bAl _ _).alloc (by simp) _).alloc (by simp;omega) _)
def zqE:Array Value:=#[.string ByteArray.empty,.string ByteArray.empty,.string ByteArray.empty,.int .i64 0,.int .i64 0]
def zoV (n:Nat):Array Value:=madeCells zqE (n*5)
theorem zhw (a:Option Addr)(cap:Nat)(ms:List Pu)(w:World)(hw:zcb w a ms)(hl:ms.length<=1048576) :
 Calls Tryz.prog 31 #[.slice a ms.length cap] w fun e w'=>e=.returned (.slice (some ⟨w.heap.size,0,none⟩) ms.length ms.length)/\j4 w.heap.size w' w.heap.size ms ms.length/\Below w.heap.size w w':=by
 have hmk:∀w:World,(Instr.makeSlice 38 (.int .i64 ms.length) (.int .i64 ms.length)).run Tryz.prog w=.ok (.slice (some ⟨w.heap.size,0,none⟩) ms.length ms.length) (w.alloc (.cells (zoV ms.length) 65)):=
  fun w=>jA (P:=Tryz.prog) 38 65 (.agg zqE) 5 64 Tryz.underlying38 (by kernel_rfl) ms.length (by omega) (by omega) w
 go_enter Tryz.func31,Tryz.ntmps31;go_wp2_with fail
 clear hmk
 go_loopw [4] (fun i wr=>∃k:Nat,k<=ms.length/\i=.int .i64 k/\j4 w.heap.size wr w.heap.size ms k/\Below w.heap.size w wr) (fun i _=>ms.length-(intOf i).toNat)
 case atStart=>exact⟨0,Nat.zero_le _,rfl,⟨Nat.le_refl _,zoV ms.length,(MapKept.heap_alloc w _).1,size_madeCells _ _,fun i _ h=>absurd h (by omega)⟩,bAl _ _⟩
 case round=>
  obtain⟨k,hk,rfl,hown,hB⟩:=hrel
  by_cases hlt:k<ms.length
  ·obtain⟨b,off,rfl,hb,c0,c1,c2,c3,c4⟩:=hw.load hB k hlt
   have hltI:(k:Int)<(ms.length:Int):=by omega
   clear hw;go_wp2_with fail
   refine(zis ms[k] _).mono ?_;rintro e w1⟨rfl,hb1⟩;have hB1:=hB.trans (hb1.mono hB.size);have hown1:=hown.later hb1
   have hbo:w.heap.size<wr.heap.size:=by
    obtain⟨C',hC',_⟩:=hown.rows;exact(gES hC').1
   obtain⟨C,hC,hsz,_⟩:=hown1.rows;have hfz:∀o,w1.frozen? ⟨w.heap.size,o,none⟩=false:=fun o=>zh hC
   have hex:∀o,o<ms.length*5->∃v,w1.cell? ⟨w.heap.size,o,none⟩=some v:=fun o ho=>⟨C[o]'(by omega),by rw[cell_of_block hC];exact Array.getElem?_eq_getElem (by omega)⟩
   obtain⟨v0,hv0⟩:=hex (k*5) (by omega);obtain⟨v1,hv1⟩:=hex (k*5+1) (by omega);obtain⟨v2,hv2⟩:=hex (k*5+2) (by omega);obtain⟨v3,hv3⟩:=hex (k*5+3) (by omega);obtain⟨v4,hv4⟩:=hex (k*5+4) (by omega);have HP:=hid hown1;clear hex hC hsz c0 c1 c2 c3 c4 hown hown1;unfold Pu.cells;go_wp2_with fail
   exact⟨⟨k+1,by omega,by go_num,HP.out.put hlt,zmC hB1 (Nat.le_refl _) _ _ _ _ _ _⟩,by simp[intOf];omega⟩
  ·have HF:Hid (j4 w.heap.size wr w.heap.size ms ms.length):=by
    have e:k=ms.length:=by omega
    subst e;exact hown
   clear hw hown;go_wp2_with fail
   go_ret;exact⟨rfl,HF.out,hB⟩
theorem lt_of_some {w:World}{b:Nat}{o:Obj}(h:w.heap[b]?=some o):b<w.heap.size:=(gES h).1
theorem zl0 {lo lo':Nat}{w:World}{bo:Nat}{ms:List Mnd}{k:Nat}(h:jg lo w bo ms k)(hl:lo'<=lo):jg lo' w bo ms k:=⟨Nat.le_trans hl h.low,h.rows⟩
theorem zlX {ty:TypeId}{lo lo':Nat}{w:World}{bo:Nat}{ts:List Tm}{k:Nat}(h:zaf ty lo w bo ts k)(hl:lo'<=lo):zaf ty lo' w bo ts k:=⟨Nat.le_trans hl h.low,h.rows⟩
theorem zfs (l:Lw)(a b c:Option Addr)(ca cb cc:Nat)(w:World)(hl:jr w l a b c)(hf:l.Few) :
 Calls Tryz.prog 7 #[.agg (l.cells a b c ca cb cc)] w fun e w'=>∃lo a' b' c',e=.returned (.agg (l.cells (some ⟨a',0,none⟩) (some ⟨b',0,none⟩) (some ⟨c',0,none⟩) l.ss.length l.ms.length l.ts.length))/\w.heap.size<=lo/\znm lo w' l a' b' c'/\Below w.heap.size w w':=by
 have HL:Hid (jr w l a b c):=hl;have HF:Hid l.Few:=hf;clear hl hf;unfold Lw.cells;go_enter Tryz.func7,Tryz.ntmps7;go_wp2_with fail
 have k0:=znu w (.cells #[.slice a l.ss.length ca,.slice b l.ms.length cb,.slice c l.ts.length cc] 26) (.cells #[.slice none 0 0,.slice none 0 0,.slice none 0 0] 47) (.cells #[.slice none 0 0,.slice none 0 0,.slice none 0 0] 47);have hB0:=below3' w (.cells #[.slice a l.ss.length ca,.slice b l.ms.length cb,.slice c l.ts.length cc] 26) (.cells #[.slice none 0 0,.slice none 0 0,.slice none 0 0] 47) (.cells #[.slice none 0 0,.slice none 0 0,.slice none 0 0] 47);obtain⟨W0,hW0⟩:∃W0,W0=((w.alloc (.cells #[.slice a l.ss.length ca,.slice b l.ms.length cb,.slice c l.ts.length cc] 26)).alloc (.cells #[.slice none 0 0,.slice none 0 0,.slice none 0 0] 47)).alloc (.cells #[.slice none 0 0,.slice none 0 0,.slice none 0 0] 47):=⟨_,rfl⟩
 have hz0:w.heap.size+1+1<W0.heap.size:=by rw[hW0];simp
 rw[<- hW0]at k0 hB0 ⊢;clear hW0;have HLO:Hid (w.heap.size+1+1<W0.heap.size):=hz0;refine(zha _ _ l.ss _ (HL.out.ss.mono hB0) HF.out.ss.1 HF.out.ss.2).mono ?_;rintro e w1⟨rfl,hown,hb⟩;obtain⟨a',ha'⟩:∃a',a'=W0.heap.size:=⟨_,rfl⟩
 have HO1:Hid (jN W0.heap.size w1 a' l.ss l.ss.length):=by rw[ha'];exact hown
 have hX1:=(hb.block _ (by omega)).trans k0.1;have hR1:=(hb.block _ (by omega)).trans k0.2.1;have hO1:=(hb.block _ hz0).trans k0.2.2;have HZ1:Hid (W0.heap.size<=w1.heap.size):=hb.size;have HB1:Hid (Below w.heap.size w w1):=hB0.trans (hb.mono hB0.size);rw[<- ha'];clear hown hb k0 hB0 hz0 ha';have cO1:=fun j=>cell_of_block (o:=j) hO1
 have fO1:=fun j=>zh (o:=j) hO1
 have HX1':Hid ((w1.setCell ⟨w.heap.size+1+1,0,none⟩ (.slice (some ⟨a',0,none⟩) l.ss.length l.ss.length)).heap[w.heap.size]?=some (.cells #[.slice a l.ss.length ca,.slice b l.ms.length cb,.slice c l.ts.length cc] 26)):=(zG (by omega)).trans hX1;have HR1':Hid ((w1.setCell ⟨w.heap.size+1+1,0,none⟩ (.slice (some ⟨a',0,none⟩) l.ss.length l.ss.length)).heap[w.heap.size+1]?=some (.cells #[.slice none 0 0,.slice none 0 0,.slice none 0 0] 47)):=(zG (by omega)).trans hR1;have HO1':Hid ((w1.setCell ⟨w.heap.size+1+1,0,none⟩ (.slice (some ⟨a',0,none⟩) l.ss.length l.ss.length)).heap[w.heap.size+1+1]?=some (.cells #[.slice (some ⟨a',0,none⟩) l.ss.length l.ss.length,.slice none 0 0,.slice none 0 0] 47)):=zi hO1 _;have HAB1:Hid (yM W0.heap.size w1 (w1.setCell ⟨w.heap.size+1+1,0,none⟩ (.slice (some ⟨a',0,none⟩) l.ss.length l.ss.length))):=yM.setCell HLO.out _;have HBB1:Hid (Below w.heap.size w (w1.setCell ⟨w.heap.size+1+1,0,none⟩ (.slice (some ⟨a',0,none⟩) l.ss.length l.ss.length))):=HB1.out.setCell (by show w.heap.size<=w.heap.size+1+1;omega) _;have HZZ1:Hid (W0.heap.size<=(w1.setCell ⟨w.heap.size+1+1,0,none⟩ (.slice (some ⟨a',0,none⟩) l.ss.length l.ss.length)).heap.size):=by unfold Hid;rw[World.size_setCell];exact HZ1.out
 clear hX1 hR1 hO1;have cX1:=fun j=>cell_of_block (o:=j) HX1'.out
 have cR1:=fun j=>cell_of_block (o:=j) HR1'.out
 have fR1:=fun j=>zh (o:=j) HR1'.out
 have cOO1:=fun j=>cell_of_block (o:=j) HO1'.out
 go_wp2_with fail
 refine(ziM _ _ l.ms _ (HL.out.ms.mono HBB1.out) HF.out.ms).mono ?_;rintro e w2⟨rfl,hown,hb⟩;obtain⟨b',hp'⟩:∃b',b'=(w1.setCell ⟨w.heap.size+1+1,0,none⟩ (.slice (some ⟨a',0,none⟩) l.ss.length l.ss.length)).heap.size:=⟨_,rfl⟩
 have HN2:Hid (jg W0.heap.size w2 b' l.ms l.ms.length):=by rw[hp'];exact zl0 hown HZZ1.out
 have HAA2:Hid (yM W0.heap.size w1 w2):=HAB1.out.trans (yM.below hb);have hX2:=(hb.block _ (lt_of_some HX1'.out)).trans HX1'.out;have hR2:=(hb.block _ (lt_of_some HR1'.out)).trans HR1'.out;have hO2:=(hb.block _ (lt_of_some HO1'.out)).trans HO1'.out;have HZ2:Hid (W0.heap.size<=w2.heap.size):=Nat.le_trans HZZ1.out hb.size;have HB2:Hid (Below w.heap.size w w2):=HBB1.out.trans (hb.mono HBB1.out.size);rw[<- hp'];clear hown hb hp' cX1 cR1 fR1 cOO1;have cO2:=fun j=>cell_of_block (o:=j) hO2
 have fO2:=fun j=>zh (o:=j) hO2
 have HX2':Hid ((w2.setCell ⟨w.heap.size+1+1,1,none⟩ (.slice (some ⟨b',0,none⟩) l.ms.length l.ms.length)).heap[w.heap.size]?=some (.cells #[.slice a l.ss.length ca,.slice b l.ms.length cb,.slice c l.ts.length cc] 26)):=(zG (by omega)).trans hX2;have HR2':Hid ((w2.setCell ⟨w.heap.size+1+1,1,none⟩ (.slice (some ⟨b',0,none⟩) l.ms.length l.ms.length)).heap[w.heap.size+1]?=some (.cells #[.slice none 0 0,.slice none 0 0,.slice none 0 0] 47)):=(zG (by omega)).trans hR2;have HO2':Hid ((w2.setCell ⟨w.heap.size+1+1,1,none⟩ (.slice (some ⟨b',0,none⟩) l.ms.length l.ms.length)).heap[w.heap.size+1+1]?=some (.cells #[.slice (some ⟨a',0,none⟩) l.ss.length l.ss.length,.slice (some ⟨b',0,none⟩) l.ms.length l.ms.length,.slice none 0 0] 47)):=zi hO2 _;have HAB2:Hid (yM W0.heap.size w2 (w2.setCell ⟨w.heap.size+1+1,1,none⟩ (.slice (some ⟨b',0,none⟩) l.ms.length l.ms.length))):=yM.setCell HLO.out _;have HBB2:Hid (Below w.heap.size w (w2.setCell ⟨w.heap.size+1+1,1,none⟩ (.slice (some ⟨b',0,none⟩) l.ms.length l.ms.length))):=HB2.out.setCell (by show w.heap.size<=w.heap.size+1+1;omega) _;have HZZ2:Hid (W0.heap.size<=(w2.setCell ⟨w.heap.size+1+1,1,none⟩ (.slice (some ⟨b',0,none⟩) l.ms.length l.ms.length)).heap.size):=by unfold Hid;rw[World.size_setCell];exact HZ2.out
 clear hX2 hR2 hO2;have cX2:=fun j=>cell_of_block (o:=j) HX2'.out
 have cR2:=fun j=>cell_of_block (o:=j) HR2'.out
 have fR2:=fun j=>zh (o:=j) HR2'.out
 have cOO2:=fun j=>cell_of_block (o:=j) HO2'.out
 go_wp2_with fail
 refine(ziR _ _ l.ts _ (HL.out.ts.mono HBB2.out) HF.out.ts).mono ?_;rintro e w3⟨rfl,hown,hb⟩;obtain⟨c',hp'⟩:∃c',c'=(w2.setCell ⟨w.heap.size+1+1,1,none⟩ (.slice (some ⟨b',0,none⟩) l.ms.length l.ms.length)).heap.size:=⟨_,rfl⟩
 have HN3:Hid (zaf 132 W0.heap.size w3 c' l.ts l.ts.length):=by rw[hp'];exact zlX hown HZZ2.out
 have HAA3:Hid (yM W0.heap.size w2 w3):=HAB2.out.trans (yM.below hb);have hX3:=(hb.block _ (lt_of_some HX2'.out)).trans HX2'.out;have hR3:=(hb.block _ (lt_of_some HR2'.out)).trans HR2'.out;have hO3:=(hb.block _ (lt_of_some HO2'.out)).trans HO2'.out;have HZ3:Hid (W0.heap.size<=w3.heap.size):=Nat.le_trans HZZ2.out hb.size;have HB3:Hid (Below w.heap.size w w3):=HBB2.out.trans (hb.mono HBB2.out.size);rw[<- hp'];clear hown hb hp' cX2 cR2 fR2 cOO2;have cO3:=fun j=>cell_of_block (o:=j) hO3
 have fO3:=fun j=>zh (o:=j) hO3
 have HX3':Hid ((w3.setCell ⟨w.heap.size+1+1,2,none⟩ (.slice (some ⟨c',0,none⟩) l.ts.length l.ts.length)).heap[w.heap.size]?=some (.cells #[.slice a l.ss.length ca,.slice b l.ms.length cb,.slice c l.ts.length cc] 26)):=(zG (by omega)).trans hX3;have HR3':Hid ((w3.setCell ⟨w.heap.size+1+1,2,none⟩ (.slice (some ⟨c',0,none⟩) l.ts.length l.ts.length)).heap[w.heap.size+1]?=some (.cells #[.slice none 0 0,.slice none 0 0,.slice none 0 0] 47)):=(zG (by omega)).trans hR3;have HO3':Hid ((w3.setCell ⟨w.heap.size+1+1,2,none⟩ (.slice (some ⟨c',0,none⟩) l.ts.length l.ts.length)).heap[w.heap.size+1+1]?=some (.cells #[.slice (some ⟨a',0,none⟩) l.ss.length l.ss.length,.slice (some ⟨b',0,none⟩) l.ms.length l.ms.length,.slice (some ⟨c',0,none⟩) l.ts.length l.ts.length] 47)):=zi hO3 _;have HAB3:Hid (yM W0.heap.size w3 (w3.setCell ⟨w.heap.size+1+1,2,none⟩ (.slice (some ⟨c',0,none⟩) l.ts.length l.ts.length))):=yM.setCell HLO.out _;have HBB3:Hid (Below w.heap.size w (w3.setCell ⟨w.heap.size+1+1,2,none⟩ (.slice (some ⟨c',0,none⟩) l.ts.length l.ts.length))):=HB3.out.setCell (by show w.heap.size<=w.heap.size+1+1;omega) _;have HZZ3:Hid (W0.heap.size<=(w3.setCell ⟨w.heap.size+1+1,2,none⟩ (.slice (some ⟨c',0,none⟩) l.ts.length l.ts.length)).heap.size):=by unfold Hid;rw[World.size_setCell];exact HZ3.out
 clear hX3 hR3 hO3;have cX3:=fun j=>cell_of_block (o:=j) HX3'.out
 have cR3:=fun j=>cell_of_block (o:=j) HR3'.out
 have fR3:=fun j=>zh (o:=j) HR3'.out
 have cOO3:=fun j=>cell_of_block (o:=j) HO3'.out
 go_wp2_with fail
 refine bodyPost_ret (v:=.agg #[.slice (some ⟨a',0,none⟩) l.ss.length l.ss.length,.slice (some ⟨b',0,none⟩) l.ms.length l.ms.length,.slice (some ⟨c',0,none⟩) l.ts.length l.ts.length]) (by simp[results,Tryz.results7,go_sem,cR3]) rfl ⟨W0.heap.size,a',b',c',rfl,by have:=HLO.out;omega,?_,?_⟩
 ·have hlt1:w.heap.size+1<W0.heap.size:=by have:=HLO.out;omega
  have hA3:∀v0 v1 v2,yM W0.heap.size w3 ((((w3.setCell ⟨w.heap.size+1+1,2,none⟩ (.slice (some ⟨c',0,none⟩) l.ts.length l.ts.length)).setCell ⟨w.heap.size+1,0,none⟩ v0).setCell ⟨w.heap.size+1,1,none⟩ v1).setCell ⟨w.heap.size+1,2,none⟩ v2):=fun v0 v1 v2=>HAB3.out.trans (((yM.setCell (p:=⟨w.heap.size+1,0,none⟩) hlt1 v0).trans (yM.setCell (p:=⟨w.heap.size+1,1,none⟩) hlt1 v1)).trans (yM.setCell (p:=⟨w.heap.size+1,2,none⟩) hlt1 v2))
  exact⟨HO1.out.above ((HAA2.out.trans HAA3.out).trans (hA3 _ _ _)),HN2.out.above (HAA3.out.trans (hA3 _ _ _)),HN3.out.above (hA3 _ _ _)⟩
 ·exact((HBB3.out.setCell (Nat.le_succ _) _).setCell (Nat.le_succ _) _).setCell (Nat.le_succ _) _
theorem zdk (l:Lw)(a b c:Option Addr)(ca cb cc:Nat)(w:World)(hl:jr w l a b c)(hf:l.Few) :
 Calls Tryz.prog 7 #[.agg (l.cells a b c ca cb cc)] w fun e w'=>∃a' b' c',e=.returned (.agg (l.cells a' b' c' l.ss.length l.ms.length l.ts.length))/\jr w' l a' b' c'/\Below w.heap.size w w':=by
 refine(zfs l a b c ca cb cc w hl hf).mono ?_;rintro e w'⟨lo,a',b',c',he,_,ho,hb⟩;exact⟨_,_,_,he,ho.at hl.small,hb⟩
theorem zdW (nm:ByteArray)(ls ms:Int)(a:Option Addr)(n cap:Nat)(to:ByteArray)(rl:Int)(mu fx:Bool)(df wg:ByteArray)(w:World) :
 Calls Tryz.prog 210 #[.agg #[.string nm,.int .i64 1,.int .i64 ls,.int .i64 ms,.slice a n cap,.string to,.int .i64 rl,.bool mu,.bool fx,.string df,.string wg]] w fun e w'=>e=.returned (.bool (yL 1 ls ms n to rl wg))/\Below w.heap.size w w':=by
 go_enter Tryz.func210,Tryz.ntmps210
 go_wp2
 all_goals
  go_ret;refine⟨ze ?_,bAl _ _⟩
  simp_all [yL]
  try first|omega|(intros;omega)|(rw[Bool.eq_iff_iff];simp)
theorem zbQ (nm:ByteArray)(ls ms:Int)(a:Option Addr)(n cap:Nat)(to:ByteArray)(rl:Int)(mu fx:Bool)(df wg:ByteArray)(w:World) :
 Calls Tryz.prog 210 #[.agg #[.string nm,.int .i64 2,.int .i64 ls,.int .i64 ms,.slice a n cap,.string to,.int .i64 rl,.bool mu,.bool fx,.string df,.string wg]] w fun e w'=>e=.returned (.bool (yL 2 ls ms n to rl wg))/\Below w.heap.size w w':=by
 go_enter Tryz.func210,Tryz.ntmps210
 go_wp2
 all_goals
  go_ret;refine⟨ze ?_,bAl _ _⟩
  simp_all [yL]
  try first|omega|(intros;omega)|(rw[Bool.eq_iff_iff];simp)
theorem zee (nm:ByteArray)(ls ms:Int)(a:Option Addr)(n cap:Nat)(to:ByteArray)(rl:Int)(mu fx:Bool)(df wg:ByteArray)(w:World) :
 Calls Tryz.prog 210 #[.agg #[.string nm,.int .i64 3,.int .i64 ls,.int .i64 ms,.slice a n cap,.string to,.int .i64 rl,.bool mu,.bool fx,.string df,.string wg]] w fun e w'=>e=.returned (.bool (yL 3 ls ms n to rl wg))/\Below w.heap.size w w':=by
 go_enter Tryz.func210,Tryz.ntmps210
 go_wp2
 all_goals
  go_ret;refine⟨ze ?_,bAl _ _⟩
  simp_all [yL]
  try first|omega|(intros;omega)|(rw[Bool.eq_iff_iff];simp)
theorem zaK (nm:ByteArray)(ls ms:Int)(a:Option Addr)(n cap:Nat)(to:ByteArray)(rl:Int)(mu fx:Bool)(df wg:ByteArray)(w:World) :
 Calls Tryz.prog 210 #[.agg #[.string nm,.int .i64 4,.int .i64 ls,.int .i64 ms,.slice a n cap,.string to,.int .i64 rl,.bool mu,.bool fx,.string df,.string wg]] w fun e w'=>e=.returned (.bool (yL 4 ls ms n to rl wg))/\Below w.heap.size w w':=by
 go_enter Tryz.func210,Tryz.ntmps210
 go_wp2
 all_goals
  go_ret;refine⟨ze ?_,bAl _ _⟩
  simp_all [yL]
  try first|omega|(intros;omega)|(rw[Bool.eq_iff_iff];simp)
theorem zjh (nm:ByteArray)(kd ls ms:Int)(a:Option Addr)(n cap:Nat)(to:ByteArray)(rl:Int)(mu fx:Bool)(df wg:ByteArray)(w:World)(h1:kd≠1)(h2:kd≠2)(h3:kd≠3)(h4:kd≠4) :
 Calls Tryz.prog 210 #[.agg #[.string nm,.int .i64 kd,.int .i64 ls,.int .i64 ms,.slice a n cap,.string to,.int .i64 rl,.bool mu,.bool fx,.string df,.string wg]] w fun e w'=>∃b,e=.returned (.bool b)/\Below w.heap.size w w':=by
 have e1:(kd == 1)=false:=by simpa using h1
 have e2:(kd == 2)=false:=by simpa using h2
 have e3:(kd == 3)=false:=by simpa using h3
 have e4:(kd == 4)=false:=by simpa using h4
 have n1:(kd != 1)=true:=by simpa using h1
 have n2:(kd != 2)=true:=by simpa using h2
 clear h1 h2 h3 h4;go_enter Tryz.func210,Tryz.ntmps210
 go_wp2
 all_goals
  go_ret;exact⟨_,rfl,bAl _ _⟩
def yK (f:Fld)(v res:ByteArray):Int:=if f.kd=1/\f.wg=res then zay v else 0
def zd6 (fs:List Fld)(vs:List ByteArray)(res:ByteArray):Nat->Int
 | 0=>0
 | k+1=>zd6 fs vs res k+yK (fs.getD k zbs) (vs.getD k ByteArray.empty) res
def qQ (ss:List Shp)(o:Ob)(res:ByteArray):Int:=
 if zB ss o=true/\res.toList.isEmpty=false then (if res=o.kd then 1 else 0)+zd6 (shapeOf ss o.kd).fs o.vs res (shapeOf ss o.kd).fs.length else 0
theorem zdU (s:ByteArray):0<=zay s/\zay s<=10000000:=by
 unfold zay
 split
 ·rename_i h
  refine⟨zdd s h,?_⟩;unfold zak at h;simp only[Bool.and_eq_true,decide_eq_true_eq]at h
  have:=(zfh s.data.toList h.2 7 (by have:=h.1.1.2;simpa using this)).2
  unfold zgN;omega
 ·omega
theorem zgR (f:Fld)(v res:ByteArray):0<=yK f v res/\yK f v res<=10000000:=by
 unfold yK
 split
 ·exact zdU v
 ·omega
theorem zcI (fs:List Fld)(vs:List ByteArray)(res:ByteArray):∀k,0<=zd6 fs vs res k/\zd6 fs vs res k<=k*10000000
 | 0=>by simp[zd6]
 | k+1=>by
  have h1:=zcI fs vs res k;have h2:=zgR (fs.getD k zbs) (vs.getD k ByteArray.empty) res;simp only[zd6];omega
theorem zgv (ss:List Shp)(o:Ob)(res:ByteArray)(h:o.vs.length<=1048576):0<=qQ ss o res/\qQ ss o res<=20000000000000:=by
 unfold qQ
 split
 ·rename_i hc
  have hc1:=hc.1;unfold zB at hc1;simp only[Bool.and_eq_true,decide_eq_true_eq]at hc1
  have:=zcI (shapeOf ss o.kd).fs o.vs res (shapeOf ss o.kd).fs.length
  have h3:=hc1.2
  split <;> omega
 ·omega
theorem zo9 (fs:List Fld)(vs:List ByteArray)(res:ByteArray)(k:Nat)(h:k<fs.length)(h':k<vs.length):zd6 fs vs res (k+1)=zd6 fs vs res k+yK fs[k] vs[k] res:=by
 have e1:fs.getD k zbs=fs[k]:=by simp[List.getD,h]
 have e2:vs.getD k ByteArray.empty=vs[k]:=by simp[List.getD,h']
 simp only[zd6];rw[e1,e2]
theorem zd3 (a:Option Addr)(cap:Nat)(ts:List Tm)(v:ByteArray)(w:World)(hw:jO w a ts) :
 Calls Tryz.prog 103 #[.slice a ts.length cap,.string v] w fun e w'=>e=.returned (.bool (yB ts v))/\w'=w:=by
 have hl:=hw.len;unfold maxLen at hl;go_enter Tryz.func103,Tryz.ntmps103;go_wp2_with fail
 go_loop [5] (fun i=>∃k:Nat,k<=ts.length/\i=.int .i64 k/\yB (ts.take k) v=false) (fun i=>ts.length-(intOf i).toNat)
 case atStart=>exact⟨0,Nat.zero_le _,rfl,rfl⟩
 case round=>
  obtain⟨k,hk,rfl,hall⟩:=hrel
  by_cases hlt:k<ts.length
  ·obtain⟨b,off,rfl,hb,c0,c1⟩:=hw.load (bRf _ _) k hlt
   clear hw;have HS:Hid (yB (ts.take (k+1)) v=(false||decide (ts[k].nm=v))):=by rw[zdS ts v k hlt,hall];rfl
   have hltI:(k:Int)<(ts.length:Int):=by omega
   by_cases he:ts[k].nm=v
   ·have hbe:(ts[k].nm.toList == v.toList)=true:=by rw[beq_toList];simpa using he
    have HR:=hid (znO ts v k hlt he);clear he hall;go_wp2_with fail
    go_ret;exact⟨ze HR.out.symm,rfl⟩
   ·have hbe:(ts[k].nm.toList == v.toList)=false:=by rw[beq_toList];simpa using he
    have HE:=hid he;clear he hall;go_wp2_with fail
    go_round
    case rel=>exact⟨k+1,by omega,by go_num,by rw[HS.out,decide_eq_false HE.out];rfl⟩
    case measure=>simp[intOf];omega
  ·have HR:Hid (yB ts v=false):=by rw[<- zeZ ts v k (by omega)];exact hall
   clear hall hw;go_wp2_with fail
   go_ret;exact⟨ze HR.out.symm,rfl⟩
theorem zgG (ts:List Tm)(m:Nat)(z:ByteArray)(h:z.size=0):jQ ts m z=z:=by
 cases m with
 | zero=>rfl
 | succ m=>unfold jQ;rw[if_pos h]
theorem zhX (ts:List Tm)(m:Nat)(z:ByteArray)(h:¬z.size=0):jQ ts (m+1) z=jQ ts m (over ts z):=by
 rw[jQ,if_neg h]
theorem ziV (a:Option Addr)(cap:Nat)(ts:List Tm)(w:World)(hw:jO w a ts) :
 Calls Tryz.prog 101 #[.slice a ts.length cap] w fun e w'=>e=.returned (.bool (zaH ts))/\Below w.heap.size w w':=by
 have hl:=hw.len;unfold maxLen at hl
 by_cases h12:ts.length<=12
 rotate_left
 ·have HF:Hid (zaH ts=false):=by simp[Hid,zaH,h12]
  clear hw;go_enter Tryz.func101,Tryz.ntmps101;go_wp2_with fail
  go_ret;exact⟨ze HF.out.symm,bRf _ _⟩
 have HG:Hid (zaH ts=up (zb5 ts) ts.length):=by simp[Hid,zaH,h12]
 have h12I:(ts.length:Int)<=12:=by omega
 have HW0:=hid hw;clear hw;go_enter Tryz.func101,Tryz.ntmps101;go_wp2_with fail
 go_loopw [3] (fun i wr=>∃k:Nat,k<=ts.length/\i=.int .i64 k/\up (zb5 ts) k=true/\Below w.heap.size w wr) (fun i _=>ts.length-(intOf i).toNat)
 case atStart=>exact⟨0,Nat.zero_le _,rfl,rfl,bRf _ _⟩
 case round=>
  obtain⟨k,hk,rfl,hup,hB⟩:=hrel;obtain⟨W0,rfl⟩:∃W0,W0=wr:=⟨wr,rfl⟩
  have hsz:=hB.size
  by_cases hlt:k<ts.length
  ·obtain⟨b,off,rfl,hb,c0,c1⟩:=HW0.out.load hB k hlt
   have hbr:b<W0.heap.size:=by omega
   have hsm:=HW0.out.small k hlt;have hsn:=hsm.nm;have HS:Hid (qB ts k=true->zdG ts k=true->up (zb5 ts) (k+1)=true):=fun h h'=>by rw[qZ,hup,zb5,h,h'];rfl
   have HN:Hid (qB ts k=false->zaH ts=false):=fun h=>by rw[HG.out];exact zaG hlt (by rw[zb5,h];rfl)
   have HD:Hid (zdG ts k=false->zaH ts=false):=fun h=>by rw[HG.out];exact zaG hlt (by rw[zb5,h,Bool.and_false])
   have HDS:Hid (zdG ts k=decide ((jQ ts 5 ts[k].nm).size=0)):=by unfold Hid zdG;rw[getD_at ts k _ hlt]
   have hltI:(k:Int)<(ts.length:Int):=by omega
   have HB:=hid hB;have HBx:Hid (∀(ob:Obj) (n:Nat),Below W0.heap.size W0 ((W0.alloc ob).drewN n)):=fun ob n=>below_drewN (bAl _ _) _
   have HWr:Hid (∀(ob:Obj) (n:Nat),jO ((W0.alloc ob).drewN n) (some ⟨b,off,none⟩) ts):=fun ob n=>(HW0.out.mono hB).mono (below_drewN (bAl _ _) _)
   clear hup hsm hB
   by_cases hn:zA ts[k].nm=true
   rotate_left
   ·have HNm:Hid (zA ts[k].nm=false):=by simpa[Hid] using hn
    have HF:Hid (qB ts k=false):=by unfold Hid;rw[zcD ts k hlt _ rfl,HNm.out];rfl
    clear hn;go_wp2_with fail
    go_quiet ((go_at_call 109;exact Calls.quiet_of_same (zf HNm.out (zk _ _ hsn))))
    go_wp2_with fail
    go_ret;exact⟨ze (HN.out HF.out).symm,HB.out.trans ((HBx.out _ _).mono hsz)⟩
   have HNm:Hid (zA ts[k].nm=true):=hn;clear hn
   by_cases hbad:0<k/\less (ts.getD (k-1) zbd).nm ts[k].nm=false
   ·obtain⟨hkpos,hls⟩:=hbad
    have HF:Hid (qB ts k=false):=by
     unfold Hid;rw[zcD ts k hlt false (by rw[hls,decide_eq_false (show ¬k=0 by omega)];rfl)];simp
    obtain⟨m,rfl⟩:∃m,k=m+1:=⟨k-1,by omega⟩
    rw[Nat.add_sub_cancel,getD_at ts m _ (by omega)]at hls;obtain⟨b',off',e',hb',d0,d1⟩:=HW0.out.load HB.out m (by omega);simp only[Option.some.injEq,Addr.mk.injEq]at e';obtain⟨rfl,rfl,_⟩:=e';have hls':Op.bytesLess ts[m].nm.toList ts[m+1].nm.toList=false:=hls;have hmI:(m:Int)<12:=by omega
    have hm0:(0:Int)<=(m:Int):=by omega
    have hml:(m:Int)<(ts.length:Int):=by omega
    have hmw:IntKind.i64.wrap (m:Int)=m:=by rw[IntKind.wrap_i64];omega
    clear hls;go_wp2_with fail
    go_quiet ((go_at_call 109;exact Calls.quiet_of_same (zf HNm.out (zk _ _ hsn))))
    go_wp2_with fail
    go_ret;exact⟨ze (HN.out HF.out).symm,HB.out.trans ((HBx.out _ _).mono hsz)⟩
   have hgd:(decide (k=0)||less (ts.getD (k-1) zbd).nm ts[k].nm)=true:=by
    by_cases hk0:k=0
    ·simp[hk0]
    ·cases hq:less (ts.getD (k-1) zbd).nm ts[k].nm
     ·exact absurd ⟨by omega,hq⟩ hbad
     ·simp
   have HA:Hid (qB ts k=(ts[k].ov.toList.isEmpty||yB ts ts[k].ov)):=by
    unfold Hid;rw[zcD ts k hlt true hgd,HNm.out];rfl
   have hgood:(decide (0<k)=false) \/ (decide (0<k)=true/\(0:Int)<=(k:Int)-1/\(k:Int)-1<(ts.length:Int)/\∃h:k-1<ts.length,Op.bytesLess ts[k-1].nm.toList ts[k].nm.toList=true/\W0.cell? ⟨b,off+(k-1)*2,none⟩=some (.string ts[k-1].nm)):=by
    by_cases hk0:k=0
    ·exact Or.inl (by simp;omega)
    ·refine Or.inr ⟨by simp;omega,by omega,by omega,by omega,?_,?_⟩
     ·rw[decide_eq_false hk0,getD_at ts (k-1) _ (by omega)]at hgd
      exact hgd
     ·obtain⟨b',off',e',hb',d0,d1⟩:=HW0.out.load HB.out (k-1) (by omega)
      simp only[Option.some.injEq,Addr.mk.injEq]at e';obtain⟨rfl,rfl,_⟩:=e';exact d0
   clear hbad hgd
   by_cases hov:ts[k].ov.toList.isEmpty=true
   ·have HT:Hid (qB ts k=true):=by unfold Hid;rw[HA.out,hov];rfl
    rcases hgood with hg|⟨hg,hk1,hk2,hkm,hls',d0⟩
    focus
     go_wp2_with fail
    rotate_left
    focus
     go_wp2_with fail
    all_goals
     go_quiet ((go_at_call 109;exact Calls.quiet_of_same (zf HNm.out (zk _ _ hsn))))
     go_wp2_with fail
     obtain⟨W1,hW1⟩:∃W1,W1=(W0.alloc (.cells #[.string ts[k].nm,.string ts[k].ov] 132)).drewN nq:=⟨_,rfl⟩
     have HB1:Hid (Below w.heap.size w W1):=by unfold Hid;rw[hW1];exact HB.out.trans ((HBx.out _ _).mono hsz)
     have HW1:=hid (HW0.out.mono HB1.out);rw[<- hW1];clear hW1
     go_loopw [5,6] (fun p i wi=>∃(n:Nat) (z:ByteArray),n<=5/\p=.string z/\i=.int .i64 n/\jQ ts 5 ts[k].nm=jQ ts (5-n) z/\wi=W1) (fun _ i _=>5-(intOf i).toNat)
     case atStart=>exact⟨0,ts[k].nm,Nat.zero_le _,rfl,rfl,rfl,rfl⟩
     case round=>
      obtain⟨n,z,hn5,rfl,rfl,hz,rfl⟩:=hrel
      by_cases hn:n<5
      ·have hnI:(n:Int)<=4:=by omega
       by_cases hz0:z.size=0
       ·have hze:z.toList.isEmpty=true:=by rw[zx];simpa using hz0
        have HDT:Hid (zdG ts (k)=true):=by unfold Hid;rw[HDS.out,hz,zgG ts _ z hz0];simpa using hz0
        clear hz hz0;go_wp2_with fail
        exact⟨⟨k+1,by omega,by go_num,HS.out HT.out HDT.out,HB1.out⟩,by simp[intOf];omega⟩
       ·have hze:z.toList.isEmpty=false:=by rw[zx];simpa using hz0
        have HZ:Hid (jQ ts 5 ts[k].nm=jQ ts (5-(n+1)) (over ts z)):=by
         obtain⟨q,hq⟩:∃q,5-n=q+1:=⟨4-n,by omega⟩
         rw[Hid,hz,hq,zhX ts q z hz0,show 5-(n+1)=q by omega]
        clear hz hz0
        go_wp2_with (go_at_call 137;refine(zcL _ _ ts _ _ HW1.out).mono ?_;rintro e w'⟨rfl,rfl⟩)
        exact⟨⟨n+1,over ts z,by omega,rfl,by go_num,HZ.out,trivial⟩,by simp[intOf];omega⟩
      ·have e5:5-n=0:=by omega
       rw[e5]at hz;have hnI:¬(n:Int)<=4:=by omega
       by_cases hz0:z.size=0
       ·have hze:z.toList.isEmpty=true:=by rw[zx];simpa using hz0
        have HDT:Hid (zdG ts (k)=true):=by unfold Hid;rw[HDS.out,hz];simpa[jQ] using hz0
        clear hz hz0;go_wp2_with fail
        exact⟨⟨k+1,by omega,by go_num,HS.out HT.out HDT.out,HB1.out⟩,by simp[intOf];omega⟩
       ·have hze:z.toList.isEmpty=false:=by rw[zx];simpa using hz0
        have HDT:Hid (zdG ts (k)=false):=by unfold Hid;rw[HDS.out,hz];simpa[jQ] using hz0
        clear hz hz0;go_wp2_with fail
        go_ret;exact⟨ze (HD.out HDT.out).symm,HB1.out⟩
   ·have hov':ts[k].ov.toList.isEmpty=false:=by simpa using hov
    clear hov
    by_cases hit:yB ts ts[k].ov=true
    ·have HI:=hid hit
     have HT:Hid (qB ts k=true):=by unfold Hid;rw[HA.out,hit];simp
     clear hit
     rcases hgood with hg|⟨hg,hk1,hk2,hkm,hls',d0⟩
     focus
      go_wp2_with fail
     rotate_left
     focus
      go_wp2_with fail
     all_goals
      go_quiet (first|(go_at_call 109;exact Calls.quiet_of_same (zf HNm.out (zk _ _ hsn)))|(go_at_call 103;exact Calls.quiet_of_same (zf HI.out (zd3 _ _ ts _ _ (by exact HWr.out _ _)))))
      go_wp2_with fail
      obtain⟨W1,hW1⟩:∃W1,W1=(W0.alloc (.cells #[.string ts[k].nm,.string ts[k].ov] 132)).drewN nq:=⟨_,rfl⟩
      have HB1:Hid (Below w.heap.size w W1):=by unfold Hid;rw[hW1];exact HB.out.trans ((HBx.out _ _).mono hsz)
      have HW1:=hid (HW0.out.mono HB1.out);rw[<- hW1];clear hW1
      go_loopw [5,6] (fun p i wi=>∃(n:Nat) (z:ByteArray),n<=5/\p=.string z/\i=.int .i64 n/\jQ ts 5 ts[k].nm=jQ ts (5-n) z/\wi=W1) (fun _ i _=>5-(intOf i).toNat)
      case atStart=>exact⟨0,ts[k].nm,Nat.zero_le _,rfl,rfl,rfl,rfl⟩
      case round=>
       obtain⟨n,z,hn5,rfl,rfl,hz,rfl⟩:=hrel
       by_cases hn:n<5
       ·have hnI:(n:Int)<=4:=by omega
        by_cases hz0:z.size=0
        ·have hze:z.toList.isEmpty=true:=by rw[zx];simpa using hz0
         have HDT:Hid (zdG ts (k)=true):=by unfold Hid;rw[HDS.out,hz,zgG ts _ z hz0];simpa using hz0
         clear hz hz0;go_wp2_with fail
         exact⟨⟨k+1,by omega,by go_num,HS.out HT.out HDT.out,HB1.out⟩,by simp[intOf];omega⟩
        ·have hze:z.toList.isEmpty=false:=by rw[zx];simpa using hz0
         have HZ:Hid (jQ ts 5 ts[k].nm=jQ ts (5-(n+1)) (over ts z)):=by
          obtain⟨q,hq⟩:∃q,5-n=q+1:=⟨4-n,by omega⟩
          rw[Hid,hz,hq,zhX ts q z hz0,show 5-(n+1)=q by omega]
         clear hz hz0
         go_wp2_with (go_at_call 137;refine(zcL _ _ ts _ _ HW1.out).mono ?_;rintro e w'⟨rfl,rfl⟩)
         exact⟨⟨n+1,over ts z,by omega,rfl,by go_num,HZ.out,trivial⟩,by simp[intOf];omega⟩
       ·have e5:5-n=0:=by omega
        rw[e5]at hz;have hnI:¬(n:Int)<=4:=by omega
        by_cases hz0:z.size=0
        ·have hze:z.toList.isEmpty=true:=by rw[zx];simpa using hz0
         have HDT:Hid (zdG ts (k)=true):=by unfold Hid;rw[HDS.out,hz];simpa[jQ] using hz0
         clear hz hz0;go_wp2_with fail
         exact⟨⟨k+1,by omega,by go_num,HS.out HT.out HDT.out,HB1.out⟩,by simp[intOf];omega⟩
        ·have hze:z.toList.isEmpty=false:=by rw[zx];simpa using hz0
         have HDT:Hid (zdG ts (k)=false):=by unfold Hid;rw[HDS.out,hz];simpa[jQ] using hz0
         clear hz hz0;go_wp2_with fail
         go_ret;exact⟨ze (HD.out HDT.out).symm,HB1.out⟩
    ·have HI:Hid (yB ts ts[k].ov=false):=by simpa[Hid] using hit
     have HF:Hid (qB ts k=false):=by unfold Hid;rw[HA.out,HI.out,hov'];rfl
     clear hit
     rcases hgood with hg|⟨hg,hk1,hk2,hkm,hls',d0⟩
     focus
      go_wp2_with fail
     rotate_left
     focus
      go_wp2_with fail
     all_goals
      go_quiet (first|(go_at_call 109;exact Calls.quiet_of_same (zf HNm.out (zk _ _ hsn)))|(go_at_call 103;exact Calls.quiet_of_same (zf HI.out (zd3 _ _ ts _ _ (by exact HWr.out _ _)))))
      go_wp2_with fail
      go_ret;exact⟨ze (HN.out HF.out).symm,HB.out.trans ((HBx.out _ _).mono hsz)⟩
  ·have HF:Hid (zaH ts=true):=by
    have e:k=ts.length:=by omega
    subst e;rw[Hid,HG.out,hup]
   clear hup;go_wp2_with fail
   go_ret;exact⟨ze HF.out.symm,hB⟩
end Go.Proofs.YtkficnallnpjnaaGreat
