import Derived.Test.YtghnakljnhnenaaGreatM06
set_option maxHeartbeats 2000000
namespace Go.Proofs.YtghnakljnhnenaaGreat
open Go.RowKit
structure Lg where
 tm:ByteArray
 rs:ByteArray
 mo:Int
 fr:Int
def Lg.cells (m:Lg):Array Value:=#[.string m.tm,.string m.rs,.int .i64 m.mo,.int .i64 m.fr]
structure Lg.Small (m:Lg):Prop where
 tm:m.tm.size<=maxLen
 rs:m.rs.size<=maxLen
structure zb8 (w:World) (a:Option Addr) (ms:List Lg):Prop where
 len:ms.length<=maxLen
 small:∀ i (h:i < ms.length),ms[i].Small
 rows:ms ≠ []->∃ b off,a=some ⟨b,off,none⟩/\b < w.heap.size/\∀ i (h:i < ms.length),∀ j,j < 4->w.cell? ⟨b,off+i * 4+j,none⟩=ms[i].cells[j]?
theorem zb8.mono {w w':World} {a:Option Addr} {ms:List Lg} (h:zb8 w a ms) (hl:Below w.heap.size w w'):zb8 w' a ms :=
 ⟨h.len,h.small,fun hne=>by
  obtain ⟨b,off,ha,hb,hr⟩:=h.rows hne;exact ⟨b,off,ha,nLt hb hl.size,fun i hi j hj=>(hl.cell (p:=⟨b,off+i * 4+j,none⟩) hb).trans (hr i hi j hj)⟩⟩
theorem zb8.load {w w':World} {a:Option Addr} {ms:List Lg} (h:zb8 w a ms) (hl:Below w.heap.size w w') (i:Nat) (hi:i < ms.length):∃ b off,a=some ⟨b,off,none⟩/\b < w.heap.size /\
 w'.cell? ⟨b,off+i * 4,none⟩=some (.string ms[i].tm)/\w'.cell? ⟨b,off+i * 4+1,none⟩=some (.string ms[i].rs)/\w'.cell? ⟨b,off+i * 4+2,none⟩=some (.int .i64 ms[i].mo)/\w'.cell? ⟨b,off+i * 4+3,none⟩=some (.int .i64 ms[i].fr):=by
 obtain ⟨b,off,ha,hb,hr⟩:=h.rows (by rintro rfl;simp at hi);have hc:∀ j,j < 4->w'.cell? ⟨b,off+i * 4+j,none⟩=ms[i].cells[j]?:=fun j hj=>(hl.cell (p:=⟨b,off+i * 4+j,none⟩) hb).trans (hr i hi j hj)
 exact ⟨b,off,ha,hb,hc 0 (by omega),hc 1 (by omega),hc 2 (by omega),hc 3 (by omega)⟩
def Lg.sz (m:Lg):Nat:=m.tm.size+m.rs.size
def zdx (ms:List Lg):Nat:=(ms.map Lg.sz).sum
def zcL (ms:List Lg):Nat:=ms.length+zdx ms
theorem zdv (m:Lg) (left:Int) (w:World) (hm:m.Small) (h0:0<=left) (h1:left<=1048576) :
 Calls Tryz.prog 56 #[.agg m.cells,.int .i64 left] w fun e w'=>e = .returned (.int .i64 (zL m.sz left))/\Below w.heap.size w w':=by
 have k0:=hm.tm;have k1:=hm.rs;unfold maxLen at k0 k1;unfold Lg.cells;have hB:∀ ob,Below w.heap.size w (w.alloc ob):=fun ob=>bAl _ _
 by_cases hf:(m.sz:Int)<=left
 ·have HF:Hid (zL m.sz left=left - m.tm.size - m.rs.size):=by
   unfold Hid;rw [zN hf];unfold Lg.sz;omega
  unfold Lg.sz at hf;go_enter Tryz.func56,Tryz.ntmps56;go_wp2_with fail
  go_ret;exact ⟨zq HF.out.symm,hB _⟩
 ·have HF:Hid (zL m.sz left=-1):=zC hf
  have HN:Hid (¬ ((m.tm.size+m.rs.size:Nat):Int)<=left):=hf;clear hf;go_enter Tryz.func56,Tryz.ntmps56;go_wp2_with fail
  all_goals go_ret
  all_goals first | exact ⟨zq HF.out.symm,hB _⟩ | (exfalso;have:=HN.out;simp at *;omega)
theorem zgU (m:Lg) (left:Int) (w:World) (hm:m.Small) (h0:0<=left) (h1:left<=1048576) (h:(m.sz:Int)<=left) :
 Calls Tryz.prog 56 #[.agg m.cells,.int .i64 left] w fun e w'=>e = .returned (.int .i64 (left - m.sz))/\Below w.heap.size w w':=by
 refine (zdv m left w hm h0 h1).mono ?_;rintro e w' ⟨rfl,hb⟩;exact ⟨zq (zN h),hb⟩
theorem zhT (m:Lg) (left:Int) (w:World) (hm:m.Small) (h0:0<=left) (h1:left<=1048576) (h:¬ (m.sz:Int)<=left) :
 Calls Tryz.prog 56 #[.agg m.cells,.int .i64 left] w fun e w'=>e = .returned (.int .i64 (-1))/\Below w.heap.size w w':=by
 refine (zdv m left w hm h0 h1).mono ?_;rintro e w' ⟨rfl,hb⟩;exact ⟨zq (zC h),hb⟩
theorem zgh (a:Option Addr) (cap:Nat) (ms:List Lg) (left:Int) (w:World) (hw:zb8 w a ms) (h0:0<=left) (h1:left<=1048576) :
 Calls Tryz.prog 22 #[.slice a ms.length cap,.int .i64 left] w fun e w'=>e = .returned (.int .i64 (zL (zcL ms) left))/\Below w.heap.size w w':=by
 have hl:=hw.len;unfold maxLen at hl
 by_cases hfit:(ms.length:Int)<=left
 ·go_enter Tryz.func22,Tryz.ntmps22
  go_wp2_with fail
  go_loopw [1,5] (fun l i wr=>∃ k:Nat,k<=ms.length/\i = .int .i64 k/\0<=left - ms.length - zdx (ms.take k)/\l = .int .i64 (left - ms.length - zdx (ms.take k))/\Below w.heap.size w wr) (fun _ i _=>ms.length - (intOf i).toNat)
  case atStart=>exact ⟨0,Nat.zero_le _,rfl,by simp [zdx];omega,by simp [zdx],bRf _ _⟩
  case round =>
   obtain ⟨k,hk,rfl,hpos,rfl,hB⟩:=hrel
   by_cases hlt:k < ms.length
   ·obtain ⟨b,off,rfl,hb,c0,c1,c2,c3⟩:=hw.load hB k hlt
    have hsm:=hw.small k hlt;have HS:Hid (zdx (ms.take (k+1))=zdx (ms.take k)+ms[k].sz):=za5 Lg.sz ms k hlt;have hle:zdx (ms.take (k+1))<=zdx ms:=zcQ Lg.sz ms (k+1);clear hw
    by_cases hneg:(ms[k].sz:Int)<=left - ms.length - zdx (ms.take k)
    ·have HNG:Hid ((ms[k].sz:Int)<=left - ms.length - zdx (ms.take k)):=hneg
     clear hle;go_wp2_with fail
     refine (zgU _ _ _ hsm hpos (by omega) HNG.out).mono ?_;rintro e w1 ⟨rfl,hb1⟩;have hB1:=hB.trans (hb1.mono hB.size);clear hb1;go_wp2_with fail
     exact ⟨⟨k+1,by omega,by go_num,by rw [HS.out];omega,by rw [HS.out];congr 1;omega,hB1⟩,by simp [intOf];omega⟩
    ·have HF:Hid (zL (zcL ms) left=-1):=zC (by have:=HS.out;unfold zcL;omega)
     have HNG:Hid (¬ (ms[k].sz:Int)<=left - ms.length - zdx (ms.take k)):=hneg;clear hneg hle;go_wp2_with fail
     refine (zhT _ _ _ hsm hpos (by omega) (by have:=HNG.out;omega)).mono ?_;rintro e w1 ⟨rfl,hb1⟩;have hB1:=hB.trans (hb1.mono hB.size);clear hb1;go_wp2_with fail
     go_ret;exact ⟨zq HF.out.symm,hB1⟩
   ·have HF:Hid (zL (zcL ms) left=left - ms.length - zdx (ms.take k)):=by
     rw [tOl (by omega)] at hpos ⊢;have e:zL (zcL ms) left=left - zcL ms:=zN (by unfold zcL;omega);unfold Hid;rw [e];unfold zcL;omega
    clear hw
    go_wp2
    go_ret;exact ⟨zq HF.out.symm,hB⟩
 ·have HF:Hid (zL (zcL ms) left=-1):=zC (by unfold zcL;omega)
  clear hw;go_enter Tryz.func22,Tryz.ntmps22
  go_wp2
  go_ret;exact ⟨zq HF.out.symm,bRf _ _⟩
theorem zgT (m:Lg) (w:World):Calls Tryz.prog 80 #[.agg m.cells,.agg m.cells] w fun e w'=>e = .returned (.bool true)/\Below w.heap.size w w':=by
 unfold Lg.cells;have hn2:(m.mo != m.mo)=false:=by simp
 have hn3:(m.fr != m.fr)=false:=by simp
 go_enter Tryz.func80,Tryz.ntmps80;go_wp2_with fail
 go_ret;exact ⟨rfl,zA _ _ _⟩
theorem zfI (a a':Option Addr) (cap cap':Nat) (ms:List Lg) (w:World) (hw:zb8 w a ms) (hw':zb8 w a' ms) :
 Calls Tryz.prog 42 #[.slice a ms.length cap,.slice a' ms.length cap'] w fun e w'=>e = .returned (.bool true)/\Below w.heap.size w w':=by
 have hl:=hw.len;unfold maxLen at hl;have hnn:((ms.length:Int) != ms.length)=false:=by simp
 go_enter Tryz.func42,Tryz.ntmps42;go_wp2_with fail
 go_loopw [5] (fun i wr=>∃ k:Nat,k<=ms.length/\i = .int .i64 k/\Below w.heap.size w wr) (fun i _=>ms.length - (intOf i).toNat)
 case atStart=>exact ⟨0,Nat.zero_le _,rfl,bRf _ _⟩
 case round =>
  obtain ⟨k,hk,rfl,hB⟩:=hrel
  by_cases hlt:k < ms.length
  ·obtain ⟨b,off,rfl,hb,c0,c1,c2,c3⟩:=hw.load hB k hlt
   obtain ⟨b',off',rfl,hb',d0,d1,d2,d3⟩:=hw'.load hB k hlt;have hltI:(k:Int) < (ms.length:Int):=by omega
   clear hw hw';go_wp2_with fail
   go_region_with (go_at_call 80;refine (zgT ms[k] _).mono ?_;rintro e w1 ⟨rfl,hb1'⟩;have hb1:=(bRf wr.heap.size wr).drew.trans hb1';clear hb1')
   all_goals go_wp2_with fail
   all_goals exact ⟨⟨k+1,by omega,by go_num,hB.trans (hb1.mono hB.size)⟩,by simp [intOf];omega⟩
  ·clear hw hw'
   go_wp2_with fail
   go_ret;exact ⟨rfl,hB⟩
structure jW (lo:Nat) (w:World) (bo:Nat) (ms:List Lg) (k:Nat):Prop where
 low:lo<=bo
 rows:∃ C,w.heap[bo]?=some (.cells C 134)/\C.size=ms.length * 4/\∀ i (h:i < ms.length),i < k->∀ j,j < 4->C[i * 4+j]?=ms[i].cells[j]?
theorem jW.at {lo:Nat} {w:World} {bo:Nat} {ms:List Lg} (h:jW lo w bo ms ms.length) (hs:∀ i (h:i < ms.length),ms[i].Small) (hl:ms.length<=maxLen):zb8 w (some ⟨bo,0,none⟩) ms:=by
 obtain ⟨C,hC,hsz,hr⟩:=h.rows;refine ⟨hl,hs,fun _=>⟨bo,0,rfl,(gES hC).1,fun i hi j hj=>?_⟩⟩;rw [cell_of_block hC,Nat.zero_add];exact hr i hi hi j hj
theorem jW.later {lo:Nat} {w w':World} {bo:Nat} {ms:List Lg} {k:Nat} (h:jW lo w bo ms k) (hb:Below w.heap.size w w'):jW lo w' bo ms k:=by
 obtain ⟨C,hC,hsz,hr⟩:=h.rows;exact ⟨h.low,C,(hb.block bo (gES hC).1).trans hC,hsz,hr⟩
theorem jW.above {lo:Nat} {w w':World} {bo:Nat} {ms:List Lg} {k:Nat} (h:jW lo w bo ms k) (ha:yQ lo w w'):jW lo w' bo ms k:=by
 obtain ⟨C,hC,hr⟩:=h.rows;exact ⟨h.low,C,(ha.same _ h.low (gES hC).1).trans hC,hr⟩
theorem jW.weaken {lo lo':Nat} {w:World} {bo:Nat} {ms:List Lg} {k:Nat} (h:jW lo w bo ms k) (hl:lo'<=lo):jW lo' w bo ms k:=⟨Nat.le_trans hl h.low,h.rows⟩
def zpt (w:World) (b o:Nat) (v0 v1 v2 v3:Value):World:=((((w.setCell ⟨b,o,none⟩ v0).setCell ⟨b,o+1,none⟩ v1).setCell ⟨b,o+2,none⟩ v2).setCell ⟨b,o+3,none⟩ v3)
def zi9 (C:Array Value) (o:Nat) (v0 v1 v2 v3:Value):Array Value:=((((C.setIfInBounds (o) v0).setIfInBounds (o+1) v1).setIfInBounds (o+2) v2).setIfInBounds (o+3) v3)
theorem zna {w:World} {b o:Nat} {C:Array Value} {t:TypeId} (h:w.heap[b]?=some (.cells C t)) (v0 v1 v2 v3:Value):(zpt w b o v0 v1 v2 v3).heap[b]?=some (.cells (zi9 C o v0 v1 v2 v3) t) :=
 zk (zk (zk (zk h v0) v1) v2) v3
theorem zm0 {B:Nat} {a w:World} (h:Below B a w) {b:Nat} (hb:B<=b) (o:Nat) (v0 v1 v2 v3:Value):Below B a (zpt w b o v0 v1 v2 v3) :=
 (((h.setCell hb v0).setCell hb v1).setCell hb v2).setCell hb v3
theorem znL (C:Array Value) (o:Nat) (v0 v1 v2 v3:Value):(zi9 C o v0 v1 v2 v3).size=C.size:=by simp [zi9]
theorem zoN (C:Array Value) (o i:Nat) (v0 v1 v2 v3:Value) (h:i < o \/ o+4<=i):(zi9 C o v0 v1 v2 v3)[i]?=C[i]?:=by
 unfold zi9
 iterate 4 rw [Array.getElem?_setIfInBounds,if_neg (by omega)]
theorem zpc (C:Array Value) (o j:Nat) (v0 v1 v2 v3:Value) (hj:j < 4) (ho:o+4<=C.size):(zi9 C o v0 v1 v2 v3)[o+j]?=(#[v0,v1,v2,v3]:Array Value)[j]?:=by
 have hc:j=0 \/ j=1 \/ j=2 \/ j=3:=by omega
 unfold zi9
 rcases hc with h | h | h | h <;> subst h <;> simp [Array.getElem?_setIfInBounds] <;> omega
theorem jW.put {lo:Nat} {w:World} {bo:Nat} {ms:List Lg} {k:Nat} (h:jW lo w bo ms k) (hk:k < ms.length) :
 jW lo (zpt w bo (k * 4) (.string ms[k].tm) (.string ms[k].rs) (.int .i64 ms[k].mo) (.int .i64 ms[k].fr)) bo ms (k+1):=by
 obtain ⟨C,hC,hsz,hr⟩:=h.rows;refine ⟨h.low,_,zna hC _ _ _ _,by rw [znL];exact hsz,fun i hi hik j hj=>?_⟩
 rcases Nat.lt_or_ge i k with hlt | hge
 ·rw [zoN _ _ _ _ _ _ _ (by omega)]
  exact hr i hi hlt j hj
 ·have e:i=k:=by omega
  subst e;rw [zpc _ _ _ _ _ _ _ hj (by omega)]
  rfl
theorem zgO (m:Lg) (w:World) :
 Calls Tryz.prog 69 #[.agg m.cells] w fun e w'=>e = .returned (.agg m.cells)/\Below w.heap.size w w':=by
 unfold Lg.cells;go_enter Tryz.func69,Tryz.ntmps69;go_wp2_with fail
 refine bodyPost_ret (v:=.agg #[.string m.tm,.string m.rs,.int .i64 m.mo,.int .i64 m.fr]) (by simp [results,Tryz.results69,go_sem]) rfl ⟨rfl,?_⟩;exact (((bAl _ _).alloc (by simp) _).alloc (by simp;omega) _)
def zpq:Array Value:=#[.string ByteArray.empty,.string ByteArray.empty,.int .i64 0,.int .i64 0]
def zog (n:Nat):Array Value:=madeCells zpq (n * 4)
theorem zfQ (a:Option Addr) (cap:Nat) (ms:List Lg) (w:World) (hw:zb8 w a ms) (hl:ms.length<=1048576) :
 Calls Tryz.prog 33 #[.slice a ms.length cap] w fun e w'=>e = .returned (.slice (some ⟨w.heap.size,0,none⟩) ms.length ms.length)/\jW w.heap.size w' w.heap.size ms ms.length/\Below w.heap.size w w':=by
 have hmk:∀ w:World,(Instr.makeSlice 45 (.int .i64 ms.length) (.int .i64 ms.length)).run Tryz.prog w = .ok (.slice (some ⟨w.heap.size,0,none⟩) ms.length ms.length) (w.alloc (.cells (zog ms.length) 134)) :=
  fun w=>jK (P:=Tryz.prog) 45 134 (.agg zpq) 4 48 Tryz.underlying45 (by kernel_rfl) ms.length (by omega) (by omega) w
 go_enter Tryz.func33,Tryz.ntmps33;go_wp2_with fail
 clear hmk
 go_loopw [4] (fun i wr=>∃ k:Nat,k<=ms.length/\i = .int .i64 k/\jW w.heap.size wr w.heap.size ms k/\Below w.heap.size w wr) (fun i _=>ms.length - (intOf i).toNat)
 case atStart=>exact ⟨0,Nat.zero_le _,rfl,⟨Nat.le_refl _,zog ms.length,(MapKept.heap_alloc w _).1,size_madeCells _ _,fun i _ h=>absurd h (by omega)⟩,bAl _ _⟩
 case round =>
  obtain ⟨k,hk,rfl,hown,hB⟩:=hrel
  by_cases hlt:k < ms.length
  ·obtain ⟨b,off,rfl,hb,c0,c1,c2,c3⟩:=hw.load hB k hlt
   have hltI:(k:Int) < (ms.length:Int):=by omega
   clear hw;go_wp2_with fail
   refine (zgO ms[k] _).mono ?_;rintro e w1 ⟨rfl,hb1⟩;have hB1:=hB.trans (hb1.mono hB.size);have hown1:=hown.later hb1
   have hbo:w.heap.size < wr.heap.size:=by
    obtain ⟨C',hC',_⟩:=hown.rows;exact (gES hC').1
   obtain ⟨C,hC,hsz,_⟩:=hown1.rows;have hfz:∀ o,w1.frozen? ⟨w.heap.size,o,none⟩=false:=fun o=>zi hC
   have hex:∀ o,o < ms.length * 4->∃ v,w1.cell? ⟨w.heap.size,o,none⟩=some v:=fun o ho=>⟨C[o]'(by omega),by rw [cell_of_block hC];exact Array.getElem?_eq_getElem (by omega)⟩
   obtain ⟨v0,hv0⟩:=hex (k * 4) (by omega);obtain ⟨v1,hv1⟩:=hex (k * 4+1) (by omega);obtain ⟨v2,hv2⟩:=hex (k * 4+2) (by omega);obtain ⟨v3,hv3⟩:=hex (k * 4+3) (by omega);have HP:Hid (jW w.heap.size w1 w.heap.size ms k):=hown1;clear hex hC hsz c0 c1 c2 c3 hown hown1;unfold Lg.cells;go_wp2_with fail
   exact ⟨⟨k+1,by omega,by go_num,HP.out.put hlt,zm0 hB1 (Nat.le_refl _) _ _ _ _ _⟩,by simp [intOf];omega⟩
  ·have HF:Hid (jW w.heap.size wr w.heap.size ms ms.length):=by
    have e:k=ms.length:=by omega
    subst e;exact hown
   clear hw hown;go_wp2_with fail
   go_ret;exact ⟨rfl,HF.out,hB⟩
structure Pu where
 dr:ByteArray
 tm:ByteArray
 rs:ByteArray
 am:Int
 un:Int
def Pu.cells (m:Pu):Array Value:=#[.string m.dr,.string m.tm,.string m.rs,.int .i64 m.am,.int .i64 m.un]
structure Pu.Small (m:Pu):Prop where
 dr:m.dr.size<=maxLen
 tm:m.tm.size<=maxLen
 rs:m.rs.size<=maxLen
structure zc2 (w:World) (a:Option Addr) (ms:List Pu):Prop where
 len:ms.length<=maxLen
 small:∀ i (h:i < ms.length),ms[i].Small
 rows:ms ≠ []->∃ b off,a=some ⟨b,off,none⟩/\b < w.heap.size/\∀ i (h:i < ms.length),∀ j,j < 5->w.cell? ⟨b,off+i * 5+j,none⟩=ms[i].cells[j]?
theorem zc2.mono {w w':World} {a:Option Addr} {ms:List Pu} (h:zc2 w a ms) (hl:Below w.heap.size w w'):zc2 w' a ms :=
 ⟨h.len,h.small,fun hne=>by
  obtain ⟨b,off,ha,hb,hr⟩:=h.rows hne;exact ⟨b,off,ha,nLt hb hl.size,fun i hi j hj=>(hl.cell (p:=⟨b,off+i * 5+j,none⟩) hb).trans (hr i hi j hj)⟩⟩
theorem zc2.load {w w':World} {a:Option Addr} {ms:List Pu} (h:zc2 w a ms) (hl:Below w.heap.size w w') (i:Nat) (hi:i < ms.length):∃ b off,a=some ⟨b,off,none⟩/\b < w.heap.size /\
 w'.cell? ⟨b,off+i * 5,none⟩=some (.string ms[i].dr)/\w'.cell? ⟨b,off+i * 5+1,none⟩=some (.string ms[i].tm)/\w'.cell? ⟨b,off+i * 5+2,none⟩=some (.string ms[i].rs)/\w'.cell? ⟨b,off+i * 5+3,none⟩=some (.int .i64 ms[i].am)/\w'.cell? ⟨b,off+i * 5+4,none⟩=some (.int .i64 ms[i].un):=by
 obtain ⟨b,off,ha,hb,hr⟩:=h.rows (by rintro rfl;simp at hi);have hc:∀ j,j < 5->w'.cell? ⟨b,off+i * 5+j,none⟩=ms[i].cells[j]?:=fun j hj=>(hl.cell (p:=⟨b,off+i * 5+j,none⟩) hb).trans (hr i hi j hj)
 exact ⟨b,off,ha,hb,hc 0 (by omega),hc 1 (by omega),hc 2 (by omega),hc 3 (by omega),hc 4 (by omega)⟩
def Pu.sz (m:Pu):Nat:=m.dr.size+m.tm.size+m.rs.size
def zdq (ms:List Pu):Nat:=(ms.map Pu.sz).sum
def zc5 (ms:List Pu):Nat:=ms.length+zdq ms
theorem zef (m:Pu) (left:Int) (w:World) (hm:m.Small) (h0:0<=left) (h1:left<=1048576) :
 Calls Tryz.prog 57 #[.agg m.cells,.int .i64 left] w fun e w'=>e = .returned (.int .i64 (zL m.sz left))/\Below w.heap.size w w':=by
 have k0:=hm.dr;have k1:=hm.tm;have k2:=hm.rs;unfold maxLen at k0 k1 k2;unfold Pu.cells;have hB:∀ ob,Below w.heap.size w (w.alloc ob):=fun ob=>bAl _ _
 by_cases hf:(m.sz:Int)<=left
 ·have HF:Hid (zL m.sz left=left - m.dr.size - m.tm.size - m.rs.size):=by
   unfold Hid;rw [zN hf];unfold Pu.sz;omega
  unfold Pu.sz at hf;go_enter Tryz.func57,Tryz.ntmps57;go_wp2_with fail
  go_ret;exact ⟨zq HF.out.symm,hB _⟩
 ·have HF:Hid (zL m.sz left=-1):=zC hf
  have HN:Hid (¬ ((m.dr.size+m.tm.size+m.rs.size:Nat):Int)<=left):=hf;clear hf;go_enter Tryz.func57,Tryz.ntmps57;go_wp2_with fail
  all_goals go_ret
  all_goals first | exact ⟨zq HF.out.symm,hB _⟩ | (exfalso;have:=HN.out;simp at *;omega)
theorem zil (m:Pu) (left:Int) (w:World) (hm:m.Small) (h0:0<=left) (h1:left<=1048576) (h:(m.sz:Int)<=left) :
 Calls Tryz.prog 57 #[.agg m.cells,.int .i64 left] w fun e w'=>e = .returned (.int .i64 (left - m.sz))/\Below w.heap.size w w':=by
 refine (zef m left w hm h0 h1).mono ?_;rintro e w' ⟨rfl,hb⟩;exact ⟨zq (zN h),hb⟩
theorem zjA (m:Pu) (left:Int) (w:World) (hm:m.Small) (h0:0<=left) (h1:left<=1048576) (h:¬ (m.sz:Int)<=left) :
 Calls Tryz.prog 57 #[.agg m.cells,.int .i64 left] w fun e w'=>e = .returned (.int .i64 (-1))/\Below w.heap.size w w':=by
 refine (zef m left w hm h0 h1).mono ?_;rintro e w' ⟨rfl,hb⟩;exact ⟨zq (zC h),hb⟩
theorem zhk (a:Option Addr) (cap:Nat) (ms:List Pu) (left:Int) (w:World) (hw:zc2 w a ms) (h0:0<=left) (h1:left<=1048576) :
 Calls Tryz.prog 23 #[.slice a ms.length cap,.int .i64 left] w fun e w'=>e = .returned (.int .i64 (zL (zc5 ms) left))/\Below w.heap.size w w':=by
 have hl:=hw.len;unfold maxLen at hl
 by_cases hfit:(ms.length:Int)<=left
 ·go_enter Tryz.func23,Tryz.ntmps23
  go_wp2_with fail
  go_loopw [1,5] (fun l i wr=>∃ k:Nat,k<=ms.length/\i = .int .i64 k/\0<=left - ms.length - zdq (ms.take k)/\l = .int .i64 (left - ms.length - zdq (ms.take k))/\Below w.heap.size w wr) (fun _ i _=>ms.length - (intOf i).toNat)
  case atStart=>exact ⟨0,Nat.zero_le _,rfl,by simp [zdq];omega,by simp [zdq],bRf _ _⟩
  case round =>
   obtain ⟨k,hk,rfl,hpos,rfl,hB⟩:=hrel
   by_cases hlt:k < ms.length
   ·obtain ⟨b,off,rfl,hb,c0,c1,c2,c3,c4⟩:=hw.load hB k hlt
    have hsm:=hw.small k hlt;have HS:Hid (zdq (ms.take (k+1))=zdq (ms.take k)+ms[k].sz):=za5 Pu.sz ms k hlt;have hle:zdq (ms.take (k+1))<=zdq ms:=zcQ Pu.sz ms (k+1);clear hw
    by_cases hneg:(ms[k].sz:Int)<=left - ms.length - zdq (ms.take k)
    ·have HNG:Hid ((ms[k].sz:Int)<=left - ms.length - zdq (ms.take k)):=hneg
     clear hle;go_wp2_with fail
     refine (zil _ _ _ hsm hpos (by omega) HNG.out).mono ?_;rintro e w1 ⟨rfl,hb1⟩;have hB1:=hB.trans (hb1.mono hB.size);clear hb1;go_wp2_with fail
     exact ⟨⟨k+1,by omega,by go_num,by rw [HS.out];omega,by rw [HS.out];congr 1;omega,hB1⟩,by simp [intOf];omega⟩
    ·have HF:Hid (zL (zc5 ms) left=-1):=zC (by have:=HS.out;unfold zc5;omega)
     have HNG:Hid (¬ (ms[k].sz:Int)<=left - ms.length - zdq (ms.take k)):=hneg;clear hneg hle;go_wp2_with fail
     refine (zjA _ _ _ hsm hpos (by omega) (by have:=HNG.out;omega)).mono ?_;rintro e w1 ⟨rfl,hb1⟩;have hB1:=hB.trans (hb1.mono hB.size);clear hb1;go_wp2_with fail
     go_ret;exact ⟨zq HF.out.symm,hB1⟩
   ·have HF:Hid (zL (zc5 ms) left=left - ms.length - zdq (ms.take k)):=by
     rw [tOl (by omega)] at hpos ⊢;have e:zL (zc5 ms) left=left - zc5 ms:=zN (by unfold zc5;omega);unfold Hid;rw [e];unfold zc5;omega
    clear hw
    go_wp2
    go_ret;exact ⟨zq HF.out.symm,hB⟩
 ·have HF:Hid (zL (zc5 ms) left=-1):=zC (by unfold zc5;omega)
  clear hw;go_enter Tryz.func23,Tryz.ntmps23
  go_wp2
  go_ret;exact ⟨zq HF.out.symm,bRf _ _⟩
theorem zh2 (m:Pu) (w:World):Calls Tryz.prog 81 #[.agg m.cells,.agg m.cells] w fun e w'=>e = .returned (.bool true)/\Below w.heap.size w w':=by
 unfold Pu.cells;have hn3:(m.am != m.am)=false:=by simp
 have hn4:(m.un != m.un)=false:=by simp
 go_enter Tryz.func81,Tryz.ntmps81;go_wp2_with fail
 go_ret;exact ⟨rfl,zA _ _ _⟩
theorem zhf (a a':Option Addr) (cap cap':Nat) (ms:List Pu) (w:World) (hw:zc2 w a ms) (hw':zc2 w a' ms) :
 Calls Tryz.prog 43 #[.slice a ms.length cap,.slice a' ms.length cap'] w fun e w'=>e = .returned (.bool true)/\Below w.heap.size w w':=by
 have hl:=hw.len;unfold maxLen at hl;have hnn:((ms.length:Int) != ms.length)=false:=by simp
 go_enter Tryz.func43,Tryz.ntmps43;go_wp2_with fail
 go_loopw [5] (fun i wr=>∃ k:Nat,k<=ms.length/\i = .int .i64 k/\Below w.heap.size w wr) (fun i _=>ms.length - (intOf i).toNat)
 case atStart=>exact ⟨0,Nat.zero_le _,rfl,bRf _ _⟩
 case round =>
  obtain ⟨k,hk,rfl,hB⟩:=hrel
  by_cases hlt:k < ms.length
  ·obtain ⟨b,off,rfl,hb,c0,c1,c2,c3,c4⟩:=hw.load hB k hlt
   obtain ⟨b',off',rfl,hb',d0,d1,d2,d3,d4⟩:=hw'.load hB k hlt;have hltI:(k:Int) < (ms.length:Int):=by omega
   clear hw hw';go_wp2_with fail
   go_region_with (go_at_call 81;refine (zh2 ms[k] _).mono ?_;rintro e w1 ⟨rfl,hb1'⟩;have hb1:=(bRf wr.heap.size wr).drew.trans hb1';clear hb1')
   all_goals go_wp2_with fail
   all_goals exact ⟨⟨k+1,by omega,by go_num,hB.trans (hb1.mono hB.size)⟩,by simp [intOf];omega⟩
  ·clear hw hw'
   go_wp2_with fail
   go_ret;exact ⟨rfl,hB⟩
structure jV (lo:Nat) (w:World) (bo:Nat) (ms:List Pu) (k:Nat):Prop where
 low:lo<=bo
 rows:∃ C,w.heap[bo]?=some (.cells C 136)/\C.size=ms.length * 5/\∀ i (h:i < ms.length),i < k->∀ j,j < 5->C[i * 5+j]?=ms[i].cells[j]?
theorem jV.at {lo:Nat} {w:World} {bo:Nat} {ms:List Pu} (h:jV lo w bo ms ms.length) (hs:∀ i (h:i < ms.length),ms[i].Small) (hl:ms.length<=maxLen):zc2 w (some ⟨bo,0,none⟩) ms:=by
 obtain ⟨C,hC,hsz,hr⟩:=h.rows;refine ⟨hl,hs,fun _=>⟨bo,0,rfl,(gES hC).1,fun i hi j hj=>?_⟩⟩;rw [cell_of_block hC,Nat.zero_add];exact hr i hi hi j hj
theorem jV.later {lo:Nat} {w w':World} {bo:Nat} {ms:List Pu} {k:Nat} (h:jV lo w bo ms k) (hb:Below w.heap.size w w'):jV lo w' bo ms k:=by
 obtain ⟨C,hC,hsz,hr⟩:=h.rows;exact ⟨h.low,C,(hb.block bo (gES hC).1).trans hC,hsz,hr⟩
theorem jV.above {lo:Nat} {w w':World} {bo:Nat} {ms:List Pu} {k:Nat} (h:jV lo w bo ms k) (ha:yQ lo w w'):jV lo w' bo ms k:=by
 obtain ⟨C,hC,hr⟩:=h.rows;exact ⟨h.low,C,(ha.same _ h.low (gES hC).1).trans hC,hr⟩
theorem jV.weaken {lo lo':Nat} {w:World} {bo:Nat} {ms:List Pu} {k:Nat} (h:jV lo w bo ms k) (hl:lo'<=lo):jV lo' w bo ms k:=⟨Nat.le_trans hl h.low,h.rows⟩
def zpK (w:World) (b o:Nat) (v0 v1 v2 v3 v4:Value):World:=(((((w.setCell ⟨b,o,none⟩ v0).setCell ⟨b,o+1,none⟩ v1).setCell ⟨b,o+2,none⟩ v2).setCell ⟨b,o+3,none⟩ v3).setCell ⟨b,o+4,none⟩ v4)
def zjK (C:Array Value) (o:Nat) (v0 v1 v2 v3 v4:Value):Array Value:=(((((C.setIfInBounds (o) v0).setIfInBounds (o+1) v1).setIfInBounds (o+2) v2).setIfInBounds (o+3) v3).setIfInBounds (o+4) v4)
theorem zmB {w:World} {b o:Nat} {C:Array Value} {t:TypeId} (h:w.heap[b]?=some (.cells C t)) (v0 v1 v2 v3 v4:Value):(zpK w b o v0 v1 v2 v3 v4).heap[b]?=some (.cells (zjK C o v0 v1 v2 v3 v4) t) :=
 zk (zk (zk (zk (zk h v0) v1) v2) v3) v4
theorem zmi {B:Nat} {a w:World} (h:Below B a w) {b:Nat} (hb:B<=b) (o:Nat) (v0 v1 v2 v3 v4:Value):Below B a (zpK w b o v0 v1 v2 v3 v4) :=
 ((((h.setCell hb v0).setCell hb v1).setCell hb v2).setCell hb v3).setCell hb v4
theorem znT (C:Array Value) (o:Nat) (v0 v1 v2 v3 v4:Value):(zjK C o v0 v1 v2 v3 v4).size=C.size:=by simp [zjK]
theorem zoV (C:Array Value) (o i:Nat) (v0 v1 v2 v3 v4:Value) (h:i < o \/ o+5<=i):(zjK C o v0 v1 v2 v3 v4)[i]?=C[i]?:=by
 unfold zjK
 iterate 5 rw [Array.getElem?_setIfInBounds,if_neg (by omega)]
theorem zpn (C:Array Value) (o j:Nat) (v0 v1 v2 v3 v4:Value) (hj:j < 5) (ho:o+5<=C.size):(zjK C o v0 v1 v2 v3 v4)[o+j]?=(#[v0,v1,v2,v3,v4]:Array Value)[j]?:=by
 have hc:j=0 \/ j=1 \/ j=2 \/ j=3 \/ j=4:=by omega
 unfold zjK
 rcases hc with h | h | h | h | h <;> subst h <;> simp [Array.getElem?_setIfInBounds] <;> omega
theorem jV.put {lo:Nat} {w:World} {bo:Nat} {ms:List Pu} {k:Nat} (h:jV lo w bo ms k) (hk:k < ms.length) :
 jV lo (zpK w bo (k * 5) (.string ms[k].dr) (.string ms[k].tm) (.string ms[k].rs) (.int .i64 ms[k].am) (.int .i64 ms[k].un)) bo ms (k+1):=by
 obtain ⟨C,hC,hsz,hr⟩:=h.rows;refine ⟨h.low,_,zmB hC _ _ _ _ _,by rw [znT];exact hsz,fun i hi hik j hj=>?_⟩
 rcases Nat.lt_or_ge i k with hlt | hge
 ·rw [zoV _ _ _ _ _ _ _ _ (by omega)]
  exact hr i hi hlt j hj
 ·have e:i=k:=by omega
  subst e;rw [zpn _ _ _ _ _ _ _ _ hj (by omega)]
  rfl
theorem zhS (m:Pu) (w:World) :
 Calls Tryz.prog 70 #[.agg m.cells] w fun e w'=>e = .returned (.agg m.cells)/\Below w.heap.size w w':=by
 unfold Pu.cells;go_enter Tryz.func70,Tryz.ntmps70;go_wp2_with fail
 refine bodyPost_ret (v:=.agg #[.string m.dr,.string m.tm,.string m.rs,.int .i64 m.am,.int .i64 m.un]) (by simp [results,Tryz.results70,go_sem]) rfl ⟨rfl,?_⟩;exact (((bAl _ _).alloc (by simp) _).alloc (by simp;omega) _)
def zpm:Array Value:=#[.string ByteArray.empty,.string ByteArray.empty,.string ByteArray.empty,.int .i64 0,.int .i64 0]
def zoo (n:Nat):Array Value:=madeCells zpm (n * 5)
theorem zhb (a:Option Addr) (cap:Nat) (ms:List Pu) (w:World) (hw:zc2 w a ms) (hl:ms.length<=1048576) :
 Calls Tryz.prog 34 #[.slice a ms.length cap] w fun e w'=>e = .returned (.slice (some ⟨w.heap.size,0,none⟩) ms.length ms.length)/\jV w.heap.size w' w.heap.size ms ms.length/\Below w.heap.size w w':=by
 have hmk:∀ w:World,(Instr.makeSlice 46 (.int .i64 ms.length) (.int .i64 ms.length)).run Tryz.prog w = .ok (.slice (some ⟨w.heap.size,0,none⟩) ms.length ms.length) (w.alloc (.cells (zoo ms.length) 136)) :=
  fun w=>jK (P:=Tryz.prog) 46 136 (.agg zpm) 5 64 Tryz.underlying46 (by kernel_rfl) ms.length (by omega) (by omega) w
 go_enter Tryz.func34,Tryz.ntmps34;go_wp2_with fail
 clear hmk
 go_loopw [4] (fun i wr=>∃ k:Nat,k<=ms.length/\i = .int .i64 k/\jV w.heap.size wr w.heap.size ms k/\Below w.heap.size w wr) (fun i _=>ms.length - (intOf i).toNat)
 case atStart=>exact ⟨0,Nat.zero_le _,rfl,⟨Nat.le_refl _,zoo ms.length,(MapKept.heap_alloc w _).1,size_madeCells _ _,fun i _ h=>absurd h (by omega)⟩,bAl _ _⟩
 case round =>
  obtain ⟨k,hk,rfl,hown,hB⟩:=hrel
  by_cases hlt:k < ms.length
  ·obtain ⟨b,off,rfl,hb,c0,c1,c2,c3,c4⟩:=hw.load hB k hlt
   have hltI:(k:Int) < (ms.length:Int):=by omega
   clear hw;go_wp2_with fail
   refine (zhS ms[k] _).mono ?_;rintro e w1 ⟨rfl,hb1⟩;have hB1:=hB.trans (hb1.mono hB.size);have hown1:=hown.later hb1
   have hbo:w.heap.size < wr.heap.size:=by
    obtain ⟨C',hC',_⟩:=hown.rows;exact (gES hC').1
   obtain ⟨C,hC,hsz,_⟩:=hown1.rows;have hfz:∀ o,w1.frozen? ⟨w.heap.size,o,none⟩=false:=fun o=>zi hC
   have hex:∀ o,o < ms.length * 5->∃ v,w1.cell? ⟨w.heap.size,o,none⟩=some v:=fun o ho=>⟨C[o]'(by omega),by rw [cell_of_block hC];exact Array.getElem?_eq_getElem (by omega)⟩
   obtain ⟨v0,hv0⟩:=hex (k * 5) (by omega);obtain ⟨v1,hv1⟩:=hex (k * 5+1) (by omega);obtain ⟨v2,hv2⟩:=hex (k * 5+2) (by omega);obtain ⟨v3,hv3⟩:=hex (k * 5+3) (by omega);obtain ⟨v4,hv4⟩:=hex (k * 5+4) (by omega);have HP:Hid (jV w.heap.size w1 w.heap.size ms k):=hown1;clear hex hC hsz c0 c1 c2 c3 c4 hown hown1;unfold Pu.cells;go_wp2_with fail
   exact ⟨⟨k+1,by omega,by go_num,HP.out.put hlt,zmi hB1 (Nat.le_refl _) _ _ _ _ _ _⟩,by simp [intOf];omega⟩
  ·have HF:Hid (jV w.heap.size wr w.heap.size ms ms.length):=by
    have e:k=ms.length:=by omega
    subst e;exact hown
   clear hw hown;go_wp2_with fail
   go_ret;exact ⟨rfl,HF.out,hB⟩
theorem zfp (a:Option Addr) (cap:Nat) (vs:List Int) (left:Int) (w:World) (hl:vs.length<=maxLen) (h0:0<=left) (h1:left<=1048576) :
 Calls Tryz.prog 124 #[.slice a vs.length cap,.int .i64 left] w fun e w'=>e = .returned (.int .i64 (zL vs.length left))/\w'=w:=by
 unfold maxLen at hl
 by_cases hf:(vs.length:Int)<=left
 ·have HF:Hid (zL vs.length left=left - vs.length):=zN hf
  go_enter Tryz.func124,Tryz.ntmps124;go_wp2_with fail
  go_ret;exact ⟨zq HF.out.symm,rfl⟩
 ·have HF:Hid (zL vs.length left=-1):=zC hf
  go_enter Tryz.func124,Tryz.ntmps124;go_wp2_with fail
  go_ret;exact ⟨zq HF.out.symm,rfl⟩
theorem zep (r:Rl) (a:Option Addr) (cap:Nat) (left:Int) (w:World) (hm:r.Small) (hl:r.vs.length<=maxLen) (h0:0<=left) (h1:left<=1048576) :
 Calls Tryz.prog 87 #[.agg (r.cells a cap),.int .i64 left] w fun e w'=>e = .returned (.int .i64 (zL r.sz left))/\Below w.heap.size w w':=by
 have k1:=hm.kd;have k2:=hm.tm;have k3:=hm.px;have k4:=hl;unfold maxLen at k1 k2 k3 k4;unfold Rl.cells;have hB:∀ ob,Below w.heap.size w (w.alloc ob):=fun ob=>bAl _ _
 by_cases hv:(r.vs.length:Int)<=left
 rotate_left
 ·have HF:Hid (zL r.sz left=-1):=zC (by unfold Rl.sz;omega)
  go_enter Tryz.func87,Tryz.ntmps87;go_wp2_with fail
  refine (zfp _ _ _ _ _ hl h0 h1).mono ?_;rintro e w1 ⟨rfl,rfl⟩;rw [zC (by omega)];go_wp2_with fail
  go_ret;exact ⟨zq HF.out.symm,hB _⟩
 by_cases hf:(r.sz:Int)<=left
 ·have HF:Hid (zL r.sz left=left - r.vs.length - r.kd.size - r.tm.size - r.px.size):=by
   unfold Hid;rw [zN hf];unfold Rl.sz;omega
  unfold Rl.sz at hf;go_enter Tryz.func87,Tryz.ntmps87;go_wp2_with fail
  refine (zfp _ _ _ _ _ hl h0 h1).mono ?_;rintro e w1 ⟨rfl,rfl⟩;rw [zN hv];go_wp2_with fail
  go_ret;exact ⟨zq HF.out.symm,hB _⟩
 ·have HF:Hid (zL r.sz left=-1):=zC hf
  have HN:Hid (¬ ((r.vs.length+r.kd.size+r.tm.size+r.px.size:Nat):Int)<=left):=hf;clear hf;go_enter Tryz.func87,Tryz.ntmps87;go_wp2_with fail
  refine (zfp _ _ _ _ _ hl h0 h1).mono ?_;rintro e w1 ⟨rfl,rfl⟩;rw [zN hv];go_wp2_with fail
  all_goals go_ret
  all_goals first | exact ⟨zq HF.out.symm,hB _⟩ | (exfalso;have:=HN.out;simp at *;omega)
theorem znJ (a:Option Addr) (cap:Nat) (vs:List Int) (w:World) (hw:qp w a vs) (hl:vs.length<=1048576) :
 Calls Tryz.prog 139 #[.slice a vs.length cap] w fun e w'=>e = .returned (.slice (some ⟨w.heap.size,0,none⟩) vs.length vs.length)/\w'=w.alloc (.cells (zbo vs) 3):=by
 have hmk:∀ w:World,(Instr.makeSlice 35 (.int .i64 vs.length) (.int .i64 vs.length)).run Tryz.prog w = .ok (.slice (some ⟨w.heap.size,0,none⟩) vs.length vs.length) (w.alloc (.cells (intCells vs 0) 3)):=by
  intro w;have h:=run_make_row' (P:=Tryz.prog) 35 3 (.int .i64 0) 8 Tryz.underlying35 (by kernel_rfl) rfl .i64 .i64 vs.length (by omega) (by omega) w;rw [zkn] at h;exact h
 go_enter Tryz.func139,Tryz.ntmps139;go_wp2_with fail
 clear hmk
 go_loopw [4] (fun i wr=>∃ k:Nat,k<=vs.length/\i = .int .i64 k/\wr=w.alloc (.cells (intCells vs k) 3)) (fun i _=>vs.length - (intOf i).toNat)
 case atStart=>exact ⟨0,Nat.zero_le _,rfl,rfl⟩
 case round =>
  obtain ⟨k,hk,rfl,rfl⟩:=hrel
  by_cases hlt:k < vs.length
  ·obtain ⟨b,off,rfl,hb,hck⟩:=hw.load (bRf _ _) k hlt
   clear hw;have hold:=zmq vs k hlt;have HS:Hid ((intCells vs k).setIfInBounds k (.int .i64 vs[k])=intCells vs (k+1)):=zlr vs k hlt;have hltI:(k:Int) < (vs.length:Int):=by omega
   go_wp2
   go_roundw
   case rel=>exact ⟨k+1,by omega,by go_num,by rw [HS.out]⟩
   case measure=>simp [intOf];omega
  ·have HA:Hid (intCells vs k=zbo vs):=zlA vs k (by omega)
   clear hw
   go_wp2
   go_ret;exact ⟨rfl,by rw [HA.out]⟩
theorem zd1 (a a':Option Addr) (cap cap':Nat) (vs:List Int) (w:World) (hw:qp w a vs) (hw':qp w a' vs) :
 Calls Tryz.prog 10 #[.slice a vs.length cap,.slice a' vs.length cap'] w fun e w'=>e = .returned (.bool true)/\Below w.heap.size w w':=by
 have hl:=hw.len;unfold maxLen at hl;have hnn:((vs.length:Int) != vs.length)=false:=by simp
 go_enter Tryz.func10,Tryz.ntmps10;go_wp2_with fail
 go_loopw [5] (fun i wr=>∃ k:Nat,k<=vs.length/\i = .int .i64 k/\Below w.heap.size w wr) (fun i _=>vs.length - (intOf i).toNat)
 case atStart=>exact ⟨0,Nat.zero_le _,rfl,bRf _ _⟩
 case round =>
  obtain ⟨k,hk,rfl,hB⟩:=hrel
  by_cases hlt:k < vs.length
  ·obtain ⟨b,off,rfl,hb,c0⟩:=hw.load hB k hlt
   obtain ⟨b',off',rfl,hb',d0⟩:=hw'.load hB k hlt;have hltI:(k:Int) < (vs.length:Int):=by omega
   have hne:(vs[k] != vs[k])=false:=by simp
   clear hw hw';go_wp2_with fail
   first
    | exact ⟨⟨k+1,by omega,by go_num,hB⟩,by simp [intOf];omega⟩
    | (go_quiet (fail);go_wp2_with fail;exact ⟨⟨k+1,by omega,by go_num,below_drewN hB _⟩,by simp [intOf];omega⟩)
  ·clear hw hw'
   go_wp2_with fail
   go_ret;exact ⟨rfl,hB⟩
theorem zpf (w:World) (o1:Obj) (X:Array Value) (t:TypeId):∀ o,((w.alloc o1).alloc (.cells X t)).cell? ⟨w.heap.size+1,o,none⟩=X[o]?:=by
 intro o;have h:=zm (w.alloc o1) X t o;have e:(w.alloc o1).heap.size=w.heap.size+1:=by simp
 rw [e] at h;exact h
theorem zqm (w:World) (o1 o2 o3 o4:Obj):((((w.alloc o1).alloc o2).alloc o3).alloc o4).heap[w.heap.size+1+1+1]?=some o4:=by
 have h:=MapKept.heap_alloc (((w.alloc o1).alloc o2).alloc o3) o4
 simpa using h.1
theorem zpT (w:World) (o1 o2 o3 o4:Obj):Below w.heap.size w ((((w.alloc o1).alloc o2).alloc o3).alloc o4) :=
 (((bAl _ _).alloc (by simp) _).alloc (by simp;omega) _).alloc (by simp;omega) _
theorem zjx (r:Rl) (a:Option Addr) (cap:Nat) (w:World) (hw:qp w a r.vs) (hl:r.vs.length<=1048576) :
 Calls Tryz.prog 106 #[.agg (r.cells a cap)] w
  fun e w'=>∃ bk,e = .returned (.agg (r.cells (some ⟨bk,0,none⟩) r.vs.length))/\w.heap.size<=bk/\bk < w'.heap.size/\w'.heap[bk]?=some (.cells (zbo r.vs) 3)/\Below w.heap.size w w':=by
 unfold Rl.cells;go_enter Tryz.func106,Tryz.ntmps106
 go_wp2_with (go_at_call 139;refine (znJ _ _ _ _ (by exact hw.mono (((bAl _ _).alloc (by simp) _).alloc (by simp;omega) _)) hl).mono ?_;rintro e w' ⟨rfl,rfl⟩)
 refine bodyPost_ret (v:=.agg #[.slice (some ⟨w.heap.size+1+1+1,0,none⟩) r.vs.length r.vs.length,.string r.kd,.string r.tm,.string r.px]) (by simp [results,Tryz.results106,go_sem]) rfl ⟨w.heap.size+1+1+1,rfl,by omega,by simp,zqm _ _ _ _ _,zpT _ _ _ _ _⟩
theorem zjB (r:Rl) (a a':Option Addr) (cap cap':Nat) (w:World) (hw:qp w a r.vs) (hw':qp w a' r.vs) :
 Calls Tryz.prog 122 #[.agg (r.cells a cap),.agg (r.cells a' cap')] w fun e w'=>e = .returned (.bool true)/\Below w.heap.size w w':=by
 unfold Rl.cells;go_enter Tryz.func122,Tryz.ntmps122;go_wp2_with fail
 refine (zd1 _ _ _ _ _ _ (hw.mono (zA _ _ _)) (hw'.mono (zA _ _ _))).mono ?_;rintro e w1 ⟨rfl,hb1⟩;have hX1:=za (za (zm w _ _) (by simp) (bAl _ _)) (by simp;omega) hb1;have hY1:=za (zpf w _ _ _) (by simp) hb1;have hz:w.heap.size+1 < w1.heap.size:=by have:=hb1.size;simp at this;omega
 have hB1:=(zA w _ _).trans (hb1.mono (by simp;omega));clear hb1;go_wp2_with fail
 go_ret;exact ⟨rfl,hB1⟩
structure Gr where
 no:Int
 to:ByteArray
 gb:ByteArray
 r:Rl
def Gr.cells (g:Gr) (a0:Option Addr) (c0:Nat):Array Value:=#[.int .i64 g.no,.string g.to,.string g.gb,.slice a0 g.r.vs.length c0,.string g.r.kd,.string g.r.tm,.string g.r.px]
structure Gr.Small (g:Gr):Prop where
 to:g.to.size<=maxLen
 gb:g.gb.size<=maxLen
 r:g.r.Small
def Gr.sz (g:Gr):Nat:=g.to.size+g.gb.size+g.r.sz
theorem Gr.znH {g:Gr} (h:(g.sz:Int)<=1048576):g.r.vs.length<=1048576:=by unfold Gr.sz Rl.sz at h;omega
theorem zei (g:Gr) (a0:Option Addr) (c0:Nat) (left:Int) (w:World) (hm:g.Small) (hi:qp w a0 g.r.vs) (h0:0<=left) (h1:left<=1048576) :
 Calls Tryz.prog 55 #[.agg (g.cells a0 c0),.int .i64 left] w fun e w'=>e = .returned (.int .i64 (zL g.sz left))/\Below w.heap.size w w':=by
 have k1:=hm.to;have k2:=hm.gb;have HM:Hid (g.r.Small/\g.r.vs.length<=maxLen):=⟨hm.r,hi.len⟩
 unfold maxLen at k1 k2;clear hm hi;unfold Gr.cells;have hB:∀ ob,Below w.heap.size w (w.alloc ob):=fun ob=>bAl _ _
 by_cases c1:(g.to.size:Int)<=left
 rotate_left
 ·have HF:Hid (zL g.sz left=-1):=zC (by unfold Gr.sz;omega)
  go_enter Tryz.func55,Tryz.ntmps55;go_wp2_with fail
  go_ret;exact ⟨zq HF.out.symm,hB _⟩
 by_cases c2:(g.gb.size:Int)<=left - g.to.size
 rotate_left
 ·have HF:Hid (zL g.sz left=-1):=zC (by unfold Gr.sz;omega)
  go_enter Tryz.func55,Tryz.ntmps55;go_wp2_with fail
  go_ret;exact ⟨zq HF.out.symm,hB _⟩
 by_cases c3:(g.r.sz:Int)<=left - g.to.size - g.gb.size
 ·have HF:Hid (zL g.sz left=left - g.to.size - g.gb.size - g.r.sz):=by
   unfold Hid;rw [zN (by unfold Gr.sz;omega)];unfold Gr.sz;omega
  go_enter Tryz.func55,Tryz.ntmps55;go_wp2_with fail
  refine (zep g.r a0 c0 _ _ HM.out.1 HM.out.2 (by omega) (by omega)).mono ?_;rintro e w1 ⟨rfl,hb⟩;rw [zN c3];have hB1:=(hB _).trans (hb.mono (by simp));clear hb;go_wp2_with fail
  go_ret;exact ⟨zq HF.out.symm,hB1⟩
 ·have HF:Hid (zL g.sz left=-1):=zC (by unfold Gr.sz;omega)
  have HC:Hid (¬ (g.r.sz:Int)<=left - g.to.size - g.gb.size):=c3;clear c3;go_enter Tryz.func55,Tryz.ntmps55;go_wp2_with fail
  refine (zep g.r a0 c0 _ _ HM.out.1 HM.out.2 (by omega) (by omega)).mono ?_;rintro e w1 ⟨rfl,hb⟩;rw [zC (by have:=HC.out;omega)];have hB1:=(hB _).trans (hb.mono (by simp));clear hb;go_wp2_with fail
  go_ret;exact ⟨zq HF.out.symm,hB1⟩
theorem zie (g:Gr) (a0:Option Addr) (c0:Nat) (a0':Option Addr) (c0':Nat) (w:World) (_hm:g.Small) (hi:qp w a0 g.r.vs) (hi':qp w a0' g.r.vs) :
 Calls Tryz.prog 79 #[.agg (g.cells a0 c0),.agg (g.cells a0' c0')] w fun e w'=>e = .returned (.bool true)/\Below w.heap.size w w':=by
 have hn:(g.no != g.no)=false:=by simp
 unfold Gr.cells;go_enter Tryz.func79,Tryz.ntmps79;go_wp2_with fail
 refine (zjB g.r _ _ _ _ _ (hi.mono (zA _ _ _)) (hi'.mono (zA _ _ _))).mono ?_;rintro e w1 ⟨rfl,hb⟩;have hB1:=(zA w _ _).trans (hb.mono (by simp;omega));clear hb;go_wp2_with fail
 go_ret;exact ⟨rfl,hB1⟩
theorem zin (g:Gr) (a0:Option Addr) (c0:Nat) (w:World) (_hm:g.Small) (hi:qp w a0 g.r.vs) (hl:g.r.vs.length<=1048576) :
 Calls Tryz.prog 68 #[.agg (g.cells a0 c0)] w fun e w'=>∃ g0,e = .returned (.agg (g.cells (some ⟨g0,0,none⟩) g.r.vs.length))/\w.heap.size<=g0/\w'.heap[g0]?=some (.cells (zbo g.r.vs) 3)/\Below w.heap.size w w':=by
 unfold Gr.cells;go_enter Tryz.func68,Tryz.ntmps68;go_wp2_with fail
 have k0:=zo9 w (.cells #[.int .i64 g.no,.string g.to,.string g.gb,.slice a0 g.r.vs.length c0,.string g.r.kd,.string g.r.tm,.string g.r.px] 109) (.cells #[.int .i64 0,.string ByteArray.empty,.string ByteArray.empty,.slice none 0 0,.string ByteArray.empty,.string ByteArray.empty,.string ByteArray.empty] 132) (.cells #[.int .i64 g.no,.string g.to,.string g.gb,.slice none 0 0,.string ByteArray.empty,.string ByteArray.empty,.string ByteArray.empty] 132);have hB0:=below3' w (.cells #[.int .i64 g.no,.string g.to,.string g.gb,.slice a0 g.r.vs.length c0,.string g.r.kd,.string g.r.tm,.string g.r.px] 109) (.cells #[.int .i64 0,.string ByteArray.empty,.string ByteArray.empty,.slice none 0 0,.string ByteArray.empty,.string ByteArray.empty,.string ByteArray.empty] 132) (.cells #[.int .i64 g.no,.string g.to,.string g.gb,.slice none 0 0,.string ByteArray.empty,.string ByteArray.empty,.string ByteArray.empty] 132);refine (zjx g.r a0 c0 _ (hi.mono (below3' _ _ _ _)) hl).mono ?_;rintro e w1 ⟨bk,rfl,hlo,hhi,hbk,hb⟩;have hlo':w.heap.size+1+1+1<=bk:=by simpa using hlo
 have hR1:=(hb.block _ (by simp)).trans k0.2.1;have hO1:=(hb.block _ (by simp)).trans k0.2.2;have hB1:=hB0.trans (hb.mono (by simp;omega));have HK:Hid (w1.heap[bk]?=some (.cells (zbo g.r.vs) 3)):=hbk;have cR:=fun j=>cell_of_block (o:=j) hR1
 have fR:=fun j=>zi (o:=j) hR1
 have cO:=fun j=>cell_of_block (o:=j) hO1
 have fO:=fun j=>zi (o:=j) hO1
 have hz1:w.heap.size+1+1 < w1.heap.size:=(gES hO1).1;clear hb hbk k0 hB0 hlo hR1 hO1;unfold Rl.cells;go_wp2_with fail
 refine bodyPost_ret (v:=.agg #[.int .i64 g.no,.string g.to,.string g.gb,.slice (some ⟨bk,0,none⟩) g.r.vs.length g.r.vs.length,.string g.r.kd,.string g.r.tm,.string g.r.px]) (by simp [results,Tryz.results68,go_sem,cR]) rfl ⟨bk,rfl,by omega,?_,?_⟩
 ·have h1:bk ≠ w.heap.size+1:=by omega
  have h2:bk ≠ w.heap.size+1+1:=by omega
  exact (zM h1).trans ((zM h1).trans ((zM h1).trans ((zM h1).trans ((zM h1).trans ((zM h1).trans ((zM h1).trans ((zM h2).trans ((zM h2).trans ((zM h2).trans ((zM h2).trans HK.out))))))))))
 ·have h3:w.heap.size<=w.heap.size+1:=by omega
  have h4:w.heap.size<=w.heap.size+1+1:=by omega
  exact ((((((((((hB1.setCell h4 _).setCell h4 _).setCell h4 _).setCell h4 _).setCell h3 _).setCell h3 _).setCell h3 _).setCell h3 _).setCell h3 _).setCell h3 _).setCell h3 _
structure zpj (w:World) (b off:Nat) (x:Gr) (a0:Option Addr) (c0:Nat):Prop where
 small:x.Small
 l0:qp w a0 x.r.vs
 cell:∀ j,j < 7->w.cell? ⟨b,off+j,none⟩=(Gr.cells x a0 c0)[j]?
structure zcl (w:World) (a:Option Addr) (ms:List Gr):Prop where
 len:ms.length<=maxLen
 rows:ms ≠ []->∃ b off,a=some ⟨b,off,none⟩/\b < w.heap.size/\∀ i (h:i < ms.length),∃ a0 c0,zpj w b (off+i * 7) ms[i] a0 c0
theorem zpj.mono {w w':World} {b off:Nat} {x:Gr} {a0:Option Addr} {c0:Nat} (h:zpj w b off x a0 c0) (hb:b < w.heap.size) (hl:Below w.heap.size w w'):zpj w' b off x a0 c0 :=
 ⟨h.small,h.l0.mono hl,fun j hj=>(hl.cell (p:=⟨b,off+j,none⟩) hb).trans (h.cell j hj)⟩
theorem zcl.mono {w w':World} {a:Option Addr} {ms:List Gr} (h:zcl w a ms) (hl:Below w.heap.size w w'):zcl w' a ms :=
 ⟨h.len,fun hne=>by
  obtain ⟨b,off,ha,hb,hr⟩:=h.rows hne;refine ⟨b,off,ha,nLt hb hl.size,fun i hi=>?_⟩;obtain ⟨a0,c0,hf⟩:=hr i hi;exact ⟨a0,c0,hf.mono hb hl⟩⟩
theorem zcl.load {w w':World} {a:Option Addr} {ms:List Gr} (h:zcl w a ms) (hl:Below w.heap.size w w') (i:Nat) (hi:i < ms.length):∃ b off a0 c0,a=some ⟨b,off,none⟩/\b < w.heap.size/\ms[i].Small/\qp w' a0 ms[i].r.vs /\
 w'.cell? ⟨b,off+i * 7,none⟩=some (.int .i64 ms[i].no)/\w'.cell? ⟨b,off+i * 7+1,none⟩=some (.string ms[i].to)/\w'.cell? ⟨b,off+i * 7+2,none⟩=some (.string ms[i].gb)/\w'.cell? ⟨b,off+i * 7+3,none⟩=some (.slice a0 ms[i].r.vs.length c0)/\w'.cell? ⟨b,off+i * 7+4,none⟩=some (.string ms[i].r.kd)/\w'.cell? ⟨b,off+i * 7+5,none⟩=some (.string ms[i].r.tm)/\w'.cell? ⟨b,off+i * 7+6,none⟩=some (.string ms[i].r.px):=by
 obtain ⟨b,off,ha,hb,hr⟩:=h.rows (by rintro rfl;simp at hi);obtain ⟨a0,c0,hf0⟩:=hr i hi;have hf:=hf0.mono hb hl;exact ⟨b,off,a0,c0,ha,hb,hf.small,hf.l0,hf.cell 0 (by omega),hf.cell 1 (by omega),hf.cell 2 (by omega),hf.cell 3 (by omega),hf.cell 4 (by omega),hf.cell 5 (by omega),hf.cell 6 (by omega)⟩
def zc6 (ms:List Gr):Nat:=(ms.map Gr.sz).sum
def zcc (ms:List Gr):Nat:=ms.length+zc6 ms
structure ziS (ms:List Gr):Prop where
 small:∀ i (h:i < ms.length),ms[i].Small/\ms[i].r.vs.length<=maxLen
theorem zcl.smalls {w:World} {a:Option Addr} {ms:List Gr} (h:zcl w a ms):ziS ms :=
 ⟨fun i hi=>by
  obtain ⟨b,off,_,_,hr⟩:=h.rows (by rintro rfl;simp at hi);obtain ⟨a0,c0,hf⟩:=hr i hi;exact ⟨hf.small,hf.l0.len⟩⟩
theorem zpZ {ms:List Gr} {left:Int} (h:(zcc ms:Int)<=left) (hl:left<=1048576):ms.length<=1048576/\∀ i (h:i < ms.length),ms[i].r.vs.length<=1048576:=by
 unfold zcc at h;refine ⟨by omega,fun i hi=>?_⟩;have h1:ms[i].sz<=zc6 ms:=ziu Gr.sz ms i hi;exact Gr.znH (by omega)
theorem zgZ (a:Option Addr) (cap:Nat) (ms:List Gr) (left:Int) (w:World) (hw:zcl w a ms) (h0:0<=left) (h1:left<=1048576) :
 Calls Tryz.prog 21 #[.slice a ms.length cap,.int .i64 left] w fun e w'=>e = .returned (.int .i64 (zL (zcc ms) left))/\Below w.heap.size w w':=by
 have hl:=hw.len;unfold maxLen at hl
 by_cases hfit:(ms.length:Int)<=left
 ·go_enter Tryz.func21,Tryz.ntmps21
  go_wp2_with fail
  go_loopw [1,5] (fun l i wr=>∃ k:Nat,k<=ms.length/\i = .int .i64 k/\0<=left - ms.length - zc6 (ms.take k)/\l = .int .i64 (left - ms.length - zc6 (ms.take k))/\Below w.heap.size w wr) (fun _ i _=>ms.length - (intOf i).toNat)
  case atStart=>exact ⟨0,Nat.zero_le _,rfl,by simp [zc6];omega,by simp [zc6],bRf _ _⟩
  case round =>
   obtain ⟨k,hk,rfl,hpos,rfl,hB⟩:=hrel
   by_cases hlt:k < ms.length
   ·obtain ⟨b,off,a0,c0,rfl,hb,hsm,hl0,d0,d1,d2,d3,d4,d5,d6⟩:=hw.load hB k hlt
    have hbr:b < wr.heap.size:=nLt hb hB.size;have HS:Hid (zc6 (ms.take (k+1))=zc6 (ms.take k)+ms[k].sz):=za5 Gr.sz ms k hlt;have hle:zc6 (ms.take (k+1))<=zc6 ms:=zcQ Gr.sz ms (k+1);have HI:Hid (qp wr a0 ms[k].r.vs):=hl0;clear hw hl0
    by_cases hneg:(ms[k].sz:Int)<=left - ms.length - zc6 (ms.take k)
    ·have HNG:Hid ((ms[k].sz:Int)<=left - ms.length - zc6 (ms.take k)):=hneg
     clear hle;go_wp2_with fail
     refine (zei ms[k] a0 c0 _ _ hsm HI.out hpos (by omega)).mono ?_;rintro e w1 ⟨rfl,hb1⟩;rw [zN HNG.out];have hB1:=hB.trans (hb1.mono hB.size);clear hb1;go_wp2_with fail
     exact ⟨⟨k+1,by omega,by go_num,by rw [HS.out];omega,by rw [HS.out];congr 1;omega,hB1⟩,by simp [intOf];omega⟩
    ·have HF:Hid (zL (zcc ms) left=-1):=zC (by have:=HS.out;unfold zcc;omega)
     have HNG:Hid (¬ (ms[k].sz:Int)<=left - ms.length - zc6 (ms.take k)):=hneg;clear hneg hle;go_wp2_with fail
     refine (zei ms[k] a0 c0 _ _ hsm HI.out hpos (by omega)).mono ?_;rintro e w1 ⟨rfl,hb1⟩;rw [zC (by have:=HNG.out;omega)];have hB1:=hB.trans (hb1.mono hB.size);clear hb1;go_wp2_with fail
     go_ret;exact ⟨zq HF.out.symm,hB1⟩
   ·have HF:Hid (zL (zcc ms) left=left - ms.length - zc6 (ms.take k)):=by
     rw [tOl (by omega)] at hpos ⊢;have e:zL (zcc ms) left=left - zcc ms:=zN (by unfold zcc;omega);unfold Hid;rw [e];unfold zcc;omega
    clear hw
    go_wp2
    go_ret;exact ⟨zq HF.out.symm,hB⟩
 ·have HF:Hid (zL (zcc ms) left=-1):=zC (by unfold zcc;omega)
  clear hw;go_enter Tryz.func21,Tryz.ntmps21
  go_wp2
  go_ret;exact ⟨zq HF.out.symm,bRf _ _⟩
theorem zgQ (a a':Option Addr) (cap cap':Nat) (ms:List Gr) (w:World) (hw:zcl w a ms) (hw':zcl w a' ms) :
 Calls Tryz.prog 41 #[.slice a ms.length cap,.slice a' ms.length cap'] w fun e w'=>e = .returned (.bool true)/\Below w.heap.size w w':=by
 have hl:=hw.len;unfold maxLen at hl;have hnn:((ms.length:Int) != ms.length)=false:=by simp
 go_enter Tryz.func41,Tryz.ntmps41;go_wp2_with fail
 go_loopw [5] (fun i wr=>∃ k:Nat,k<=ms.length/\i = .int .i64 k/\Below w.heap.size w wr) (fun i _=>ms.length - (intOf i).toNat)
 case atStart=>exact ⟨0,Nat.zero_le _,rfl,bRf _ _⟩
 case round =>
  obtain ⟨k,hk,rfl,hB⟩:=hrel
  by_cases hlt:k < ms.length
  ·obtain ⟨b,off,a0,c0,rfl,hb,hsm,hl0,d0,d1,d2,d3,d4,d5,d6⟩:=hw.load hB k hlt
   obtain ⟨b',off',a0',c0',rfl,hb',_,hl0',f0,f1,f2,f3,f4,f5,f6⟩:=hw'.load hB k hlt;have hltI:(k:Int) < (ms.length:Int):=by omega
   clear hw hw';go_wp2_with fail
   go_region_with (go_at_call 79;refine (zie ms[k] a0 c0 a0' c0' _ hsm (by exact hl0.mono ((bRf _ _).drew)) (by exact hl0'.mono ((bRf _ _).drew))).mono ?_;rintro e w1 ⟨rfl,hb1'⟩;have hb1:=(bRf wr.heap.size wr).drew.trans hb1';clear hb1')
   all_goals go_wp2_with fail
   all_goals exact ⟨⟨k+1,by omega,by go_num,hB.trans (hb1.mono hB.size)⟩,by simp [intOf];omega⟩
  ·clear hw hw'
   go_wp2_with fail
   go_ret;exact ⟨rfl,hB⟩
structure jX (lo:Nat) (w:World) (bo:Nat) (ms:List Gr) (k:Nat):Prop where
 low:lo<=bo
 rows:∃ C,w.heap[bo]?=some (.cells C 132)/\C.size=ms.length * 7 /\
  ∀ i (h:i < ms.length),i < k->∃ g0,lo<=g0/\g0 ≠ bo/\w.heap[g0]?=some (.cells (zbo ms[i].r.vs) 3)/\∀ j,j < 7->C[i * 7+j]?=(Gr.cells ms[i] (some ⟨g0,0,none⟩) ms[i].r.vs.length)[j]?
theorem jX.at {lo:Nat} {w:World} {bo:Nat} {ms:List Gr} (h:jX lo w bo ms ms.length) (hs:ziS ms) (hl:ms.length<=maxLen):zcl w (some ⟨bo,0,none⟩) ms:=by
 obtain ⟨C,hC,hsz,hr⟩:=h.rows;refine ⟨hl,fun _=>⟨bo,0,rfl,(gES hC).1,fun i hi=>?_⟩⟩;obtain ⟨g0,_,_,hk0,hc⟩:=hr i hi hi;obtain ⟨s0,s1⟩:=hs.small i hi;refine ⟨some ⟨g0,0,none⟩,ms[i].r.vs.length,s0,zg7 hk0 s1,fun j hj=>?_⟩;rw [cell_of_block hC,Nat.zero_add];exact hc j hj
theorem jX.above {lo:Nat} {w w':World} {bo:Nat} {ms:List Gr} {k:Nat} (h:jX lo w bo ms k) (ha:yQ lo w w'):jX lo w' bo ms k:=by
 obtain ⟨C,hC,hsz,hr⟩:=h.rows;refine ⟨h.low,C,(ha.same _ h.low (gES hC).1).trans hC,hsz,fun i hi hk=>?_⟩;obtain ⟨g0,p0,q0,r0,hc⟩:=hr i hi hk;exact ⟨g0,p0,q0,(ha.same _ p0 (gES r0).1).trans r0,hc⟩
theorem jX.later {lo:Nat} {w w':World} {bo:Nat} {ms:List Gr} {k:Nat} (h:jX lo w bo ms k) (hb:Below w.heap.size w w'):jX lo w' bo ms k:=h.above (yQ.below hb)
theorem jX.weaken {lo lo':Nat} {w:World} {bo:Nat} {ms:List Gr} {k:Nat} (h:jX lo w bo ms k) (hl:lo'<=lo):jX lo' w bo ms k:=by
 obtain ⟨C,hC,hsz,hr⟩:=h.rows;refine ⟨Nat.le_trans hl h.low,C,hC,hsz,fun i hi hk=>?_⟩;obtain ⟨g0,p0,q0,r0,hc⟩:=hr i hi hk;exact ⟨g0,Nat.le_trans hl p0,q0,r0,hc⟩
def zl8 (w:World) (b o:Nat) (v0 v1 v2 v3 v4 v5 v6:Value):World:=(((((((w.setCell ⟨b,o,none⟩ v0).setCell ⟨b,o+1,none⟩ v1).setCell ⟨b,o+2,none⟩ v2).setCell ⟨b,o+3,none⟩ v3).setCell ⟨b,o+4,none⟩ v4).setCell ⟨b,o+5,none⟩ v5).setCell ⟨b,o+6,none⟩ v6)
def ziR (C:Array Value) (o:Nat) (v0 v1 v2 v3 v4 v5 v6:Value):Array Value:=(((((((C.setIfInBounds (o) v0).setIfInBounds (o+1) v1).setIfInBounds (o+2) v2).setIfInBounds (o+3) v3).setIfInBounds (o+4) v4).setIfInBounds (o+5) v5).setIfInBounds (o+6) v6)
theorem zne {w:World} {b o:Nat} {C:Array Value} {t:TypeId} (h:w.heap[b]?=some (.cells C t)) (v0 v1 v2 v3 v4 v5 v6:Value):(zl8 w b o v0 v1 v2 v3 v4 v5 v6).heap[b]?=some (.cells (ziR C o v0 v1 v2 v3 v4 v5 v6) t) :=
 zk (zk (zk (zk (zk (zk (zk h v0) v1) v2) v3) v4) v5) v6
theorem zmC {B:Nat} {a w:World} (h:Below B a w) {b:Nat} (hb:B<=b) (o:Nat) (v0 v1 v2 v3 v4 v5 v6:Value):Below B a (zl8 w b o v0 v1 v2 v3 v4 v5 v6) :=
 ((((((h.setCell hb v0).setCell hb v1).setCell hb v2).setCell hb v3).setCell hb v4).setCell hb v5).setCell hb v6
theorem zhK (w:World) (b o:Nat) (v0 v1 v2 v3 v4 v5 v6:Value) {b':Nat} (h:b' ≠ b):(zl8 w b o v0 v1 v2 v3 v4 v5 v6).heap[b']?=w.heap[b']?:=by
 unfold zl8
 iterate 7 rw [zM h]
theorem zoe (C:Array Value) (o:Nat) (v0 v1 v2 v3 v4 v5 v6:Value):(ziR C o v0 v1 v2 v3 v4 v5 v6).size=C.size:=by simp [ziR]
theorem zoT (C:Array Value) (o i:Nat) (v0 v1 v2 v3 v4 v5 v6:Value) (h:i < o \/ o+7<=i):(ziR C o v0 v1 v2 v3 v4 v5 v6)[i]?=C[i]?:=by
 unfold ziR
 iterate 7 rw [Array.getElem?_setIfInBounds,if_neg (by omega)]
theorem zpR (C:Array Value) (o j:Nat) (v0 v1 v2 v3 v4 v5 v6:Value) (hj:j < 7) (ho:o+7<=C.size):(ziR C o v0 v1 v2 v3 v4 v5 v6)[o+j]?=(#[v0,v1,v2,v3,v4,v5,v6]:Array Value)[j]?:=by
 have hc:j=0 \/ j=1 \/ j=2 \/ j=3 \/ j=4 \/ j=5 \/ j=6:=by omega
 unfold ziR
 rcases hc with h | h | h | h | h | h | h <;> subst h <;> simp [Array.getElem?_setIfInBounds] <;> omega
theorem jX.put {lo:Nat} {w:World} {bo:Nat} {ms:List Gr} {k:Nat} (h:jX lo w bo ms k) (hk:k < ms.length) (g0:Nat) (p0:lo<=g0) (q0:g0 ≠ bo) (r0:w.heap[g0]?=some (.cells (zbo ms[k].r.vs) 3)) :
 jX lo (zl8 w bo (k * 7) (.int .i64 ms[k].no) (.string ms[k].to) (.string ms[k].gb) (.slice (some ⟨g0,0,none⟩) ms[k].r.vs.length ms[k].r.vs.length) (.string ms[k].r.kd) (.string ms[k].r.tm) (.string ms[k].r.px)) bo ms (k+1):=by
 obtain ⟨C,hC,hsz,hr⟩:=h.rows;refine ⟨h.low,_,zne hC _ _ _ _ _ _ _,by rw [zoe];exact hsz,fun i hi hik=>?_⟩
 rcases Nat.lt_or_ge i k with hlt | hge
 ·obtain ⟨g0',x0,y0,z0,hc⟩:=hr i hi hlt
  refine ⟨g0',x0,y0,(by rw [zhK _ _ _ _ _ _ _ _ _ _ y0];exact z0),fun j hj=>?_⟩;rw [zoT _ _ _ _ _ _ _ _ _ _ (by omega)];exact hc j hj
 ·have e:i=k:=by omega
  subst e;refine ⟨g0,p0,q0,(by rw [zhK _ _ _ _ _ _ _ _ _ _ q0];exact r0),fun j hj=>?_⟩;rw [zpR _ _ _ _ _ _ _ _ _ _ hj (by omega)]
  rfl
def zpA:Array Value:=#[.int .i64 0,.string ByteArray.empty,.string ByteArray.empty,.slice none 0 0,.string ByteArray.empty,.string ByteArray.empty,.string ByteArray.empty]
def zoh (n:Nat):Array Value:=madeCells zpA (n * 7)
theorem zgS (a:Option Addr) (cap:Nat) (ms:List Gr) (w:World) (hw:zcl w a ms) (hl:ms.length<=1048576) (hls:∀ i (h:i < ms.length),ms[i].r.vs.length<=1048576) :
 Calls Tryz.prog 32 #[.slice a ms.length cap] w fun e w'=>e = .returned (.slice (some ⟨w.heap.size,0,none⟩) ms.length ms.length)/\jX w.heap.size w' w.heap.size ms ms.length/\Below w.heap.size w w':=by
 have hmk:∀ w:World,(Instr.makeSlice 44 (.int .i64 ms.length) (.int .i64 ms.length)).run Tryz.prog w = .ok (.slice (some ⟨w.heap.size,0,none⟩) ms.length ms.length) (w.alloc (.cells (zoh ms.length) 132)) :=
  fun w=>jK (P:=Tryz.prog) 44 132 (.agg zpA) 7 112 Tryz.underlying44 (by kernel_rfl) ms.length (by omega) (by omega) w
 go_enter Tryz.func32,Tryz.ntmps32;go_wp2_with fail
 clear hmk
 go_loopw [4] (fun i wr=>∃ k:Nat,k<=ms.length/\i = .int .i64 k/\Hid (jX w.heap.size wr w.heap.size ms k)/\Below w.heap.size w wr) (fun i _=>ms.length - (intOf i).toNat)
 case atStart=>exact ⟨0,Nat.zero_le _,rfl,⟨Nat.le_refl _,zoh ms.length,(MapKept.heap_alloc w _).1,size_madeCells _ _,fun i _ h=>absurd h (by omega)⟩,bAl _ _⟩
 case round =>
  obtain ⟨k,hk,rfl,HOW,hB⟩:=hrel
  by_cases hlt:k < ms.length
  ·obtain ⟨b,off,a0,c0,rfl,hb,hsm,hl0,d0,d1,d2,d3,d4,d5,d6⟩:=hw.load hB k hlt
   have HLS:Hid (ms[k].r.vs.length<=1048576):=hls k hlt;have hltI:(k:Int) < (ms.length:Int):=by omega
   clear hw;go_wp2_with fail
   refine (zin ms[k] a0 c0 _ hsm hl0 HLS.out).mono ?_;rintro e w1 ⟨g0,rfl,p0,r0,hb1⟩;have hB1:=hB.trans (hb1.mono hB.size)
   have hbo:w.heap.size < wr.heap.size:=by
    obtain ⟨C',hC',_⟩:=HOW.out.rows;exact (gES hC').1
   have HP:Hid (jX w.heap.size w1 w.heap.size ms k):=HOW.out.later hb1;obtain ⟨C,hC,hsz,_⟩:=HP.out.rows;have hfz:∀ o,w1.frozen? ⟨w.heap.size,o,none⟩=false:=fun o=>zi hC
   have hex:∀ o,o < ms.length * 7->∃ v,w1.cell? ⟨w.heap.size,o,none⟩=some v:=fun o ho=>⟨C[o]'(by omega),by rw [cell_of_block hC];exact Array.getElem?_eq_getElem (by omega)⟩
   obtain ⟨v0,hv0⟩:=hex (k * 7) (by omega);obtain ⟨v1,hv1⟩:=hex (k * 7+1) (by omega);obtain ⟨v2,hv2⟩:=hex (k * 7+2) (by omega);obtain ⟨v3,hv3⟩:=hex (k * 7+3) (by omega);obtain ⟨v4,hv4⟩:=hex (k * 7+4) (by omega);obtain ⟨v5,hv5⟩:=hex (k * 7+5) (by omega);obtain ⟨v6,hv6⟩:=hex (k * 7+6) (by omega);have HR:Hid (wr.heap.size<=g0/\w1.heap[g0]?=some (.cells (zbo ms[k].r.vs) 3)):=⟨p0,r0⟩
   clear hex hC hsz d0 d1 d2 d3 d4 d5 d6 p0 r0 hl0;unfold Gr.cells;go_wp2_with fail
   obtain ⟨p0,r0⟩:=HR.out;exact ⟨⟨k+1,by omega,by go_num,HP.out.put hlt g0 (by omega) (by omega) r0,zmC hB1 (Nat.le_refl _) _ _ _ _ _ _ _ _⟩,by simp [intOf];omega⟩
  ·have HF:Hid (jX w.heap.size wr w.heap.size ms ms.length):=by
    have e:k=ms.length:=by omega
    subst e;exact HOW.out
   clear hw HOW;go_wp2_with fail
   go_ret;exact ⟨rfl,HF.out,hB⟩
end Go.Proofs.YtghnakljnhnenaaGreat
