import Derived.Test.YtaickbhifenbjaaGreatM06
import Derived.Deep.RegionHeld3
import Derived.Test.YtaickbhifenbjaaGreatM05
import Derived.Test.YtaickbhifenbjaaGreatM02
set_option maxHeartbeats 2000000
namespace Go.Proofs.YtaickbhifenbjaaGreat
open Go.RowKit
structure Pu where
 dr:ByteArray
 tm:ByteArray
 rs:ByteArray
 am:Int
 un:Int
def Pu.cells (m:Pu):Array Value:=#[.string m.dr,.string m.tm,.string m.rs,.int .i64 m.am,.int .i64 m.un]
structure Pu.Small (m:Pu):Prop where
 dr:m.dr.size<=maxLen
 tm:m.tm.size<=maxLen
 rs:m.rs.size<=maxLen
structure zcF (w:World) (a:Option Addr) (ms:List Pu):Prop where
 len:ms.length<=maxLen
 small:∀ i (h:i < ms.length),ms[i].Small
 rows:ms ≠ []->∃ b off,a=some ⟨b,off,none⟩/\b < w.heap.size/\∀ i (h:i < ms.length),∀ j,j < 5->w.cell? ⟨b,off+i * 5+j,none⟩=ms[i].cells[j]?
theorem zcF.mono {w w':World} {a:Option Addr} {ms:List Pu} (h:zcF w a ms) (hl:Below w.heap.size w w'):zcF w' a ms :=
 ⟨h.len,h.small,fun hne=>by
  obtain ⟨b,off,ha,hb,hr⟩:=h.rows hne
  exact ⟨b,off,ha,Nat.lt_of_lt_of_le hb hl.size,fun i hi j hj=>(hl.cell (p:=⟨b,off+i * 5+j,none⟩) hb).trans (hr i hi j hj)⟩⟩
theorem zcF.load {w w':World} {a:Option Addr} {ms:List Pu} (h:zcF w a ms) (hl:Below w.heap.size w w') (i:Nat) (hi:i < ms.length):∃ b off,a=some ⟨b,off,none⟩/\b < w.heap.size /\
 w'.cell? ⟨b,off+i * 5,none⟩=some (.string ms[i].dr)/\w'.cell? ⟨b,off+i * 5+1,none⟩=some (.string ms[i].tm)/\w'.cell? ⟨b,off+i * 5+2,none⟩=some (.string ms[i].rs)/\w'.cell? ⟨b,off+i * 5+3,none⟩=some (.int .i64 ms[i].am)/\w'.cell? ⟨b,off+i * 5+4,none⟩=some (.int .i64 ms[i].un):=by
 obtain ⟨b,off,ha,hb,hr⟩:=h.rows (by rintro rfl;simp at hi)
 have hc:∀ j,j < 5->w'.cell? ⟨b,off+i * 5+j,none⟩=ms[i].cells[j]?:=fun j hj=>(hl.cell (p:=⟨b,off+i * 5+j,none⟩) hb).trans (hr i hi j hj)
 exact ⟨b,off,ha,hb,hc 0 (by omega),hc 1 (by omega),hc 2 (by omega),hc 3 (by omega),hc 4 (by omega)⟩
def Pu.sz (m:Pu):Nat:=m.dr.size+m.tm.size+m.rs.size
def zc8 (ms:List Pu):Nat:=(ms.map Pu.sz).sum
def zcC (ms:List Pu):Nat:=ms.length+zc8 ms
theorem zdR (m:Pu) (left:Int) (w:World) (hm:m.Small) (h0:0<=left) (h1:left<=1048576) :
 Calls Tryz.prog 45 #[.agg m.cells,.int .i64 left] w fun e w'=>e = .returned (.int .i64 (zL m.sz left))/\Below w.heap.size w w':=by
 have k0:=hm.dr
 have k1:=hm.tm
 have k2:=hm.rs
 unfold maxLen at k0 k1 k2
 unfold Pu.cells
 have hB:∀ ob,Below w.heap.size w (w.alloc ob):=fun ob=>(Below.refl _ _).alloc (Nat.le_refl _) _
 by_cases hf:(m.sz:Int)<=left
 ·have HF:Hid (zL m.sz left=left - m.dr.size - m.tm.size - m.rs.size):=by
   unfold Hid;rw [zM hf];unfold Pu.sz;omega
  unfold Pu.sz at hf
  go_enter Tryz.func45,Tryz.ntmps45
  go_wp2_with fail
  go_ret
  exact ⟨zm HF.out.symm,hB _⟩
 ·have HF:Hid (zL m.sz left=-1):=zD hf
  have HN:Hid (¬ ((m.dr.size+m.tm.size+m.rs.size:Nat):Int)<=left):=hf
  clear hf
  go_enter Tryz.func45,Tryz.ntmps45
  go_wp2_with fail
  all_goals go_ret
  all_goals first | exact ⟨zm HF.out.symm,hB _⟩ | (exfalso;have:=HN.out;simp at *;omega)
theorem zho (m:Pu) (left:Int) (w:World) (hm:m.Small) (h0:0<=left) (h1:left<=1048576) (h:(m.sz:Int)<=left) :
 Calls Tryz.prog 45 #[.agg m.cells,.int .i64 left] w fun e w'=>e = .returned (.int .i64 (left - m.sz))/\Below w.heap.size w w':=by
 refine (zdR m left w hm h0 h1).mono ?_
 rintro e w' ⟨rfl,hb⟩
 exact ⟨zm (zM h),hb⟩
theorem zib (m:Pu) (left:Int) (w:World) (hm:m.Small) (h0:0<=left) (h1:left<=1048576) (h:¬ (m.sz:Int)<=left) :
 Calls Tryz.prog 45 #[.agg m.cells,.int .i64 left] w fun e w'=>e = .returned (.int .i64 (-1))/\Below w.heap.size w w':=by
 refine (zdR m left w hm h0 h1).mono ?_
 rintro e w' ⟨rfl,hb⟩
 exact ⟨zm (zD h),hb⟩
theorem zgw (a:Option Addr) (cap:Nat) (ms:List Pu) (left:Int) (w:World) (hw:zcF w a ms) (h0:0<=left) (h1:left<=1048576) :
 Calls Tryz.prog 20 #[.slice a ms.length cap,.int .i64 left] w fun e w'=>e = .returned (.int .i64 (zL (zcC ms) left))/\Below w.heap.size w w':=by
 have hl:=hw.len
 unfold maxLen at hl
 by_cases hfit:(ms.length:Int)<=left
 ·go_enter Tryz.func20,Tryz.ntmps20
  go_wp2_with fail
  go_loopw [1,5] (fun l i wr=>∃ k:Nat,k<=ms.length/\i = .int .i64 k/\0<=left - ms.length - zc8 (ms.take k)/\l = .int .i64 (left - ms.length - zc8 (ms.take k))/\Below w.heap.size w wr) (fun _ i _=>ms.length - (intOf i).toNat)
  case atStart=>exact ⟨0,Nat.zero_le _,rfl,by simp [zc8];omega,by simp [zc8],Below.refl _ _⟩
  case round =>
   obtain ⟨k,hk,rfl,hpos,rfl,hB⟩:=hrel
   by_cases hlt:k < ms.length
   ·obtain ⟨b,off,rfl,hb,c0,c1,c2,c3,c4⟩:=hw.load hB k hlt
    have hsm:=hw.small k hlt
    have HS:Hid (zc8 (ms.take (k+1))=zc8 (ms.take k)+ms[k].sz):=zaS Pu.sz ms k hlt
    have hle:zc8 (ms.take (k+1))<=zc8 ms:=zcm Pu.sz ms (k+1)
    clear hw
    by_cases hneg:(ms[k].sz:Int)<=left - ms.length - zc8 (ms.take k)
    ·have HNG:Hid ((ms[k].sz:Int)<=left - ms.length - zc8 (ms.take k)):=hneg
     clear hle
     go_wp2_with fail
     refine (zho _ _ _ hsm hpos (by omega) HNG.out).mono ?_
     rintro e w1 ⟨rfl,hb1⟩
     have hB1:=hB.trans (hb1.mono hB.size)
     clear hb1
     go_wp2_with fail
     exact ⟨⟨k+1,by omega,by go_num,by rw [HS.out];omega,by rw [HS.out];congr 1;omega,hB1⟩,by simp [intOf];omega⟩
    ·have HF:Hid (zL (zcC ms) left=-1):=zD (by have:=HS.out;unfold zcC;omega)
     have HNG:Hid (¬ (ms[k].sz:Int)<=left - ms.length - zc8 (ms.take k)):=hneg
     clear hneg hle
     go_wp2_with fail
     refine (zib _ _ _ hsm hpos (by omega) (by have:=HNG.out;omega)).mono ?_
     rintro e w1 ⟨rfl,hb1⟩
     have hB1:=hB.trans (hb1.mono hB.size)
     clear hb1
     go_wp2_with fail
     go_ret
     exact ⟨zm HF.out.symm,hB1⟩
   ·have HF:Hid (zL (zcC ms) left=left - ms.length - zc8 (ms.take k)):=by
     rw [List.take_of_length_le (by omega)] at hpos ⊢
     have e:zL (zcC ms) left=left - zcC ms:=zM (by unfold zcC;omega)
     unfold Hid;rw [e];unfold zcC;omega
    clear hw
    go_wp2
    go_ret
    exact ⟨zm HF.out.symm,hB⟩
 ·have HF:Hid (zL (zcC ms) left=-1):=zD (by unfold zcC;omega)
  clear hw
  go_enter Tryz.func20,Tryz.ntmps20
  go_wp2
  go_ret
  exact ⟨zm HF.out.symm,Below.refl _ _⟩
theorem zhh (m:Pu) (w:World):Calls Tryz.prog 73 #[.agg m.cells,.agg m.cells] w fun e w'=>e = .returned (.bool true)/\Below w.heap.size w w':=by
 unfold Pu.cells
 have hn3:(m.am != m.am)=false:=by simp
 have hn4:(m.un != m.un)=false:=by simp
 go_enter Tryz.func73,Tryz.ntmps73
 go_wp2_with fail
 go_ret
 exact ⟨rfl,zC _ _ _⟩
theorem zf3 (a a':Option Addr) (cap cap':Nat) (ms:List Pu) (w:World) (hw:zcF w a ms) (hw':zcF w a' ms) :
 Calls Tryz.prog 38 #[.slice a ms.length cap,.slice a' ms.length cap'] w fun e w'=>e = .returned (.bool true)/\Below w.heap.size w w':=by
 have hl:=hw.len
 unfold maxLen at hl
 have hnn:((ms.length:Int) != ms.length)=false:=by simp
 go_enter Tryz.func38,Tryz.ntmps38
 go_wp2_with fail
 go_loopw [5] (fun i wr=>∃ k:Nat,k<=ms.length/\i = .int .i64 k/\Below w.heap.size w wr) (fun i _=>ms.length - (intOf i).toNat)
 case atStart=>exact ⟨0,Nat.zero_le _,rfl,Below.refl _ _⟩
 case round =>
  obtain ⟨k,hk,rfl,hB⟩:=hrel
  by_cases hlt:k < ms.length
  ·obtain ⟨b,off,rfl,hb,c0,c1,c2,c3,c4⟩:=hw.load hB k hlt
   obtain ⟨b',off',rfl,hb',d0,d1,d2,d3,d4⟩:=hw'.load hB k hlt
   have hltI:(k:Int) < (ms.length:Int):=by omega
   clear hw hw'
   go_wp2_with fail
   go_region_with (go_at_call 73;refine (zhh ms[k] _).mono ?_;rintro e w1 ⟨rfl,hb1'⟩;have hb1:=(Below.refl wr.heap.size wr).drew.trans hb1';clear hb1')
   all_goals go_wp2_with fail
   all_goals exact ⟨⟨k+1,by omega,by go_num,hB.trans (hb1.mono hB.size)⟩,by simp [intOf];omega⟩
  ·clear hw hw'
   go_wp2_with fail
   go_ret
   exact ⟨rfl,hB⟩
structure j3 (lo:Nat) (w:World) (bo:Nat) (ms:List Pu) (k:Nat):Prop where
 low:lo<=bo
 rows:∃ C,w.heap[bo]?=some (.cells C 128)/\C.size=ms.length * 5/\∀ i (h:i < ms.length),i < k->∀ j,j < 5->C[i * 5+j]?=ms[i].cells[j]?
theorem j3.at {lo:Nat} {w:World} {bo:Nat} {ms:List Pu} (h:j3 lo w bo ms ms.length) (hs:∀ i (h:i < ms.length),ms[i].Small) (hl:ms.length<=maxLen):zcF w (some ⟨bo,0,none⟩) ms:=by
 obtain ⟨C,hC,hsz,hr⟩:=h.rows
 refine ⟨hl,hs,fun _=>⟨bo,0,rfl,(Array.getElem?_eq_some_iff.1 hC).1,fun i hi j hj=>?_⟩⟩
 rw [cell_of_block hC,Nat.zero_add]
 exact hr i hi hi j hj
theorem j3.later {lo:Nat} {w w':World} {bo:Nat} {ms:List Pu} {k:Nat} (h:j3 lo w bo ms k) (hb:Below w.heap.size w w'):j3 lo w' bo ms k:=by
 obtain ⟨C,hC,hsz,hr⟩:=h.rows
 exact ⟨h.low,C,(hb.block bo (Array.getElem?_eq_some_iff.1 hC).1).trans hC,hsz,hr⟩
theorem j3.above {lo:Nat} {w w':World} {bo:Nat} {ms:List Pu} {k:Nat} (h:j3 lo w bo ms k) (ha:yS lo w w'):j3 lo w' bo ms k:=by
 obtain ⟨C,hC,hr⟩:=h.rows
 exact ⟨h.low,C,(ha.same _ h.low (Array.getElem?_eq_some_iff.1 hC).1).trans hC,hr⟩
theorem j3.weaken {lo lo':Nat} {w:World} {bo:Nat} {ms:List Pu} {k:Nat} (h:j3 lo w bo ms k) (hl:lo'<=lo):j3 lo' w bo ms k:=⟨Nat.le_trans hl h.low,h.rows⟩
def zow (w:World) (b o:Nat) (v0 v1 v2 v3 v4:Value):World:=(((((w.setCell ⟨b,o,none⟩ v0).setCell ⟨b,o+1,none⟩ v1).setCell ⟨b,o+2,none⟩ v2).setCell ⟨b,o+3,none⟩ v3).setCell ⟨b,o+4,none⟩ v4)
def zii (C:Array Value) (o:Nat) (v0 v1 v2 v3 v4:Value):Array Value:=(((((C.setIfInBounds (o) v0).setIfInBounds (o+1) v1).setIfInBounds (o+2) v2).setIfInBounds (o+3) v3).setIfInBounds (o+4) v4)
theorem zk8 {w:World} {b o:Nat} {C:Array Value} {t:TypeId} (h:w.heap[b]?=some (.cells C t)) (v0 v1 v2 v3 v4:Value):(zow w b o v0 v1 v2 v3 v4).heap[b]?=some (.cells (zii C o v0 v1 v2 v3 v4) t) :=
 zi (zi (zi (zi (zi h v0) v1) v2) v3) v4
theorem zls {B:Nat} {a w:World} (h:Below B a w) {b:Nat} (hb:B<=b) (o:Nat) (v0 v1 v2 v3 v4:Value):Below B a (zow w b o v0 v1 v2 v3 v4) :=
 ((((h.setCell hb v0).setCell hb v1).setCell hb v2).setCell hb v3).setCell hb v4
theorem zmk (C:Array Value) (o:Nat) (v0 v1 v2 v3 v4:Value):(zii C o v0 v1 v2 v3 v4).size=C.size:=by simp [zii]
theorem znh (C:Array Value) (o i:Nat) (v0 v1 v2 v3 v4:Value) (h:i < o \/ o+5<=i):(zii C o v0 v1 v2 v3 v4)[i]?=C[i]?:=by
 unfold zii
 iterate 5 rw [Array.getElem?_setIfInBounds,if_neg (by omega)]
theorem zod (C:Array Value) (o j:Nat) (v0 v1 v2 v3 v4:Value) (hj:j < 5) (ho:o+5<=C.size):(zii C o v0 v1 v2 v3 v4)[o+j]?=(#[v0,v1,v2,v3,v4]:Array Value)[j]?:=by
 have hc:j=0 \/ j=1 \/ j=2 \/ j=3 \/ j=4:=by omega
 unfold zii
 rcases hc with h | h | h | h | h <;> subst h <;> simp [Array.getElem?_setIfInBounds] <;> omega
theorem j3.put {lo:Nat} {w:World} {bo:Nat} {ms:List Pu} {k:Nat} (h:j3 lo w bo ms k) (hk:k < ms.length) :
 j3 lo (zow w bo (k * 5) (.string ms[k].dr) (.string ms[k].tm) (.string ms[k].rs) (.int .i64 ms[k].am) (.int .i64 ms[k].un)) bo ms (k+1):=by
 obtain ⟨C,hC,hsz,hr⟩:=h.rows
 refine ⟨h.low,_,zk8 hC _ _ _ _ _,by rw [zmk];exact hsz,fun i hi hik j hj=>?_⟩
 rcases Nat.lt_or_ge i k with hlt | hge
 ·rw [znh _ _ _ _ _ _ _ _ (by omega)]
  exact hr i hi hlt j hj
 ·have e:i=k:=by omega
  subst e
  rw [zod _ _ _ _ _ _ _ _ hj (by omega)]
  rfl
theorem zht (m:Pu) (w:World) :
 Calls Tryz.prog 59 #[.agg m.cells] w fun e w'=>e = .returned (.agg m.cells)/\Below w.heap.size w w':=by
 unfold Pu.cells
 go_enter Tryz.func59,Tryz.ntmps59
 go_wp2_with fail
 refine bodyPost_ret (v:=.agg #[.string m.dr,.string m.tm,.string m.rs,.int .i64 m.am,.int .i64 m.un]) (by simp [results,Tryz.results59,go_sem]) rfl ⟨rfl,?_⟩
 exact ((((Below.refl _ _).alloc (Nat.le_refl _) _).alloc (by simp) _).alloc (by simp;omega) _)
def znW:Array Value:=#[.string ByteArray.empty,.string ByteArray.empty,.string ByteArray.empty,.int .i64 0,.int .i64 0]
def zm6 (n:Nat):Array Value:=madeCells znW (n * 5)
theorem zgu (a:Option Addr) (cap:Nat) (ms:List Pu) (w:World) (hw:zcF w a ms) (hl:ms.length<=1048576) :
 Calls Tryz.prog 29 #[.slice a ms.length cap] w fun e w'=>e = .returned (.slice (some ⟨w.heap.size,0,none⟩) ms.length ms.length)/\j3 w.heap.size w' w.heap.size ms ms.length/\Below w.heap.size w w':=by
 have hmk:∀ w:World,(Instr.makeSlice 48 (.int .i64 ms.length) (.int .i64 ms.length)).run Tryz.prog w = .ok (.slice (some ⟨w.heap.size,0,none⟩) ms.length ms.length) (w.alloc (.cells (zm6 ms.length) 128)) :=
  fun w=>jF (P:=Tryz.prog) 48 128 (.agg znW) 5 64 Tryz.underlying48 (by kernel_rfl) ms.length (by omega) (by omega) w
 go_enter Tryz.func29,Tryz.ntmps29
 go_wp2_with fail
 clear hmk
 go_loopw [4] (fun i wr=>∃ k:Nat,k<=ms.length/\i = .int .i64 k/\j3 w.heap.size wr w.heap.size ms k/\Below w.heap.size w wr) (fun i _=>ms.length - (intOf i).toNat)
 case atStart=>exact ⟨0,Nat.zero_le _,rfl,⟨Nat.le_refl _,zm6 ms.length,(MapKept.heap_alloc w _).1,size_madeCells _ _,fun i _ h=>absurd h (by omega)⟩,(Below.refl _ _).alloc (Nat.le_refl _) _⟩
 case round =>
  obtain ⟨k,hk,rfl,hown,hB⟩:=hrel
  by_cases hlt:k < ms.length
  ·obtain ⟨b,off,rfl,hb,c0,c1,c2,c3,c4⟩:=hw.load hB k hlt
   have hltI:(k:Int) < (ms.length:Int):=by omega
   clear hw
   go_wp2_with fail
   refine (zht ms[k] _).mono ?_
   rintro e w1 ⟨rfl,hb1⟩
   have hB1:=hB.trans (hb1.mono hB.size)
   have hown1:=hown.later hb1
   have hbo:w.heap.size < wr.heap.size:=by
    obtain ⟨C',hC',_⟩:=hown.rows
    exact (Array.getElem?_eq_some_iff.1 hC').1
   obtain ⟨C,hC,hsz,_⟩:=hown1.rows
   have hfz:∀ o,w1.frozen? ⟨w.heap.size,o,none⟩=false:=fun o=>zn hC
   have hex:∀ o,o < ms.length * 5->∃ v,w1.cell? ⟨w.heap.size,o,none⟩=some v:=fun o ho=>⟨C[o]'(by omega),by rw [cell_of_block hC];exact Array.getElem?_eq_getElem (by omega)⟩
   obtain ⟨v0,hv0⟩:=hex (k * 5) (by omega)
   obtain ⟨v1,hv1⟩:=hex (k * 5+1) (by omega)
   obtain ⟨v2,hv2⟩:=hex (k * 5+2) (by omega)
   obtain ⟨v3,hv3⟩:=hex (k * 5+3) (by omega)
   obtain ⟨v4,hv4⟩:=hex (k * 5+4) (by omega)
   have HP:Hid (j3 w.heap.size w1 w.heap.size ms k):=hown1
   clear hex hC hsz c0 c1 c2 c3 c4 hown hown1
   unfold Pu.cells
   go_wp2_with fail
   exact ⟨⟨k+1,by omega,by go_num,HP.out.put hlt,zls hB1 (Nat.le_refl _) _ _ _ _ _ _⟩,by simp [intOf];omega⟩
  ·have HF:Hid (j3 w.heap.size wr w.heap.size ms ms.length):=by
    have e:k=ms.length:=by omega
    subst e;exact hown
   clear hw hown
   go_wp2_with fail
   go_ret
   exact ⟨rfl,HF.out,hB⟩
theorem zeS (a:Option Addr) (cap:Nat) (vs:List Int) (left:Int) (w:World) (hl:vs.length<=maxLen) (h0:0<=left) (h1:left<=1048576) :
 Calls Tryz.prog 114 #[.slice a vs.length cap,.int .i64 left] w fun e w'=>e = .returned (.int .i64 (zL vs.length left))/\w'=w:=by
 unfold maxLen at hl
 by_cases hf:(vs.length:Int)<=left
 ·have HF:Hid (zL vs.length left=left - vs.length):=zM hf
  go_enter Tryz.func114,Tryz.ntmps114
  go_wp2_with fail
  go_ret
  exact ⟨zm HF.out.symm,rfl⟩
 ·have HF:Hid (zL vs.length left=-1):=zD hf
  go_enter Tryz.func114,Tryz.ntmps114
  go_wp2_with fail
  go_ret
  exact ⟨zm HF.out.symm,rfl⟩
theorem zei (r:Rl) (a:Option Addr) (cap:Nat) (left:Int) (w:World) (hm:r.Small) (hl:r.vs.length<=maxLen) (h0:0<=left) (h1:left<=1048576) :
 Calls Tryz.prog 76 #[.agg (r.cells a cap),.int .i64 left] w fun e w'=>e = .returned (.int .i64 (zL r.sz left))/\Below w.heap.size w w':=by
 have k1:=hm.kd
 have k2:=hm.tm
 have k3:=hm.px
 have k4:=hl
 unfold maxLen at k1 k2 k3 k4
 unfold Rl.cells
 have hB:∀ ob,Below w.heap.size w (w.alloc ob):=fun ob=>(Below.refl _ _).alloc (Nat.le_refl _) _
 by_cases hv:(r.vs.length:Int)<=left
 rotate_left
 ·have HF:Hid (zL r.sz left=-1):=zD (by unfold Rl.sz;omega)
  go_enter Tryz.func76,Tryz.ntmps76
  go_wp2_with fail
  refine (zeS _ _ _ _ _ hl h0 h1).mono ?_
  rintro e w1 ⟨rfl,rfl⟩
  rw [zD (by omega)]
  go_wp2_with fail
  go_ret
  exact ⟨zm HF.out.symm,hB _⟩
 by_cases hf:(r.sz:Int)<=left
 ·have HF:Hid (zL r.sz left=left - r.vs.length - r.kd.size - r.tm.size - r.px.size):=by
   unfold Hid;rw [zM hf];unfold Rl.sz;omega
  unfold Rl.sz at hf
  go_enter Tryz.func76,Tryz.ntmps76
  go_wp2_with fail
  refine (zeS _ _ _ _ _ hl h0 h1).mono ?_
  rintro e w1 ⟨rfl,rfl⟩
  rw [zM hv]
  go_wp2_with fail
  go_ret
  exact ⟨zm HF.out.symm,hB _⟩
 ·have HF:Hid (zL r.sz left=-1):=zD hf
  have HN:Hid (¬ ((r.vs.length+r.kd.size+r.tm.size+r.px.size:Nat):Int)<=left):=hf
  clear hf
  go_enter Tryz.func76,Tryz.ntmps76
  go_wp2_with fail
  refine (zeS _ _ _ _ _ hl h0 h1).mono ?_
  rintro e w1 ⟨rfl,rfl⟩
  rw [zM hv]
  go_wp2_with fail
  all_goals go_ret
  all_goals first | exact ⟨zm HF.out.symm,hB _⟩ | (exfalso;have:=HN.out;simp at *;omega)
theorem zmv (a:Option Addr) (cap:Nat) (vs:List Int) (w:World) (hw:yJ w a vs) (hl:vs.length<=1048576) :
 Calls Tryz.prog 128 #[.slice a vs.length cap] w fun e w'=>e = .returned (.slice (some ⟨w.heap.size,0,none⟩) vs.length vs.length)/\w'=w.alloc (.cells (zbY vs) 3):=by
 have hmk:∀ w:World,(Instr.makeSlice 95 (.int .i64 vs.length) (.int .i64 vs.length)).run Tryz.prog w = .ok (.slice (some ⟨w.heap.size,0,none⟩) vs.length vs.length) (w.alloc (.cells (intCells vs 0) 3)):=by
  intro w
  have h:=run_make_row' (P:=Tryz.prog) 95 3 (.int .i64 0) 8 Tryz.underlying95 (by kernel_rfl) rfl .i64 .i64 vs.length (by omega) (by omega) w
  rw [zi7] at h
  exact h
 go_enter Tryz.func128,Tryz.ntmps128
 go_wp2_with fail
 clear hmk
 go_loopw [4] (fun i wr=>∃ k:Nat,k<=vs.length/\i = .int .i64 k/\wr=w.alloc (.cells (intCells vs k) 3)) (fun i _=>vs.length - (intOf i).toNat)
 case atStart=>exact ⟨0,Nat.zero_le _,rfl,rfl⟩
 case round =>
  obtain ⟨k,hk,rfl,rfl⟩:=hrel
  by_cases hlt:k < vs.length
  ·obtain ⟨b,off,rfl,hb,hck⟩:=hw.load (Below.refl _ _) k hlt
   clear hw
   have hold:=zlx vs k hlt
   have HS:Hid ((intCells vs k).setIfInBounds k (.int .i64 vs[k])=intCells vs (k+1)):=zj9 vs k hlt
   have hltI:(k:Int) < (vs.length:Int):=by omega
   go_wp2
   go_roundw
   case rel=>exact ⟨k+1,by omega,by go_num,by rw [HS.out]⟩
   case measure=>simp [intOf];omega
  ·have HA:Hid (intCells vs k=zbY vs):=zkx vs k (by omega)
   clear hw
   go_wp2
   go_ret
   exact ⟨rfl,by rw [HA.out]⟩
theorem zmL (a a':Option Addr) (cap cap':Nat) (vs:List Int) (w:World) (hw:yJ w a vs) (hw':yJ w a' vs) :
 Calls Tryz.prog 160 #[.slice a vs.length cap,.slice a' vs.length cap'] w fun e w'=>e = .returned (.bool true)/\Below w.heap.size w w':=by
 have hl:=hw.len
 unfold maxLen at hl
 have hnn:((vs.length:Int) != vs.length)=false:=by simp
 go_enter Tryz.func160,Tryz.ntmps160
 go_wp2_with fail
 go_loopw [5] (fun i wr=>∃ k:Nat,k<=vs.length/\i = .int .i64 k/\Below w.heap.size w wr) (fun i _=>vs.length - (intOf i).toNat)
 case atStart=>exact ⟨0,Nat.zero_le _,rfl,Below.refl _ _⟩
 case round =>
  obtain ⟨k,hk,rfl,hB⟩:=hrel
  by_cases hlt:k < vs.length
  ·obtain ⟨b,off,rfl,hb,c0⟩:=hw.load hB k hlt
   obtain ⟨b',off',rfl,hb',d0⟩:=hw'.load hB k hlt
   have hltI:(k:Int) < (vs.length:Int):=by omega
   have hne:(vs[k] != vs[k])=false:=by simp
   clear hw hw'
   go_wp2_with fail
   first
    | exact ⟨⟨k+1,by omega,by go_num,hB⟩,by simp [intOf];omega⟩
    | (go_quiet (fail);go_wp2_with fail;exact ⟨⟨k+1,by omega,by go_num,below_drewN hB _⟩,by simp [intOf];omega⟩)
  ·clear hw hw'
   go_wp2_with fail
   go_ret
   exact ⟨rfl,hB⟩
theorem zbR (w:World) (o1:Obj) (X:Array Value) (t:TypeId):∀ o,((w.alloc o1).alloc (.cells X t)).cell? ⟨w.heap.size+1,o,none⟩=X[o]?:=by
 intro o
 have h:=zl (w.alloc o1) X t o
 have e:(w.alloc o1).heap.size=w.heap.size+1:=by simp
 rw [e] at h;exact h
theorem zo6 (w:World) (o1 o2 o3 o4:Obj):((((w.alloc o1).alloc o2).alloc o3).alloc o4).heap[w.heap.size+1+1+1]?=some o4:=by
 have h:=MapKept.heap_alloc (((w.alloc o1).alloc o2).alloc o3) o4
 simpa using h.1
theorem zoK (w:World) (o1 o2 o3 o4:Obj):Below w.heap.size w ((((w.alloc o1).alloc o2).alloc o3).alloc o4) :=
 ((((Below.refl _ _).alloc (Nat.le_refl _) _).alloc (by simp) _).alloc (by simp;omega) _).alloc (by simp;omega) _
theorem ziE (r:Rl) (a:Option Addr) (cap:Nat) (w:World) (hw:yJ w a r.vs) (hl:r.vs.length<=1048576) :
 Calls Tryz.prog 97 #[.agg (r.cells a cap)] w
  fun e w'=>∃ bk,e = .returned (.agg (r.cells (some ⟨bk,0,none⟩) r.vs.length))/\w.heap.size<=bk/\bk < w'.heap.size/\w'.heap[bk]?=some (.cells (zbY r.vs) 3)/\Below w.heap.size w w':=by
 unfold Rl.cells
 go_enter Tryz.func97,Tryz.ntmps97
 go_wp2_with (go_at_call 128;refine (zmv _ _ _ _ (by exact hw.mono ((((Below.refl _ _).alloc (Nat.le_refl _) _).alloc (by simp) _).alloc (by simp;omega) _)) hl).mono ?_;rintro e w' ⟨rfl,rfl⟩)
 refine bodyPost_ret (v:=.agg #[.slice (some ⟨w.heap.size+1+1+1,0,none⟩) r.vs.length r.vs.length,.string r.kd,.string r.tm,.string r.px]) (by simp [results,Tryz.results97,go_sem]) rfl ⟨w.heap.size+1+1+1,rfl,by omega,by simp,zo6 _ _ _ _ _,zoK _ _ _ _ _⟩
theorem zhX (r:Rl) (a a':Option Addr) (cap cap':Nat) (w:World) (hw:yJ w a r.vs) (hw':yJ w a' r.vs) :
 Calls Tryz.prog 112 #[.agg (r.cells a cap),.agg (r.cells a' cap')] w fun e w'=>e = .returned (.bool true)/\Below w.heap.size w w':=by
 unfold Rl.cells
 go_enter Tryz.func112,Tryz.ntmps112
 go_wp2_with fail
 refine (zmL _ _ _ _ _ _ (hw.mono (zC _ _ _)) (hw'.mono (zC _ _ _))).mono ?_
 rintro e w1 ⟨rfl,hb1⟩
 have hX1:=za (za (zl w _ _) (by simp) ((Below.refl _ _).alloc (Nat.le_refl _) _)) (by simp;omega) hb1
 have hY1:=za (zbR w _ _ _) (by simp) hb1
 have hz:w.heap.size+1 < w1.heap.size:=by have:=hb1.size;simp at this;omega
 have hB1:=(zC w _ _).trans (hb1.mono (by simp;omega))
 clear hb1
 go_wp2_with fail
 go_ret
 exact ⟨rfl,hB1⟩
structure Gr where
 no:Int
 to:ByteArray
 gb:ByteArray
 r:Rl
def Gr.cells (g:Gr) (a0:Option Addr) (c0:Nat):Array Value:=#[.int .i64 g.no,.string g.to,.string g.gb,.slice a0 g.r.vs.length c0,.string g.r.kd,.string g.r.tm,.string g.r.px]
structure Gr.Small (g:Gr):Prop where
 to:g.to.size<=maxLen
 gb:g.gb.size<=maxLen
 r:g.r.Small
def Gr.sz (g:Gr):Nat:=g.to.size+g.gb.size+g.r.sz
theorem Gr.zmq {g:Gr} (h:(g.sz:Int)<=1048576):g.r.vs.length<=1048576:=by unfold Gr.sz Rl.sz at h;omega
theorem zdK (g:Gr) (a0:Option Addr) (c0:Nat) (left:Int) (w:World) (hm:g.Small) (hi:yJ w a0 g.r.vs) (h0:0<=left) (h1:left<=1048576) :
 Calls Tryz.prog 43 #[.agg (g.cells a0 c0),.int .i64 left] w fun e w'=>e = .returned (.int .i64 (zL g.sz left))/\Below w.heap.size w w':=by
 have k1:=hm.to
 have k2:=hm.gb
 have HM:Hid (g.r.Small/\g.r.vs.length<=maxLen):=⟨hm.r,hi.len⟩
 unfold maxLen at k1 k2
 clear hm hi
 unfold Gr.cells
 have hB:∀ ob,Below w.heap.size w (w.alloc ob):=fun ob=>(Below.refl _ _).alloc (Nat.le_refl _) _
 by_cases c1:(g.to.size:Int)<=left
 rotate_left
 ·have HF:Hid (zL g.sz left=-1):=zD (by unfold Gr.sz;omega)
  go_enter Tryz.func43,Tryz.ntmps43
  go_wp2_with fail
  go_ret
  exact ⟨zm HF.out.symm,hB _⟩
 by_cases c2:(g.gb.size:Int)<=left - g.to.size
 rotate_left
 ·have HF:Hid (zL g.sz left=-1):=zD (by unfold Gr.sz;omega)
  go_enter Tryz.func43,Tryz.ntmps43
  go_wp2_with fail
  go_ret
  exact ⟨zm HF.out.symm,hB _⟩
 by_cases c3:(g.r.sz:Int)<=left - g.to.size - g.gb.size
 ·have HF:Hid (zL g.sz left=left - g.to.size - g.gb.size - g.r.sz):=by
   unfold Hid;rw [zM (by unfold Gr.sz;omega)];unfold Gr.sz;omega
  go_enter Tryz.func43,Tryz.ntmps43
  go_wp2_with fail
  refine (zei g.r a0 c0 _ _ HM.out.1 HM.out.2 (by omega) (by omega)).mono ?_
  rintro e w1 ⟨rfl,hb⟩
  rw [zM c3]
  have hB1:=(hB _).trans (hb.mono (by simp))
  clear hb
  go_wp2_with fail
  go_ret
  exact ⟨zm HF.out.symm,hB1⟩
 ·have HF:Hid (zL g.sz left=-1):=zD (by unfold Gr.sz;omega)
  have HC:Hid (¬ (g.r.sz:Int)<=left - g.to.size - g.gb.size):=c3
  clear c3
  go_enter Tryz.func43,Tryz.ntmps43
  go_wp2_with fail
  refine (zei g.r a0 c0 _ _ HM.out.1 HM.out.2 (by omega) (by omega)).mono ?_
  rintro e w1 ⟨rfl,hb⟩
  rw [zD (by have:=HC.out;omega)]
  have hB1:=(hB _).trans (hb.mono (by simp))
  clear hb
  go_wp2_with fail
  go_ret
  exact ⟨zm HF.out.symm,hB1⟩
theorem zha (g:Gr) (a0:Option Addr) (c0:Nat) (a0':Option Addr) (c0':Nat) (w:World) (_hm:g.Small) (hi:yJ w a0 g.r.vs) (hi':yJ w a0' g.r.vs) :
 Calls Tryz.prog 71 #[.agg (g.cells a0 c0),.agg (g.cells a0' c0')] w fun e w'=>e = .returned (.bool true)/\Below w.heap.size w w':=by
 have hn:(g.no != g.no)=false:=by simp
 unfold Gr.cells
 go_enter Tryz.func71,Tryz.ntmps71
 go_wp2_with fail
 refine (zhX g.r _ _ _ _ _ (hi.mono (zC _ _ _)) (hi'.mono (zC _ _ _))).mono ?_
 rintro e w1 ⟨rfl,hb⟩
 have hB1:=(zC w _ _).trans (hb.mono (by simp;omega))
 clear hb
 go_wp2_with fail
 go_ret
 exact ⟨rfl,hB1⟩
theorem zhp (g:Gr) (a0:Option Addr) (c0:Nat) (w:World) (_hm:g.Small) (hi:yJ w a0 g.r.vs) (hl:g.r.vs.length<=1048576) :
 Calls Tryz.prog 57 #[.agg (g.cells a0 c0)] w fun e w'=>∃ g0,e = .returned (.agg (g.cells (some ⟨g0,0,none⟩) g.r.vs.length))/\w.heap.size<=g0/\w'.heap[g0]?=some (.cells (zbY g.r.vs) 3)/\Below w.heap.size w w':=by
 unfold Gr.cells
 go_enter Tryz.func57,Tryz.ntmps57
 go_wp2_with fail
 have k0:=zoF w (.cells #[.int .i64 g.no,.string g.to,.string g.gb,.slice a0 g.r.vs.length c0,.string g.r.kd,.string g.r.tm,.string g.r.px] 99) (.cells #[.int .i64 0,.string ByteArray.empty,.string ByteArray.empty,.slice none 0 0,.string ByteArray.empty,.string ByteArray.empty,.string ByteArray.empty] 124) (.cells #[.int .i64 g.no,.string g.to,.string g.gb,.slice none 0 0,.string ByteArray.empty,.string ByteArray.empty,.string ByteArray.empty] 124)
 have hB0:=below3' w (.cells #[.int .i64 g.no,.string g.to,.string g.gb,.slice a0 g.r.vs.length c0,.string g.r.kd,.string g.r.tm,.string g.r.px] 99) (.cells #[.int .i64 0,.string ByteArray.empty,.string ByteArray.empty,.slice none 0 0,.string ByteArray.empty,.string ByteArray.empty,.string ByteArray.empty] 124) (.cells #[.int .i64 g.no,.string g.to,.string g.gb,.slice none 0 0,.string ByteArray.empty,.string ByteArray.empty,.string ByteArray.empty] 124)
 refine (ziE g.r a0 c0 _ (hi.mono (below3' _ _ _ _)) hl).mono ?_
 rintro e w1 ⟨bk,rfl,hlo,hhi,hbk,hb⟩
 have hlo':w.heap.size+1+1+1<=bk:=by simpa using hlo
 have hR1:=(hb.block _ (by simp)).trans k0.2.1
 have hO1:=(hb.block _ (by simp)).trans k0.2.2
 have hB1:=hB0.trans (hb.mono (by simp;omega))
 have HK:Hid (w1.heap[bk]?=some (.cells (zbY g.r.vs) 3)):=hbk
 have cR:=fun j=>cell_of_block (o:=j) hR1
 have fR:=fun j=>zn (o:=j) hR1
 have cO:=fun j=>cell_of_block (o:=j) hO1
 have fO:=fun j=>zn (o:=j) hO1
 have hz1:w.heap.size+1+1 < w1.heap.size:=(Array.getElem?_eq_some_iff.1 hO1).1
 clear hb hbk k0 hB0 hlo hR1 hO1
 unfold Rl.cells
 go_wp2_with fail
 refine bodyPost_ret (v:=.agg #[.int .i64 g.no,.string g.to,.string g.gb,.slice (some ⟨bk,0,none⟩) g.r.vs.length g.r.vs.length,.string g.r.kd,.string g.r.tm,.string g.r.px]) (by simp [results,Tryz.results57,go_sem,cR]) rfl ⟨bk,rfl,by omega,?_,?_⟩
 ·have h1:bk ≠ w.heap.size+1:=by omega
  have h2:bk ≠ w.heap.size+1+1:=by omega
  exact (zN h1).trans ((zN h1).trans ((zN h1).trans ((zN h1).trans ((zN h1).trans ((zN h1).trans ((zN h1).trans ((zN h2).trans ((zN h2).trans ((zN h2).trans ((zN h2).trans HK.out))))))))))
 ·have h3:w.heap.size<=w.heap.size+1:=by omega
  have h4:w.heap.size<=w.heap.size+1+1:=by omega
  exact ((((((((((hB1.setCell h4 _).setCell h4 _).setCell h4 _).setCell h4 _).setCell h3 _).setCell h3 _).setCell h3 _).setCell h3 _).setCell h3 _).setCell h3 _).setCell h3 _
structure zoz (w:World) (b off:Nat) (x:Gr) (a0:Option Addr) (c0:Nat):Prop where
 small:x.Small
 l0:yJ w a0 x.r.vs
 cell:∀ j,j < 7->w.cell? ⟨b,off+j,none⟩=(Gr.cells x a0 c0)[j]?
structure zbb (w:World) (a:Option Addr) (ms:List Gr):Prop where
 len:ms.length<=maxLen
 rows:ms ≠ []->∃ b off,a=some ⟨b,off,none⟩/\b < w.heap.size/\∀ i (h:i < ms.length),∃ a0 c0,zoz w b (off+i * 7) ms[i] a0 c0
theorem zoz.mono {w w':World} {b off:Nat} {x:Gr} {a0:Option Addr} {c0:Nat} (h:zoz w b off x a0 c0) (hb:b < w.heap.size) (hl:Below w.heap.size w w'):zoz w' b off x a0 c0 :=
 ⟨h.small,h.l0.mono hl,fun j hj=>(hl.cell (p:=⟨b,off+j,none⟩) hb).trans (h.cell j hj)⟩
theorem zbb.mono {w w':World} {a:Option Addr} {ms:List Gr} (h:zbb w a ms) (hl:Below w.heap.size w w'):zbb w' a ms :=
 ⟨h.len,fun hne=>by
  obtain ⟨b,off,ha,hb,hr⟩:=h.rows hne
  refine ⟨b,off,ha,Nat.lt_of_lt_of_le hb hl.size,fun i hi=>?_⟩
  obtain ⟨a0,c0,hf⟩:=hr i hi
  exact ⟨a0,c0,hf.mono hb hl⟩⟩
theorem zbb.load {w w':World} {a:Option Addr} {ms:List Gr} (h:zbb w a ms) (hl:Below w.heap.size w w') (i:Nat) (hi:i < ms.length):∃ b off a0 c0,a=some ⟨b,off,none⟩/\b < w.heap.size/\ms[i].Small/\yJ w' a0 ms[i].r.vs /\
 w'.cell? ⟨b,off+i * 7,none⟩=some (.int .i64 ms[i].no)/\w'.cell? ⟨b,off+i * 7+1,none⟩=some (.string ms[i].to)/\w'.cell? ⟨b,off+i * 7+2,none⟩=some (.string ms[i].gb)/\w'.cell? ⟨b,off+i * 7+3,none⟩=some (.slice a0 ms[i].r.vs.length c0)/\w'.cell? ⟨b,off+i * 7+4,none⟩=some (.string ms[i].r.kd)/\w'.cell? ⟨b,off+i * 7+5,none⟩=some (.string ms[i].r.tm)/\w'.cell? ⟨b,off+i * 7+6,none⟩=some (.string ms[i].r.px):=by
 obtain ⟨b,off,ha,hb,hr⟩:=h.rows (by rintro rfl;simp at hi)
 obtain ⟨a0,c0,hf0⟩:=hr i hi
 have hf:=hf0.mono hb hl
 exact ⟨b,off,a0,c0,ha,hb,hf.small,hf.l0,hf.cell 0 (by omega),hf.cell 1 (by omega),hf.cell 2 (by omega),hf.cell 3 (by omega),hf.cell 4 (by omega),hf.cell 5 (by omega),hf.cell 6 (by omega)⟩
def zcE (ms:List Gr):Nat:=(ms.map Gr.sz).sum
def zbK (ms:List Gr):Nat:=ms.length+zcE ms
structure ziC (ms:List Gr):Prop where
 small:∀ i (h:i < ms.length),ms[i].Small/\ms[i].r.vs.length<=maxLen
theorem zbb.smalls {w:World} {a:Option Addr} {ms:List Gr} (h:zbb w a ms):ziC ms :=
 ⟨fun i hi=>by
  obtain ⟨b,off,_,_,hr⟩:=h.rows (by rintro rfl;simp at hi)
  obtain ⟨a0,c0,hf⟩:=hr i hi
  exact ⟨hf.small,hf.l0.len⟩⟩
theorem zoB {ms:List Gr} {left:Int} (h:(zbK ms:Int)<=left) (hl:left<=1048576):ms.length<=1048576/\∀ i (h:i < ms.length),ms[i].r.vs.length<=1048576:=by
 unfold zbK at h
 refine ⟨by omega,fun i hi=>?_⟩
 have h1:ms[i].sz<=zcE ms:=zhC Gr.sz ms i hi
 exact Gr.zmq (by omega)
theorem zgo (a:Option Addr) (cap:Nat) (ms:List Gr) (left:Int) (w:World) (hw:zbb w a ms) (h0:0<=left) (h1:left<=1048576) :
 Calls Tryz.prog 18 #[.slice a ms.length cap,.int .i64 left] w fun e w'=>e = .returned (.int .i64 (zL (zbK ms) left))/\Below w.heap.size w w':=by
 have hl:=hw.len
 unfold maxLen at hl
 by_cases hfit:(ms.length:Int)<=left
 ·go_enter Tryz.func18,Tryz.ntmps18
  go_wp2_with fail
  go_loopw [1,5] (fun l i wr=>∃ k:Nat,k<=ms.length/\i = .int .i64 k/\0<=left - ms.length - zcE (ms.take k)/\l = .int .i64 (left - ms.length - zcE (ms.take k))/\Below w.heap.size w wr) (fun _ i _=>ms.length - (intOf i).toNat)
  case atStart=>exact ⟨0,Nat.zero_le _,rfl,by simp [zcE];omega,by simp [zcE],Below.refl _ _⟩
  case round =>
   obtain ⟨k,hk,rfl,hpos,rfl,hB⟩:=hrel
   by_cases hlt:k < ms.length
   ·obtain ⟨b,off,a0,c0,rfl,hb,hsm,hl0,d0,d1,d2,d3,d4,d5,d6⟩:=hw.load hB k hlt
    have hbr:b < wr.heap.size:=Nat.lt_of_lt_of_le hb hB.size
    have HS:Hid (zcE (ms.take (k+1))=zcE (ms.take k)+ms[k].sz):=zaS Gr.sz ms k hlt
    have hle:zcE (ms.take (k+1))<=zcE ms:=zcm Gr.sz ms (k+1)
    have HI:Hid (yJ wr a0 ms[k].r.vs):=hl0
    clear hw hl0
    by_cases hneg:(ms[k].sz:Int)<=left - ms.length - zcE (ms.take k)
    ·have HNG:Hid ((ms[k].sz:Int)<=left - ms.length - zcE (ms.take k)):=hneg
     clear hle
     go_wp2_with fail
     refine (zdK ms[k] a0 c0 _ _ hsm HI.out hpos (by omega)).mono ?_
     rintro e w1 ⟨rfl,hb1⟩
     rw [zM HNG.out]
     have hB1:=hB.trans (hb1.mono hB.size)
     clear hb1
     go_wp2_with fail
     exact ⟨⟨k+1,by omega,by go_num,by rw [HS.out];omega,by rw [HS.out];congr 1;omega,hB1⟩,by simp [intOf];omega⟩
    ·have HF:Hid (zL (zbK ms) left=-1):=zD (by have:=HS.out;unfold zbK;omega)
     have HNG:Hid (¬ (ms[k].sz:Int)<=left - ms.length - zcE (ms.take k)):=hneg
     clear hneg hle
     go_wp2_with fail
     refine (zdK ms[k] a0 c0 _ _ hsm HI.out hpos (by omega)).mono ?_
     rintro e w1 ⟨rfl,hb1⟩
     rw [zD (by have:=HNG.out;omega)]
     have hB1:=hB.trans (hb1.mono hB.size)
     clear hb1
     go_wp2_with fail
     go_ret
     exact ⟨zm HF.out.symm,hB1⟩
   ·have HF:Hid (zL (zbK ms) left=left - ms.length - zcE (ms.take k)):=by
     rw [List.take_of_length_le (by omega)] at hpos ⊢
     have e:zL (zbK ms) left=left - zbK ms:=zM (by unfold zbK;omega)
     unfold Hid;rw [e];unfold zbK;omega
    clear hw
    go_wp2
    go_ret
    exact ⟨zm HF.out.symm,hB⟩
 ·have HF:Hid (zL (zbK ms) left=-1):=zD (by unfold zbK;omega)
  clear hw
  go_enter Tryz.func18,Tryz.ntmps18
  go_wp2
  go_ret
  exact ⟨zm HF.out.symm,Below.refl _ _⟩
theorem zfZ (a a':Option Addr) (cap cap':Nat) (ms:List Gr) (w:World) (hw:zbb w a ms) (hw':zbb w a' ms) :
 Calls Tryz.prog 36 #[.slice a ms.length cap,.slice a' ms.length cap'] w fun e w'=>e = .returned (.bool true)/\Below w.heap.size w w':=by
 have hl:=hw.len
 unfold maxLen at hl
 have hnn:((ms.length:Int) != ms.length)=false:=by simp
 go_enter Tryz.func36,Tryz.ntmps36
 go_wp2_with fail
 go_loopw [5] (fun i wr=>∃ k:Nat,k<=ms.length/\i = .int .i64 k/\Below w.heap.size w wr) (fun i _=>ms.length - (intOf i).toNat)
 case atStart=>exact ⟨0,Nat.zero_le _,rfl,Below.refl _ _⟩
 case round =>
  obtain ⟨k,hk,rfl,hB⟩:=hrel
  by_cases hlt:k < ms.length
  ·obtain ⟨b,off,a0,c0,rfl,hb,hsm,hl0,d0,d1,d2,d3,d4,d5,d6⟩:=hw.load hB k hlt
   obtain ⟨b',off',a0',c0',rfl,hb',_,hl0',f0,f1,f2,f3,f4,f5,f6⟩:=hw'.load hB k hlt
   have hltI:(k:Int) < (ms.length:Int):=by omega
   clear hw hw'
   go_wp2_with fail
   go_region_with (go_at_call 71;refine (zha ms[k] a0 c0 a0' c0' _ hsm (by exact hl0.mono ((Below.refl _ _).drew)) (by exact hl0'.mono ((Below.refl _ _).drew))).mono ?_;rintro e w1 ⟨rfl,hb1'⟩;have hb1:=(Below.refl wr.heap.size wr).drew.trans hb1';clear hb1')
   all_goals go_wp2_with fail
   all_goals exact ⟨⟨k+1,by omega,by go_num,hB.trans (hb1.mono hB.size)⟩,by simp [intOf];omega⟩
  ·clear hw hw'
   go_wp2_with fail
   go_ret
   exact ⟨rfl,hB⟩
structure j5 (lo:Nat) (w:World) (bo:Nat) (ms:List Gr) (k:Nat):Prop where
 low:lo<=bo
 rows:∃ C,w.heap[bo]?=some (.cells C 124)/\C.size=ms.length * 7 /\
  ∀ i (h:i < ms.length),i < k->∃ g0,lo<=g0/\g0 ≠ bo/\w.heap[g0]?=some (.cells (zbY ms[i].r.vs) 3)/\∀ j,j < 7->C[i * 7+j]?=(Gr.cells ms[i] (some ⟨g0,0,none⟩) ms[i].r.vs.length)[j]?
theorem j5.at {lo:Nat} {w:World} {bo:Nat} {ms:List Gr} (h:j5 lo w bo ms ms.length) (hs:ziC ms) (hl:ms.length<=maxLen):zbb w (some ⟨bo,0,none⟩) ms:=by
 obtain ⟨C,hC,hsz,hr⟩:=h.rows
 refine ⟨hl,fun _=>⟨bo,0,rfl,(Array.getElem?_eq_some_iff.1 hC).1,fun i hi=>?_⟩⟩
 obtain ⟨g0,_,_,hk0,hc⟩:=hr i hi hi
 obtain ⟨s0,s1⟩:=hs.small i hi
 refine ⟨some ⟨g0,0,none⟩,ms[i].r.vs.length,s0,zgt hk0 s1,fun j hj=>?_⟩
 rw [cell_of_block hC,Nat.zero_add]
 exact hc j hj
theorem j5.above {lo:Nat} {w w':World} {bo:Nat} {ms:List Gr} {k:Nat} (h:j5 lo w bo ms k) (ha:yS lo w w'):j5 lo w' bo ms k:=by
 obtain ⟨C,hC,hsz,hr⟩:=h.rows
 refine ⟨h.low,C,(ha.same _ h.low (Array.getElem?_eq_some_iff.1 hC).1).trans hC,hsz,fun i hi hk=>?_⟩
 obtain ⟨g0,p0,q0,r0,hc⟩:=hr i hi hk
 exact ⟨g0,p0,q0,(ha.same _ p0 (Array.getElem?_eq_some_iff.1 r0).1).trans r0,hc⟩
theorem j5.later {lo:Nat} {w w':World} {bo:Nat} {ms:List Gr} {k:Nat} (h:j5 lo w bo ms k) (hb:Below w.heap.size w w'):j5 lo w' bo ms k:=h.above (yS.below hb)
theorem j5.weaken {lo lo':Nat} {w:World} {bo:Nat} {ms:List Gr} {k:Nat} (h:j5 lo w bo ms k) (hl:lo'<=lo):j5 lo' w bo ms k:=by
 obtain ⟨C,hC,hsz,hr⟩:=h.rows
 refine ⟨Nat.le_trans hl h.low,C,hC,hsz,fun i hi hk=>?_⟩
 obtain ⟨g0,p0,q0,r0,hc⟩:=hr i hi hk
 exact ⟨g0,Nat.le_trans hl p0,q0,r0,hc⟩
def zkI (w:World) (b o:Nat) (v0 v1 v2 v3 v4 v5 v6:Value):World:=(((((((w.setCell ⟨b,o,none⟩ v0).setCell ⟨b,o+1,none⟩ v1).setCell ⟨b,o+2,none⟩ v2).setCell ⟨b,o+3,none⟩ v3).setCell ⟨b,o+4,none⟩ v4).setCell ⟨b,o+5,none⟩ v5).setCell ⟨b,o+6,none⟩ v6)
def zim (C:Array Value) (o:Nat) (v0 v1 v2 v3 v4 v5 v6:Value):Array Value:=(((((((C.setIfInBounds (o) v0).setIfInBounds (o+1) v1).setIfInBounds (o+2) v2).setIfInBounds (o+3) v3).setIfInBounds (o+4) v4).setIfInBounds (o+5) v5).setIfInBounds (o+6) v6)
theorem zkN {w:World} {b o:Nat} {C:Array Value} {t:TypeId} (h:w.heap[b]?=some (.cells C t)) (v0 v1 v2 v3 v4 v5 v6:Value):(zkI w b o v0 v1 v2 v3 v4 v5 v6).heap[b]?=some (.cells (zim C o v0 v1 v2 v3 v4 v5 v6) t) :=
 zi (zi (zi (zi (zi (zi (zi h v0) v1) v2) v3) v4) v5) v6
theorem zlU {B:Nat} {a w:World} (h:Below B a w) {b:Nat} (hb:B<=b) (o:Nat) (v0 v1 v2 v3 v4 v5 v6:Value):Below B a (zkI w b o v0 v1 v2 v3 v4 v5 v6) :=
 ((((((h.setCell hb v0).setCell hb v1).setCell hb v2).setCell hb v3).setCell hb v4).setCell hb v5).setCell hb v6
theorem zgM (w:World) (b o:Nat) (v0 v1 v2 v3 v4 v5 v6:Value) {b':Nat} (h:b' ≠ b):(zkI w b o v0 v1 v2 v3 v4 v5 v6).heap[b']?=w.heap[b']?:=by
 unfold zkI
 iterate 7 rw [zN h]
theorem zme (C:Array Value) (o:Nat) (v0 v1 v2 v3 v4 v5 v6:Value):(zim C o v0 v1 v2 v3 v4 v5 v6).size=C.size:=by simp [zim]
theorem znN (C:Array Value) (o i:Nat) (v0 v1 v2 v3 v4 v5 v6:Value) (h:i < o \/ o+7<=i):(zim C o v0 v1 v2 v3 v4 v5 v6)[i]?=C[i]?:=by
 unfold zim
 iterate 7 rw [Array.getElem?_setIfInBounds,if_neg (by omega)]
theorem zom (C:Array Value) (o j:Nat) (v0 v1 v2 v3 v4 v5 v6:Value) (hj:j < 7) (ho:o+7<=C.size):(zim C o v0 v1 v2 v3 v4 v5 v6)[o+j]?=(#[v0,v1,v2,v3,v4,v5,v6]:Array Value)[j]?:=by
 have hc:j=0 \/ j=1 \/ j=2 \/ j=3 \/ j=4 \/ j=5 \/ j=6:=by omega
 unfold zim
 rcases hc with h | h | h | h | h | h | h <;> subst h <;> simp [Array.getElem?_setIfInBounds] <;> omega
theorem j5.put {lo:Nat} {w:World} {bo:Nat} {ms:List Gr} {k:Nat} (h:j5 lo w bo ms k) (hk:k < ms.length) (g0:Nat) (p0:lo<=g0) (q0:g0 ≠ bo) (r0:w.heap[g0]?=some (.cells (zbY ms[k].r.vs) 3)) :
 j5 lo (zkI w bo (k * 7) (.int .i64 ms[k].no) (.string ms[k].to) (.string ms[k].gb) (.slice (some ⟨g0,0,none⟩) ms[k].r.vs.length ms[k].r.vs.length) (.string ms[k].r.kd) (.string ms[k].r.tm) (.string ms[k].r.px)) bo ms (k+1):=by
 obtain ⟨C,hC,hsz,hr⟩:=h.rows
 refine ⟨h.low,_,zkN hC _ _ _ _ _ _ _,by rw [zme];exact hsz,fun i hi hik=>?_⟩
 rcases Nat.lt_or_ge i k with hlt | hge
 ·obtain ⟨g0',x0,y0,z0,hc⟩:=hr i hi hlt
  refine ⟨g0',x0,y0,(by rw [zgM _ _ _ _ _ _ _ _ _ _ y0];exact z0),fun j hj=>?_⟩
  rw [znN _ _ _ _ _ _ _ _ _ _ (by omega)]
  exact hc j hj
 ·have e:i=k:=by omega
  subst e
  refine ⟨g0,p0,q0,(by rw [zgM _ _ _ _ _ _ _ _ _ _ q0];exact r0),fun j hj=>?_⟩
  rw [zom _ _ _ _ _ _ _ _ _ _ hj (by omega)]
  rfl
def zoe:Array Value:=#[.int .i64 0,.string ByteArray.empty,.string ByteArray.empty,.slice none 0 0,.string ByteArray.empty,.string ByteArray.empty,.string ByteArray.empty]
def zm0 (n:Nat):Array Value:=madeCells zoe (n * 7)
theorem zf2 (a:Option Addr) (cap:Nat) (ms:List Gr) (w:World) (hw:zbb w a ms) (hl:ms.length<=1048576) (hls:∀ i (h:i < ms.length),ms[i].r.vs.length<=1048576) :
 Calls Tryz.prog 27 #[.slice a ms.length cap] w fun e w'=>e = .returned (.slice (some ⟨w.heap.size,0,none⟩) ms.length ms.length)/\j5 w.heap.size w' w.heap.size ms ms.length/\Below w.heap.size w w':=by
 have hmk:∀ w:World,(Instr.makeSlice 46 (.int .i64 ms.length) (.int .i64 ms.length)).run Tryz.prog w = .ok (.slice (some ⟨w.heap.size,0,none⟩) ms.length ms.length) (w.alloc (.cells (zm0 ms.length) 124)) :=
  fun w=>jF (P:=Tryz.prog) 46 124 (.agg zoe) 7 112 Tryz.underlying46 (by kernel_rfl) ms.length (by omega) (by omega) w
 go_enter Tryz.func27,Tryz.ntmps27
 go_wp2_with fail
 clear hmk
 go_loopw [4] (fun i wr=>∃ k:Nat,k<=ms.length/\i = .int .i64 k/\Hid (j5 w.heap.size wr w.heap.size ms k)/\Below w.heap.size w wr) (fun i _=>ms.length - (intOf i).toNat)
 case atStart=>exact ⟨0,Nat.zero_le _,rfl,⟨Nat.le_refl _,zm0 ms.length,(MapKept.heap_alloc w _).1,size_madeCells _ _,fun i _ h=>absurd h (by omega)⟩,(Below.refl _ _).alloc (Nat.le_refl _) _⟩
 case round =>
  obtain ⟨k,hk,rfl,HOW,hB⟩:=hrel
  by_cases hlt:k < ms.length
  ·obtain ⟨b,off,a0,c0,rfl,hb,hsm,hl0,d0,d1,d2,d3,d4,d5,d6⟩:=hw.load hB k hlt
   have HLS:Hid (ms[k].r.vs.length<=1048576):=hls k hlt
   have hltI:(k:Int) < (ms.length:Int):=by omega
   clear hw
   go_wp2_with fail
   refine (zhp ms[k] a0 c0 _ hsm hl0 HLS.out).mono ?_
   rintro e w1 ⟨g0,rfl,p0,r0,hb1⟩
   have hB1:=hB.trans (hb1.mono hB.size)
   have hbo:w.heap.size < wr.heap.size:=by
    obtain ⟨C',hC',_⟩:=HOW.out.rows
    exact (Array.getElem?_eq_some_iff.1 hC').1
   have HP:Hid (j5 w.heap.size w1 w.heap.size ms k):=HOW.out.later hb1
   obtain ⟨C,hC,hsz,_⟩:=HP.out.rows
   have hfz:∀ o,w1.frozen? ⟨w.heap.size,o,none⟩=false:=fun o=>zn hC
   have hex:∀ o,o < ms.length * 7->∃ v,w1.cell? ⟨w.heap.size,o,none⟩=some v:=fun o ho=>⟨C[o]'(by omega),by rw [cell_of_block hC];exact Array.getElem?_eq_getElem (by omega)⟩
   obtain ⟨v0,hv0⟩:=hex (k * 7) (by omega)
   obtain ⟨v1,hv1⟩:=hex (k * 7+1) (by omega)
   obtain ⟨v2,hv2⟩:=hex (k * 7+2) (by omega)
   obtain ⟨v3,hv3⟩:=hex (k * 7+3) (by omega)
   obtain ⟨v4,hv4⟩:=hex (k * 7+4) (by omega)
   obtain ⟨v5,hv5⟩:=hex (k * 7+5) (by omega)
   obtain ⟨v6,hv6⟩:=hex (k * 7+6) (by omega)
   have HR:Hid (wr.heap.size<=g0/\w1.heap[g0]?=some (.cells (zbY ms[k].r.vs) 3)):=⟨p0,r0⟩
   clear hex hC hsz d0 d1 d2 d3 d4 d5 d6 p0 r0 hl0
   unfold Gr.cells
   go_wp2_with fail
   obtain ⟨p0,r0⟩:=HR.out
   exact ⟨⟨k+1,by omega,by go_num,HP.out.put hlt g0 (by omega) (by omega) r0,zlU hB1 (Nat.le_refl _) _ _ _ _ _ _ _ _⟩,by simp [intOf];omega⟩
  ·have HF:Hid (j5 w.heap.size wr w.heap.size ms ms.length):=by
    have e:k=ms.length:=by omega
    subst e;exact HOW.out
   clear hw HOW
   go_wp2_with fail
   go_ret
   exact ⟨rfl,HF.out,hB⟩
end Go.Proofs.YtaickbhifenbjaaGreat
namespace Go.Proofs.YtaickbhifenbjaaGreat
structure Ob where
 kd:ByteArray
 nm:ByteArray
 tm:ByteArray
 vs:List ByteArray
 en:Bool
 hs:List ByteArray
 vr:Int
structure Ob.Small (o:Ob):Prop where
 kd:o.kd.size<=maxLen
 nm:o.nm.size<=maxLen
 tm:o.tm.size<=maxLen
namespace Gate
def jY (f:Fld) (v:ByteArray):Int:=if v.size=0 then (if f.mu then 2 else 0) else if zd8 f v then 0 else 3
def zdx (fs:List Fld) (vs:List ByteArray) (i:Nat):Int:=jY (fs.getD i zbm) (vs.getD i ByteArray.empty)
def za0 (fs:List Fld) (vs:List ByteArray) (i:Nat):Bool:=decide (zdx fs vs i=0)
def jJ (fs:List Fld) (vs:List ByteArray):Int × Int:=match (List.range fs.length).find? (fun i=>!za0 fs vs i) with | some i=>(zdx fs vs i,i) | none=>(0,0)
theorem find_range {P:Nat->Bool} {n k:Nat} (hk:k < n) (hu:up P k=true) (hp:P k=false):(List.range n).find? (fun i=>!P i)=some k:=by
 rw [List.find?_eq_some_iff_getElem]
 refine ⟨by simp [hp],k,by simpa using hk,by simp,fun j hj=>?_⟩
 have:=zfF hj hu
 simp [this]
theorem zg9 {P:Nat->Bool} {n:Nat} (hu:up P n=true):(List.range n).find? (fun i=>!P i)=none:=by
 rw [List.find?_eq_none]
 intro x hx
 have:=zfF (List.mem_range.1 hx) hu
 simp [this]
theorem zjG {fs:List Fld} {vs:List ByteArray} {k:Nat} (hk:k < fs.length) (hu:up (za0 fs vs) k=true) (hp:za0 fs vs k=false):jJ fs vs=(zdx fs vs k,(k:Int)):=by
 unfold jJ;rw [find_range hk hu hp]
theorem zgT {fs:List Fld} {vs:List ByteArray} (hu:up (za0 fs vs) fs.length=true):jJ fs vs=(0,0):=by
 unfold jJ;rw [zg9 hu]
theorem ziH {fs:List Fld} {vs:List ByteArray} {k:Nat} (h1:k < fs.length) (h2:k < vs.length):zdx fs vs k=jY fs[k] vs[k]:=by
 unfold zdx;rw [getD_at fs k _ h1,getD_at vs k _ h2]
def qI (o:Ob):Bool:=zx o.nm && zx o.tm
def qU (o:Ob):Bool:=decide (o.hs.length<=3) && asc o.hs
def qx (o:Ob):Bool:=decide (0<=o.vr) && decide (o.vr<=1000000)
def zy (ss:List Shp) (o:Ob):Bool:=zH ss o.kd && decide (o.vs.length=(shapeOf ss o.kd).fs.length)
def whole (ss:List Shp) (o:Ob):Bool:=qI o && qU o && qx o && zy ss o
def yI (ss:List Shp) (o:Ob):Int × Int:=if whole ss o=true then jJ (shapeOf ss o.kd).fs o.vs else (1,0)
end Gate
end Go.Proofs.YtaickbhifenbjaaGreat
