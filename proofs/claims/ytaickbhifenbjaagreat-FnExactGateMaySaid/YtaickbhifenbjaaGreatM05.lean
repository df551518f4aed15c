import Derived.Test.YtaickbhifenbjaaGreatM04
import Derived.Test.YtaickbhifenbjaaGreatM02
import Derived.Test.YtaickbhifenbjaaGreatM03
import Derived.Test.YtaickbhifenbjaaGreatRows
import Derived.Test.YtaickbhifenbjaaGreatM01
import Derived.WalkKit
import Derived.WalkSpells
import Derived.WalkLawsBesides
import Derived.Deep.QuietTactic
import Derived.BigQuiet
import Derived.Deep.RegionWith
set_option maxHeartbeats 2000000
namespace Go.Proofs.YtaickbhifenbjaaGreat
open Go.RowKit
def zoS (w:World) (b o:Nat) (v0 v1 v2 v3 v4 v5:Value):World:=(((((w.setCell ⟨b,o,none⟩ v0).setCell ⟨b,o+1,none⟩ v1).setCell ⟨b,o+2,none⟩ v2).setCell ⟨b,o+3,none⟩ v3).setCell ⟨b,o+4,none⟩ v4).setCell ⟨b,o+5,none⟩ v5
def zmh (C:Array Value) (o:Nat) (v0 v1 v2 v3 v4 v5:Value):Array Value:=(((((C.setIfInBounds o v0).setIfInBounds (o+1) v1).setIfInBounds (o+2) v2).setIfInBounds (o+3) v3).setIfInBounds (o+4) v4).setIfInBounds (o+5) v5
theorem zmx {w:World} {b o:Nat} {C:Array Value} {t:TypeId} (h:w.heap[b]?=some (.cells C t)) (v0 v1 v2 v3 v4 v5:Value):(zoS w b o v0 v1 v2 v3 v4 v5).heap[b]?=some (.cells (zmh C o v0 v1 v2 v3 v4 v5) t) :=
 zi (zi (zi (zi (zi (zi h v0) v1) v2) v3) v4) v5
theorem zl4 {B:Nat} {a w:World} (h:Below B a w) {b:Nat} (hb:B<=b) (o:Nat) (v0 v1 v2 v3 v4 v5:Value):Below B a (zoS w b o v0 v1 v2 v3 v4 v5) :=
 (((((h.setCell hb v0).setCell hb v1).setCell hb v2).setCell hb v3).setCell hb v4).setCell hb v5
theorem znj (C:Array Value) (o:Nat) (v0 v1 v2 v3 v4 v5:Value):(zmh C o v0 v1 v2 v3 v4 v5).size=C.size:=by simp [zmh]
theorem zof (C:Array Value) (o i:Nat) (v0 v1 v2 v3 v4 v5:Value) (h:i < o \/ o+6<=i):(zmh C o v0 v1 v2 v3 v4 v5)[i]?=C[i]?:=by
 unfold zmh
 iterate 6 rw [Array.getElem?_setIfInBounds,if_neg (by omega)]
theorem zoN (C:Array Value) (o j:Nat) (v0 v1 v2 v3 v4 v5:Value) (hj:j < 6) (ho:o+6<=C.size):(zmh C o v0 v1 v2 v3 v4 v5)[o+j]?=(#[v0,v1,v2,v3,v4,v5]:Array Value)[j]?:=by
 have hc:j=0 \/ j=1 \/ j=2 \/ j=3 \/ j=4 \/ j=5:=by omega
 unfold zmh
 rcases hc with h | h | h | h | h | h <;> subst h <;> simp [Array.getElem?_setIfInBounds] <;> omega
theorem jy.put {lo:Nat} {w:World} {bo:Nat} {ms:List Mnd} {k:Nat} (h:jy lo w bo ms k) (hk:k < ms.length) :
 jy lo (zoS w bo (k * 6) (.string ms[k].kd) (.string ms[k].fd) (.string ms[k].wh) (.string ms[k].wi) (.string ms[k].pt) (.string ms[k].fr)) bo ms (k+1):=by
 obtain ⟨C,hC,hsz,hr⟩:=h.rows
 refine ⟨h.low,_,zmx hC _ _ _ _ _ _,by rw [znj];exact hsz,fun i hi hik j hj=>?_⟩
 rcases Nat.lt_or_ge i k with hlt | hge
 ·rw [zof _ _ _ _ _ _ _ _ _ (by omega)]
  exact hr i hi hlt j hj
 ·have e:i=k:=by omega
  subst e
  rw [zoN _ _ _ _ _ _ _ _ _ hj (by omega)]
  rfl
theorem ziG (m:Mnd) (w:World) :
 Calls Tryz.prog 54 #[.agg m.cells] w fun e w'=>e = .returned (.agg m.cells)/\Below w.heap.size w w':=by
 unfold Mnd.cells
 go_enter Tryz.func54,Tryz.ntmps54
 go_wp2_with fail
 refine bodyPost_ret (v:=.agg #[.string m.kd,.string m.fd,.string m.wh,.string m.wi,.string m.pt,.string m.fr]) (by simp [results,Tryz.results54,go_sem]) rfl ⟨rfl,?_⟩
 exact ((((Below.refl _ _).alloc (Nat.le_refl _) _).alloc (by simp) _).alloc (by simp;omega) _)
def zm3:Array Value:=#[.string ByteArray.empty,.string ByteArray.empty,.string ByteArray.empty,.string ByteArray.empty,.string ByteArray.empty,.string ByteArray.empty]
def zle (n:Nat):Array Value:=madeCells zm3 (n * 6)
theorem zhq (a:Option Addr) (cap:Nat) (ms:List Mnd) (w:World) (hw:y7 w a ms) (hl:ms.length<=1048576) :
 Calls Tryz.prog 24 #[.slice a ms.length cap] w fun e w'=>e = .returned (.slice (some ⟨w.heap.size,0,none⟩) ms.length ms.length)/\jy w.heap.size w' w.heap.size ms ms.length/\Below w.heap.size w w':=by
 have hmk:∀ w:World,(Instr.makeSlice 40 (.int .i64 ms.length) (.int .i64 ms.length)).run Tryz.prog w = .ok (.slice (some ⟨w.heap.size,0,none⟩) ms.length ms.length) (w.alloc (.cells (zle ms.length) 117)) :=
  fun w=>jF (P:=Tryz.prog) 40 117 (.agg zm3) 6 96 Tryz.underlying40 (by kernel_rfl) ms.length (by omega) (by omega) w
 go_enter Tryz.func24,Tryz.ntmps24
 go_wp2_with fail
 clear hmk
 go_loopw [4] (fun i wr=>∃ k:Nat,k<=ms.length/\i = .int .i64 k/\jy w.heap.size wr w.heap.size ms k/\Below w.heap.size w wr) (fun i _=>ms.length - (intOf i).toNat)
 case atStart=>exact ⟨0,Nat.zero_le _,rfl,⟨Nat.le_refl _,zle ms.length,(MapKept.heap_alloc w _).1,size_madeCells _ _,fun i _ h=>absurd h (by omega)⟩,(Below.refl _ _).alloc (Nat.le_refl _) _⟩
 case round =>
  obtain ⟨k,hk,rfl,hown,hB⟩:=hrel
  by_cases hlt:k < ms.length
  ·obtain ⟨b,off,rfl,hb,c0,c1,c2,c3,c4,c5⟩:=hw.load hB k hlt
   have hltI:(k:Int) < (ms.length:Int):=by omega
   clear hw
   go_wp2_with fail
   refine (ziG ms[k] _).mono ?_
   rintro e w1 ⟨rfl,hb1⟩
   have hB1:=hB.trans (hb1.mono hB.size)
   have hown1:=hown.later hb1
   have hbo:w.heap.size < wr.heap.size:=by
    obtain ⟨C',hC',_⟩:=hown.rows
    exact (Array.getElem?_eq_some_iff.1 hC').1
   obtain ⟨C,hC,hsz,_⟩:=hown1.rows
   have hfz:∀ o,w1.frozen? ⟨w.heap.size,o,none⟩=false:=fun o=>zn hC
   have hex:∀ o,o < ms.length * 6->∃ v,w1.cell? ⟨w.heap.size,o,none⟩=some v:=fun o ho=>⟨C[o]'(by omega),by rw [cell_of_block hC];exact Array.getElem?_eq_getElem (by omega)⟩
   obtain ⟨v0,hv0⟩:=hex (k * 6) (by omega)
   obtain ⟨v1,hv1⟩:=hex (k * 6+1) (by omega)
   obtain ⟨v2,hv2⟩:=hex (k * 6+2) (by omega)
   obtain ⟨v3,hv3⟩:=hex (k * 6+3) (by omega)
   obtain ⟨v4,hv4⟩:=hex (k * 6+4) (by omega)
   obtain ⟨v5,hv5⟩:=hex (k * 6+5) (by omega)
   have HP:Hid (jy w.heap.size w1 w.heap.size ms k):=hown1
   clear hex hC hsz c0 c1 c2 c3 c4 c5 hown hown1
   unfold Mnd.cells
   go_wp2_with fail
   exact ⟨⟨k+1,by omega,by go_num,HP.out.put hlt,zl4 hB1 (Nat.le_refl _) _ _ _ _ _ _ _⟩,by simp [intOf];omega⟩
  ·have HF:Hid (jy w.heap.size wr w.heap.size ms ms.length):=by
    have e:k=ms.length:=by omega
    subst e;exact hown
   clear hw hown
   go_wp2_with fail
   go_ret
   exact ⟨rfl,HF.out,hB⟩
end Go.Proofs.YtaickbhifenbjaaGreat
namespace Go.Proofs.YtaickbhifenbjaaGreat
structure Tm where
 nm:ByteArray
 ov:ByteArray
namespace Gate
def za4:Tm:=⟨ByteArray.empty,ByteArray.empty⟩
def yC (ts:List Tm) (v:ByteArray):Bool:=ts.any fun t=>decide (t.nm=v)
def over (ts:List Tm) (v:ByteArray):ByteArray:=((ts.find? fun t=>decide (t.nm=v)).getD za4).ov
theorem zds (ts:List Tm) (v:ByteArray) (k:Nat) (h:k < ts.length):yC (ts.take (k+1)) v=(yC (ts.take k) v || decide (ts[k].nm=v)):=by
 unfold yC;rw [List.take_succ_eq_append_getElem h,List.any_append];simp
theorem zmm (ts:List Tm) (v:ByteArray) (k:Nat) (h:k < ts.length) (e:ts[k].nm=v):yC ts v=true:=by
 unfold yC;rw [List.any_eq_true];exact ⟨ts[k],List.getElem_mem h,by simpa using e⟩
theorem zec (ts:List Tm) (v:ByteArray) (k:Nat) (h:ts.length<=k):yC (ts.take k) v=yC ts v:=by rw [List.take_of_length_le h]
theorem zkj (ts:List Tm) (v:ByteArray) (k:Nat) (h:k < ts.length) (hb:yC (ts.take k) v=false) (e:ts[k].nm=v):over ts v=ts[k].ov:=by
 unfold over
 have hn:(ts.take k).find? (fun s=>decide (s.nm=v))=none:=by
  rw [List.find?_eq_none];intro x hx;unfold yC at hb;rw [List.any_eq_false] at hb;exact hb x hx
 have hf:ts.find? (fun s=>decide (s.nm=v))=some ts[k]:=by
  conv=>lhs;rw [<- List.take_append_drop k ts]
  rw [List.find?_append,hn,List.drop_eq_getElem_cons h,List.find?_cons_of_pos (by simpa using e)];rfl
 rw [hf];rfl
theorem zgc (ts:List Tm) (v:ByteArray) (hb:yC ts v=false):over ts v=ByteArray.empty:=by
 unfold over
 have hn:ts.find? (fun s=>decide (s.nm=v))=none:=by
  rw [List.find?_eq_none];intro x hx;unfold yC at hb;rw [List.any_eq_false] at hb;exact hb x hx
 rw [hn];rfl
def under (ts:List Tm):Nat->ByteArray->ByteArray->Bool
 | 0,a,b=>decide (a=b)
 | n+1,a,b=>decide (a=b) || (decide (¬ (over ts a).size=0) && under ts n (over ts a) b)
theorem zdB (ts:List Tm) (n:Nat) (a b:ByteArray) (h:a=b):under ts n a b=true:=by
 cases n <;> simp [under,h]
theorem zjt (ts:List Tm) {a b:ByteArray} (h:¬ a=b):under ts 0 a b=false:=by simp [under,h]
theorem zhH (ts:List Tm) (n:Nat) {a b:ByteArray} (h:¬ a=b) (h0:(over ts a).size=0):under ts (n+1) a b=false:=by simp [under,h,h0]
theorem zlj (ts:List Tm) (n:Nat) {a b:ByteArray} (h:¬ a=b) (h0:¬ (over ts a).size=0):under ts (n+1) a b=under ts n (over ts a) b:=by simp [under,h,h0]
def qD (ts:List Tm) (i:Nat):Bool :=
 zx (ts.getD i za4).nm && (decide (i=0) || less (ts.getD (i - 1) za4).nm (ts.getD i za4).nm) && ((ts.getD i za4).ov.toList.isEmpty || yC ts (ts.getD i za4).ov)
def zdT (ts:List Tm):Nat->ByteArray->ByteArray
 | 0,a=>a
 | n+1,a=>zdT ts n (over ts a)
def qw (ts:List Tm):Nat->ByteArray->ByteArray
 | 0,a=>a
 | n+1,a=>if a.size=0 then a else qw ts n (over ts a)
def zdq (ts:List Tm) (t:Tm):Bool:=decide ((zdT ts 4 t.ov).size=0)
def zeV (ts:List Tm) (i:Nat):Bool:=zdq ts (ts.getD i za4)
def zbk (ts:List Tm) (i:Nat):Bool:=decide ((qw ts 5 (ts.getD i za4).nm).size=0)
def zbh (ts:List Tm):Bool:=decide (ts.length<=12) && (up (qD ts) ts.length && up (zeV ts) ts.length)
def zbG (ts:List Tm) (i:Nat):Bool:=qD ts i && zbk ts i
def zaD (ts:List Tm):Bool:=decide (ts.length<=12) && up (zbG ts) ts.length
theorem zch {P:Nat->Bool} {n:Nat}:up P n=true ↔ ∀ i,i < n->P i=true:=by
 unfold up;rw [List.all_eq_true];simp
theorem znE {ts:List Tm} {i:Nat} (hi:i < ts.length) (h:qD ts i=true):zx ts[i].nm=true:=by
 unfold qD at h;rw [getD_at ts i _ hi] at h;simp only [Bool.and_eq_true] at h;exact h.1.1
theorem znp {ts:List Tm} {i:Nat} (hi:i+1 < ts.length) (h:qD ts (i+1)=true):less ts[i].nm ts[i+1].nm=true:=by
 unfold qD at h;rw [getD_at ts (i+1) _ hi,Nat.add_sub_cancel,getD_at ts i _ (by omega)] at h;simp only [Bool.and_eq_true] at h
 simpa using h.1.2
theorem zl9 {ts:List Tm} (h:up (qD ts) ts.length=true):∀ (j:Nat) (hj:j < ts.length) (i:Nat) (hi:i < j),less (ts[i]'(by omega)).nm ts[j].nm=true:=by
 intro j
 induction j with
 | zero=>intro _ i hi;omega
 | succ j ih =>
  intro hj i hi
  have h2:=znp hj (zfF hj h)
  rcases Nat.lt_or_ge i j with hlt | hge
  ·exact zaY _ _ _ (ih (by omega) i hlt) h2
  ·have e:i=j:=by omega
   subst e;exact h2
theorem over_self {ts:List Tm} (h:up (qD ts) ts.length=true) (i:Nat) (hi:i < ts.length):over ts ts[i].nm=ts[i].ov:=by
 refine zkj ts _ i hi ?_ rfl
 unfold yC
 rw [List.any_eq_false]
 intro x hx
 obtain ⟨k,hk,rfl⟩:=List.mem_iff_getElem.1 hx
 have hk':k < i:=by simp at hk;omega
 have h1:=zl9 h i hi k hk'
 simp only [List.getElem_take,decide_eq_true_eq]
 intro e
 unfold less at h1
 rw [e,zbz] at h1
 cases h1
theorem zmD {ts:List Tm} (h:up (qD ts) ts.length=true):over ts ByteArray.empty=ByteArray.empty:=by
 apply zgc
 unfold yC
 rw [List.any_eq_false]
 intro x hx
 obtain ⟨k,hk,rfl⟩:=List.mem_iff_getElem.1 hx
 have h1:=znE hk (zfF hk h)
 simp only [decide_eq_true_eq]
 intro e
 rw [e,zfI _ rfl] at h1
 cases h1
theorem zgA {ts:List Tm} (h:over ts ByteArray.empty=ByteArray.empty):∀ n,zdT ts n ByteArray.empty=ByteArray.empty
 | 0=>rfl
 | n+1=>by unfold zdT;rw [h];exact zgA h n
theorem zit {ts:List Tm} (h:over ts ByteArray.empty=ByteArray.empty):∀ n a,qw ts n a=zdT ts n a
 | 0,_=>rfl
 | n+1,a=>by
  unfold qw
  by_cases h0:a.size=0
  ·rw [if_pos h0,zcM a h0,zgA h]
  ·rw [if_neg h0,zit h n];rfl
theorem zjF {ts:List Tm} (h:up (qD ts) ts.length=true) (i:Nat) (hi:i < ts.length):zbk ts i=zeV ts i:=by
 unfold zbk zeV zdq
 rw [getD_at ts i _ hi,zit (zmD h),show zdT ts 5 ts[i].nm=zdT ts 4 (over ts ts[i].nm) from rfl,over_self h i hi]
theorem zjX (ts:List Tm):zbh ts=zaD ts:=by
 unfold zbh zaD
 congr 1
 rw [Bool.eq_iff_iff,Bool.and_eq_true]
 constructor
 ·rintro ⟨h1,h2⟩
  rw [zch]
  intro i hi
  unfold zbG
  rw [zfF hi h1,zjF h1 i hi,zfF hi h2];rfl
 ·intro h
  rw [zch] at h
  have h1:up (qD ts) ts.length=true:=by
   rw [zch];intro i hi;have:=h i hi;unfold zbG at this;rw [Bool.and_eq_true] at this;exact this.1
  refine ⟨h1,?_⟩
  rw [zch];intro i hi;have:=h i hi;unfold zbG at this;rw [Bool.and_eq_true,zjF h1 i hi] at this;exact this.2
end Gate
end Go.Proofs.YtaickbhifenbjaaGreat
namespace Go.Proofs.YtaickbhifenbjaaGreat
open Go.RowKit
def Tm.cells (m:Tm):Array Value:=#[.string m.nm,.string m.ov]
structure Tm.Small (m:Tm):Prop where
 nm:m.nm.size<=maxLen
 ov:m.ov.size<=maxLen
structure qJ (w:World) (a:Option Addr) (ts:List Tm):Prop where
 len:ts.length<=maxLen
 small:∀ i (h:i < ts.length),ts[i].Small
 rows:ts ≠ []->∃ b off,a=some ⟨b,off,none⟩/\b < w.heap.size/\∀ i (h:i < ts.length),∀ j,j < 2->w.cell? ⟨b,off+i * 2+j,none⟩=ts[i].cells[j]?
theorem qJ.mono {w w':World} {a:Option Addr} {ts:List Tm} (h:qJ w a ts) (hl:Below w.heap.size w w'):qJ w' a ts :=
 ⟨h.len,h.small,fun hne=>by
  obtain ⟨b,off,ha,hb,hr⟩:=h.rows hne
  exact ⟨b,off,ha,Nat.lt_of_lt_of_le hb hl.size,fun i hi j hj=>(hl.cell (p:=⟨b,off+i * 2+j,none⟩) hb).trans (hr i hi j hj)⟩⟩
theorem qJ.load {w w':World} {a:Option Addr} {ts:List Tm} (h:qJ w a ts) (hl:Below w.heap.size w w') (i:Nat) (hi:i < ts.length):∃ b off,a=some ⟨b,off,none⟩/\b < w.heap.size /\
 w'.cell? ⟨b,off+i * 2,none⟩=some (.string ts[i].nm)/\w'.cell? ⟨b,off+i * 2+1,none⟩=some (.string ts[i].ov):=by
 obtain ⟨b,off,ha,hb,hr⟩:=h.rows (by rintro rfl;simp at hi)
 have hc:∀ j,j < 2->w'.cell? ⟨b,off+i * 2+j,none⟩=ts[i].cells[j]?:=fun j hj=>(hl.cell (p:=⟨b,off+i * 2+j,none⟩) hb).trans (hr i hi j hj)
 exact ⟨b,off,ha,hb,hc 0 (by omega),hc 1 (by omega)⟩
def Tm.sz (m:Tm):Nat:=m.nm.size+m.ov.size
def zgi (ts:List Tm):Nat:=(ts.map Tm.sz).sum
def zcH (ts:List Tm):Nat:=ts.length+zgi ts
def zoV (w:World) (b o:Nat) (v0 v1:Value):World:=(w.setCell ⟨b,o,none⟩ v0).setCell ⟨b,o+1,none⟩ v1
def set2 (C:Array Value) (o:Nat) (v0 v1:Value):Array Value:=(C.setIfInBounds o v0).setIfInBounds (o+1) v1
theorem zmE {w:World} {b o:Nat} {C:Array Value} {t:TypeId} (h:w.heap[b]?=some (.cells C t)) (v0 v1:Value):(zoV w b o v0 v1).heap[b]?=some (.cells (set2 C o v0 v1) t) :=
 zi (zi h v0) v1
theorem zmI {B:Nat} {a w:World} (h:Below B a w) {b:Nat} (hb:B<=b) (o:Nat) (v0 v1:Value):Below B a (zoV w b o v0 v1) :=
 (h.setCell hb v0).setCell hb v1
theorem znt (C:Array Value) (o:Nat) (v0 v1:Value):(set2 C o v0 v1).size=C.size:=by simp [set2]
theorem zox (C:Array Value) (o i:Nat) (v0 v1:Value) (h:i < o \/ o+2<=i):(set2 C o v0 v1)[i]?=C[i]?:=by
 unfold set2
 iterate 2 rw [Array.getElem?_setIfInBounds,if_neg (by omega)]
theorem zoD (C:Array Value) (o j:Nat) (v0 v1:Value) (hj:j < 2) (ho:o+2<=C.size):(set2 C o v0 v1)[o+j]?=(#[v0,v1]:Array Value)[j]?:=by
 have hc:j=0 \/ j=1:=by omega
 unfold set2
 rcases hc with h | h <;> subst h <;> simp [Array.getElem?_setIfInBounds] <;> omega
structure zai (ty:TypeId) (lo:Nat) (w:World) (bo:Nat) (ts:List Tm) (k:Nat):Prop where
 low:lo<=bo
 rows:∃ C,w.heap[bo]?=some (.cells C ty)/\C.size=ts.length * 2/\∀ i (h:i < ts.length),i < k->∀ j,j < 2->C[i * 2+j]?=ts[i].cells[j]?
theorem zai.at {ty:TypeId} {lo:Nat} {w:World} {bo:Nat} {ts:List Tm} (h:zai ty lo w bo ts ts.length) (hs:∀ i (h:i < ts.length),ts[i].Small) (hl:ts.length<=maxLen):qJ w (some ⟨bo,0,none⟩) ts:=by
 obtain ⟨C,hC,hsz,hr⟩:=h.rows
 refine ⟨hl,hs,fun _=>⟨bo,0,rfl,(Array.getElem?_eq_some_iff.1 hC).1,fun i hi j hj=>?_⟩⟩
 rw [cell_of_block hC,Nat.zero_add]
 exact hr i hi hi j hj
theorem zai.later {ty:TypeId} {lo:Nat} {w w':World} {bo:Nat} {ts:List Tm} {k:Nat} (h:zai ty lo w bo ts k) (hb:Below w.heap.size w w'):zai ty lo w' bo ts k:=by
 obtain ⟨C,hC,hsz,hr⟩:=h.rows
 exact ⟨h.low,C,(hb.block bo (Array.getElem?_eq_some_iff.1 hC).1).trans hC,hsz,hr⟩
theorem zai.put {ty:TypeId} {lo:Nat} {w:World} {bo:Nat} {ts:List Tm} {k:Nat} (h:zai ty lo w bo ts k) (hk:k < ts.length) :
 zai ty lo (zoV w bo (k * 2) (.string ts[k].nm) (.string ts[k].ov)) bo ts (k+1):=by
 obtain ⟨C,hC,hsz,hr⟩:=h.rows
 refine ⟨h.low,_,zmE hC _ _,by rw [znt];exact hsz,fun i hi hik j hj=>?_⟩
 rcases Nat.lt_or_ge i k with hlt | hge
 ·rw [zox _ _ _ _ _ (by omega)]
  exact hr i hi hlt j hj
 ·have e:i=k:=by omega
  subst e
  rw [zoD _ _ _ _ _ hj (by omega)]
  rfl
def zn6:Array Value:=#[.string ByteArray.empty,.string ByteArray.empty]
def zm5 (n:Nat):Array Value:=madeCells zn6 (n * 2)
theorem zeh (m:Tm) (left:Int) (w:World) (hm:m.Small) (h0:0<=left) (h1:left<=1048576) :
 Calls Tryz.prog 41 #[.agg m.cells,.int .i64 left] w fun e w'=>e = .returned (.int .i64 (zL m.sz left))/\Below w.heap.size w w':=by
 have k1:=hm.nm
 have k2:=hm.ov
 unfold maxLen at k1 k2
 unfold Tm.cells
 have hB:∀ ob,Below w.heap.size w (w.alloc ob):=fun ob=>(Below.refl _ _).alloc (Nat.le_refl _) _
 by_cases hf:(m.sz:Int)<=left
 ·have HF:Hid (zL m.sz left=left - m.nm.size - m.ov.size):=by
   unfold Hid;rw [zM hf];unfold Tm.sz;omega
  unfold Tm.sz at hf
  go_enter Tryz.func41,Tryz.ntmps41
  go_wp2_with fail
  go_ret
  exact ⟨zm HF.out.symm,hB _⟩
 ·have HF:Hid (zL m.sz left=-1):=zD hf
  have HN:Hid (¬ ((m.nm.size+m.ov.size:Nat):Int)<=left):=hf
  clear hf
  go_enter Tryz.func41,Tryz.ntmps41
  go_wp2_with fail
  all_goals go_ret
  all_goals first | exact ⟨zm HF.out.symm,hB _⟩ | (exfalso;have:=HN.out;simp at *;omega)
theorem zhP (m:Tm) (left:Int) (w:World) (hm:m.Small) (h0:0<=left) (h1:left<=1048576) (h:(m.sz:Int)<=left) :
 Calls Tryz.prog 41 #[.agg m.cells,.int .i64 left] w fun e w'=>e = .returned (.int .i64 (left - m.sz))/\Below w.heap.size w w':=by
 refine (zeh m left w hm h0 h1).mono ?_
 rintro e w' ⟨rfl,hb⟩
 exact ⟨zm (zM h),hb⟩
theorem zjf (m:Tm) (left:Int) (w:World) (hm:m.Small) (h0:0<=left) (h1:left<=1048576) (h:¬ (m.sz:Int)<=left) :
 Calls Tryz.prog 41 #[.agg m.cells,.int .i64 left] w fun e w'=>e = .returned (.int .i64 (-1))/\Below w.heap.size w w':=by
 refine (zeh m left w hm h0 h1).mono ?_
 rintro e w' ⟨rfl,hb⟩
 exact ⟨zm (zD h),hb⟩
theorem zhu (a:Option Addr) (cap:Nat) (ts:List Tm) (left:Int) (w:World) (hw:qJ w a ts) (h0:0<=left) (h1:left<=1048576) :
 Calls Tryz.prog 16 #[.slice a ts.length cap,.int .i64 left] w fun e w'=>e = .returned (.int .i64 (zL (zcH ts) left))/\Below w.heap.size w w':=by
 have hl:=hw.len
 unfold maxLen at hl
 by_cases hfit:(ts.length:Int)<=left
 ·go_enter Tryz.func16,Tryz.ntmps16
  go_wp2_with fail
  go_loopw [1,5] (fun l i wr=>∃ k:Nat,k<=ts.length/\i = .int .i64 k/\0<=left - ts.length - zgi (ts.take k)/\l = .int .i64 (left - ts.length - zgi (ts.take k))/\Below w.heap.size w wr) (fun _ i _=>ts.length - (intOf i).toNat)
  case atStart=>exact ⟨0,Nat.zero_le _,rfl,by simp [zgi];omega,by simp [zgi],Below.refl _ _⟩
  case round =>
   obtain ⟨k,hk,rfl,hpos,rfl,hB⟩:=hrel
   by_cases hlt:k < ts.length
   ·obtain ⟨b,off,rfl,hb,c0,c1⟩:=hw.load hB k hlt
    have hsm:=hw.small k hlt
    have HS:Hid (zgi (ts.take (k+1))=zgi (ts.take k)+ts[k].sz):=zaS Tm.sz ts k hlt
    have hle:zgi (ts.take (k+1))<=zgi ts:=zcm Tm.sz ts (k+1)
    clear hw
    by_cases hneg:(ts[k].sz:Int)<=left - ts.length - zgi (ts.take k)
    ·have HNG:Hid ((ts[k].sz:Int)<=left - ts.length - zgi (ts.take k)):=hneg
     clear hle
     go_wp2_with fail
     refine (zhP _ _ _ hsm hpos (by omega) HNG.out).mono ?_
     rintro e w1 ⟨rfl,hb1⟩
     have hB1:=hB.trans (hb1.mono hB.size)
     clear hb1
     go_wp2_with fail
     exact ⟨⟨k+1,by omega,by go_num,by rw [HS.out];omega,by rw [HS.out];congr 1;omega,hB1⟩,by simp [intOf];omega⟩
    ·have HF:Hid (zL (zcH ts) left=-1):=zD (by have:=HS.out;unfold zcH;omega)
     have HNG:Hid (¬ (ts[k].sz:Int)<=left - ts.length - zgi (ts.take k)):=hneg
     clear hneg hle
     go_wp2_with fail
     refine (zjf _ _ _ hsm hpos (by omega) (by have:=HNG.out;omega)).mono ?_
     rintro e w1 ⟨rfl,hb1⟩
     have hB1:=hB.trans (hb1.mono hB.size)
     clear hb1
     go_wp2_with fail
     go_ret
     exact ⟨zm HF.out.symm,hB1⟩
   ·have HF:Hid (zL (zcH ts) left=left - ts.length - zgi (ts.take k)):=by
     rw [List.take_of_length_le (by omega)] at hpos ⊢
     have e:zL (zcH ts) left=left - zcH ts:=zM (by unfold zcH;omega)
     unfold Hid;rw [e];unfold zcH;omega
    clear hw
    go_wp2
    go_ret
    exact ⟨zm HF.out.symm,hB⟩
 ·have HF:Hid (zL (zcH ts) left=-1):=zD (by unfold zcH;omega)
  clear hw
  go_enter Tryz.func16,Tryz.ntmps16
  go_wp2
  go_ret
  exact ⟨zm HF.out.symm,Below.refl _ _⟩
theorem ziu (m:Tm) (w:World):Calls Tryz.prog 69 #[.agg m.cells,.agg m.cells] w fun e w'=>e = .returned (.bool true)/\Below w.heap.size w w':=by
 unfold Tm.cells
 go_enter Tryz.func69,Tryz.ntmps69
 go_wp2_with fail
 go_ret
 exact ⟨rfl,zC _ _ _⟩
theorem zg6 (a a':Option Addr) (cap cap':Nat) (ts:List Tm) (w:World) (hw:qJ w a ts) (hw':qJ w a' ts) :
 Calls Tryz.prog 34 #[.slice a ts.length cap,.slice a' ts.length cap'] w fun e w'=>e = .returned (.bool true)/\Below w.heap.size w w':=by
 have hl:=hw.len
 unfold maxLen at hl
 have hnn:((ts.length:Int) != ts.length)=false:=by simp
 go_enter Tryz.func34,Tryz.ntmps34
 go_wp2_with fail
 go_loopw [5] (fun i wr=>∃ k:Nat,k<=ts.length/\i = .int .i64 k/\Below w.heap.size w wr) (fun i _=>ts.length - (intOf i).toNat)
 case atStart=>exact ⟨0,Nat.zero_le _,rfl,Below.refl _ _⟩
 case round =>
  obtain ⟨k,hk,rfl,hB⟩:=hrel
  by_cases hlt:k < ts.length
  ·obtain ⟨b,off,rfl,hb,c0,c1⟩:=hw.load hB k hlt
   obtain ⟨b',off',rfl,hb',d0,d1⟩:=hw'.load hB k hlt
   have hltI:(k:Int) < (ts.length:Int):=by omega
   clear hw hw'
   go_wp2_with fail
   go_region_with (go_at_call 69;refine (ziu ts[k] _).mono ?_;rintro e w1 ⟨rfl,hb1'⟩;have hb1:=(Below.refl wr.heap.size wr).drew.trans hb1';clear hb1')
   all_goals go_wp2_with fail
   all_goals exact ⟨⟨k+1,by omega,by go_num,hB.trans (hb1.mono hB.size)⟩,by simp [intOf];omega⟩
  ·clear hw hw'
   go_wp2_with fail
   go_ret
   exact ⟨rfl,hB⟩
theorem zhS (m:Tm) (w:World) :
 Calls Tryz.prog 55 #[.agg m.cells] w fun e w'=>e = .returned (.agg m.cells)/\Below w.heap.size w w':=by
 unfold Tm.cells
 go_enter Tryz.func55,Tryz.ntmps55
 go_wp2_with fail
 refine bodyPost_ret (v:=.agg #[.string m.nm,.string m.ov]) (by simp [results,Tryz.results55,go_sem]) rfl ⟨rfl,?_⟩
 exact ((((Below.refl _ _).alloc (Nat.le_refl _) _).alloc (by simp) _).alloc (by simp;omega) _)
theorem zg0 (a:Option Addr) (cap:Nat) (ts:List Tm) (w:World) (hw:qJ w a ts) (hl:ts.length<=1048576) :
 Calls Tryz.prog 25 #[.slice a ts.length cap] w fun e w'=>e = .returned (.slice (some ⟨w.heap.size,0,none⟩) ts.length ts.length)/\zai 119 w.heap.size w' w.heap.size ts ts.length/\Below w.heap.size w w':=by
 have hmk:∀ w:World,(Instr.makeSlice 41 (.int .i64 ts.length) (.int .i64 ts.length)).run Tryz.prog w = .ok (.slice (some ⟨w.heap.size,0,none⟩) ts.length ts.length) (w.alloc (.cells (zm5 ts.length) 119)) :=
  fun w=>jF (P:=Tryz.prog) 41 119 (.agg zn6) 2 32 Tryz.underlying41 (by kernel_rfl) ts.length (by omega) (by omega) w
 go_enter Tryz.func25,Tryz.ntmps25
 go_wp2_with fail
 clear hmk
 go_loopw [4] (fun i wr=>∃ k:Nat,k<=ts.length/\i = .int .i64 k/\zai 119 w.heap.size wr w.heap.size ts k/\Below w.heap.size w wr) (fun i _=>ts.length - (intOf i).toNat)
 case atStart=>exact ⟨0,Nat.zero_le _,rfl,⟨Nat.le_refl _,zm5 ts.length,(MapKept.heap_alloc w _).1,size_madeCells _ _,fun i _ h=>absurd h (by omega)⟩,(Below.refl _ _).alloc (Nat.le_refl _) _⟩
 case round =>
  obtain ⟨k,hk,rfl,hown,hB⟩:=hrel
  by_cases hlt:k < ts.length
  ·obtain ⟨b,off,rfl,hb,c0,c1⟩:=hw.load hB k hlt
   have hltI:(k:Int) < (ts.length:Int):=by omega
   clear hw
   go_wp2_with fail
   refine (zhS ts[k] _).mono ?_
   rintro e w1 ⟨rfl,hb1⟩
   have hB1:=hB.trans (hb1.mono hB.size)
   have hown1:=hown.later hb1
   have hbo:w.heap.size < wr.heap.size:=by
    obtain ⟨C',hC',_⟩:=hown.rows
    exact (Array.getElem?_eq_some_iff.1 hC').1
   obtain ⟨C,hC,hsz,_⟩:=hown1.rows
   have hfz:∀ o,w1.frozen? ⟨w.heap.size,o,none⟩=false:=fun o=>zn hC
   have hex:∀ o,o < ts.length * 2->∃ v,w1.cell? ⟨w.heap.size,o,none⟩=some v:=fun o ho=>⟨C[o]'(by omega),by rw [cell_of_block hC];exact Array.getElem?_eq_getElem (by omega)⟩
   obtain ⟨v0,hv0⟩:=hex (k * 2) (by omega)
   obtain ⟨v1,hv1⟩:=hex (k * 2+1) (by omega)
   have HP:Hid (zai 119 w.heap.size w1 w.heap.size ts k):=hown1
   clear hex hC hsz c0 c1 hown hown1
   unfold Tm.cells
   go_wp2_with fail
   exact ⟨⟨k+1,by omega,by go_num,HP.out.put hlt,zmI hB1 (Nat.le_refl _) _ _ _⟩,by simp [intOf];omega⟩
  ·have HF:Hid (zai 119 w.heap.size wr w.heap.size ts ts.length):=by
    have e:k=ts.length:=by omega
    subst e;exact hown
   clear hw hown
   go_wp2_with fail
   go_ret
   exact ⟨rfl,HF.out,hB⟩
end Go.Proofs.YtaickbhifenbjaaGreat
