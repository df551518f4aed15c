import Derived.Test.YtghnakljnhnenaaGreatM04
set_option maxHeartbeats 2000000
namespace Go.Proofs.YtghnakljnhnenaaGreat
open Go.RowKit
def zp8 (w:World) (b o:Nat) (v0 v1 v2 v3 v4 v5:Value):World:=(((((w.setCell ⟨b,o,none⟩ v0).setCell ⟨b,o+1,none⟩ v1).setCell ⟨b,o+2,none⟩ v2).setCell ⟨b,o+3,none⟩ v3).setCell ⟨b,o+4,none⟩ v4).setCell ⟨b,o+5,none⟩ v5
def znK (C:Array Value) (o:Nat) (v0 v1 v2 v3 v4 v5:Value):Array Value:=(((((C.setIfInBounds o v0).setIfInBounds (o+1) v1).setIfInBounds (o+2) v2).setIfInBounds (o+3) v3).setIfInBounds (o+4) v4).setIfInBounds (o+5) v5
theorem zn1 {w:World} {b o:Nat} {C:Array Value} {t:TypeId} (h:w.heap[b]?=some (.cells C t)) (v0 v1 v2 v3 v4 v5:Value):(zp8 w b o v0 v1 v2 v3 v4 v5).heap[b]?=some (.cells (znK C o v0 v1 v2 v3 v4 v5) t) :=
 zk (zk (zk (zk (zk (zk h v0) v1) v2) v3) v4) v5
theorem znv {B:Nat} {a w:World} (h:Below B a w) {b:Nat} (hb:B<=b) (o:Nat) (v0 v1 v2 v3 v4 v5:Value):Below B a (zp8 w b o v0 v1 v2 v3 v4 v5) :=
 (((((h.setCell hb v0).setCell hb v1).setCell hb v2).setCell hb v3).setCell hb v4).setCell hb v5
theorem zoW (C:Array Value) (o:Nat) (v0 v1 v2 v3 v4 v5:Value):(znK C o v0 v1 v2 v3 v4 v5).size=C.size:=by simp [znK]
theorem zpL (C:Array Value) (o i:Nat) (v0 v1 v2 v3 v4 v5:Value) (h:i < o \/ o+6<=i):(znK C o v0 v1 v2 v3 v4 v5)[i]?=C[i]?:=by
 unfold znK
 iterate 6 rw [Array.getElem?_setIfInBounds,if_neg (by omega)]
theorem zp2 (C:Array Value) (o j:Nat) (v0 v1 v2 v3 v4 v5:Value) (hj:j < 6) (ho:o+6<=C.size):(znK C o v0 v1 v2 v3 v4 v5)[o+j]?=(#[v0,v1,v2,v3,v4,v5]:Array Value)[j]?:=by
 have hc:j=0 \/ j=1 \/ j=2 \/ j=3 \/ j=4 \/ j=5:=by omega
 unfold znK
 rcases hc with h | h | h | h | h | h <;> subst h <;> simp [Array.getElem?_setIfInBounds] <;> omega
theorem jg.put {lo:Nat} {w:World} {bo:Nat} {ms:List Mnd} {k:Nat} (h:jg lo w bo ms k) (hk:k < ms.length) :
 jg lo (zp8 w bo (k * 6) (.string ms[k].kd) (.string ms[k].fd) (.string ms[k].wh) (.string ms[k].wi) (.string ms[k].pt) (.string ms[k].fr)) bo ms (k+1):=by
 obtain ⟨C,hC,hsz,hr⟩:=h.rows;refine ⟨h.low,_,zn1 hC _ _ _ _ _ _,by rw [zoW];exact hsz,fun i hi hik j hj=>?_⟩
 rcases Nat.lt_or_ge i k with hlt | hge
 ·rw [zpL _ _ _ _ _ _ _ _ _ (by omega)]
  exact hr i hi hlt j hj
 ·have e:i=k:=by omega
  subst e;rw [zp2 _ _ _ _ _ _ _ _ _ hj (by omega)]
  rfl
theorem ziP (m:Mnd) (w:World) :
 Calls Tryz.prog 65 #[.agg m.cells] w fun e w'=>e = .returned (.agg m.cells)/\Below w.heap.size w w':=by
 unfold Mnd.cells;go_enter Tryz.func65,Tryz.ntmps65;go_wp2_with fail
 refine bodyPost_ret (v:=.agg #[.string m.kd,.string m.fd,.string m.wh,.string m.wi,.string m.pt,.string m.fr]) (by simp [results,Tryz.results65,go_sem]) rfl ⟨rfl,?_⟩;exact (((bAl _ _).alloc (by simp) _).alloc (by simp;omega) _)
def zor:Array Value:=#[.string ByteArray.empty,.string ByteArray.empty,.string ByteArray.empty,.string ByteArray.empty,.string ByteArray.empty,.string ByteArray.empty]
def zlR (n:Nat):Array Value:=madeCells zor (n * 6)
theorem zh0 (a:Option Addr) (cap:Nat) (ms:List Mnd) (w:World) (hw:yY w a ms) (hl:ms.length<=1048576) :
 Calls Tryz.prog 29 #[.slice a ms.length cap] w fun e w'=>e = .returned (.slice (some ⟨w.heap.size,0,none⟩) ms.length ms.length)/\jg w.heap.size w' w.heap.size ms ms.length/\Below w.heap.size w w':=by
 have hmk:∀ w:World,(Instr.makeSlice 38 (.int .i64 ms.length) (.int .i64 ms.length)).run Tryz.prog w = .ok (.slice (some ⟨w.heap.size,0,none⟩) ms.length ms.length) (w.alloc (.cells (zlR ms.length) 125)) :=
  fun w=>jK (P:=Tryz.prog) 38 125 (.agg zor) 6 96 Tryz.underlying38 (by kernel_rfl) ms.length (by omega) (by omega) w
 go_enter Tryz.func29,Tryz.ntmps29;go_wp2_with fail
 clear hmk
 go_loopw [4] (fun i wr=>∃ k:Nat,k<=ms.length/\i = .int .i64 k/\jg w.heap.size wr w.heap.size ms k/\Below w.heap.size w wr) (fun i _=>ms.length - (intOf i).toNat)
 case atStart=>exact ⟨0,Nat.zero_le _,rfl,⟨Nat.le_refl _,zlR ms.length,(MapKept.heap_alloc w _).1,size_madeCells _ _,fun i _ h=>absurd h (by omega)⟩,bAl _ _⟩
 case round =>
  obtain ⟨k,hk,rfl,hown,hB⟩:=hrel
  by_cases hlt:k < ms.length
  ·obtain ⟨b,off,rfl,hb,c0,c1,c2,c3,c4,c5⟩:=hw.load hB k hlt
   have hltI:(k:Int) < (ms.length:Int):=by omega
   clear hw;go_wp2_with fail
   refine (ziP ms[k] _).mono ?_;rintro e w1 ⟨rfl,hb1⟩;have hB1:=hB.trans (hb1.mono hB.size);have hown1:=hown.later hb1
   have hbo:w.heap.size < wr.heap.size:=by
    obtain ⟨C',hC',_⟩:=hown.rows;exact (gES hC').1
   obtain ⟨C,hC,hsz,_⟩:=hown1.rows;have hfz:∀ o,w1.frozen? ⟨w.heap.size,o,none⟩=false:=fun o=>zi hC
   have hex:∀ o,o < ms.length * 6->∃ v,w1.cell? ⟨w.heap.size,o,none⟩=some v:=fun o ho=>⟨C[o]'(by omega),by rw [cell_of_block hC];exact Array.getElem?_eq_getElem (by omega)⟩
   obtain ⟨v0,hv0⟩:=hex (k * 6) (by omega);obtain ⟨v1,hv1⟩:=hex (k * 6+1) (by omega);obtain ⟨v2,hv2⟩:=hex (k * 6+2) (by omega);obtain ⟨v3,hv3⟩:=hex (k * 6+3) (by omega);obtain ⟨v4,hv4⟩:=hex (k * 6+4) (by omega);obtain ⟨v5,hv5⟩:=hex (k * 6+5) (by omega);have HP:Hid (jg w.heap.size w1 w.heap.size ms k):=hown1;clear hex hC hsz c0 c1 c2 c3 c4 c5 hown hown1;unfold Mnd.cells;go_wp2_with fail
   exact ⟨⟨k+1,by omega,by go_num,HP.out.put hlt,znv hB1 (Nat.le_refl _) _ _ _ _ _ _ _⟩,by simp [intOf];omega⟩
  ·have HF:Hid (jg w.heap.size wr w.heap.size ms ms.length):=by
    have e:k=ms.length:=by omega
    subst e;exact hown
   clear hw hown;go_wp2_with fail
   go_ret;exact ⟨rfl,HF.out,hB⟩
end Go.Proofs.YtghnakljnhnenaaGreat
namespace Go.Proofs.YtghnakljnhnenaaGreat
structure Tm where
 nm:ByteArray
 ov:ByteArray
namespace Gate
def zbn:Tm:=⟨ByteArray.empty,ByteArray.empty⟩
def yA (ts:List Tm) (v:ByteArray):Bool:=ts.any fun t=>decide (t.nm=v)
def over (ts:List Tm) (v:ByteArray):ByteArray:=((ts.find? fun t=>decide (t.nm=v)).getD zbn).ov
theorem zd4 (ts:List Tm) (v:ByteArray) (k:Nat) (h:k < ts.length):yA (ts.take (k+1)) v=(yA (ts.take k) v || decide (ts[k].nm=v)):=by
 unfold yA;rw [tSe h,List.any_append];simp
theorem zoa (ts:List Tm) (v:ByteArray) (k:Nat) (h:k < ts.length) (e:ts[k].nm=v):yA ts v=true:=by
 unfold yA;rw [List.any_eq_true];exact ⟨ts[k],List.getElem_mem h,by simpa using e⟩
theorem zeG (ts:List Tm) (v:ByteArray) (k:Nat) (h:ts.length<=k):yA (ts.take k) v=yA ts v:=by rw [tOl h]
theorem zlz (ts:List Tm) (v:ByteArray) (k:Nat) (h:k < ts.length) (hb:yA (ts.take k) v=false) (e:ts[k].nm=v):over ts v=ts[k].ov:=by
 unfold over
 have hn:(ts.take k).find? (fun s=>decide (s.nm=v))=none:=by
  rw [List.find?_eq_none];intro x hx;unfold yA at hb;rw [List.any_eq_false] at hb;exact hb x hx
 have hf:ts.find? (fun s=>decide (s.nm=v))=some ts[k]:=by
  conv=>lhs;rw [<- List.take_append_drop k ts]
  rw [List.find?_append,hn,List.drop_eq_getElem_cons h,List.find?_cons_of_pos (by simpa using e)];rfl
 rw [hf];rfl
theorem zgH (ts:List Tm) (v:ByteArray) (hb:yA ts v=false):over ts v=ByteArray.empty:=by
 unfold over
 have hn:ts.find? (fun s=>decide (s.nm=v))=none:=by
  rw [List.find?_eq_none];intro x hx;unfold yA at hb;rw [List.any_eq_false] at hb;exact hb x hx
 rw [hn];rfl
def under (ts:List Tm):Nat->ByteArray->ByteArray->Bool
 | 0,a,b=>decide (a=b)
 | n+1,a,b=>decide (a=b) || (decide (¬ (over ts a).size=0) && under ts n (over ts a) b)
theorem zdR (ts:List Tm) (n:Nat) (a b:ByteArray) (h:a=b):under ts n a b=true:=by
 cases n <;> simp [under,h]
theorem zkQ (ts:List Tm) {a b:ByteArray} (h:¬ a=b):under ts 0 a b=false:=by simp [under,h]
theorem zjd (ts:List Tm) (n:Nat) {a b:ByteArray} (h:¬ a=b) (h0:(over ts a).size=0):under ts (n+1) a b=false:=by simp [under,h,h0]
theorem zmD (ts:List Tm) (n:Nat) {a b:ByteArray} (h:¬ a=b) (h0:¬ (over ts a).size=0):under ts (n+1) a b=under ts n (over ts a) b:=by simp [under,h,h0]
def qI (ts:List Tm) (i:Nat):Bool :=
 zy (ts.getD i zbn).nm && (decide (i=0) || less (ts.getD (i - 1) zbn).nm (ts.getD i zbn).nm) && ((ts.getD i zbn).ov.toList.isEmpty || yA ts (ts.getD i zbn).ov)
def zez (ts:List Tm):Nat->ByteArray->ByteArray
 | 0,a=>a
 | n+1,a=>zez ts n (over ts a)
def qz (ts:List Tm):Nat->ByteArray->ByteArray
 | 0,a=>a
 | n+1,a=>if a.size=0 then a else qz ts n (over ts a)
def zd3 (ts:List Tm) (t:Tm):Bool:=decide ((zez ts 4 t.ov).size=0)
def zfz (ts:List Tm) (i:Nat):Bool:=zd3 ts (ts.getD i zbn)
def zbK (ts:List Tm) (i:Nat):Bool:=decide ((qz ts 5 (ts.getD i zbn).nm).size=0)
def zbJ (ts:List Tm):Bool:=decide (ts.length<=12) && (up (qI ts) ts.length && up (zfz ts) ts.length)
def zb5 (ts:List Tm) (i:Nat):Bool:=qI ts i && zbK ts i
def zaK (ts:List Tm):Bool:=decide (ts.length<=12) && up (zb5 ts) ts.length
theorem zcF {P:Nat->Bool} {n:Nat}:up P n=true ↔ ∀ i,i < n->P i=true:=by
 unfold up;rw [List.all_eq_true];simp
theorem zpa {ts:List Tm} {i:Nat} (hi:i < ts.length) (h:qI ts i=true):zy ts[i].nm=true:=by
 unfold qI at h;rw [getD_at ts i _ hi] at h;simp only [Bool.and_eq_true] at h;exact h.1.1
theorem zoU {ts:List Tm} {i:Nat} (hi:i+1 < ts.length) (h:qI ts (i+1)=true):less ts[i].nm ts[i+1].nm=true:=by
 unfold qI at h;rw [getD_at ts (i+1) _ hi,Nat.add_sub_cancel,getD_at ts i _ (by omega)] at h;simp only [Bool.and_eq_true] at h
 simpa using h.1.2
theorem zob {ts:List Tm} (h:up (qI ts) ts.length=true):∀ (j:Nat) (hj:j < ts.length) (i:Nat) (hi:i < j),less (ts[i]'(by omega)).nm ts[j].nm=true:=by
 intro j
 induction j with
 | zero=>intro _ i hi;omega
 | succ j ih =>
  intro hj i hi;have h2:=zoU hj (ze6 hj h)
  rcases Nat.lt_or_ge i j with hlt | hge
  ·exact zbj _ _ _ (ih (by omega) i hlt) h2
  ·have e:i=j:=by omega
   subst e;exact h2
theorem over_self {ts:List Tm} (h:up (qI ts) ts.length=true) (i:Nat) (hi:i < ts.length):over ts ts[i].nm=ts[i].ov:=by
 refine zlz ts _ i hi ?_ rfl;unfold yA;rw [List.any_eq_false];intro x hx;obtain ⟨k,hk,rfl⟩:=List.mem_iff_getElem.1 hx;have hk':k < i:=by simp at hk;omega
 have h1:=zob h i hi k hk';simp only [List.getElem_take,decide_eq_true_eq];intro e;unfold less at h1;rw [e,zbY] at h1
 cases h1
theorem zn8 {ts:List Tm} (h:up (qI ts) ts.length=true):over ts ByteArray.empty=ByteArray.empty:=by
 apply zgH
 unfold yA;rw [List.any_eq_false];intro x hx;obtain ⟨k,hk,rfl⟩:=List.mem_iff_getElem.1 hx;have h1:=zpa hk (ze6 hk h);simp only [decide_eq_true_eq];intro e;rw [e,zgf _ rfl] at h1
 cases h1
theorem zhs {ts:List Tm} (h:over ts ByteArray.empty=ByteArray.empty):∀ n,zez ts n ByteArray.empty=ByteArray.empty
 | 0=>rfl
 | n+1=>by unfold zez;rw [h];exact zhs h n
theorem ziO {ts:List Tm} (h:over ts ByteArray.empty=ByteArray.empty):∀ n a,qz ts n a=zez ts n a
 | 0,_=>rfl
 | n+1,a=>by
  unfold qz
  by_cases h0:a.size=0
  ·rw [if_pos h0,zde a h0,zhs h]
  ·rw [if_neg h0,ziO h n];rfl
theorem zky {ts:List Tm} (h:up (qI ts) ts.length=true) (i:Nat) (hi:i < ts.length):zbK ts i=zfz ts i:=by
 unfold zbK zfz zd3;rw [getD_at ts i _ hi,ziO (zn8 h),show zez ts 5 ts[i].nm=zez ts 4 (over ts ts[i].nm) from rfl,over_self h i hi]
theorem zlJ (ts:List Tm):zbJ ts=zaK ts:=by
 unfold zbJ zaK
 congr 1
 rw [Bool.eq_iff_iff,Bool.and_eq_true]
 constructor
 ·rintro ⟨h1,h2⟩
  rw [zcF];intro i hi;unfold zb5;rw [ze6 hi h1,zky h1 i hi,ze6 hi h2];rfl
 ·intro h
  rw [zcF] at h
  have h1:up (qI ts) ts.length=true:=by
   rw [zcF];intro i hi;have:=h i hi;unfold zb5 at this;rw [Bool.and_eq_true] at this;exact this.1
  refine ⟨h1,?_⟩;rw [zcF];intro i hi;have:=h i hi;unfold zb5 at this;rw [Bool.and_eq_true,zky h1 i hi] at this;exact this.2
end Gate
end Go.Proofs.YtghnakljnhnenaaGreat
namespace Go.Proofs.YtghnakljnhnenaaGreat
open Go.RowKit
def Tm.cells (m:Tm):Array Value:=#[.string m.nm,.string m.ov]
structure Tm.Small (m:Tm):Prop where
 nm:m.nm.size<=maxLen
 ov:m.ov.size<=maxLen
structure jk (w:World) (a:Option Addr) (ts:List Tm):Prop where
 len:ts.length<=maxLen
 small:∀ i (h:i < ts.length),ts[i].Small
 rows:ts ≠ []->∃ b off,a=some ⟨b,off,none⟩/\b < w.heap.size/\∀ i (h:i < ts.length),∀ j,j < 2->w.cell? ⟨b,off+i * 2+j,none⟩=ts[i].cells[j]?
theorem jk.mono {w w':World} {a:Option Addr} {ts:List Tm} (h:jk w a ts) (hl:Below w.heap.size w w'):jk w' a ts :=
 ⟨h.len,h.small,fun hne=>by
  obtain ⟨b,off,ha,hb,hr⟩:=h.rows hne;exact ⟨b,off,ha,nLt hb hl.size,fun i hi j hj=>(hl.cell (p:=⟨b,off+i * 2+j,none⟩) hb).trans (hr i hi j hj)⟩⟩
theorem jk.load {w w':World} {a:Option Addr} {ts:List Tm} (h:jk w a ts) (hl:Below w.heap.size w w') (i:Nat) (hi:i < ts.length):∃ b off,a=some ⟨b,off,none⟩/\b < w.heap.size /\
 w'.cell? ⟨b,off+i * 2,none⟩=some (.string ts[i].nm)/\w'.cell? ⟨b,off+i * 2+1,none⟩=some (.string ts[i].ov):=by
 obtain ⟨b,off,ha,hb,hr⟩:=h.rows (by rintro rfl;simp at hi);have hc:∀ j,j < 2->w'.cell? ⟨b,off+i * 2+j,none⟩=ts[i].cells[j]?:=fun j hj=>(hl.cell (p:=⟨b,off+i * 2+j,none⟩) hb).trans (hr i hi j hj)
 exact ⟨b,off,ha,hb,hc 0 (by omega),hc 1 (by omega)⟩
def Tm.sz (m:Tm):Nat:=m.nm.size+m.ov.size
def zgL (ts:List Tm):Nat:=(ts.map Tm.sz).sum
def zc3 (ts:List Tm):Nat:=ts.length+zgL ts
def zp9 (w:World) (b o:Nat) (v0 v1:Value):World:=(w.setCell ⟨b,o,none⟩ v0).setCell ⟨b,o+1,none⟩ v1
def set2 (C:Array Value) (o:Nat) (v0 v1:Value):Array Value:=(C.setIfInBounds o v0).setIfInBounds (o+1) v1
theorem znh {w:World} {b o:Nat} {C:Array Value} {t:TypeId} (h:w.heap[b]?=some (.cells C t)) (v0 v1:Value):(zp9 w b o v0 v1).heap[b]?=some (.cells (set2 C o v0 v1) t) :=
 zk (zk h v0) v1
theorem znB {B:Nat} {a w:World} (h:Below B a w) {b:Nat} (hb:B<=b) (o:Nat) (v0 v1:Value):Below B a (zp9 w b o v0 v1) :=
 (h.setCell hb v0).setCell hb v1
theorem zoI (C:Array Value) (o:Nat) (v0 v1:Value):(set2 C o v0 v1).size=C.size:=by simp [set2]
theorem zpE (C:Array Value) (o i:Nat) (v0 v1:Value) (h:i < o \/ o+2<=i):(set2 C o v0 v1)[i]?=C[i]?:=by
 unfold set2
 iterate 2 rw [Array.getElem?_setIfInBounds,if_neg (by omega)]
theorem zp1 (C:Array Value) (o j:Nat) (v0 v1:Value) (hj:j < 2) (ho:o+2<=C.size):(set2 C o v0 v1)[o+j]?=(#[v0,v1]:Array Value)[j]?:=by
 have hc:j=0 \/ j=1:=by omega
 unfold set2
 rcases hc with h | h <;> subst h <;> simp [Array.getElem?_setIfInBounds] <;> omega
structure zab (ty:TypeId) (lo:Nat) (w:World) (bo:Nat) (ts:List Tm) (k:Nat):Prop where
 low:lo<=bo
 rows:∃ C,w.heap[bo]?=some (.cells C ty)/\C.size=ts.length * 2/\∀ i (h:i < ts.length),i < k->∀ j,j < 2->C[i * 2+j]?=ts[i].cells[j]?
theorem zab.at {ty:TypeId} {lo:Nat} {w:World} {bo:Nat} {ts:List Tm} (h:zab ty lo w bo ts ts.length) (hs:∀ i (h:i < ts.length),ts[i].Small) (hl:ts.length<=maxLen):jk w (some ⟨bo,0,none⟩) ts:=by
 obtain ⟨C,hC,hsz,hr⟩:=h.rows;refine ⟨hl,hs,fun _=>⟨bo,0,rfl,(gES hC).1,fun i hi j hj=>?_⟩⟩;rw [cell_of_block hC,Nat.zero_add];exact hr i hi hi j hj
theorem zab.later {ty:TypeId} {lo:Nat} {w w':World} {bo:Nat} {ts:List Tm} {k:Nat} (h:zab ty lo w bo ts k) (hb:Below w.heap.size w w'):zab ty lo w' bo ts k:=by
 obtain ⟨C,hC,hsz,hr⟩:=h.rows;exact ⟨h.low,C,(hb.block bo (gES hC).1).trans hC,hsz,hr⟩
theorem zab.put {ty:TypeId} {lo:Nat} {w:World} {bo:Nat} {ts:List Tm} {k:Nat} (h:zab ty lo w bo ts k) (hk:k < ts.length) :
 zab ty lo (zp9 w bo (k * 2) (.string ts[k].nm) (.string ts[k].ov)) bo ts (k+1):=by
 obtain ⟨C,hC,hsz,hr⟩:=h.rows;refine ⟨h.low,_,znh hC _ _,by rw [zoI];exact hsz,fun i hi hik j hj=>?_⟩
 rcases Nat.lt_or_ge i k with hlt | hge
 ·rw [zpE _ _ _ _ _ (by omega)]
  exact hr i hi hlt j hj
 ·have e:i=k:=by omega
  subst e;rw [zp1 _ _ _ _ _ hj (by omega)]
  rfl
def zpC:Array Value:=#[.string ByteArray.empty,.string ByteArray.empty]
def zoq (n:Nat):Array Value:=madeCells zpC (n * 2)
theorem zeA (m:Tm) (left:Int) (w:World) (hm:m.Small) (h0:0<=left) (h1:left<=1048576) :
 Calls Tryz.prog 53 #[.agg m.cells,.int .i64 left] w fun e w'=>e = .returned (.int .i64 (zL m.sz left))/\Below w.heap.size w w':=by
 have k1:=hm.nm;have k2:=hm.ov;unfold maxLen at k1 k2;unfold Tm.cells;have hB:∀ ob,Below w.heap.size w (w.alloc ob):=fun ob=>bAl _ _
 by_cases hf:(m.sz:Int)<=left
 ·have HF:Hid (zL m.sz left=left - m.nm.size - m.ov.size):=by
   unfold Hid;rw [zN hf];unfold Tm.sz;omega
  unfold Tm.sz at hf;go_enter Tryz.func53,Tryz.ntmps53;go_wp2_with fail
  go_ret;exact ⟨zq HF.out.symm,hB _⟩
 ·have HF:Hid (zL m.sz left=-1):=zC hf
  have HN:Hid (¬ ((m.nm.size+m.ov.size:Nat):Int)<=left):=hf;clear hf;go_enter Tryz.func53,Tryz.ntmps53;go_wp2_with fail
  all_goals go_ret
  all_goals first | exact ⟨zq HF.out.symm,hB _⟩ | (exfalso;have:=HN.out;simp at *;omega)
theorem zjI (m:Tm) (left:Int) (w:World) (hm:m.Small) (h0:0<=left) (h1:left<=1048576) (h:(m.sz:Int)<=left) :
 Calls Tryz.prog 53 #[.agg m.cells,.int .i64 left] w fun e w'=>e = .returned (.int .i64 (left - m.sz))/\Below w.heap.size w w':=by
 refine (zeA m left w hm h0 h1).mono ?_;rintro e w' ⟨rfl,hb⟩;exact ⟨zq (zN h),hb⟩
theorem zjM (m:Tm) (left:Int) (w:World) (hm:m.Small) (h0:0<=left) (h1:left<=1048576) (h:¬ (m.sz:Int)<=left) :
 Calls Tryz.prog 53 #[.agg m.cells,.int .i64 left] w fun e w'=>e = .returned (.int .i64 (-1))/\Below w.heap.size w w':=by
 refine (zeA m left w hm h0 h1).mono ?_;rintro e w' ⟨rfl,hb⟩;exact ⟨zq (zC h),hb⟩
theorem zhU (a:Option Addr) (cap:Nat) (ts:List Tm) (left:Int) (w:World) (hw:jk w a ts) (h0:0<=left) (h1:left<=1048576) :
 Calls Tryz.prog 19 #[.slice a ts.length cap,.int .i64 left] w fun e w'=>e = .returned (.int .i64 (zL (zc3 ts) left))/\Below w.heap.size w w':=by
 have hl:=hw.len;unfold maxLen at hl
 by_cases hfit:(ts.length:Int)<=left
 ·go_enter Tryz.func19,Tryz.ntmps19
  go_wp2_with fail
  go_loopw [1,5] (fun l i wr=>∃ k:Nat,k<=ts.length/\i = .int .i64 k/\0<=left - ts.length - zgL (ts.take k)/\l = .int .i64 (left - ts.length - zgL (ts.take k))/\Below w.heap.size w wr) (fun _ i _=>ts.length - (intOf i).toNat)
  case atStart=>exact ⟨0,Nat.zero_le _,rfl,by simp [zgL];omega,by simp [zgL],bRf _ _⟩
  case round =>
   obtain ⟨k,hk,rfl,hpos,rfl,hB⟩:=hrel
   by_cases hlt:k < ts.length
   ·obtain ⟨b,off,rfl,hb,c0,c1⟩:=hw.load hB k hlt
    have hsm:=hw.small k hlt;have HS:Hid (zgL (ts.take (k+1))=zgL (ts.take k)+ts[k].sz):=za5 Tm.sz ts k hlt;have hle:zgL (ts.take (k+1))<=zgL ts:=zcQ Tm.sz ts (k+1);clear hw
    by_cases hneg:(ts[k].sz:Int)<=left - ts.length - zgL (ts.take k)
    ·have HNG:Hid ((ts[k].sz:Int)<=left - ts.length - zgL (ts.take k)):=hneg
     clear hle;go_wp2_with fail
     refine (zjI _ _ _ hsm hpos (by omega) HNG.out).mono ?_;rintro e w1 ⟨rfl,hb1⟩;have hB1:=hB.trans (hb1.mono hB.size);clear hb1;go_wp2_with fail
     exact ⟨⟨k+1,by omega,by go_num,by rw [HS.out];omega,by rw [HS.out];congr 1;omega,hB1⟩,by simp [intOf];omega⟩
    ·have HF:Hid (zL (zc3 ts) left=-1):=zC (by have:=HS.out;unfold zc3;omega)
     have HNG:Hid (¬ (ts[k].sz:Int)<=left - ts.length - zgL (ts.take k)):=hneg;clear hneg hle;go_wp2_with fail
     refine (zjM _ _ _ hsm hpos (by omega) (by have:=HNG.out;omega)).mono ?_;rintro e w1 ⟨rfl,hb1⟩;have hB1:=hB.trans (hb1.mono hB.size);clear hb1;go_wp2_with fail
     go_ret;exact ⟨zq HF.out.symm,hB1⟩
   ·have HF:Hid (zL (zc3 ts) left=left - ts.length - zgL (ts.take k)):=by
     rw [tOl (by omega)] at hpos ⊢;have e:zL (zc3 ts) left=left - zc3 ts:=zN (by unfold zc3;omega);unfold Hid;rw [e];unfold zc3;omega
    clear hw
    go_wp2
    go_ret;exact ⟨zq HF.out.symm,hB⟩
 ·have HF:Hid (zL (zc3 ts) left=-1):=zC (by unfold zc3;omega)
  clear hw;go_enter Tryz.func19,Tryz.ntmps19
  go_wp2
  go_ret;exact ⟨zq HF.out.symm,bRf _ _⟩
theorem ziB (m:Tm) (w:World):Calls Tryz.prog 77 #[.agg m.cells,.agg m.cells] w fun e w'=>e = .returned (.bool true)/\Below w.heap.size w w':=by
 unfold Tm.cells;go_enter Tryz.func77,Tryz.ntmps77;go_wp2_with fail
 go_ret;exact ⟨rfl,zA _ _ _⟩
theorem zhX (a a':Option Addr) (cap cap':Nat) (ts:List Tm) (w:World) (hw:jk w a ts) (hw':jk w a' ts) :
 Calls Tryz.prog 39 #[.slice a ts.length cap,.slice a' ts.length cap'] w fun e w'=>e = .returned (.bool true)/\Below w.heap.size w w':=by
 have hl:=hw.len;unfold maxLen at hl;have hnn:((ts.length:Int) != ts.length)=false:=by simp
 go_enter Tryz.func39,Tryz.ntmps39;go_wp2_with fail
 go_loopw [5] (fun i wr=>∃ k:Nat,k<=ts.length/\i = .int .i64 k/\Below w.heap.size w wr) (fun i _=>ts.length - (intOf i).toNat)
 case atStart=>exact ⟨0,Nat.zero_le _,rfl,bRf _ _⟩
 case round =>
  obtain ⟨k,hk,rfl,hB⟩:=hrel
  by_cases hlt:k < ts.length
  ·obtain ⟨b,off,rfl,hb,c0,c1⟩:=hw.load hB k hlt
   obtain ⟨b',off',rfl,hb',d0,d1⟩:=hw'.load hB k hlt;have hltI:(k:Int) < (ts.length:Int):=by omega
   clear hw hw';go_wp2_with fail
   go_region_with (go_at_call 77;refine (ziB ts[k] _).mono ?_;rintro e w1 ⟨rfl,hb1'⟩;have hb1:=(bRf wr.heap.size wr).drew.trans hb1';clear hb1')
   all_goals go_wp2_with fail
   all_goals exact ⟨⟨k+1,by omega,by go_num,hB.trans (hb1.mono hB.size)⟩,by simp [intOf];omega⟩
  ·clear hw hw'
   go_wp2_with fail
   go_ret;exact ⟨rfl,hB⟩
theorem zjv (m:Tm) (w:World) :
 Calls Tryz.prog 66 #[.agg m.cells] w fun e w'=>e = .returned (.agg m.cells)/\Below w.heap.size w w':=by
 unfold Tm.cells;go_enter Tryz.func66,Tryz.ntmps66;go_wp2_with fail
 refine bodyPost_ret (v:=.agg #[.string m.nm,.string m.ov]) (by simp [results,Tryz.results66,go_sem]) rfl ⟨rfl,?_⟩;exact (((bAl _ _).alloc (by simp) _).alloc (by simp;omega) _)
theorem zh5 (a:Option Addr) (cap:Nat) (ts:List Tm) (w:World) (hw:jk w a ts) (hl:ts.length<=1048576) :
 Calls Tryz.prog 30 #[.slice a ts.length cap] w fun e w'=>e = .returned (.slice (some ⟨w.heap.size,0,none⟩) ts.length ts.length)/\zab 127 w.heap.size w' w.heap.size ts ts.length/\Below w.heap.size w w':=by
 have hmk:∀ w:World,(Instr.makeSlice 39 (.int .i64 ts.length) (.int .i64 ts.length)).run Tryz.prog w = .ok (.slice (some ⟨w.heap.size,0,none⟩) ts.length ts.length) (w.alloc (.cells (zoq ts.length) 127)) :=
  fun w=>jK (P:=Tryz.prog) 39 127 (.agg zpC) 2 32 Tryz.underlying39 (by kernel_rfl) ts.length (by omega) (by omega) w
 go_enter Tryz.func30,Tryz.ntmps30;go_wp2_with fail
 clear hmk
 go_loopw [4] (fun i wr=>∃ k:Nat,k<=ts.length/\i = .int .i64 k/\zab 127 w.heap.size wr w.heap.size ts k/\Below w.heap.size w wr) (fun i _=>ts.length - (intOf i).toNat)
 case atStart=>exact ⟨0,Nat.zero_le _,rfl,⟨Nat.le_refl _,zoq ts.length,(MapKept.heap_alloc w _).1,size_madeCells _ _,fun i _ h=>absurd h (by omega)⟩,bAl _ _⟩
 case round =>
  obtain ⟨k,hk,rfl,hown,hB⟩:=hrel
  by_cases hlt:k < ts.length
  ·obtain ⟨b,off,rfl,hb,c0,c1⟩:=hw.load hB k hlt
   have hltI:(k:Int) < (ts.length:Int):=by omega
   clear hw;go_wp2_with fail
   refine (zjv ts[k] _).mono ?_;rintro e w1 ⟨rfl,hb1⟩;have hB1:=hB.trans (hb1.mono hB.size);have hown1:=hown.later hb1
   have hbo:w.heap.size < wr.heap.size:=by
    obtain ⟨C',hC',_⟩:=hown.rows;exact (gES hC').1
   obtain ⟨C,hC,hsz,_⟩:=hown1.rows;have hfz:∀ o,w1.frozen? ⟨w.heap.size,o,none⟩=false:=fun o=>zi hC
   have hex:∀ o,o < ts.length * 2->∃ v,w1.cell? ⟨w.heap.size,o,none⟩=some v:=fun o ho=>⟨C[o]'(by omega),by rw [cell_of_block hC];exact Array.getElem?_eq_getElem (by omega)⟩
   obtain ⟨v0,hv0⟩:=hex (k * 2) (by omega);obtain ⟨v1,hv1⟩:=hex (k * 2+1) (by omega);have HP:Hid (zab 127 w.heap.size w1 w.heap.size ts k):=hown1;clear hex hC hsz c0 c1 hown hown1;unfold Tm.cells;go_wp2_with fail
   exact ⟨⟨k+1,by omega,by go_num,HP.out.put hlt,znB hB1 (Nat.le_refl _) _ _ _⟩,by simp [intOf];omega⟩
  ·have HF:Hid (zab 127 w.heap.size wr w.heap.size ts ts.length):=by
    have e:k=ts.length:=by omega
    subst e;exact hown
   clear hw hown;go_wp2_with fail
   go_ret;exact ⟨rfl,HF.out,hB⟩
end Go.Proofs.YtghnakljnhnenaaGreat
