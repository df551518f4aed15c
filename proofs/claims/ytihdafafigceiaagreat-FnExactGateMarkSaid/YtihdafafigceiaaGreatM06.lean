import Derived.Test.YtihdafafigceiaaGreatM02
import Derived.Test.YtihdafafigceiaaGreatM03
import Derived.Test.YtihdafafigceiaaGreatRows
import Derived.WalkKit
import Derived.WalkSpells
import Derived.WalkLawsBesides
import Derived.Deep.QuietTactic
import Derived.BigQuiet
import Derived.Deep.RegionWith
set_option maxHeartbeats 2000000
namespace Go.Proofs.YtihdafafigceiaaGreat
structure Tm where
 nm:ByteArray
 ov:ByteArray
namespace Gate
def zbf:Tm:=⟨ByteArray.empty,ByteArray.empty⟩
def yB (ts:List Tm) (v:ByteArray):Bool:=ts.any fun t=>decide (t.nm=v)
def over (ts:List Tm) (v:ByteArray):ByteArray:=((ts.find? fun t=>decide (t.nm=v)).getD zbf).ov
theorem zdu (ts:List Tm) (v:ByteArray) (k:Nat) (h:k < ts.length):yB (ts.take (k+1)) v=(yB (ts.take k) v || decide (ts[k].nm=v)):=by
 unfold yB;rw [List.take_succ_eq_append_getElem h,List.any_append];simp
theorem zmC (ts:List Tm) (v:ByteArray) (k:Nat) (h:k < ts.length) (e:ts[k].nm=v):yB ts v=true:=by
 unfold yB;rw [List.any_eq_true];exact ⟨ts[k],List.getElem_mem h,by simpa using e⟩
theorem zep (ts:List Tm) (v:ByteArray) (k:Nat) (h:ts.length<=k):yB (ts.take k) v=yB ts v:=by rw [List.take_of_length_le h]
theorem zkT (ts:List Tm) (v:ByteArray) (k:Nat) (h:k < ts.length) (hb:yB (ts.take k) v=false) (e:ts[k].nm=v):over ts v=ts[k].ov:=by
 unfold over
 have hn:(ts.take k).find? (fun s=>decide (s.nm=v))=none:=by
  rw [List.find?_eq_none];intro x hx;unfold yB at hb;rw [List.any_eq_false] at hb;exact hb x hx
 have hf:ts.find? (fun s=>decide (s.nm=v))=some ts[k]:=by
  conv=>lhs;rw [<- List.take_append_drop k ts]
  rw [List.find?_append,hn,List.drop_eq_getElem_cons h,List.find?_cons_of_pos (by simpa using e)];rfl
 rw [hf];rfl
theorem zgL (ts:List Tm) (v:ByteArray) (hb:yB ts v=false):over ts v=ByteArray.empty:=by
 unfold over
 have hn:ts.find? (fun s=>decide (s.nm=v))=none:=by
  rw [List.find?_eq_none];intro x hx;unfold yB at hb;rw [List.any_eq_false] at hb;exact hb x hx
 rw [hn];rfl
def under (ts:List Tm):Nat->ByteArray->ByteArray->Bool
 | 0,a,b=>decide (a=b)
 | n+1,a,b=>decide (a=b) || (decide (¬ (over ts a).size=0) && under ts n (over ts a) b)
theorem zdC (ts:List Tm) (n:Nat) (a b:ByteArray) (h:a=b):under ts n a b=true:=by
 cases n <;> simp [under,h]
theorem zj4 (ts:List Tm) {a b:ByteArray} (h:¬ a=b):under ts 0 a b=false:=by simp [under,h]
theorem ziY (ts:List Tm) (n:Nat) {a b:ByteArray} (h:¬ a=b) (h0:(over ts a).size=0):under ts (n+1) a b=false:=by simp [under,h,h0]
theorem zlZ (ts:List Tm) (n:Nat) {a b:ByteArray} (h:¬ a=b) (h0:¬ (over ts a).size=0):under ts (n+1) a b=under ts n (over ts a) b:=by simp [under,h,h0]
def qF (ts:List Tm) (i:Nat):Bool :=
 zy (ts.getD i zbf).nm && (decide (i=0) || less (ts.getD (i - 1) zbf).nm (ts.getD i zbf).nm) && ((ts.getD i zbf).ov.toList.isEmpty || yB ts (ts.getD i zbf).ov)
def zec (ts:List Tm):Nat->ByteArray->ByteArray
 | 0,a=>a
 | n+1,a=>zec ts n (over ts a)
def qy (ts:List Tm):Nat->ByteArray->ByteArray
 | 0,a=>a
 | n+1,a=>if a.size=0 then a else qy ts n (over ts a)
def zdF (ts:List Tm) (t:Tm):Bool:=decide ((zec ts 4 t.ov).size=0)
def ze5 (ts:List Tm) (i:Nat):Bool:=zdF ts (ts.getD i zbf)
def zby (ts:List Tm) (i:Nat):Bool:=decide ((qy ts 5 (ts.getD i zbf).nm).size=0)
def zbt (ts:List Tm):Bool:=decide (ts.length<=12) && (up (qF ts) ts.length && up (ze5 ts) ts.length)
def zbV (ts:List Tm) (i:Nat):Bool:=qF ts i && zby ts i
def zaK (ts:List Tm):Bool:=decide (ts.length<=12) && up (zbV ts) ts.length
theorem zcw {P:Nat->Bool} {n:Nat}:up P n=true ↔ ∀ i,i < n->P i=true:=by
 unfold up;rw [List.all_eq_true];simp
theorem zn3 {ts:List Tm} {i:Nat} (hi:i < ts.length) (h:qF ts i=true):zy ts[i].nm=true:=by
 unfold qF at h;rw [getD_at ts i _ hi] at h;simp only [Bool.and_eq_true] at h;exact h.1.1
theorem zoc {ts:List Tm} {i:Nat} (hi:i+1 < ts.length) (h:qF ts (i+1)=true):less ts[i].nm ts[i+1].nm=true:=by
 unfold qF at h;rw [getD_at ts (i+1) _ hi,Nat.add_sub_cancel,getD_at ts i _ (by omega)] at h;simp only [Bool.and_eq_true] at h
 simpa using h.1.2
theorem zmp {ts:List Tm} (h:up (qF ts) ts.length=true):∀ (j:Nat) (hj:j < ts.length) (i:Nat) (hi:i < j),less (ts[i]'(by omega)).nm ts[j].nm=true:=by
 intro j
 induction j with
 | zero=>intro _ i hi;omega
 | succ j ih =>
  intro hj i hi
  have h2:=zoc hj (zg1 hj h)
  rcases Nat.lt_or_ge i j with hlt | hge
  ·exact za4 _ _ _ (ih (by omega) i hlt) h2
  ·have e:i=j:=by omega
   subst e;exact h2
theorem over_self {ts:List Tm} (h:up (qF ts) ts.length=true) (i:Nat) (hi:i < ts.length):over ts ts[i].nm=ts[i].ov:=by
 refine zkT ts _ i hi ?_ rfl
 unfold yB
 rw [List.any_eq_false]
 intro x hx
 obtain ⟨k,hk,rfl⟩:=List.mem_iff_getElem.1 hx
 have hk':k < i:=by simp at hk;omega
 have h1:=zmp h i hi k hk'
 simp only [List.getElem_take,decide_eq_true_eq]
 intro e
 unfold less at h1
 rw [e,zbN] at h1
 cases h1
theorem zmP {ts:List Tm} (h:up (qF ts) ts.length=true):over ts ByteArray.empty=ByteArray.empty:=by
 apply zgL
 unfold yB
 rw [List.any_eq_false]
 intro x hx
 obtain ⟨k,hk,rfl⟩:=List.mem_iff_getElem.1 hx
 have h1:=zn3 hk (zg1 hk h)
 simp only [decide_eq_true_eq]
 intro e
 rw [e,zfm _ rfl] at h1
 cases h1
theorem zg6 {ts:List Tm} (h:over ts ByteArray.empty=ByteArray.empty):∀ n,zec ts n ByteArray.empty=ByteArray.empty
 | 0=>rfl
 | n+1=>by unfold zec;rw [h];exact zg6 h n
theorem zie {ts:List Tm} (h:over ts ByteArray.empty=ByteArray.empty):∀ n a,qy ts n a=zec ts n a
 | 0,_=>rfl
 | n+1,a=>by
  unfold qy
  by_cases h0:a.size=0
  ·rw [if_pos h0,zcW a h0,zg6 h]
  ·rw [if_neg h0,zie h n];rfl
theorem zke {ts:List Tm} (h:up (qF ts) ts.length=true) (i:Nat) (hi:i < ts.length):zby ts i=ze5 ts i:=by
 unfold zby ze5 zdF
 rw [getD_at ts i _ hi,zie (zmP h),show zec ts 5 ts[i].nm=zec ts 4 (over ts ts[i].nm) from rfl,over_self h i hi]
theorem zkw (ts:List Tm):zbt ts=zaK ts:=by
 unfold zbt zaK
 congr 1
 rw [Bool.eq_iff_iff,Bool.and_eq_true]
 constructor
 ·rintro ⟨h1,h2⟩
  rw [zcw]
  intro i hi
  unfold zbV
  rw [zg1 hi h1,zke h1 i hi,zg1 hi h2];rfl
 ·intro h
  rw [zcw] at h
  have h1:up (qF ts) ts.length=true:=by
   rw [zcw];intro i hi;have:=h i hi;unfold zbV at this;rw [Bool.and_eq_true] at this;exact this.1
  refine ⟨h1,?_⟩
  rw [zcw];intro i hi;have:=h i hi;unfold zbV at this;rw [Bool.and_eq_true,zke h1 i hi] at this;exact this.2
end Gate
end Go.Proofs.YtihdafafigceiaaGreat
namespace Go.Proofs.YtihdafafigceiaaGreat
open Go.RowKit
def Tm.cells (m:Tm):Array Value:=#[.string m.nm,.string m.ov]
structure Tm.Small (m:Tm):Prop where
 nm:m.nm.size<=maxLen
 ov:m.ov.size<=maxLen
structure jl (w:World) (a:Option Addr) (ts:List Tm):Prop where
 len:ts.length<=maxLen
 small:∀ i (h:i < ts.length),ts[i].Small
 rows:ts ≠ []->∃ b off,a=some ⟨b,off,none⟩/\b < w.heap.size/\∀ i (h:i < ts.length),∀ j,j < 2->w.cell? ⟨b,off+i * 2+j,none⟩=ts[i].cells[j]?
theorem jl.mono {w w':World} {a:Option Addr} {ts:List Tm} (h:jl w a ts) (hl:Below w.heap.size w w'):jl w' a ts :=
 ⟨h.len,h.small,fun hne=>by
  obtain ⟨b,off,ha,hb,hr⟩:=h.rows hne
  exact ⟨b,off,ha,Nat.lt_of_lt_of_le hb hl.size,fun i hi j hj=>(hl.cell (p:=⟨b,off+i * 2+j,none⟩) hb).trans (hr i hi j hj)⟩⟩
theorem jl.load {w w':World} {a:Option Addr} {ts:List Tm} (h:jl w a ts) (hl:Below w.heap.size w w') (i:Nat) (hi:i < ts.length):∃ b off,a=some ⟨b,off,none⟩/\b < w.heap.size /\
 w'.cell? ⟨b,off+i * 2,none⟩=some (.string ts[i].nm)/\w'.cell? ⟨b,off+i * 2+1,none⟩=some (.string ts[i].ov):=by
 obtain ⟨b,off,ha,hb,hr⟩:=h.rows (by rintro rfl;simp at hi)
 have hc:∀ j,j < 2->w'.cell? ⟨b,off+i * 2+j,none⟩=ts[i].cells[j]?:=fun j hj=>(hl.cell (p:=⟨b,off+i * 2+j,none⟩) hb).trans (hr i hi j hj)
 exact ⟨b,off,ha,hb,hc 0 (by omega),hc 1 (by omega)⟩
def Tm.sz (m:Tm):Nat:=m.nm.size+m.ov.size
def zgv (ts:List Tm):Nat:=(ts.map Tm.sz).sum
def zcE (ts:List Tm):Nat:=ts.length+zgv ts
def zo8 (w:World) (b o:Nat) (v0 v1:Value):World:=(w.setCell ⟨b,o,none⟩ v0).setCell ⟨b,o+1,none⟩ v1
def set2 (C:Array Value) (o:Nat) (v0 v1:Value):Array Value:=(C.setIfInBounds o v0).setIfInBounds (o+1) v1
theorem znb {w:World} {b o:Nat} {C:Array Value} {t:TypeId} (h:w.heap[b]?=some (.cells C t)) (v0 v1:Value):(zo8 w b o v0 v1).heap[b]?=some (.cells (set2 C o v0 v1) t) :=
 zk (zk h v0) v1
theorem zmR {B:Nat} {a w:World} (h:Below B a w) {b:Nat} (hb:B<=b) (o:Nat) (v0 v1:Value):Below B a (zo8 w b o v0 v1) :=
 (h.setCell hb v0).setCell hb v1
theorem znN (C:Array Value) (o:Nat) (v0 v1:Value):(set2 C o v0 v1).size=C.size:=by simp [set2]
theorem zoE (C:Array Value) (o i:Nat) (v0 v1:Value) (h:i < o \/ o+2<=i):(set2 C o v0 v1)[i]?=C[i]?:=by
 unfold set2
 iterate 2 rw [Array.getElem?_setIfInBounds,if_neg (by omega)]
theorem zoY (C:Array Value) (o j:Nat) (v0 v1:Value) (hj:j < 2) (ho:o+2<=C.size):(set2 C o v0 v1)[o+j]?=(#[v0,v1]:Array Value)[j]?:=by
 have hc:j=0 \/ j=1:=by omega
 unfold set2
 rcases hc with h | h <;> subst h <;> simp [Array.getElem?_setIfInBounds] <;> omega
structure j5 (ty:TypeId) (lo:Nat) (w:World) (bo:Nat) (ts:List Tm) (k:Nat):Prop where
 low:lo<=bo
 rows:∃ C,w.heap[bo]?=some (.cells C ty)/\C.size=ts.length * 2/\∀ i (h:i < ts.length),i < k->∀ j,j < 2->C[i * 2+j]?=ts[i].cells[j]?
theorem j5.at {ty:TypeId} {lo:Nat} {w:World} {bo:Nat} {ts:List Tm} (h:j5 ty lo w bo ts ts.length) (hs:∀ i (h:i < ts.length),ts[i].Small) (hl:ts.length<=maxLen):jl w (some ⟨bo,0,none⟩) ts:=by
 obtain ⟨C,hC,hsz,hr⟩:=h.rows
 refine ⟨hl,hs,fun _=>⟨bo,0,rfl,(Array.getElem?_eq_some_iff.1 hC).1,fun i hi j hj=>?_⟩⟩
 rw [cell_of_block hC,Nat.zero_add]
 exact hr i hi hi j hj
theorem j5.later {ty:TypeId} {lo:Nat} {w w':World} {bo:Nat} {ts:List Tm} {k:Nat} (h:j5 ty lo w bo ts k) (hb:Below w.heap.size w w'):j5 ty lo w' bo ts k:=by
 obtain ⟨C,hC,hsz,hr⟩:=h.rows
 exact ⟨h.low,C,(hb.block bo (Array.getElem?_eq_some_iff.1 hC).1).trans hC,hsz,hr⟩
theorem j5.put {ty:TypeId} {lo:Nat} {w:World} {bo:Nat} {ts:List Tm} {k:Nat} (h:j5 ty lo w bo ts k) (hk:k < ts.length) :
 j5 ty lo (zo8 w bo (k * 2) (.string ts[k].nm) (.string ts[k].ov)) bo ts (k+1):=by
 obtain ⟨C,hC,hsz,hr⟩:=h.rows
 refine ⟨h.low,_,znb hC _ _,by rw [znN];exact hsz,fun i hi hik j hj=>?_⟩
 rcases Nat.lt_or_ge i k with hlt | hge
 ·rw [zoE _ _ _ _ _ (by omega)]
  exact hr i hi hlt j hj
 ·have e:i=k:=by omega
  subst e
  rw [zoY _ _ _ _ _ hj (by omega)]
  rfl
def zoJ:Array Value:=#[.string ByteArray.empty,.string ByteArray.empty]
def znv (n:Nat):Array Value:=madeCells zoJ (n * 2)
theorem zeB (m:Tm) (left:Int) (w:World) (hm:m.Small) (h0:0<=left) (h1:left<=1048576) :
 Calls Tryz.prog 51 #[.agg m.cells,.int .i64 left] w fun e w'=>e = .returned (.int .i64 (zK m.sz left))/\Below w.heap.size w w':=by
 have k1:=hm.nm
 have k2:=hm.ov
 unfold maxLen at k1 k2
 unfold Tm.cells
 have hB:∀ ob,Below w.heap.size w (w.alloc ob):=fun ob=>(Below.refl _ _).alloc (Nat.le_refl _) _
 by_cases hf:(m.sz:Int)<=left
 ·have HF:Hid (zK m.sz left=left - m.nm.size - m.ov.size):=by
   unfold Hid;rw [zL hf];unfold Tm.sz;omega
  unfold Tm.sz at hf
  go_enter Tryz.func51,Tryz.ntmps51
  go_wp2_with fail
  go_ret
  exact ⟨zq HF.out.symm,hB _⟩
 ·have HF:Hid (zK m.sz left=-1):=zC hf
  have HN:Hid (¬ ((m.nm.size+m.ov.size:Nat):Int)<=left):=hf
  clear hf
  go_enter Tryz.func51,Tryz.ntmps51
  go_wp2_with fail
  all_goals go_ret
  all_goals first | exact ⟨zq HF.out.symm,hB _⟩ | (exfalso;have:=HN.out;simp at *;omega)
theorem ziQ (m:Tm) (left:Int) (w:World) (hm:m.Small) (h0:0<=left) (h1:left<=1048576) (h:(m.sz:Int)<=left) :
 Calls Tryz.prog 51 #[.agg m.cells,.int .i64 left] w fun e w'=>e = .returned (.int .i64 (left - m.sz))/\Below w.heap.size w w':=by
 refine (zeB m left w hm h0 h1).mono ?_
 rintro e w' ⟨rfl,hb⟩
 exact ⟨zq (zL h),hb⟩
theorem zjB (m:Tm) (left:Int) (w:World) (hm:m.Small) (h0:0<=left) (h1:left<=1048576) (h:¬ (m.sz:Int)<=left) :
 Calls Tryz.prog 51 #[.agg m.cells,.int .i64 left] w fun e w'=>e = .returned (.int .i64 (-1))/\Below w.heap.size w w':=by
 refine (zeB m left w hm h0 h1).mono ?_
 rintro e w' ⟨rfl,hb⟩
 exact ⟨zq (zC h),hb⟩
theorem zhM (a:Option Addr) (cap:Nat) (ts:List Tm) (left:Int) (w:World) (hw:jl w a ts) (h0:0<=left) (h1:left<=1048576) :
 Calls Tryz.prog 19 #[.slice a ts.length cap,.int .i64 left] w fun e w'=>e = .returned (.int .i64 (zK (zcE ts) left))/\Below w.heap.size w w':=by
 have hl:=hw.len
 unfold maxLen at hl
 by_cases hfit:(ts.length:Int)<=left
 ·go_enter Tryz.func19,Tryz.ntmps19
  go_wp2_with fail
  go_loopw [1,5] (fun l i wr=>∃ k:Nat,k<=ts.length/\i = .int .i64 k/\0<=left - ts.length - zgv (ts.take k)/\l = .int .i64 (left - ts.length - zgv (ts.take k))/\Below w.heap.size w wr) (fun _ i _=>ts.length - (intOf i).toNat)
  case atStart=>exact ⟨0,Nat.zero_le _,rfl,by simp [zgv];omega,by simp [zgv],Below.refl _ _⟩
  case round =>
   obtain ⟨k,hk,rfl,hpos,rfl,hB⟩:=hrel
   by_cases hlt:k < ts.length
   ·obtain ⟨b,off,rfl,hb,c0,c1⟩:=hw.load hB k hlt
    have hsm:=hw.small k hlt
    have HS:Hid (zgv (ts.take (k+1))=zgv (ts.take k)+ts[k].sz):=za1 Tm.sz ts k hlt
    have hle:zgv (ts.take (k+1))<=zgv ts:=zcB Tm.sz ts (k+1)
    clear hw
    by_cases hneg:(ts[k].sz:Int)<=left - ts.length - zgv (ts.take k)
    ·have HNG:Hid ((ts[k].sz:Int)<=left - ts.length - zgv (ts.take k)):=hneg
     clear hle
     go_wp2_with fail
     refine (ziQ _ _ _ hsm hpos (by omega) HNG.out).mono ?_
     rintro e w1 ⟨rfl,hb1⟩
     have hB1:=hB.trans (hb1.mono hB.size)
     clear hb1
     go_wp2_with fail
     exact ⟨⟨k+1,by omega,by go_num,by rw [HS.out];omega,by rw [HS.out];congr 1;omega,hB1⟩,by simp [intOf];omega⟩
    ·have HF:Hid (zK (zcE ts) left=-1):=zC (by have:=HS.out;unfold zcE;omega)
     have HNG:Hid (¬ (ts[k].sz:Int)<=left - ts.length - zgv (ts.take k)):=hneg
     clear hneg hle
     go_wp2_with fail
     refine (zjB _ _ _ hsm hpos (by omega) (by have:=HNG.out;omega)).mono ?_
     rintro e w1 ⟨rfl,hb1⟩
     have hB1:=hB.trans (hb1.mono hB.size)
     clear hb1
     go_wp2_with fail
     go_ret
     exact ⟨zq HF.out.symm,hB1⟩
   ·have HF:Hid (zK (zcE ts) left=left - ts.length - zgv (ts.take k)):=by
     rw [List.take_of_length_le (by omega)] at hpos ⊢
     have e:zK (zcE ts) left=left - zcE ts:=zL (by unfold zcE;omega)
     unfold Hid;rw [e];unfold zcE;omega
    clear hw
    go_wp2
    go_ret
    exact ⟨zq HF.out.symm,hB⟩
 ·have HF:Hid (zK (zcE ts) left=-1):=zC (by unfold zcE;omega)
  clear hw
  go_enter Tryz.func19,Tryz.ntmps19
  go_wp2
  go_ret
  exact ⟨zq HF.out.symm,Below.refl _ _⟩
theorem ziT (m:Tm) (w:World):Calls Tryz.prog 75 #[.agg m.cells,.agg m.cells] w fun e w'=>e = .returned (.bool true)/\Below w.heap.size w w':=by
 unfold Tm.cells
 go_enter Tryz.func75,Tryz.ntmps75
 go_wp2_with fail
 go_ret
 exact ⟨rfl,zA _ _ _⟩
theorem zhl (a a':Option Addr) (cap cap':Nat) (ts:List Tm) (w:World) (hw:jl w a ts) (hw':jl w a' ts) :
 Calls Tryz.prog 37 #[.slice a ts.length cap,.slice a' ts.length cap'] w fun e w'=>e = .returned (.bool true)/\Below w.heap.size w w':=by
 have hl:=hw.len
 unfold maxLen at hl
 have hnn:((ts.length:Int) != ts.length)=false:=by simp
 go_enter Tryz.func37,Tryz.ntmps37
 go_wp2_with fail
 go_loopw [5] (fun i wr=>∃ k:Nat,k<=ts.length/\i = .int .i64 k/\Below w.heap.size w wr) (fun i _=>ts.length - (intOf i).toNat)
 case atStart=>exact ⟨0,Nat.zero_le _,rfl,Below.refl _ _⟩
 case round =>
  obtain ⟨k,hk,rfl,hB⟩:=hrel
  by_cases hlt:k < ts.length
  ·obtain ⟨b,off,rfl,hb,c0,c1⟩:=hw.load hB k hlt
   obtain ⟨b',off',rfl,hb',d0,d1⟩:=hw'.load hB k hlt
   have hltI:(k:Int) < (ts.length:Int):=by omega
   clear hw hw'
   go_wp2_with fail
   go_region_with (go_at_call 75;refine (ziT ts[k] _).mono ?_;rintro e w1 ⟨rfl,hb1'⟩;have hb1:=(Below.refl wr.heap.size wr).drew.trans hb1';clear hb1')
   all_goals go_wp2_with fail
   all_goals exact ⟨⟨k+1,by omega,by go_num,hB.trans (hb1.mono hB.size)⟩,by simp [intOf];omega⟩
  ·clear hw hw'
   go_wp2_with fail
   go_ret
   exact ⟨rfl,hB⟩
theorem zis (m:Tm) (w:World) :
 Calls Tryz.prog 64 #[.agg m.cells] w fun e w'=>e = .returned (.agg m.cells)/\Below w.heap.size w w':=by
 unfold Tm.cells
 go_enter Tryz.func64,Tryz.ntmps64
 go_wp2_with fail
 refine bodyPost_ret (v:=.agg #[.string m.nm,.string m.ov]) (by simp [results,Tryz.results64,go_sem]) rfl ⟨rfl,?_⟩
 exact ((((Below.refl _ _).alloc (Nat.le_refl _) _).alloc (by simp) _).alloc (by simp;omega) _)
theorem zhx (a:Option Addr) (cap:Nat) (ts:List Tm) (w:World) (hw:jl w a ts) (hl:ts.length<=1048576) :
 Calls Tryz.prog 28 #[.slice a ts.length cap] w fun e w'=>e = .returned (.slice (some ⟨w.heap.size,0,none⟩) ts.length ts.length)/\j5 123 w.heap.size w' w.heap.size ts ts.length/\Below w.heap.size w w':=by
 have hmk:∀ w:World,(Instr.makeSlice 39 (.int .i64 ts.length) (.int .i64 ts.length)).run Tryz.prog w = .ok (.slice (some ⟨w.heap.size,0,none⟩) ts.length ts.length) (w.alloc (.cells (znv ts.length) 123)) :=
  fun w=>jI (P:=Tryz.prog) 39 123 (.agg zoJ) 2 32 Tryz.underlying39 (by kernel_rfl) ts.length (by omega) (by omega) w
 go_enter Tryz.func28,Tryz.ntmps28
 go_wp2_with fail
 clear hmk
 go_loopw [4] (fun i wr=>∃ k:Nat,k<=ts.length/\i = .int .i64 k/\j5 123 w.heap.size wr w.heap.size ts k/\Below w.heap.size w wr) (fun i _=>ts.length - (intOf i).toNat)
 case atStart=>exact ⟨0,Nat.zero_le _,rfl,⟨Nat.le_refl _,znv ts.length,(MapKept.heap_alloc w _).1,size_madeCells _ _,fun i _ h=>absurd h (by omega)⟩,(Below.refl _ _).alloc (Nat.le_refl _) _⟩
 case round =>
  obtain ⟨k,hk,rfl,hown,hB⟩:=hrel
  by_cases hlt:k < ts.length
  ·obtain ⟨b,off,rfl,hb,c0,c1⟩:=hw.load hB k hlt
   have hltI:(k:Int) < (ts.length:Int):=by omega
   clear hw
   go_wp2_with fail
   refine (zis ts[k] _).mono ?_
   rintro e w1 ⟨rfl,hb1⟩
   have hB1:=hB.trans (hb1.mono hB.size)
   have hown1:=hown.later hb1
   have hbo:w.heap.size < wr.heap.size:=by
    obtain ⟨C',hC',_⟩:=hown.rows
    exact (Array.getElem?_eq_some_iff.1 hC').1
   obtain ⟨C,hC,hsz,_⟩:=hown1.rows
   have hfz:∀ o,w1.frozen? ⟨w.heap.size,o,none⟩=false:=fun o=>zi hC
   have hex:∀ o,o < ts.length * 2->∃ v,w1.cell? ⟨w.heap.size,o,none⟩=some v:=fun o ho=>⟨C[o]'(by omega),by rw [cell_of_block hC];exact Array.getElem?_eq_getElem (by omega)⟩
   obtain ⟨v0,hv0⟩:=hex (k * 2) (by omega)
   obtain ⟨v1,hv1⟩:=hex (k * 2+1) (by omega)
   have HP:Hid (j5 123 w.heap.size w1 w.heap.size ts k):=hown1
   clear hex hC hsz c0 c1 hown hown1
   unfold Tm.cells
   go_wp2_with fail
   exact ⟨⟨k+1,by omega,by go_num,HP.out.put hlt,zmR hB1 (Nat.le_refl _) _ _ _⟩,by simp [intOf];omega⟩
  ·have HF:Hid (j5 123 w.heap.size wr w.heap.size ts ts.length):=by
    have e:k=ts.length:=by omega
    subst e;exact hown
   clear hw hown
   go_wp2_with fail
   go_ret
   exact ⟨rfl,HF.out,hB⟩
end Go.Proofs.YtihdafafigceiaaGreat
namespace Go.Proofs.YtihdafafigceiaaGreat
structure Rl where
 vs:List Int
 kd:ByteArray
 tm:ByteArray
 px:ByteArray
namespace Gate
def zak (v:Int):Bool:=decide (1<=v) && decide (v<=5)
def y7 (vs:List Int) (i:Nat):Bool:=zak (vs.getD i 0) && (decide (i=0) || decide (vs.getD (i - 1) 0 < vs.getD i 0))
def qY (vs:List Int):Bool:=decide (0 < vs.length) && up (y7 vs) vs.length
def qK (r:Rl):Bool:=(r.kd.toList.isEmpty || zy r.kd) && (r.tm.toList.isEmpty || zy r.tm)
def zY (r:Rl):Bool:=qK r && (qY r.vs && (decide (r.px.size<=16) && yV r.px))
end Gate
end Go.Proofs.YtihdafafigceiaaGreat
