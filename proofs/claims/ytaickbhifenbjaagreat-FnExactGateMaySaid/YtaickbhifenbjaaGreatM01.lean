import Derived.WalkKit
import Derived.Laws.NewBlocks
import Derived.Laws.MakeOwn
import Derived.Laws.OwnMore
import Derived.Deep.Draws
import Derived.Deep.OwnRows
import Derived.MapKept
import Derived.Test.YtaickbhifenbjaaGreatRows
import Derived.WalkSpells
import Derived.WalkLawsBesides
set_option maxHeartbeats 400000
namespace Go.Proofs.YtaickbhifenbjaaGreat.Gate
def zJ (c:UInt8):Bool:=decide (97<=c.toNat/\c.toNat<=122) || decide (48<=c.toNat/\c.toNat<=57) || decide (c.toNat=45)
def digit (c:UInt8):Bool:=decide (48<=c.toNat/\c.toNat<=57)
def y8 (c:UInt8):Bool:=decide (33<=c.toNat/\c.toNat<=126)
def y5 (s:ByteArray):Bool:=s.data.toList.all zJ
def zbg (s:ByteArray):Bool:=s.data.toList.all y8
def zaP (s:ByteArray):Bool:=s.data.toList.all digit
def zx (s:ByteArray):Bool:=decide (1<=s.size) && decide (s.size<=16) && y5 s
def dec (l:List UInt8):Int:=l.foldl (fun n c=>n * 10+((c.toNat:Int) - 48)) 0
def zaa (s:ByteArray):Bool:=decide (1<=s.size) && decide (s.size<=7) && (decide (s.size<=1) || decide ((s.data.toList.headD 0).toNat ≠ 48)) && zaP s
def zaQ (ls ms:Int) (s:ByteArray):Bool:=decide (ls<=s.size) && decide ((s.size:Int)<=ms) && zbg s
def zfa (s:ByteArray):Int:=dec s.data.toList
def zak (ls ms:Int) (s:ByteArray):Bool:=zaa s && decide (ls<=zfa s) && decide (zfa s<=ms)
theorem zk6 (l:List UInt8) (c:UInt8):dec (l ++ [c])=dec l * 10+((c.toNat:Int) - 48):=by simp [dec]
theorem zh5 (l:List UInt8) (h:l.all digit=true):∀ a:Int,0<=a->0<=l.foldl (fun n c=>n * 10+((c.toNat:Int) - 48)) a/\l.foldl (fun n c=>n * 10+((c.toNat:Int) - 48)) a < (a+1) * 10 ^ l.length:=by
 induction l with
 | nil=>intro a ha;simp;omega
 | cons c l ih =>
  intro a ha
  rw [List.all_cons,Bool.and_eq_true] at h
  have hc:48<=c.toNat/\c.toNat<=57:=by simpa [digit] using h.1
  obtain ⟨h1,h2⟩:=ih h.2 (a * 10+((c.toNat:Int) - 48)) (by omega)
  simp only [List.foldl_cons,List.length_cons,Int.pow_succ]
  refine ⟨h1,Int.lt_of_lt_of_le h2 ?_⟩
  have hp:(0:Int)<=10 ^ l.length:=Int.pow_nonneg (by decide)
  have:=Int.mul_le_mul_of_nonneg_right (show a * 10+((c.toNat:Int) - 48)+1<=(a+1) * 10 by omega) hp
  rw [Int.mul_comm (10 ^ l.length) 10,<- Int.mul_assoc]
  exact this
theorem zeq (l:List UInt8) (h:l.all digit=true) (n:Nat) (hn:l.length<=n):0<=dec l/\dec l < 10 ^ n:=by
 have:=zh5 l h 0 (by decide)
 refine ⟨this.1,Int.lt_of_lt_of_le this.2 ?_⟩
 simp only [Int.zero_add,Int.one_mul]
 exact_mod_cast Nat.pow_le_pow_right (by decide) hn
theorem zgn (s:ByteArray) (k:Nat) (h:k < s.size):s.data.toList.take (k+1)=s.data.toList.take k ++ [s[k]]:=by
 rw [List.take_succ_eq_append_getElem (by simpa using h)];rfl
theorem zan (s:ByteArray) (k:Nat) (h:s.size<=k):s.data.toList.take k=s.data.toList:=List.take_of_length_le (by simpa using h)
theorem zaE (p:UInt8->Bool) (s:ByteArray) (k:Nat) (h:k < s.size):(s.data.toList.take (k+1)).all p=((s.data.toList.take k).all p && p s[k]):=by
 rw [zgn s k h,List.all_append];simp
theorem zbJ (p:UInt8->Bool) (s:ByteArray) (k:Nat) (h:k < s.size) (hp:p s[k]=false):s.data.toList.all p=false:=by
 rw [<- List.take_append_drop (k+1) s.data.toList,List.all_append,zaE p s k h,hp];simp
theorem zq (s:ByteArray):s.toList.isEmpty=decide (s.size=0):=by
 rw [ByteArray.toList_eq,Bool.eq_iff_iff,List.isEmpty_iff,decide_eq_true_eq,<- List.length_eq_zero_iff,Array.length_toList]
 exact Iff.rfl
theorem zcM (s:ByteArray) (h:s.size=0):s=ByteArray.empty:=by
 apply ByteArray.ext;apply Array.eq_empty_of_size_eq_zero;exact h
theorem beq_toList (a b:ByteArray):(a.toList == b.toList)=decide (a=b):=by
 rw [ByteArray.toList_eq,ByteArray.toList_eq,Bool.eq_iff_iff]
 simp only [beq_iff_eq,decide_eq_true_eq,Array.toList_inj]
 constructor
 ·intro h;exact ByteArray.ext h
 ·rintro rfl;rfl
def has (ws:List ByteArray) (v:ByteArray):Bool:=ws.any fun x=>decide (x=v)
theorem zlP (ws:List ByteArray) (v:ByteArray) (k:Nat) (h:k < ws.length):has (ws.take (k+1)) v=(has (ws.take k) v || decide (ws[k]=v)):=by
 unfold has;rw [List.take_succ_eq_append_getElem h,List.any_append];simp
theorem zot (ws:List ByteArray) (v:ByteArray) (k:Nat) (h:k < ws.length) (e:ws[k]=v):has ws v=true:=by
 unfold has;rw [List.any_eq_true];exact ⟨ws[k],List.getElem_mem h,by simpa using e⟩
theorem zmZ (ws:List ByteArray) (v:ByteArray) (k:Nat) (h:ws.length<=k):has (ws.take k) v=has ws v:=by rw [List.take_of_length_le h]
theorem zlL (s:ByteArray) (h:0 < s.size):s.data.toList.headD 0=s[0]:=by
 obtain ⟨⟨l⟩⟩:=s
 cases l with
 | nil=>simp [ByteArray.size] at h
 | cons a l=>rfl
theorem zdH (s:ByteArray) (h:¬ (1<=s.size/\s.size<=7)):zaa s=false:=by
 unfold zaa
 by_cases h1:1<=s.size
 ·rw [decide_eq_false (show ¬ s.size<=7 by omega)];simp
 ·rw [decide_eq_false h1];simp
theorem zeI (s:ByteArray) (h:1 < s.size) (hz:(s[0].toNat:Int)=48):zaa s=false:=by
 unfold zaa
 rw [zlL s (by omega),decide_eq_false (show ¬ s.size<=1 by omega),decide_eq_false (show ¬ s[0].toNat ≠ 48 by omega)];simp
theorem zju (s:ByteArray) (h1:1<=s.size) (h7:s.size<=7) (hz:s.size<=1 \/ ¬ (s[0].toNat:Int)=48):zaa s=zaP s:=by
 unfold zaa
 rw [zlL s (by omega),decide_eq_true h1,decide_eq_true h7]
 rcases hz with h | h
 ·rw [decide_eq_true h];simp
 ·rw [decide_eq_true (show s[0].toNat ≠ 48 by omega)];simp
def fits (kd ls ms:Int) (ws:List ByteArray) (v:ByteArray):Bool :=
 if v.size=0 then false else if kd=1 then zak ls ms v else if kd=2 then has ws v else if kd=3 then zaQ ls ms v else if kd=4 then zx v else false
theorem zab (kd ls ms:Int) (ws:List ByteArray) (v:ByteArray) (h:v.size=0):fits kd ls ms ws v=false:=by simp [fits,h]
theorem zmX (ls ms:Int) (ws:List ByteArray) (v:ByteArray) (h:¬ v.size=0):fits 1 ls ms ws v=zak ls ms v:=by simp [fits,h]
theorem zmr (ls ms:Int) (ws:List ByteArray) (v:ByteArray) (h:¬ v.size=0):fits 2 ls ms ws v=has ws v:=by simp [fits,h]
theorem zjZ (ls ms:Int) (ws:List ByteArray) (v:ByteArray) (h:¬ v.size=0):fits 3 ls ms ws v=zaQ ls ms v:=by simp [fits,h]
theorem zms (ls ms:Int) (ws:List ByteArray) (v:ByteArray) (h:¬ v.size=0):fits 4 ls ms ws v=zx v:=by simp [fits,h]
theorem zeN (kd ls ms:Int) (ws:List ByteArray) (v:ByteArray) (h1:kd ≠ 1) (h2:kd ≠ 2) (h3:kd ≠ 3) (h4:kd ≠ 4):fits kd ls ms ws v=false:=by simp [fits,h1,h2,h3,h4]
theorem zcG (s:ByteArray) (h:zaa s=true):0<=zfa s:=by
 unfold zaa at h
 rw [Bool.and_eq_true] at h
 exact (zeq _ h.2 _ (Nat.le_refl _)).1
theorem zhJ (ls ms:Int) (s:ByteArray) (h:zaa s=false):zak ls ms s=false:=by simp [zak,h]
theorem zl0 (ls ms:Int) (s:ByteArray) (h:zaa s=true):zak ls ms s=(decide (ls<=zfa s) && decide (zfa s<=ms)):=by simp [zak,h]
theorem zlr (s:ByteArray) (h:s.size=0):zaa s=false:=zdH s (by omega)
theorem zfI (s:ByteArray) (h:s.size=0):zx s=false:=by simp [zx,h]
theorem zn1 (ls ms:Int) (ws:List ByteArray) (v:ByteArray):fits 1 ls ms ws v=zak ls ms v:=by
 by_cases h:v.size=0
 ·rw [zab _ _ _ _ _ h,zhJ _ _ _ (zlr v h)]
 ·exact zmX ls ms ws v h
theorem znP (ls ms:Int) (ws:List ByteArray) (v:ByteArray):fits 4 ls ms ws v=zx v:=by
 by_cases h:v.size=0
 ·rw [zab _ _ _ _ _ h,zfI v h]
 ·exact zms ls ms ws v h
theorem zjk (ls ms:Int) (ws:List ByteArray) (v:ByteArray) (h:zbg v=false):fits 3 ls ms ws v=false:=by
 by_cases hz:v.size=0
 ·exact zab _ _ _ _ _ hz
 ·rw [zjZ ls ms ws v hz,zaQ,h];simp
theorem zi3 (ls ms:Int) (ws:List ByteArray) (v:ByteArray) (h:zbg v=true) (hz:¬ v.size=0):fits 3 ls ms ws v=(decide (ls<=v.size) && decide ((v.size:Int)<=ms)):=by
 rw [zjZ ls ms ws v hz,zaQ,h];simp
end Go.Proofs.YtaickbhifenbjaaGreat.Gate
namespace Go.Proofs.YtaickbhifenbjaaGreat
open Go.RowKit
theorem ze {a b:Bool} (h:a=b):Ending.returned (.bool a) = .returned (.bool b):=by rw [h]
theorem zm {k:IntKind} {a b:Int} (h:a=b):Ending.returned (.int k a) = .returned (.int k b):=by rw [h]
def zL (t:Nat) (left:Int):Int:=if (t:Int)<=left then left - t else -1
theorem zM {t:Nat} {left:Int} (h:(t:Int)<=left):zL t left=left - t:=by simp [zL,h]
theorem zD {t:Nat} {left:Int} (h:¬ (t:Int)<=left):zL t left=-1:=by simp [zL,h]
theorem zaS {α:Type} (g:α->Nat) (l:List α) (k:Nat) (h:k < l.length):((l.take (k+1)).map g).sum=((l.take k).map g).sum+g l[k]:=by
 rw [List.take_succ_eq_append_getElem h,List.map_append,List.sum_append];simp
theorem zcm {α:Type} (g:α->Nat) (l:List α) (k:Nat):((l.take k).map g).sum<=(l.map g).sum:=by
 conv=>rhs;rw [<- List.take_append_drop k l]
 rw [List.map_append,List.sum_append];omega
theorem zhC {α:Type} (g:α->Nat) (l:List α) (k:Nat) (h:k < l.length):g l[k]<=(l.map g).sum:=by
 have h1:=zaS g l k h
 have h2:=zcm g l (k+1)
 omega
theorem jF {P:Program} (t e:TypeId) (z:Value) (size bytes:Nat) (ht:P.underlying t=some (.slice e)) (hinfo:(P.info? e).map (fun i=>(i.zero,i.size,i.bytes))=some (some z,size,bytes))
 (n:Nat) (hbytes:bytes * n<=281474976710656) (h63:n<=9223372036854775807) (w:World) :
 (Instr.makeSlice t (.int .i64 (n:Int)) (.int .i64 (n:Int))).run P w = .ok (.slice (some ⟨w.heap.size,0,none⟩) n n) (w.alloc (.cells (madeCells z.cells (n * size)) e)):=by
 obtain ⟨i,hi,hzz⟩:=Option.map_eq_some_iff.1 hinfo
 simp only [Prod.mk.injEq] at hzz
 obtain ⟨hz,hs,hb⟩:=hzz
 have hb':(i.bytes:Int) * (n:Int)<=281474976710656:=by
  have h:((i.bytes * n:Nat):Int)<=281474976710656:=by rw [hb];omega
  rwa [Int.natCast_mul] at h
 have hr:=run_make (P:=P) w t e i z ht hi hz .i64 .i64 n n (by omega) (Int.le_refl _) hb' (by omega)
 simp only [Int.toNat_natCast,hs] at hr
 exact hr
theorem yD (n lo hi:Int) (w:World) :
 Calls Tryz.prog 47 #[.int .i64 n,.int .i64 lo,.int .i64 hi] w fun e w'=>e = .returned (.bool (decide (lo<=n) && decide (n<=hi)))/\w'=w:=by
 go_enter Tryz.func47,Tryz.ntmps47
 go_wp2
 all_goals
  go_ret
  refine ⟨ze ?_,rfl⟩
  simp;try omega
theorem zaT (n lo hi:Int) (w:World) (h1:lo<=n) (h2:n<=hi) :
 Calls Tryz.prog 47 #[.int .i64 n,.int .i64 lo,.int .i64 hi] w fun e w'=>e = .returned (.bool true)/\w'=w:=by
 refine (yD n lo hi w).mono ?_
 rintro e w' ⟨rfl,rfl⟩
 exact ⟨ze (by simp;omega),rfl⟩
theorem zcB (n lo hi:Int) (w:World) (h1:¬ (lo<=n/\n<=hi)) :
 Calls Tryz.prog 47 #[.int .i64 n,.int .i64 lo,.int .i64 hi] w fun e w'=>e = .returned (.bool false)/\w'=w:=by
 refine (yD n lo hi w).mono ?_
 rintro e w' ⟨rfl,rfl⟩
 exact ⟨ze (by simp;omega),rfl⟩
theorem zgJ (c:UInt8) (w:World) :
 Calls Tryz.prog 202 #[.int .u8 c.toNat] w fun e w'=>e = .returned (.bool (Gate.digit c))/\w'=w:=by
 go_enter Tryz.func202,Tryz.ntmps202
 go_wp2
 all_goals
  go_ret
  refine ⟨ze ?_,rfl⟩
  rw [Bool.eq_iff_iff];simp [Gate.digit];try omega
theorem zgQ (c:UInt8) (w:World) (h:48<=(c.toNat:Int)) (h2:(c.toNat:Int)<=57) :
 Calls Tryz.prog 202 #[.int .u8 c.toNat] w fun e w'=>e = .returned (.bool true)/\w'=w:=by
 refine (zgJ c w).mono ?_
 rintro e w' ⟨rfl,rfl⟩
 exact ⟨ze (by simp [Gate.digit];omega),rfl⟩
theorem zco (c:UInt8) (w:World) (h:¬ (48<=(c.toNat:Int)/\(c.toNat:Int)<=57)) :
 Calls Tryz.prog 202 #[.int .u8 c.toNat] w fun e w'=>e = .returned (.bool false)/\w'=w:=by
 refine (zgJ c w).mono ?_
 rintro e w' ⟨rfl,rfl⟩
 exact ⟨ze (by simp [Gate.digit];omega),rfl⟩
structure zF (w:World) (a:Option Addr) (ws:List ByteArray):Prop where
 len:ws.length<=maxLen
 small:∀ s ∈ ws,s.size<=maxLen
 cells:ws ≠ []->∃ b off,a=some ⟨b,off,none⟩/\b < w.heap.size/\∀ i (h:i < ws.length),w.cell? ⟨b,off+i,none⟩=some (.string ws[i])
theorem zF.mono {w w':World} {a:Option Addr} {ws:List ByteArray} (h:zF w a ws) (hb:Below w.heap.size w w'):zF w' a ws :=
 ⟨h.len,h.small,fun hne=>by
  obtain ⟨b,off,ha,hbs,hc⟩:=h.cells hne
  exact ⟨b,off,ha,Nat.lt_of_lt_of_le hbs hb.size,fun i hi=>(hb.cell (p:=⟨b,off+i,none⟩) hbs).trans (hc i hi)⟩⟩
theorem zo0 {W w1:World} (hb:Below W.heap.size W w1):(∀ b o,b < W.heap.size->w1.cell? ⟨b,o,none⟩=W.cell? ⟨b,o,none⟩)/\(∀ b o,b < W.heap.size->w1.frozen? ⟨b,o,none⟩=W.frozen? ⟨b,o,none⟩) :=
 ⟨fun b o h=>hb.cell (p:=⟨b,o,none⟩) h,fun b o h=>hb.frozen (p:=⟨b,o,none⟩) h⟩
def zad (ws:List ByteArray):Array Value:=(ws.map Value.string).toArray
def strCells (ws:List ByteArray) (k:Nat):Array Value:=((ws.take k).map Value.string ++ List.replicate (ws.length - k) (Value.string ByteArray.empty)).toArray
theorem zk5 (ws:List ByteArray) (k:Nat) (h:k < ws.length):(strCells ws k)[k]?=some (.string ByteArray.empty):=by
 unfold strCells
 have hl:((ws.take k).map Value.string).length=k:=by simp;omega
 rw [List.getElem?_toArray,List.getElem?_append_right (by omega),hl,Nat.sub_self]
 obtain ⟨m,hm⟩:∃ m,ws.length - k=m+1:=⟨ws.length - k - 1,by omega⟩
 rw [hm,List.replicate_succ];rfl
theorem zkk (ws:List ByteArray) (k:Nat) (h:k < ws.length):(strCells ws k).setIfInBounds k (.string ws[k])=strCells ws (k+1):=by
 unfold strCells
 rw [List.setIfInBounds_toArray,List.set_append_right _ _ (by simp;omega)]
 congr 1
 rw [List.take_succ_eq_append_getElem h,List.map_append,List.append_assoc]
 congr 1
 obtain ⟨m,hm⟩:∃ m,ws.length - k=m+1:=⟨ws.length - k - 1,by omega⟩
 rw [hm,show ws.length - (k+1)=m by omega]
 have:k - ((ws.take k).map Value.string).length=0:=by simp;omega
 rw [this,List.replicate_succ]
 rfl
theorem zj2 (ws:List ByteArray) (k:Nat) (h:ws.length<=k):strCells ws k=zad ws:=by
 unfold strCells zad
 rw [List.take_of_length_le h,show ws.length - k=0 by omega];simp
theorem zi9 (ws:List ByteArray):madeCells #[Value.string ByteArray.empty] ws.length=strCells ws 0:=by
 apply Array.toList_inj.1
 rw [toList_madeCells_one]
 simp [strCells]
theorem zde {w:World} {bk:Nat} {ws:List ByteArray} {t:TypeId} (h:w.heap[bk]?=some (.cells (zad ws) t)) (hl:ws.length<=maxLen) (hs:∀ s ∈ ws,s.size<=maxLen):zF w (some ⟨bk,0,none⟩) ws :=
 ⟨hl,hs,fun _=>⟨bk,0,rfl,(Array.getElem?_eq_some_iff.1 h).1,fun i hi=>by
  simp [World.cell?,h,zad,hi]⟩⟩
theorem za {wk wl:World} {b:Nat} {X:Array Value} (h:∀ o,wk.cell? ⟨b,o,none⟩=X[o]?) (hb:b < wk.heap.size) (hl:Below wk.heap.size wk wl):∀ o,wl.cell? ⟨b,o,none⟩=X[o]? :=
 fun o=>(hl.cell (p:=⟨b,o,none⟩) hb).trans (h o)
theorem zl (w:World) (X:Array Value) (t:TypeId):∀ o,(w.alloc (.cells X t)).cell? ⟨w.heap.size,o,none⟩=X[o]?:=fun _=>World.cell?_alloc_at _ _ _ _ rfl
theorem below_drewN {B:Nat} {a w:World} (h:Below B a w) (n:Nat):Below B a (w.drewN n):=h.trans ⟨rfl,rfl,rfl,Nat.le_refl _,fun _ _=>rfl⟩
theorem zC (w:World) (o o':Obj):Below w.heap.size w ((w.alloc o).alloc o'):=((Below.refl _ _).alloc (Nat.le_refl _) _).alloc (by simp) _
theorem zf {P:Program} {f:FuncId} {args:Array Value} {w:World} {b c:Bool} {R:World->Prop} (hb:b=c) (h:Calls P f args w fun e w'=>e = .returned (.bool b)/\R w'):Calls P f args w fun e w'=>e = .returned (.bool c)/\R w':=by
 subst hb;exact h
end Go.Proofs.YtaickbhifenbjaaGreat
