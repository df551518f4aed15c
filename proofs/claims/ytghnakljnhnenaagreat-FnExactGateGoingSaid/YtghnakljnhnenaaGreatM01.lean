import Derived.WalkKit
import Derived.Laws.NewBlocks
import Derived.Laws.MakeOwn
import Derived.Laws.OwnMore
import Derived.Deep.Draws
import Derived.Below
namespace Go.Proofs.YtghnakljnhnenaaGreat
open Go.RowKit
theorem bAl (w : World) (o : Obj) : Below w.heap.size w (w.alloc o) := (Below.refl _ _).alloc (Nat.le_refl _) _
theorem bRf (B : Nat) (w : World) : Below B w w := Below.refl B w
theorem nLt {a b c : Nat} (h : a < b) (k : b <= c) : a < c := Nat.lt_of_lt_of_le h k
theorem nSl {a b : Nat} (h : a + 1 < b) : a < b := Nat.lt_of_succ_lt h
theorem gES {t : Type} {x : Array t} {i : Nat} {b : t} (h : x[i]? = some b) : ∃ k : i < x.size, x[i] = b := Array.getElem?_eq_some_iff.1 h
theorem bFi {b : Bool} (h : ¬ b = true) : b = false := Bool.eq_false_iff.2 h
theorem tOl {t : Type} {i : Nat} {l : List t} (h : l.length <= i) : l.take i = l := List.take_of_length_le h
theorem tSe {t : Type} {i : Nat} {l : List t} (h : i < l.length) : l.take (i + 1) = l.take i ++ [l[i]] := List.take_succ_eq_append_getElem h
end Go.Proofs.YtghnakljnhnenaaGreat

namespace Go.Proofs.YtghnakljnhnenaaGreat
open Go.RowKit
structure zD (w:World) (a:Option Addr) (ws:List ByteArray):Prop where
 len:ws.length<=maxLen
 small:∀ s ∈ ws,s.size<=maxLen
 cells:ws ≠ []->∃ b off,a=some ⟨b,off,none⟩/\b < w.heap.size/\∀ i (h:i < ws.length),w.cell? ⟨b,off+i,none⟩=some (.string ws[i])
theorem zD.mono {w w':World} {a:Option Addr} {ws:List ByteArray} (h:zD w a ws) (hb:Below w.heap.size w w'):zD w' a ws :=
 ⟨h.len,h.small,fun hne=>by
  obtain ⟨b,off,ha,hbs,hc⟩:=h.cells hne;exact ⟨b,off,ha,nLt hbs hb.size,fun i hi=>(hb.cell (p:=⟨b,off+i,none⟩) hbs).trans (hc i hi)⟩⟩
theorem zqe {W w1:World} (hb:Below W.heap.size W w1):(∀ b o,b < W.heap.size->w1.cell? ⟨b,o,none⟩=W.cell? ⟨b,o,none⟩)/\(∀ b o,b < W.heap.size->w1.frozen? ⟨b,o,none⟩=W.frozen? ⟨b,o,none⟩) :=
 ⟨fun b o h=>hb.cell (p:=⟨b,o,none⟩) h,fun b o h=>hb.frozen (p:=⟨b,o,none⟩) h⟩
def jB (ws:List ByteArray):Array Value:=(ws.map Value.string).toArray
def strCells (ws:List ByteArray) (k:Nat):Array Value:=((ws.take k).map Value.string ++ List.replicate (ws.length - k) (Value.string ByteArray.empty)).toArray
theorem zl3 (ws:List ByteArray) (k:Nat) (h:k < ws.length):(strCells ws k)[k]?=some (.string ByteArray.empty):=by
 unfold strCells;have hl:((ws.take k).map Value.string).length=k:=by simp;omega
 rw [List.getElem?_toArray,List.getElem?_append_right (by omega),hl,Nat.sub_self];obtain ⟨m,hm⟩:∃ m,ws.length - k=m+1:=⟨ws.length - k - 1,by omega⟩
 rw [hm,List.replicate_succ];rfl
theorem zkW (ws:List ByteArray) (k:Nat) (h:k < ws.length):(strCells ws k).setIfInBounds k (.string ws[k])=strCells ws (k+1):=by
 unfold strCells;rw [List.setIfInBounds_toArray,List.set_append_right _ _ (by simp;omega)]
 congr 1
 rw [tSe h,List.map_append,List.append_assoc]
 congr 1
 obtain ⟨m,hm⟩:∃ m,ws.length - k=m+1:=⟨ws.length - k - 1,by omega⟩
 rw [hm,show ws.length - (k+1)=m by omega]
 have:k - ((ws.take k).map Value.string).length=0:=by simp;omega
 rw [this,List.replicate_succ]
 rfl
theorem zlL (ws:List ByteArray) (k:Nat) (h:ws.length<=k):strCells ws k=jB ws:=by
 unfold strCells jB;rw [tOl h,show ws.length - k=0 by omega];simp
theorem zjY (ws:List ByteArray):madeCells #[Value.string ByteArray.empty] ws.length=strCells ws 0:=by
 apply Array.toList_inj.1
 rw [toList_madeCells_one]
 simp [strCells]
theorem zdn {w:World} {bk:Nat} {ws:List ByteArray} {t:TypeId} (h:w.heap[bk]?=some (.cells (jB ws) t)) (hl:ws.length<=maxLen) (hs:∀ s ∈ ws,s.size<=maxLen):zD w (some ⟨bk,0,none⟩) ws :=
 ⟨hl,hs,fun _=>⟨bk,0,rfl,(gES h).1,fun i hi=>by
  simp [World.cell?,h,jB,hi]⟩⟩
theorem za {wk wl:World} {b:Nat} {X:Array Value} (h:∀ o,wk.cell? ⟨b,o,none⟩=X[o]?) (hb:b < wk.heap.size) (hl:Below wk.heap.size wk wl):∀ o,wl.cell? ⟨b,o,none⟩=X[o]? :=
 fun o=>(hl.cell (p:=⟨b,o,none⟩) hb).trans (h o)
theorem zm (w:World) (X:Array Value) (t:TypeId):∀ o,(w.alloc (.cells X t)).cell? ⟨w.heap.size,o,none⟩=X[o]?:=fun _=>World.cell?_alloc_at _ _ _ _ rfl
theorem below_drewN {B:Nat} {a w:World} (h:Below B a w) (n:Nat):Below B a (w.drewN n):=h.trans ⟨rfl,rfl,rfl,Nat.le_refl _,fun _ _=>rfl⟩
theorem zA (w:World) (o o':Obj):Below w.heap.size w ((w.alloc o).alloc o'):=(bAl _ _).alloc (by simp) _
theorem zf {P:Program} {f:FuncId} {args:Array Value} {w:World} {b c:Bool} {R:World->Prop} (hb:b=c) (h:Calls P f args w fun e w'=>e = .returned (.bool b)/\R w'):Calls P f args w fun e w'=>e = .returned (.bool c)/\R w':=by
 subst hb;exact h
structure Fld where
 nm:ByteArray
 kd:Int
 ls:Int
 ms:Int
 ws:List ByteArray
 to:ByteArray
 rl:Int
 mu:Bool
 fx:Bool
 df:ByteArray
 wg:ByteArray
structure Shp where
 kd:ByteArray
 fs:List Fld
def Fld.cells (f:Fld) (a:Option Addr) (cap:Nat):Array Value :=
 #[.string f.nm, .int .i64 f.kd, .int .i64 f.ls, .int .i64 f.ms, .slice a f.ws.length cap, .string f.to, .int .i64 f.rl, .bool f.mu, .bool f.fx, .string f.df, .string f.wg]
structure Fld.Small (f:Fld):Prop where
 nm:f.nm.size<=maxLen
 to:f.to.size<=maxLen
 df:f.df.size<=maxLen
 wg:f.wg.size<=maxLen
structure zel (w:World) (b off:Nat) (f:Fld) (a:Option Addr) (cap:Nat):Prop where
 small:f.Small
 strs:zD w a f.ws
 cell:∀ j,j < 11->w.cell? ⟨b,off+j,none⟩=(f.cells a cap)[j]?
structure zP (w:World) (a:Option Addr) (fs:List Fld):Prop where
 len:fs.length<=maxLen
 rows:fs ≠ []->∃ b off,a=some ⟨b,off,none⟩/\b < w.heap.size/\∀ i (h:i < fs.length),∃ wa wcap,zel w b (off+i * 11) fs[i] wa wcap
structure zkO (w:World) (b off:Nat) (s:Shp) (a:Option Addr) (cap:Nat):Prop where
 small:s.kd.size<=maxLen
 zdk:zP w a s.fs
 kind:w.cell? ⟨b,off,none⟩=some (.string s.kd)
 list:w.cell? ⟨b,off+1,none⟩=some (.slice a s.fs.length cap)
structure yI (w:World) (a:Option Addr) (ss:List Shp):Prop where
 len:ss.length<=maxLen
 rows:ss ≠ []->∃ b off,a=some ⟨b,off,none⟩/\b < w.heap.size/\∀ i (h:i < ss.length),∃ fa fcap,zkO w b (off+i * 2) ss[i] fa fcap
theorem zel.mono {w w':World} {b off:Nat} {f:Fld} {a:Option Addr} {cap:Nat} (h:zel w b off f a cap) (hb:b < w.heap.size) (hl:Below w.heap.size w w'):zel w' b off f a cap :=
 ⟨h.small,h.strs.mono hl,fun j hj=>(hl.cell (p:=⟨b,off+j,none⟩) hb).trans (h.cell j hj)⟩
theorem zP.mono {w w':World} {a:Option Addr} {fs:List Fld} (h:zP w a fs) (hl:Below w.heap.size w w'):zP w' a fs :=
 ⟨h.len,fun hne=>by
  obtain ⟨b,off,ha,hb,hr⟩:=h.rows hne;refine ⟨b,off,ha,nLt hb hl.size,fun i hi=>?_⟩;obtain ⟨wa,wcap,hf⟩:=hr i hi;exact ⟨wa,wcap,hf.mono hb hl⟩⟩
theorem zkO.mono {w w':World} {b off:Nat} {s:Shp} {a:Option Addr} {cap:Nat} (h:zkO w b off s a cap) (hb:b < w.heap.size) (hl:Below w.heap.size w w'):zkO w' b off s a cap :=
 ⟨h.small,h.zdk.mono hl,(hl.cell (p:=⟨b,off,none⟩) hb).trans h.kind,(hl.cell (p:=⟨b,off+1,none⟩) hb).trans h.list⟩
theorem yI.mono {w w':World} {a:Option Addr} {ss:List Shp} (h:yI w a ss) (hl:Below w.heap.size w w'):yI w' a ss :=
 ⟨h.len,fun hne=>by
  obtain ⟨b,off,ha,hb,hr⟩:=h.rows hne;refine ⟨b,off,ha,nLt hb hl.size,fun i hi=>?_⟩;obtain ⟨fa,fcap,hs⟩:=hr i hi;exact ⟨fa,fcap,hs.mono hb hl⟩⟩
theorem zel.load {w:World} {b off:Nat} {f:Fld} {a:Option Addr} {cap:Nat} (h:zel w b off f a cap) :
 w.cell? ⟨b,off,none⟩=some (.string f.nm)/\w.cell? ⟨b,off+1,none⟩=some (.int .i64 f.kd)/\w.cell? ⟨b,off+2,none⟩=some (.int .i64 f.ls)/\w.cell? ⟨b,off+3,none⟩=some (.int .i64 f.ms) /\
 w.cell? ⟨b,off+4,none⟩=some (.slice a f.ws.length cap)/\w.cell? ⟨b,off+5,none⟩=some (.string f.to)/\w.cell? ⟨b,off+6,none⟩=some (.int .i64 f.rl)/\w.cell? ⟨b,off+7,none⟩=some (.bool f.mu) /\
 w.cell? ⟨b,off+8,none⟩=some (.bool f.fx)/\w.cell? ⟨b,off+9,none⟩=some (.string f.df)/\w.cell? ⟨b,off+10,none⟩=some (.string f.wg) :=
 ⟨h.cell 0 (by omega),h.cell 1 (by omega),h.cell 2 (by omega),h.cell 3 (by omega),h.cell 4 (by omega),h.cell 5 (by omega),h.cell 6 (by omega),h.cell 7 (by omega),h.cell 8 (by omega),h.cell 9 (by omega),h.cell 10 (by omega)⟩
end Go.Proofs.YtghnakljnhnenaaGreat
namespace Go.Proofs.YtghnakljnhnenaaGreat.Gate
def zJ (c:UInt8):Bool:=decide (97<=c.toNat/\c.toNat<=122) || decide (48<=c.toNat/\c.toNat<=57) || decide (c.toNat=45)
def digit (c:UInt8):Bool:=decide (48<=c.toNat/\c.toNat<=57)
def y8 (c:UInt8):Bool:=decide (33<=c.toNat/\c.toNat<=126)
def yZ (s:ByteArray):Bool:=s.data.toList.all zJ
def zbG (s:ByteArray):Bool:=s.data.toList.all y8
def zba (s:ByteArray):Bool:=s.data.toList.all digit
def zy (s:ByteArray):Bool:=decide (1<=s.size) && decide (s.size<=16) && yZ s
def dec (l:List UInt8):Int:=l.foldl (fun n c=>n * 10+((c.toNat:Int) - 48)) 0
def zal (s:ByteArray):Bool:=decide (1<=s.size) && decide (s.size<=7) && (decide (s.size<=1) || decide ((s.data.toList.headD 0).toNat ≠ 48)) && zba s
def za4 (ls ms:Int) (s:ByteArray):Bool:=decide (ls<=s.size) && decide ((s.size:Int)<=ms) && zbG s
def zfP (s:ByteArray):Int:=dec s.data.toList
def zaq (ls ms:Int) (s:ByteArray):Bool:=zal s && decide (ls<=zfP s) && decide (zfP s<=ms)
theorem zmG (l:List UInt8) (c:UInt8):dec (l ++ [c])=dec l * 10+((c.toNat:Int) - 48):=by simp [dec]
theorem zji (l:List UInt8) (h:l.all digit=true):∀ a:Int,0<=a->0<=l.foldl (fun n c=>n * 10+((c.toNat:Int) - 48)) a/\l.foldl (fun n c=>n * 10+((c.toNat:Int) - 48)) a < (a+1) * 10 ^ l.length:=by
 induction l with
 | nil=>intro a ha;simp;omega
 | cons c l ih =>
  intro a ha;rw [List.all_cons,Bool.and_eq_true] at h;have hc:48<=c.toNat/\c.toNat<=57:=by simpa [digit] using h.1
  obtain ⟨h1,h2⟩:=ih h.2 (a * 10+((c.toNat:Int) - 48)) (by omega);simp only [List.foldl_cons,List.length_cons,Int.pow_succ];refine ⟨h1,Int.lt_of_lt_of_le h2 ?_⟩;have hp:(0:Int)<=10 ^ l.length:=Int.pow_nonneg (by decide)
  have:=Int.mul_le_mul_of_nonneg_right (show a * 10+((c.toNat:Int) - 48)+1<=(a+1) * 10 by omega) hp
  rw [Int.mul_comm (10 ^ l.length) 10,<- Int.mul_assoc];exact this
theorem zeV (l:List UInt8) (h:l.all digit=true) (n:Nat) (hn:l.length<=n):0<=dec l/\dec l < 10 ^ n:=by
 have:=zji l h 0 (by decide)
 refine ⟨this.1,Int.lt_of_lt_of_le this.2 ?_⟩;simp only [Int.zero_add,Int.one_mul]
 exact_mod_cast Nat.pow_le_pow_right (by decide) hn
theorem zha (s:ByteArray) (k:Nat) (h:k < s.size):s.data.toList.take (k+1)=s.data.toList.take k ++ [s[k]]:=by
 rw [tSe (by simpa using h)];rfl
theorem zaz (s:ByteArray) (k:Nat) (h:s.size<=k):s.data.toList.take k=s.data.toList:=tOl (by simpa using h)
theorem zaN (p:UInt8->Bool) (s:ByteArray) (k:Nat) (h:k < s.size):(s.data.toList.take (k+1)).all p=((s.data.toList.take k).all p && p s[k]):=by
 rw [zha s k h,List.all_append];simp
theorem zb4 (p:UInt8->Bool) (s:ByteArray) (k:Nat) (h:k < s.size) (hp:p s[k]=false):s.data.toList.all p=false:=by
 rw [<- List.take_append_drop (k+1) s.data.toList,List.all_append,zaN p s k h,hp];simp
theorem zu (s:ByteArray):s.toList.isEmpty=decide (s.size=0):=by
 rw [ByteArray.toList_eq,Bool.eq_iff_iff,List.isEmpty_iff,decide_eq_true_eq,<- List.length_eq_zero_iff,Array.length_toList];exact Iff.rfl
theorem zde (s:ByteArray) (h:s.size=0):s=ByteArray.empty:=by
 apply ByteArray.ext;apply Array.eq_empty_of_size_eq_zero;exact h
theorem beq_toList (a b:ByteArray):(a.toList == b.toList)=decide (a=b):=by
 rw [ByteArray.toList_eq,ByteArray.toList_eq,Bool.eq_iff_iff];simp only [beq_iff_eq,decide_eq_true_eq,Array.toList_inj]
 constructor
 ·intro h;exact ByteArray.ext h
 ·rintro rfl;rfl
def has (ws:List ByteArray) (v:ByteArray):Bool:=ws.any fun x=>decide (x=v)
theorem zmT (ws:List ByteArray) (v:ByteArray) (k:Nat) (h:k < ws.length):has (ws.take (k+1)) v=(has (ws.take k) v || decide (ws[k]=v)):=by
 unfold has;rw [tSe h,List.any_append];simp
theorem zpP (ws:List ByteArray) (v:ByteArray) (k:Nat) (h:k < ws.length) (e:ws[k]=v):has ws v=true:=by
 unfold has;rw [List.any_eq_true];exact ⟨ws[k],List.getElem_mem h,by simpa using e⟩
theorem zoj (ws:List ByteArray) (v:ByteArray) (k:Nat) (h:ws.length<=k):has (ws.take k) v=has ws v:=by rw [tOl h]
theorem zmw (s:ByteArray) (h:0 < s.size):s.data.toList.headD 0=s[0]:=by
 obtain ⟨⟨l⟩⟩:=s
 cases l with
 | nil=>simp [ByteArray.size] at h
 | cons a l=>rfl
theorem zdT (s:ByteArray) (h:¬ (1<=s.size/\s.size<=7)):zal s=false:=by
 unfold zal
 by_cases h1:1<=s.size
 ·rw [decide_eq_false (show ¬ s.size<=7 by omega)];simp
 ·rw [decide_eq_false h1];simp
theorem zfj (s:ByteArray) (h:1 < s.size) (hz:(s[0].toNat:Int)=48):zal s=false:=by
 unfold zal;rw [zmw s (by omega),decide_eq_false (show ¬ s.size<=1 by omega),decide_eq_false (show ¬ s[0].toNat ≠ 48 by omega)];simp
theorem zkA (s:ByteArray) (h1:1<=s.size) (h7:s.size<=7) (hz:s.size<=1 \/ ¬ (s[0].toNat:Int)=48):zal s=zba s:=by
 unfold zal;rw [zmw s (by omega),decide_eq_true h1,decide_eq_true h7]
 rcases hz with h | h
 ·rw [decide_eq_true h];simp
 ·rw [decide_eq_true (show s[0].toNat ≠ 48 by omega)];simp
def fits (kd ls ms:Int) (ws:List ByteArray) (v:ByteArray):Bool :=
 if v.size=0 then false else if kd=1 then zaq ls ms v else if kd=2 then has ws v else if kd=3 then za4 ls ms v else if kd=4 then zy v else false
theorem zas (kd ls ms:Int) (ws:List ByteArray) (v:ByteArray) (h:v.size=0):fits kd ls ms ws v=false:=by simp [fits,h]
theorem znt (ls ms:Int) (ws:List ByteArray) (v:ByteArray) (h:¬ v.size=0):fits 1 ls ms ws v=zaq ls ms v:=by simp [fits,h]
theorem zn4 (ls ms:Int) (ws:List ByteArray) (v:ByteArray) (h:¬ v.size=0):fits 2 ls ms ws v=has ws v:=by simp [fits,h]
theorem zlG (ls ms:Int) (ws:List ByteArray) (v:ByteArray) (h:¬ v.size=0):fits 3 ls ms ws v=za4 ls ms v:=by simp [fits,h]
theorem zns (ls ms:Int) (ws:List ByteArray) (v:ByteArray) (h:¬ v.size=0):fits 4 ls ms ws v=zy v:=by simp [fits,h]
theorem zfB (kd ls ms:Int) (ws:List ByteArray) (v:ByteArray) (h1:kd ≠ 1) (h2:kd ≠ 2) (h3:kd ≠ 3) (h4:kd ≠ 4):fits kd ls ms ws v=false:=by simp [fits,h1,h2,h3,h4]
theorem zcT (s:ByteArray) (h:zal s=true):0<=zfP s:=by
 unfold zal at h;rw [Bool.and_eq_true] at h;exact (zeV _ h.2 _ (Nat.le_refl _)).1
theorem zjk (ls ms:Int) (s:ByteArray) (h:zal s=false):zaq ls ms s=false:=by simp [zaq,h]
theorem zma (ls ms:Int) (s:ByteArray) (h:zal s=true):zaq ls ms s=(decide (ls<=zfP s) && decide (zfP s<=ms)):=by simp [zaq,h]
theorem zm5 (s:ByteArray) (h:s.size=0):zal s=false:=zdT s (by omega)
theorem zgf (s:ByteArray) (h:s.size=0):zy s=false:=by simp [zy,h]
theorem zpg (ls ms:Int) (ws:List ByteArray) (v:ByteArray):fits 1 ls ms ws v=zaq ls ms v:=by
 by_cases h:v.size=0
 ·rw [zas _ _ _ _ _ h,zjk _ _ _ (zm5 v h)]
 ·exact znt ls ms ws v h
theorem zot (ls ms:Int) (ws:List ByteArray) (v:ByteArray):fits 4 ls ms ws v=zy v:=by
 by_cases h:v.size=0
 ·rw [zas _ _ _ _ _ h,zgf v h]
 ·exact zns ls ms ws v h
theorem zkk (ls ms:Int) (ws:List ByteArray) (v:ByteArray) (h:zbG v=false):fits 3 ls ms ws v=false:=by
 by_cases hz:v.size=0
 ·exact zas _ _ _ _ _ hz
 ·rw [zlG ls ms ws v hz,za4,h];simp
theorem zjZ (ls ms:Int) (ws:List ByteArray) (v:ByteArray) (h:zbG v=true) (hz:¬ v.size=0):fits 3 ls ms ws v=(decide (ls<=v.size) && decide ((v.size:Int)<=ms)):=by
 rw [zlG ls ms ws v hz,za4,h];simp
end Go.Proofs.YtghnakljnhnenaaGreat.Gate
