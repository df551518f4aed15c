import Derived.WalkKit
import Derived.Laws.NewBlocks
import Derived.Laws.MakeOwn
import Derived.Laws.OwnMore
import Derived.Deep.Draws
import Derived.Deep.OwnRows
import Derived.MapKept
import Derived.Deep.RegionHeld3
import Derived.ProofKit
import Derived.Test.YtecncindgjdbiaaGreatChecked
import Derived.Test.YtecncindgjdbiaaGreatRows
import Derived.OpenShut
import Derived.Below
namespace Go
abbrev Value.i (n : Int) : Value := .int .i64 n
abbrev Value.s (x : ByteArray) : Value := .string x
abbrev Value.l (a : Option Addr) (n c : Nat) : Value := .slice a n c
theorem RowKit.Hid.o {p : Prop} (h : RowKit.Hid p) : p := h.out
end Go
namespace Go.Proofs.YtecncindgjdbiaaGreat
open Go.RowKit
abbrev OA := Option Addr
abbrev AV := Array Value
abbrev BA := ByteArray
abbrev aD (b o : Nat) : Addr := ⟨b, o, none⟩
abbrev Bw (w w' : World) : Prop := Below w.heap.size w w'
theorem nm {t : Type} (x : t) : ∃ y, y = x := ⟨_, rfl⟩
end Go.Proofs.YtecncindgjdbiaaGreat

namespace Go.Proofs.YtecncindgjdbiaaGreat
open Go.RowKit
theorem bAl (w : World) (o : Obj) : Below w.heap.size w (w.alloc o) := (Below.refl _ _).alloc (Nat.le_refl _) _
theorem bRf (B : Nat) (w : World) : Below B w w := Below.refl B w
theorem nLt {a b c : Nat} (h : a < b) (k : b <= c) : a < c := Nat.lt_of_lt_of_le h k
theorem nSl {a b : Nat} (h : a + 1 < b) : a < b := Nat.lt_of_succ_lt h
theorem gES {t : Type} {x : Array t} {i : Nat} {b : t} (h : x[i]? = some b) : ∃ k : i < x.size, x[i] = b := Array.getElem?_eq_some_iff.1 h
theorem bFi {b : Bool} (h : ¬ b = true) : b = false := Bool.eq_false_iff.2 h
theorem tOl {t : Type} {i : Nat} {l : List t} (h : l.length <= i) : l.take i = l := List.take_of_length_le h
theorem tSe {t : Type} {i : Nat} {l : List t} (h : i < l.length) : l.take (i + 1) = l.take i ++ [l[i]] := List.take_succ_eq_append_getElem h
end Go.Proofs.YtecncindgjdbiaaGreat

namespace Go.Proofs.YtecncindgjdbiaaGreat
def zK (c:UInt8):Bool:=decide (97<=c.toNat/\c.toNat<=122)||decide (48<=c.toNat/\c.toNat<=57)||decide (c.toNat=45)
def digit (c:UInt8):Bool:=decide (48<=c.toNat/\c.toNat<=57)
def y8 (c:UInt8):Bool:=decide (33<=c.toNat/\c.toNat<=126)
def yV (s:BA):Bool:=s.data.toList.all zK
def zby (s:BA):Bool:=s.data.toList.all y8
def za3 (s:BA):Bool:=s.data.toList.all digit
def zy (s:BA):Bool:=decide (1<=s.size)&&decide (s.size<=16)&&yV s
def dec (l:List UInt8):Int:=l.foldl (fun n c=>n*10+((c.toNat:Int)-48)) 0
def zaj (s:BA):Bool:=decide (1<=s.size)&&decide (s.size<=7)&&(decide (s.size<=1)||decide ((s.data.toList.headD 0).toNat≠48))&&za3 s
def zbA (ls ms:Int)(s:BA):Bool:=decide (ls<=s.size)&&decide ((s.size:Int)<=ms)&&zby s
def zgd (s:BA):Int:=dec s.data.toList
def zaC (ls ms:Int)(s:BA):Bool:=zaj s&&decide (ls<=zgd s)&&decide (zgd s<=ms)
theorem zmu (l:List UInt8)(c:UInt8):dec (l++[c])=dec l*10+((c.toNat:Int)-48):=by simp[dec]
theorem zjS (l:List UInt8)(h:l.all digit=true):∀a:Int,0<=a->0<=l.foldl (fun n c=>n*10+((c.toNat:Int)-48)) a/\l.foldl (fun n c=>n*10+((c.toNat:Int)-48)) a<(a+1)*10 ^ l.length:=by
 induction l with
 | nil=>intro a ha;simp;omega
 | cons c l ih=>
  intro a ha;rw[List.all_cons,Bool.and_eq_true]at h;have hc:48<=c.toNat/\c.toNat<=57:=by simpa[digit] using h.1
  obtain⟨h1,h2⟩:=ih h.2 (a*10+((c.toNat:Int)-48)) (by omega);simp only[List.foldl_cons,List.length_cons,Int.pow_succ];refine⟨h1,Int.lt_of_lt_of_le h2 ?_⟩;have hp:(0:Int)<=10 ^ l.length:=Int.pow_nonneg (by decide)
  have:=Int.mul_le_mul_of_nonneg_right (show a*10+((c.toNat:Int)-48)+1<=(a+1)*10 by omega) hp
  rw[Int.mul_comm (10 ^ l.length) 10,<- Int.mul_assoc];exact this
theorem zfg (l:List UInt8)(h:l.all digit=true)(n:Nat)(hn:l.length<=n):0<=dec l/\dec l<10 ^ n:=by
 have:=zjS l h 0 (by decide)
 refine⟨this.1,Int.lt_of_lt_of_le this.2 ?_⟩;simp only[Int.zero_add,Int.one_mul]
 exact_mod_cast Nat.pow_le_pow_right (by decide) hn
theorem zhm (s:BA)(k:Nat)(h:k<s.size):s.data.toList.take (k+1)=s.data.toList.take k++[s[k]]:=by
 rw[tSe (by simpa using h)];rfl
theorem zao (s:BA)(k:Nat)(h:s.size<=k):s.data.toList.take k=s.data.toList:=tOl (by simpa using h)
theorem zaP (p:UInt8->Bool)(s:BA)(k:Nat)(h:k<s.size):(s.data.toList.take (k+1)).all p=((s.data.toList.take k).all p&&p s[k]):=by
 rw[zhm s k h,List.all_append];simp
theorem zb3 (p:UInt8->Bool)(s:BA)(k:Nat)(h:k<s.size)(hp:p s[k]=false):s.data.toList.all p=false:=by
 rw[<- List.take_append_drop (k+1) s.data.toList,List.all_append,zaP p s k h,hp];simp
theorem zx (s:BA):s.toList.isEmpty=decide (s.size=0):=by
 rw[ByteArray.toList_eq,Bool.eq_iff_iff,List.isEmpty_iff,decide_eq_true_eq,<- List.length_eq_zero_iff,Array.length_toList];exact Iff.rfl
theorem zdu (s:BA)(h:s.size=0):s=ByteArray.empty:=by
 apply ByteArray.ext;apply Array.eq_empty_of_size_eq_zero;exact h
theorem beq_toList (a b:BA):(a.toList == b.toList)=decide (a=b):=by
 rw[ByteArray.toList_eq,ByteArray.toList_eq,Bool.eq_iff_iff];simp only[beq_iff_eq,decide_eq_true_eq,Array.toList_inj]
 constructor
 ·intro h;exact ByteArray.ext h
 ·rintro rfl;rfl
def has (ws:List BA)(v:BA):Bool:=ws.any fun x=>decide (x=v)
theorem znu (ws:List BA)(v:BA)(k:Nat)(h:k<ws.length):has (ws.take (k+1)) v=(has (ws.take k) v||decide (ws[k]=v)):=by
 unfold has;rw[tSe h,List.any_append];simp
theorem zqw (ws:List BA)(v:BA)(k:Nat)(h:k<ws.length)(e:ws[k]=v):has ws v=true:=by
 unfold has;rw[List.any_eq_true];exact⟨ws[k],List.getElem_mem h,by simpa using e⟩
theorem zo5 (ws:List BA)(v:BA)(k:Nat)(h:ws.length<=k):has (ws.take k) v=has ws v:=by rw[tOl h]
theorem znv (s:BA)(h:0<s.size):s.data.toList.headD 0=s[0]:=by
 obtain⟨⟨l⟩⟩:=s
 cases l with
 | nil=>simp[ByteArray.size]at h
 | cons a l=>rfl
theorem zd4 (s:BA)(h:¬(1<=s.size/\s.size<=7)):zaj s=false:=by
 unfold zaj
 by_cases h1:1<=s.size
 ·rw[decide_eq_false (show ¬s.size<=7 by omega)];simp
 ·rw[decide_eq_false h1];simp
theorem zfH (s:BA)(h:1<s.size)(hz:(s[0].toNat:Int)=48):zaj s=false:=by
 unfold zaj;rw[znv s (by omega),decide_eq_false (show ¬s.size<=1 by omega),decide_eq_false (show ¬s[0].toNat≠48 by omega)];simp
theorem zlj (s:BA)(h1:1<=s.size)(h7:s.size<=7)(hz:s.size<=1 \/ ¬(s[0].toNat:Int)=48):zaj s=za3 s:=by
 unfold zaj;rw[znv s (by omega),decide_eq_true h1,decide_eq_true h7]
 rcases hz with h|h
 ·rw[decide_eq_true h];simp
 ·rw[decide_eq_true (show s[0].toNat≠48 by omega)];simp
def fits (kd ls ms:Int)(ws:List BA)(v:BA):Bool:=
 if v.size=0 then false else if kd=1 then zaC ls ms v else if kd=2 then has ws v else if kd=3 then zbA ls ms v else if kd=4 then zy v else false
theorem zal (kd ls ms:Int)(ws:List BA)(v:BA)(h:v.size=0):fits kd ls ms ws v=false:=by simp[fits,h]
theorem zoi (ls ms:Int)(ws:List BA)(v:BA)(h:¬v.size=0):fits 1 ls ms ws v=zaC ls ms v:=by simp[fits,h]
theorem zoG (ls ms:Int)(ws:List BA)(v:BA)(h:¬v.size=0):fits 2 ls ms ws v=has ws v:=by simp[fits,h]
theorem zl3 (ls ms:Int)(ws:List BA)(v:BA)(h:¬v.size=0):fits 3 ls ms ws v=zbA ls ms v:=by simp[fits,h]
theorem zoy (ls ms:Int)(ws:List BA)(v:BA)(h:¬v.size=0):fits 4 ls ms ws v=zy v:=by simp[fits,h]
theorem zfO (kd ls ms:Int)(ws:List BA)(v:BA)(h1:kd≠1)(h2:kd≠2)(h3:kd≠3)(h4:kd≠4):fits kd ls ms ws v=false:=by simp[fits,h1,h2,h3,h4]
theorem zdb (s:BA)(h:zaj s=true):0<=zgd s:=by
 unfold zaj at h;rw[Bool.and_eq_true]at h;exact(zfg _ h.2 _ (Nat.le_refl _)).1
theorem zjg (ls ms:Int)(s:BA)(h:zaj s=false):zaC ls ms s=false:=by simp[zaC,h]
theorem zmC (ls ms:Int)(s:BA)(h:zaj s=true):zaC ls ms s=(decide (ls<=zgd s)&&decide (zgd s<=ms)):=by simp[zaC,h]
theorem znQ (s:BA)(h:s.size=0):zaj s=false:=zd4 s (by omega)
theorem zgx (s:BA)(h:s.size=0):zy s=false:=by simp[zy,h]
theorem zqe (ls ms:Int)(ws:List BA)(v:BA):fits 1 ls ms ws v=zaC ls ms v:=by
 by_cases h:v.size=0
 ·rw[zal _ _ _ _ _ h,zjg _ _ _ (znQ v h)]
 ·exact zoi ls ms ws v h
theorem zpT (ls ms:Int)(ws:List BA)(v:BA):fits 4 ls ms ws v=zy v:=by
 by_cases h:v.size=0
 ·rw[zal _ _ _ _ _ h,zgx v h]
 ·exact zoy ls ms ws v h
theorem zkC (ls ms:Int)(ws:List BA)(v:BA)(h:zby v=false):fits 3 ls ms ws v=false:=by
 by_cases hz:v.size=0
 ·exact zal _ _ _ _ _ hz
 ·rw[zl3 ls ms ws v hz,zbA,h];simp
theorem zkX (ls ms:Int)(ws:List BA)(v:BA)(h:zby v=true)(hz:¬v.size=0):fits 3 ls ms ws v=(decide (ls<=v.size)&&decide ((v.size:Int)<=ms)):=by
 rw[zl3 ls ms ws v hz,zbA,h];simp
end Go.Proofs.YtecncindgjdbiaaGreat
namespace Go.Proofs.YtecncindgjdbiaaGreat
open Go.RowKit
theorem ze {a b:Bool}(h:a=b):Ending.returned (.bool a)=.returned (.bool b):=by rw[h]
theorem zo {k:IntKind}{a b:Int}(h:a=b):Ending.returned (.int k a)=.returned (.int k b):=by rw[h]
def zL (t:Nat)(left:Int):Int:=if (t:Int)<=left then left-t else -1
theorem zM {t:Nat}{left:Int}(h:(t:Int)<=left):zL t left=left-t:=by simp[zL,h]
theorem zC {t:Nat}{left:Int}(h:¬(t:Int)<=left):zL t left=-1:=by simp[zL,h]
theorem za5 {α:Type}(g:α->Nat)(l:List α)(k:Nat)(h:k<l.length):((l.take (k+1)).map g).sum=((l.take k).map g).sum+g l[k]:=by
 rw[tSe h,List.map_append,List.sum_append];simp
theorem zcI {α:Type}(g:α->Nat)(l:List α)(k:Nat):((l.take k).map g).sum<=(l.map g).sum:=by
 conv=>rhs;rw[<- List.take_append_drop k l]
 rw[List.map_append,List.sum_append];omega
theorem zi7 {α:Type}(g:α->Nat)(l:List α)(k:Nat)(h:k<l.length):g l[k]<=(l.map g).sum:=by
 have h1:=za5 g l k h;have h2:=zcI g l (k+1);omega
theorem jy {P:Program}(t e:TypeId)(z:Value)(size bytes:Nat)(ht:P.underlying t=some (.slice e))(hinfo:(P.info? e).map (fun i=>(i.zero,i.size,i.bytes))=some (some z,size,bytes))
 (n:Nat) (hbytes:bytes*n<=281474976710656) (h63:n<=9223372036854775807) (w:World) :
 (Instr.makeSlice t (.i (n:Int)) (.i (n:Int))).run P w=.ok (.l (some (aD w.heap.size 0)) n n) (w.alloc (.cells (madeCells z.cells (n*size)) e)):=by
 obtain⟨i,hi,hzz⟩:=Option.map_eq_some_iff.1 hinfo;simp only[Prod.mk.injEq]at hzz;obtain⟨hz,hs,hb⟩:=hzz
 have hb':(i.bytes:Int)*(n:Int)<=281474976710656:=by
  have h:((i.bytes*n:Nat):Int)<=281474976710656:=by rw[hb];omega
  rwa [Int.natCast_mul]at h
 have hr:=run_make (P:=P) w t e i z ht hi hz .i64 .i64 n n (by omega) (Int.le_refl _) hb' (by omega);simp only[Int.toNat_natCast,hs]at hr;exact hr
theorem hid {p:Prop}(h:p):Hid p:=h
theorem qw {a b:Prop}(x:a)(y:b):Hid (a/\b):=⟨x,y⟩
theorem zcR {a b c:Prop}(x:a)(y:b)(z:c):Hid (a/\b/\c):=⟨x,y,z⟩
theorem zcg {a b c d:Prop}(x:a)(y:b)(z:c)(u:d):Hid (a/\b/\c/\d):=⟨x,y,z,u⟩
theorem zrh {a b c d e:Prop}(x:a)(y:b)(z:c)(u:d)(v:e):Hid (a/\b/\c/\d/\e):=⟨x,y,z,u,v⟩
theorem hid6 {a b c d e f:Prop}(x:a)(y:b)(z:c)(u:d)(v:e)(t:f):Hid (a/\b/\c/\d/\e/\f):=⟨x,y,z,u,v,t⟩
structure zF (w:World)(a:OA)(ws:List BA):Prop where
 len:ws.length<=maxLen
 small:∀s∈ws,s.size<=maxLen
 cells:ws≠[]->∃b off,a=some (aD b off)/\b<w.heap.size/\∀i (h:i<ws.length),w.cell? (aD b (off+i))=some (.s ws[i])
theorem zF.mono {w w':World}{a:OA}{ws:List BA}(h:zF w a ws)(hb:Bw w w'):zF w' a ws:=
 ⟨h.len,h.small,fun hne=>by
  obtain⟨b,off,ha,hbs,hc⟩:=h.cells hne;exact⟨b,off,ha,nLt hbs hb.size,fun i hi=>(hb.cell (p:=(aD b (off+i))) hbs).trans (hc i hi)⟩⟩
theorem zrj {W w1:World}(hb:Bw W w1):(∀b o,b<W.heap.size->w1.cell? (aD b o)=W.cell? (aD b o))/\(∀b o,b<W.heap.size->w1.frozen? (aD b o)=W.frozen? (aD b o)):=
 ⟨fun b o h=>hb.cell (p:=(aD b o)) h,fun b o h=>hb.frozen (p:=(aD b o)) h⟩
def jS (ws:List BA):AV:=(ws.map Value.string).toArray
def strCells (ws:List BA)(k:Nat):AV:=((ws.take k).map Value.string++List.replicate (ws.length-k) (Value.s ByteArray.empty)).toArray
theorem znG (ws:List BA)(k:Nat)(h:k<ws.length):(strCells ws k)[k]?=some (.s ByteArray.empty):=by
 unfold strCells;have hl:((ws.take k).map Value.string).length=k:=by simp;omega
 rw[List.getElem?_toArray,List.getElem?_append_right (by omega),hl,Nat.sub_self];obtain⟨m,hm⟩:∃m,ws.length-k=m+1:=⟨ws.length-k-1,by omega⟩
 rw[hm,List.replicate_succ];rfl
theorem zl5 (ws:List BA)(k:Nat)(h:k<ws.length):(strCells ws k).setIfInBounds k (.s ws[k])=strCells ws (k+1):=by
 unfold strCells;rw[List.setIfInBounds_toArray,List.set_append_right _ _ (by simp;omega)]
 congr 1
 rw[tSe h,List.map_append,List.append_assoc]
 congr 1
 obtain⟨m,hm⟩:∃m,ws.length-k=m+1:=⟨ws.length-k-1,by omega⟩
 rw[hm,show ws.length-(k+1)=m by omega]
 have:k-((ws.take k).map Value.string).length=0:=by simp;omega
 rw[this,List.replicate_succ]
 rfl
theorem zl2 (ws:List BA)(k:Nat)(h:ws.length<=k):strCells ws k=jS ws:=by
 unfold strCells jS;rw[tOl h,show ws.length-k=0 by omega];simp
theorem zkW (ws:List BA):madeCells #[Value.string ByteArray.empty] ws.length=strCells ws 0:=by
 apply Array.toList_inj.1
 rw[toList_madeCells_one]
 simp[strCells]
theorem zdE {w:World}{bk:Nat}{ws:List BA}{t:TypeId}(h:w.heap[bk]?=some (.cells (jS ws) t))(hl:ws.length<=maxLen)(hs:∀s∈ws,s.size<=maxLen):zF w (some (aD bk 0)) ws:=
 ⟨hl,hs,fun _=>⟨bk,0,rfl,(gES h).1,fun i hi=>by
  simp[World.cell?,h,jS,hi]⟩⟩
theorem za {wk wl:World}{b:Nat}{X:AV}(h:∀o,wk.cell? (aD b o)=X[o]?)(hb:b<wk.heap.size)(hl:Bw wk wl):∀o,wl.cell? (aD b o)=X[o]?:=
 fun o=>(hl.cell (p:=(aD b o)) hb).trans (h o)
theorem zl (w:World)(X:AV)(t:TypeId):∀o,(w.alloc (.cells X t)).cell? (aD w.heap.size o)=X[o]?:=fun _=>World.cell?_alloc_at _ _ _ _ rfl
theorem below_drewN {B:Nat}{a w:World}(h:Below B a w)(n:Nat):Below B a (w.drewN n):=h.trans ⟨rfl,rfl,rfl,Nat.le_refl _,fun _ _=>rfl⟩
theorem zw (w:World)(o o':Obj):Bw w ((w.alloc o).alloc o'):=(bAl _ _).alloc (by simp) _
theorem zf {P:Program}{f:FuncId}{args:AV}{w:World}{b c:Bool}{R:World->Prop}(hb:b=c)(h:Calls P f args w fun e w'=>e=.returned (.bool b)/\R w'):Calls P f args w fun e w'=>e=.returned (.bool c)/\R w':=by
 subst hb;exact h
theorem zbW {P:Program}{id:Nat}{ops:Array Oper}{b:Bool}{Q:Exit->Act->World->Prop}{a:Act}{w:World}(R:Act->Act->World->Prop)(h1:(Code.region id ops b).wp P (fun e a' w'=>e=.normal/\R a a' w') a w)(h2:∀a' w',R a a' w'->Q .normal a' w'):(Code.region id ops b).wp P Q a w:=
 Code.wp_mono (fun e a' w' ⟨he,hr⟩=>by subst he;exact h2 a' w' hr) h1
theorem zpJ (w:World)(o o':Obj):{ (w.alloc o) with heap:=(w.alloc o).heap.setIfInBounds w.heap.size o' }=w.alloc o':=by
 show({ w with heap:=(w.heap.push o).setIfInBounds w.heap.size o' }:World)={ w with heap:=w.heap.push o' }
 congr 1
 apply Array.ext_getElem?
 intro i;simp only[Array.getElem?_setIfInBounds,Array.getElem?_push,Array.size_push]
 by_cases h:w.heap.size=i
 ·subst h;simp
 ·rw[if_neg h,if_neg (fun e=>h e.symm),if_neg (fun e=>h e.symm)]
theorem alloc_at (w:World)(o:Obj):(w.alloc o).heap[w.heap.size]?=some o:=by
 show(w.heap.push o)[w.heap.size]?=some o
 simp
theorem za8 {P:Program}{mty kt et:TypeId}{d:TypeDesc}(hm:P.underlying mty=some (.map kt et))(hd:P.underlying kt=some d)(key val:Value)(hk:MapKept.IsKey d key)
 (es:Array MapEntry) (clock:Nat) (hf:Instr.findNow d key es.toList 0=some none) (w:World) :
 (Instr.mapUpdate mty (.map (some w.heap.size)) key val).run P (w.alloc (.map es clock))=.ok () (w.alloc (.map (es.push ⟨key,val,clock⟩) (clock+1))):=by
 have hb:=alloc_at w (.map es clock);have hc:=MapKept.run_checkKey (P:=P) (w:=w.alloc (.map es clock)) hd hk false 9999
 simp[Instr.mapUpdate,run_underlying hm,MapKept.run_getObj_map hb,hc,MapKept.run_findKey hd hf,MapKept.run_setObj_map _ hb,Result.andThen,<- zpJ w (.map es clock) (.map (es.push ⟨key,val,clock⟩) (clock+1))]
theorem yP {P:Program}{mty kt et:TypeId}{d:TypeDesc}(hm:P.underlying mty=some (.map kt et))(hd:P.underlying kt=some d)(key val:Value)(hk:MapKept.IsKey d key)
 (es:Array MapEntry) (clock i:Nat) (hf:Instr.findNow d key es.toList 0=some (some (i,val))) (w:World) (r:Nat) (hb:w.heap[r]?=some (.map es clock)) :
 (Instr.lookup mty (.map (some r)) key true).run P w=.ok (.tuple #[val,.bool true]) w:=by
 have hc:=MapKept.run_checkKey (P:=P) (w:=w) hd hk es.isEmpty 9999
 simp[Instr.lookup,run_underlying hm,MapKept.run_getObj_map hb,hc,MapKept.run_findKey hd hf,Result.andThen]
theorem zcp {P:Program}{mty kt et:TypeId}{d:TypeDesc}(hm:P.underlying mty=some (.map kt et))(hd:P.underlying kt=some d)(key z:Value)(hk:MapKept.IsKey d key)
 (es:Array MapEntry) (clock:Nat) (hf:Instr.findNow d key es.toList 0=some none) (w:World) (hz:(zeroValue et).run P w=.ok z w) (r:Nat) (hb:w.heap[r]?=some (.map es clock)) :
 (Instr.lookup mty (.map (some r)) key true).run P w=.ok (.tuple #[z,.bool false]) w:=by
 have hc:=MapKept.run_checkKey (P:=P) (w:=w) hd hk es.isEmpty 9999
 simp[Instr.lookup,run_underlying hm,MapKept.run_getObj_map hb,hc,MapKept.run_findKey hd hf,hz,Result.andThen]
theorem zq {n i:Nat}(h:i<n):n-(intOf (Value.int IntKind.i64 ((i:Int)+1))).toNat<n-(intOf (Value.int IntKind.i64 (i:Int))).toNat:=by
 show n-((i+1:Nat):Int).toNat<n-((i:Nat):Int).toNat
 rw[Int.toNat_natCast,Int.toNat_natCast];omega
theorem zA (n:Int)(h:-9223372036854775808<=n/\n<=9223372036854775807):wrap64 n=n:=by unfold wrap64;omega
theorem wrap_one {i:Nat}(h:i<9000000000000000000):wrap64 ((i:Int)+1)=((i+1:Nat):Int):=by
 rw[zA _ ⟨by omega,by omega⟩];omega
theorem yO {n i:Nat}(h:i<n)(hi:i<9000000000000000000):n-(intOf (Value.int IntKind.i64 (wrap64 ((i:Int)+1)))).toNat<n-(intOf (Value.int IntKind.i64 (i:Int))).toNat:=by
 rw[wrap_one hi]
 show n-((i+1:Nat):Int).toNat<n-((i:Nat):Int).toNat
 rw[Int.toNat_natCast,Int.toNat_natCast];omega
def nth:List Oper->Nat->Option Oper
 | [],_=>none
 | o :: _,0=>some o
 | _ :: l,n+1=>nth l n
theorem zp7:∀(l:List Oper) (i:Nat),nth l i=l[i]?
 | [],_=>by simp[nth]
 | _ :: _,0=>by simp[nth]
 | _ :: l,n+1=>by simp[nth,zp7 l n]
section
variable {P:Program} {ops:Array Oper} {Q:Exit->Act->World->Prop} {md:Region.Mode} {S:World->Prop}
theorem zj5 {i:Nat}{oi:Oper}(hi:nth ops.toList i=some oi):ops[i]?=some oi:=by
 rw[zp7]at hi;simpa using hi
theorem zq5 {i:Nat}{oi:Oper}{v:Value}{fuel:Nat}{listed:Array Bool}{a:Act}{w:World}(hi:nth ops.toList i=some oi)
 (hs:Region.noSelect ops=true) (hf:Region.free md ops listed i=true) (hr:(Region.ready md ops listed).contains i=true)
 (hQ:∀c a w,Q (.panic c) (a.put oi.dst v) w->Q (.panic c) a w) (hw:Region.wanted oi (yielded ops a.tmps)=true) (hS:S w)
 (hy:∀w,S w->(execOp a.eval oi).run P w=.ok (.value v) w)
 (h:wpAnyH P md ops Q S fuel (listed.setIfInBounds i true) (a.put oi.dst v) w):wpAnyH P md ops Q S (fuel+1) listed a w:=
 wpAnyH_take (zj5 hi) hs hf hr hQ (Or.inl ⟨hw,hy⟩) hS h
theorem zq4 {i:Nat}{oi:Oper}{fuel:Nat}{listed:Array Bool}{a:Act}{w:World}(hi:nth ops.toList i=some oi)
 (hs:Region.noSelect ops=true) (hf:Region.free md ops listed i=true) (hr:(Region.ready md ops listed).contains i=true)
 (hQ:∀c a w,Q (.panic c) (a.put oi.dst undef) w->Q (.panic c) a w) (hw:Region.wanted oi (yielded ops a.tmps)=false) (hS:S w)
 (h:wpAnyH P md ops Q S fuel (listed.setIfInBounds i true) (a.put oi.dst undef) w):wpAnyH P md ops Q S (fuel+1) listed a w:=
 wpAnyH_take (zj5 hi) hs hf hr hQ (Or.inr ⟨hw,rfl⟩) hS h
theorem zri {i:Nat}{oi:Oper}{fuel:Nat}{listed:Array Bool}{a:Act}{w:World}(hi:nth ops.toList i=some oi)
 (hr:Region.ready md ops listed=[i]) (hw:Region.wanted oi (yielded ops a.tmps)=true)
 (h:∀K:Act->World->Prop,Shut (∀a w,S w->(S w->wpAnyH P md ops Q S fuel (listed.setIfInBounds i true) a w)->K a w)->Oper.wp P oi a w K Q):wpAnyH P md ops Q S (fuel+1) listed a w:=
 wpAnyH_ready hr (by simp) (AllReadyH.cons (zj5 hi) (fun K hK=>by rw[if_pos hw];exact h K hK) AllReadyH.nil)
end
end Go.Proofs.YtecncindgjdbiaaGreat
namespace Go.Proofs.YtecncindgjdbiaaGreat
structure Far where
 far:Nat->Option Bool
 row:List Nat
def Far.under (s:Far)(p:Nat):Far:=⟨fun q=>if q=p then some false else s.far q,s.row⟩
def Far.behind (s:Far)(p:Nat):Far:=⟨fun q=>if q=p then some true else s.far q,s.row++[p]⟩
def zu (d:Nat->Far->Bool × Far):List Nat->Far->Bool × Far
 | [],s=>(true,s)
 | q :: qs,s=>if (d q s).1 then zu d qs (d q s).2 else (false,(d q s).2)
def down (rd:Nat->List Nat):Nat->Nat->Far->Bool × Far
 | 0,_,s=>(false,s)
 | f+1,p,s=>
  match s.far p with
  | some b=>(b,s)
  | none=>
   if (zu (down rd f) (rd p) (s.under p)).1 then (true,(zu (down rd f) (rd p) (s.under p)).2.behind p)
   else (false,(zu (down rd f) (rd p) (s.under p)).2)
def jL:Far:=⟨fun _=>none,[]⟩
def zI (rd:Nat->List Nat)(n:Nat):Bool × Far:=zu (down rd (n+1)) (List.range n) jL
def open' (n:Nat)(s:Far):Nat:=((List.range n).filter fun q=>(s.far q).isNone).length
structure ziz (s t:Far):Prop where
 met:∀q,(s.far q).isSome->t.far q=s.far q
 only:∀q,t.far q=some false->s.far q=some false
theorem ziz.refl (s:Far):ziz s s:=⟨fun _ _=>rfl,fun _ h=>h⟩
theorem ziz.trans {s t u:Far}(h:ziz s t)(k:ziz t u):ziz s u:=
 ⟨fun q hq=>by rw[k.met q (by rw[h.met q hq];exact hq),h.met q hq],fun q hq=>h.only q (k.only q hq)⟩
theorem zfX {n p:Nat}{s:Far}(hp:p<n)(hn:s.far p=none):open' n (s.under p)<open' n s:=by
 unfold open'
 have hsub:∀q,((s.under p).far q).isNone=true->(s.far q).isNone=true:=by
  intro q hq;unfold Far.under at hq
  simp only at hq
  by_cases h:q=p
  ·rw[if_pos h]at hq;simp at hq
  ·rwa [if_neg h]at hq
 have key:∀l:List Nat,p∈l->(l.filter fun q=>((s.under p).far q).isNone).length<(l.filter fun q=>(s.far q).isNone).length:=by
  intro l
  induction l with
  | nil=>intro h;cases h
  | cons a l ih=>
   intro h
   have hle:(l.filter fun q=>((s.under p).far q).isNone).length<=(l.filter fun q=>(s.far q).isNone).length:=by
    clear ih h
    induction l with
    | nil=>exact Nat.le_refl _
    | cons b l ih=>
     by_cases hb:((s.under p).far b).isNone=true
     ·rw[List.filter_cons_of_pos (by simpa using hb),List.filter_cons_of_pos (by simpa using hsub b hb)]
      simp only[List.length_cons];omega
     ·rw[List.filter_cons_of_neg (by simpa using hb)]
      by_cases hb2:(s.far b).isNone=true
      ·rw[List.filter_cons_of_pos (by simpa using hb2)];simp only[List.length_cons];omega
      ·rw[List.filter_cons_of_neg (by simpa using hb2)];exact ih
   by_cases hap:a=p
   ·subst hap
    rw[List.filter_cons_of_neg (by simp[Far.under]),List.filter_cons_of_pos (by simp[hn])];simp only[List.length_cons];omega
   ·have hm:p∈l:=by
     rcases List.mem_cons.1 h with h'|h'
     ·exact absurd h'.symm hap
     ·exact h'
    have:=ih hm
    by_cases hb:((s.under p).far a).isNone=true
    ·rw[List.filter_cons_of_pos (by simpa using hb),List.filter_cons_of_pos (by simpa using hsub a hb)]
     simp only[List.length_cons];omega
    ·rw[List.filter_cons_of_neg (by simpa using hb)]
     by_cases hb2:(s.far a).isNone=true
     ·rw[List.filter_cons_of_pos (by simpa using hb2)];simp only[List.length_cons];omega
     ·rw[List.filter_cons_of_neg (by simpa using hb2)];exact this
 exact key _ (List.mem_range.2 hp)
theorem zli {n:Nat}{s t:Far}(h:∀q,(s.far q).isSome->(t.far q).isSome):open' n t<=open' n s:=by
 unfold open'
 generalize List.range n=l
 induction l with
 | nil=>exact Nat.le_refl _
 | cons b l ih=>
  by_cases hb:(t.far b).isNone=true
  ·have hs:(s.far b).isNone=true:=by
    rcases hsb:s.far b with _|v
    ·rfl
    ·have:=h b (by rw[hsb];rfl)
     rw[Option.isNone_iff_eq_none]at hb;rw[hb]at this;cases this
   rw[List.filter_cons_of_pos (by simpa using hb),List.filter_cons_of_pos (by simpa using hs)];simp only[List.length_cons];omega
  ·rw[List.filter_cons_of_neg (by simpa using hb)]
   by_cases hb2:(s.far b).isNone=true
   ·rw[List.filter_cons_of_pos (by simpa using hb2)];simp only[List.length_cons];omega
   ·rw[List.filter_cons_of_neg (by simpa using hb2)];exact ih
theorem zny (rd:Nat->List Nat):∀f p s q,(s.far q).isSome->((down rd f p s).2.far q).isSome:=by
 intro f
 induction f with
 | zero=>intro p s q h;exact h
 | succ f ih=>
  intro p s q h;unfold down
  rcases hp:s.far p with _|b
  ·simp only
   have hl:∀(l:List Nat) (t:Far),(t.far q).isSome->((zu (down rd f) l t).2.far q).isSome:=by
    intro l
    induction l with
    | nil=>intro t ht;exact ht
    | cons a l il=>
     intro t ht;unfold zu
     split
     ·exact il _ (ih _ _ _ ht)
     ·exact ih _ _ _ ht
   have h1:((s.under p).far q).isSome:=by
    unfold Far.under;simp only
    split
    ·rfl
    ·exact h
   split
   ·unfold Far.behind;simp only
    split
    ·rfl
    ·exact hl _ _ h1
   ·exact hl _ _ h1
  ·exact h
theorem zmi (rd:Nat->List Nat)(f:Nat)(q:Nat):∀(l:List Nat) (t:Far),(t.far q).isSome->((zu (down rd f) l t).2.far q).isSome:=by
 intro l
 induction l with
 | nil=>intro t ht;exact ht
 | cons a l il=>
  intro t ht;unfold zu
  split
  ·exact il _ (zny _ _ _ _ _ ht)
  ·exact zny _ _ _ _ _ ht
structure zdy (rd:Nat->List Nat)(s:Far):Prop where
 mem:∀q,q∈s.row↔s.far q=some true
 nodup:s.row.Nodup
 ahead:∀i (h:i<s.row.length),∀q∈rd (s.row[i]),∃j,∃hj:j<i,s.row[j]'(by omega)=q
theorem zdy.under {rd:Nat->List Nat}{s:Far}(h:zdy rd s){p:Nat}(hp:s.far p=none):zdy rd (s.under p):=by
 refine⟨fun q=>?_,h.nodup,h.ahead⟩;unfold Far.under;simp only
 by_cases hq:q=p
 ·rw[if_pos hq];subst hq
  constructor
  ·intro hm;rw[h.mem,hp]at hm;cases hm
  ·intro hm;cases hm
 ·rw[if_neg hq];exact h.mem q
theorem zdy.behind {rd:Nat->List Nat}{s:Far}(h:zdy rd s){p:Nat}(hp:s.far p=some false)(hr:∀q∈rd p,s.far q=some true):zdy rd (s.behind p):=by
 have hnm:p ∉ s.row:=fun hm=>by rw[h.mem,hp]at hm;cases hm
 refine⟨fun q=>?_,?_,fun i hi q hq=>?_⟩
 ·unfold Far.behind;simp only[List.mem_append,List.mem_singleton]
  by_cases hq:q=p
  ·simp[hq]
  ·rw[if_neg hq,h.mem];simp[hq]
 ·unfold Far.behind;simp only
  rw[List.nodup_append];exact⟨h.nodup,by simp,fun a ha b hb=>by rw[List.mem_singleton]at hb;subst hb;exact fun e=>hnm (e ▸ ha)⟩
 ·have hlen:(s.behind p).row.length=s.row.length+1:=by simp[Far.behind]
  rcases Nat.lt_or_ge i s.row.length with hlt|hge
  ·have e:(s.behind p).row[i]=s.row[i]:=by simp[Far.behind,List.getElem_append_left hlt]
   rw[e]at hq;obtain⟨j,hj,hjq⟩:=h.ahead i hlt q hq;refine⟨j,hj,?_⟩;rw[<- hjq];simp only[Far.behind];rw[List.getElem_append_left (by omega)]
  ·have ei:i=s.row.length:=by omega
   subst ei;have e:(s.behind p).row[s.row.length]=p:=by simp[Far.behind]
   rw[e]at hq;have hm:=(h.mem q).2 (hr q hq);obtain⟨j,hj,hjq⟩:=List.mem_iff_getElem.1 hm;refine⟨j,hj,?_⟩;rw[<- hjq];simp only[Far.behind];rw[List.getElem_append_left hj]
theorem zpR (rd:Nat->List Nat):∀f p s,zdy rd s->(down rd f p s).1=true->zdy rd (down rd f p s).2/\ziz s (down rd f p s).2/\(down rd f p s).2.far p=some true:=by
 intro f
 induction f with
 | zero=>intro p s _ h;cases h
 | succ f ih=>
  have hl:∀(l:List Nat) (t:Far),zdy rd t->(zu (down rd f) l t).1=true->zdy rd (zu (down rd f) l t).2/\ziz t (zu (down rd f) l t).2/\∀q∈l,(zu (down rd f) l t).2.far q=some true:=by
   intro l
   induction l with
   | nil=>intro t ht _;exact⟨ht,ziz.refl _,fun q hq=>by cases hq⟩
   | cons a l il=>
    intro t ht h;unfold zu at h ⊢
    by_cases ha:(down rd f a t).1=true
    ·rw[if_pos ha]at h ⊢
     obtain⟨r1,g1,f1⟩:=ih a t ht ha;obtain⟨r2,g2,f2⟩:=il _ r1 h;refine⟨r2,g1.trans g2,fun q hq=>?_⟩
     rcases List.mem_cons.1 hq with rfl|hq
     ·rw[g2.met _ (by rw[f1];rfl),f1]
     ·exact f2 q hq
    ·rw[if_neg ha]at h;cases h
  intro p s hs h;unfold down at h ⊢
  rcases hp:s.far p with _|b
  ·rw[hp]at h
   simp only at h ⊢
   by_cases hc:(zu (down rd f) (rd p) (s.under p)).1=true
   ·rw[if_pos hc]
    obtain⟨r1,g1,f1⟩:=hl _ _ (hs.under hp) hc;have hpu:(s.under p).far p=some false:=by simp[Far.under]
    have hp1:(zu (down rd f) (rd p) (s.under p)).2.far p=some false:=by rw[g1.met p (by rw[hpu];rfl),hpu]
    refine⟨r1.behind hp1 f1,⟨fun q hq=>?_,fun q hq=>?_⟩,by simp[Far.behind]⟩
    ·have hqp:q≠p:=by rintro rfl;rw[hp]at hq;cases hq
     have h1:(s.under p).far q=s.far q:=by simp[Far.under,hqp]
     simp only[Far.behind,if_neg hqp];rw[g1.met q (by rw[h1];exact hq),h1]
    ·simp only[Far.behind]at hq
     by_cases hqp:q=p
     ·rw[if_pos hqp]at hq;cases hq
     ·rw[if_neg hqp]at hq
      have:=g1.only q hq
      simpa[Far.under,hqp] using this
   ·rw[if_neg hc]at h;cases h
  ·rw[hp]at h
   simp only at h ⊢
   subst h;exact⟨hs,ziz.refl _,hp⟩
theorem zkK (rd:Nat->List Nat)(f:Nat):∀(l:List Nat) (t:Far),zdy rd t->(zu (down rd f) l t).1=true->zdy rd (zu (down rd f) l t).2/\ziz t (zu (down rd f) l t).2/\∀q∈l,(zu (down rd f) l t).2.far q=some true:=by
 intro l
 induction l with
 | nil=>intro t ht _;exact⟨ht,ziz.refl _,fun q hq=>by cases hq⟩
 | cons a l il=>
  intro t ht h;unfold zu at h ⊢
  by_cases ha:(down rd f a t).1=true
  ·rw[if_pos ha]at h ⊢
   obtain⟨r1,g1,f1⟩:=zpR rd f a t ht ha;obtain⟨r2,g2,f2⟩:=il _ r1 h;refine⟨r2,g1.trans g2,fun q hq=>?_⟩
   rcases List.mem_cons.1 hq with rfl|hq
   ·rw[g2.met _ (by rw[f1];rfl),f1]
   ·exact f2 q hq
  ·rw[if_neg ha]at h;cases h
def zkh (rd:Nat->List Nat)(n:Nat)(rk:Nat->Nat):Prop:=(∀p,p<n->rk p<n)/\∀p,p<n->∀q∈rd p,q<n/\rk q<rk p
theorem znJ {rd:Nat->List Nat}{n:Nat}{rk:Nat->Nat}(hr:zkh rd n rk):∀f p s,p<n->rk p<f->(∀q,s.far q=some false->rk p<rk q) ->
 (down rd f p s).1=true/\∀q,(down rd f p s).2.far q=some false->s.far q=some false:=by
 intro f
 induction f with
 | zero=>intro p s _ h;omega
 | succ f ih=>
  intro p s hp hf hu
  have hl:∀(l:List Nat) (t:Far),(∀q∈l,q<n/\rk q<f)->(∀a∈l,∀q,t.far q=some false->rk a<rk q) ->
   (zu (down rd f) l t).1=true/\∀q,(zu (down rd f) l t).2.far q=some false->t.far q=some false:=by
   intro l
   induction l with
   | nil=>intro t _ _;exact⟨rfl,fun q h=>h⟩
   | cons a l il=>
    intro t h1 h2;obtain⟨ha1,ha2⟩:=h1 a (by simp);obtain⟨hd,hk⟩:=ih a t ha1 ha2 (h2 a (by simp));unfold zu;rw[if_pos hd];obtain⟨he,hm⟩:=il _ (fun q hq=>h1 q (by simp[hq])) (fun b hb q hq=>h2 b (by simp[hb]) q (hk q hq));exact⟨he,fun q hq=>hk q (hm q hq)⟩
  unfold down
  rcases hfp:s.far p with _|b
  ·simp only
   have hsmall:=hr.2 p hp
   obtain⟨hc,hm⟩:=hl (rd p) (s.under p) (fun q hq=>⟨(hsmall q hq).1,by have:=(hsmall q hq).2;omega⟩) (fun a ha q hq=>by
    have h1:=(hsmall a ha).2;simp only[Far.under]at hq
    by_cases hqp:q=p
    ·subst hqp;exact h1
    ·rw[if_neg hqp]at hq;have:=hu q hq;omega)
   rw[if_pos hc];refine⟨rfl,fun q hq=>?_⟩;simp only[Far.behind]at hq
   by_cases hqp:q=p
   ·rw[if_pos hqp]at hq;cases hq
   ·rw[if_neg hqp]at hq
    have:=hm q hq
    simpa[Far.under,hqp] using this
  ·simp only
   cases b with
   | true=>exact⟨rfl,fun q h=>h⟩
   | false=>exact absurd (hu p hfp) (by omega)
theorem zjZ {rd:Nat->List Nat}{n:Nat}{rk:Nat->Nat}(hr:zkh rd n rk):(zI rd n).1=true:=by
 unfold zI
 have key:∀(l:List Nat) (t:Far),(∀q∈l,q<n)->(∀q,t.far q≠some false)->(zu (down rd (n+1)) l t).1=true:=by
  intro l
  induction l with
  | nil=>intro t _ _;rfl
  | cons a l il=>
   intro t h1 h2;have ha:=h1 a (by simp);obtain⟨hd,hk⟩:=znJ hr (n+1) a t ha (by have:=hr.1 a ha;omega) (fun q hq=>absurd hq (h2 q));unfold zu;rw[if_pos hd];exact il _ (fun q hq=>h1 q (by simp[hq])) (fun q hq=>h2 q (hk q hq))
 exact key _ _ (fun q hq=>List.mem_range.1 hq) (fun q h=>by cases h)
theorem zmG (rd:Nat->List Nat):zdy rd jL:=⟨fun q=>by simp[jL],by simp[jL],fun i h=>by simp[jL]at h⟩
end Go.Proofs.YtecncindgjdbiaaGreat
namespace Go.Proofs.YtecncindgjdbiaaGreat.LawBack
open Go.ChangeShapes Go.WideShapes Go.ChangeAt Go.RowKit
theorem kInPlace:(Rows.fnExactGateBackRow.inPlace == Tryz.pinned.checked.prog.inPlace 3)=true:=by kernel_rfl
theorem kUnfol:(Rows.fnExactGateBackRow.unfollowed == Tryz.pinned.checked.prog.unfollowed 3)=true:=by kernel_rfl
end Go.Proofs.YtecncindgjdbiaaGreat.LawBack
namespace Go.Proofs.YtecncindgjdbiaaGreat.LawBack
open Go.ChangeShapes Go.WideShapes Go.ChangeAt Go.RowKit
theorem kRecur:(Rows.fnExactGateBackRow.recurses == Tryz.pinned.checked.prog.recurses 3)=true:=by kernel_rfl
theorem kNamed:(Rows.fnExactGateBackRow.named == Tryz.pinned.checked.prog.varsNamed 3)=true:=by kernel_rfl
end Go.Proofs.YtecncindgjdbiaaGreat.LawBack
