import Derived.WalkKit
import Derived.Laws.NewBlocks
import Derived.Laws.MakeOwn
import Derived.Laws.OwnMore
import Derived.Deep.Draws
import Derived.Deep.OwnRows
import Derived.MapKept
import Derived.Deep.RegionHeld3
import Derived.Below
namespace Go
abbrev Value.i (n : Int) : Value := .int .i64 n
abbrev Value.s (x : ByteArray) : Value := .string x
abbrev Value.l (a : Option Addr) (n c : Nat) : Value := .slice a n c
theorem RowKit.Hid.o {p : Prop} (h : RowKit.Hid p) : p := h.out
end Go
namespace Go.Proofs.YthdfpinbnncghaaGreat
open Go.RowKit
abbrev OA := Option Addr
abbrev AV := Array Value
abbrev BA := ByteArray
abbrev aD (b o : Nat) : Addr := ⟨b, o, none⟩
abbrev Bw (w w' : World) : Prop := Below w.heap.size w w'
theorem xN {t : Type} (x : t) : ∃ y, y = x := ⟨_, rfl⟩
end Go.Proofs.YthdfpinbnncghaaGreat

namespace Go.Proofs.YthdfpinbnncghaaGreat
open Go.RowKit
theorem bAl (w : World) (o : Obj) : Below w.heap.size w (w.alloc o) := (Below.refl _ _).alloc (Nat.le_refl _) _
theorem bRf (B : Nat) (w : World) : Below B w w := Below.refl B w
theorem nLt {a b c : Nat} (h : a < b) (k : b <= c) : a < c := Nat.lt_of_lt_of_le h k
theorem nSl {a b : Nat} (h : a + 1 < b) : a < b := Nat.lt_of_succ_lt h
theorem gES {t : Type} {x : Array t} {i : Nat} {b : t} (h : x[i]? = some b) : ∃ k : i < x.size, x[i] = b := Array.getElem?_eq_some_iff.1 h
theorem bFi {b : Bool} (h : ¬ b = true) : b = false := Bool.eq_false_iff.2 h
theorem tOl {t : Type} {i : Nat} {l : List t} (h : l.length <= i) : l.take i = l := List.take_of_length_le h
theorem tSe {t : Type} {i : Nat} {l : List t} (h : i < l.length) : l.take (i + 1) = l.take i ++ [l[i]] := List.take_succ_eq_append_getElem h
end Go.Proofs.YthdfpinbnncghaaGreat

namespace Go.Proofs.YthdfpinbnncghaaGreat
def zN (c:UInt8):Bool:=decide (97<=c.toNat/\c.toNat<=122)||decide (48<=c.toNat/\c.toNat<=57)||decide (c.toNat=45)
def digit (c:UInt8):Bool:=decide (48<=c.toNat/\c.toNat<=57)
def qA (c:UInt8):Bool:=decide (33<=c.toNat/\c.toNat<=126)
def qw (s:BA):Bool:=s.data.toList.all zN
def zbW (s:BA):Bool:=s.data.toList.all qA
def zbf (s:BA):Bool:=s.data.toList.all digit
def zm (s:BA):Bool:=decide (1<=s.size)&&decide (s.size<=16)&&qw s
def dec (l:List UInt8):Int:=l.foldl (fun n c=>n*10+((c.toNat:Int)-48)) 0
def zat (s:BA):Bool:=decide (1<=s.size)&&decide (s.size<=7)&&(decide (s.size<=1)||decide ((s.data.toList.headD 0).toNat≠48))&&zbf s
def zb2 (ls ms:Int)(s:BA):Bool:=decide (ls<=s.size)&&decide ((s.size:Int)<=ms)&&zbW s
def zg7 (s:BA):Int:=dec s.data.toList
def zaP (ls ms:Int)(s:BA):Bool:=zat s&&decide (ls<=zg7 s)&&decide (zg7 s<=ms)
theorem znI (l:List UInt8)(c:UInt8):dec (l++[c])=dec l*10+((c.toNat:Int)-48):=by simp[dec]
theorem zj2 (l:List UInt8)(h:l.all digit=true):∀a:Int,0<=a->0<=l.foldl (fun n c=>n*10+((c.toNat:Int)-48)) a/\l.foldl (fun n c=>n*10+((c.toNat:Int)-48)) a<(a+1)*10 ^ l.length:=by
 induction l with
 | nil=>intro a ha;simp;omega
 | cons c l ih=>
  intro a ha;rw[List.all_cons,Bool.and_eq_true]at h;have hc:48<=c.toNat/\c.toNat<=57:=by simpa[digit] using h.1
  obtain⟨h1,h2⟩:=ih h.2 (a*10+((c.toNat:Int)-48)) (by omega);simp only[List.foldl_cons,List.length_cons,Int.pow_succ];refine⟨h1,Int.lt_of_lt_of_le h2 ?_⟩;have hp:(0:Int)<=10 ^ l.length:=Int.pow_nonneg (by decide)
  have:=Int.mul_le_mul_of_nonneg_right (show a*10+((c.toNat:Int)-48)+1<=(a+1)*10 by omega) hp
  rw[Int.mul_comm (10 ^ l.length) 10,<- Int.mul_assoc];exact this
theorem zfK (l:List UInt8)(h:l.all digit=true)(n:Nat)(hn:l.length<=n):0<=dec l/\dec l<10 ^ n:=by
 have:=zj2 l h 0 (by decide)
 refine⟨this.1,Int.lt_of_lt_of_le this.2 ?_⟩;simp only[Int.zero_add,Int.one_mul]
 exact_mod_cast Nat.pow_le_pow_right (by decide) hn
theorem zhs (s:BA)(k:Nat)(h:k<s.size):s.data.toList.take (k+1)=s.data.toList.take k++[s[k]]:=by
 rw[tSe (by simpa using h)];rfl
theorem zaE (s:BA)(k:Nat)(h:s.size<=k):s.data.toList.take k=s.data.toList:=tOl (by simpa using h)
theorem zaY (p:UInt8->Bool)(s:BA)(k:Nat)(h:k<s.size):(s.data.toList.take (k+1)).all p=((s.data.toList.take k).all p&&p s[k]):=by
 rw[zhs s k h,List.all_append];simp
theorem zcp (p:UInt8->Bool)(s:BA)(k:Nat)(h:k<s.size)(hp:p s[k]=false):s.data.toList.all p=false:=by
 rw[<- List.take_append_drop (k+1) s.data.toList,List.all_append,zaY p s k h,hp];simp
theorem zy (s:BA):s.toList.isEmpty=decide (s.size=0):=by
 rw[ByteArray.toList_eq,Bool.eq_iff_iff,List.isEmpty_iff,decide_eq_true_eq,<- List.length_eq_zero_iff,Array.length_toList];exact Iff.rfl
theorem zcq (s:BA)(h:s.size=0):s=ByteArray.empty:=by
 apply ByteArray.ext;apply Array.eq_empty_of_size_eq_zero;exact h
theorem beq_toList (a b:BA):(a.toList == b.toList)=decide (a=b):=by
 rw[ByteArray.toList_eq,ByteArray.toList_eq,Bool.eq_iff_iff];simp only[beq_iff_eq,decide_eq_true_eq,Array.toList_inj]
 constructor
 ·intro h;exact ByteArray.ext h
 ·rintro rfl;rfl
def has (ws:List BA)(v:BA):Bool:=ws.any fun x=>decide (x=v)
theorem znW (ws:List BA)(v:BA)(k:Nat)(h:k<ws.length):has (ws.take (k+1)) v=(has (ws.take k) v||decide (ws[k]=v)):=by
 unfold has;rw[tSe h,List.any_append];simp
theorem zrn (ws:List BA)(v:BA)(k:Nat)(h:k<ws.length)(e:ws[k]=v):has ws v=true:=by
 unfold has;rw[List.any_eq_true];exact⟨ws[k],List.getElem_mem h,by simpa using e⟩
theorem zpX (ws:List BA)(v:BA)(k:Nat)(h:ws.length<=k):has (ws.take k) v=has ws v:=by rw[tOl h]
theorem zoq (s:BA)(h:0<s.size):s.data.toList.headD 0=s[0]:=by
 obtain⟨⟨l⟩⟩:=s
 cases l with
 | nil=>simp[ByteArray.size]at h
 | cons a l=>rfl
theorem zei (s:BA)(h:¬(1<=s.size/\s.size<=7)):zat s=false:=by
 unfold zat
 by_cases h1:1<=s.size
 ·rw[decide_eq_false (show ¬s.size<=7 by omega)];simp
 ·rw[decide_eq_false h1];simp
theorem zfQ (s:BA)(h:1<s.size)(hz:(s[0].toNat:Int)=48):zat s=false:=by
 unfold zat;rw[zoq s (by omega),decide_eq_false (show ¬s.size<=1 by omega),decide_eq_false (show ¬s[0].toNat≠48 by omega)];simp
theorem zl7 (s:BA)(h1:1<=s.size)(h7:s.size<=7)(hz:s.size<=1 \/ ¬(s[0].toNat:Int)=48):zat s=zbf s:=by
 unfold zat;rw[zoq s (by omega),decide_eq_true h1,decide_eq_true h7]
 rcases hz with h|h
 ·rw[decide_eq_true h];simp
 ·rw[decide_eq_true (show s[0].toNat≠48 by omega)];simp
def fits (kd ls ms:Int)(ws:List BA)(v:BA):Bool:=
 if v.size=0 then false else if kd=1 then zaP ls ms v else if kd=2 then has ws v else if kd=3 then zb2 ls ms v else if kd=4 then zm v else false
theorem zaA (kd ls ms:Int)(ws:List BA)(v:BA)(h:v.size=0):fits kd ls ms ws v=false:=by simp[fits,h]
theorem zpo (ls ms:Int)(ws:List BA)(v:BA)(h:¬v.size=0):fits 1 ls ms ws v=zaP ls ms v:=by simp[fits,h]
theorem zoY (ls ms:Int)(ws:List BA)(v:BA)(h:¬v.size=0):fits 2 ls ms ws v=has ws v:=by simp[fits,h]
theorem zmU (ls ms:Int)(ws:List BA)(v:BA)(h:¬v.size=0):fits 3 ls ms ws v=zb2 ls ms v:=by simp[fits,h]
theorem zpu (ls ms:Int)(ws:List BA)(v:BA)(h:¬v.size=0):fits 4 ls ms ws v=zm v:=by simp[fits,h]
theorem zgf (kd ls ms:Int)(ws:List BA)(v:BA)(h1:kd≠1)(h2:kd≠2)(h3:kd≠3)(h4:kd≠4):fits kd ls ms ws v=false:=by simp[fits,h1,h2,h3,h4]
theorem zdx (s:BA)(h:zat s=true):0<=zg7 s:=by
 unfold zat at h;rw[Bool.and_eq_true]at h;exact(zfK _ h.2 _ (Nat.le_refl _)).1
theorem zkg (ls ms:Int)(s:BA)(h:zat s=false):zaP ls ms s=false:=by simp[zaP,h]
theorem zm4 (ls ms:Int)(s:BA)(h:zat s=true):zaP ls ms s=(decide (ls<=zg7 s)&&decide (zg7 s<=ms)):=by simp[zaP,h]
theorem zny (s:BA)(h:s.size=0):zat s=false:=zei s (by omega)
theorem zhj (s:BA)(h:s.size=0):zm s=false:=by simp[zm,h]
theorem zrq (ls ms:Int)(ws:List BA)(v:BA):fits 1 ls ms ws v=zaP ls ms v:=by
 by_cases h:v.size=0
 ·rw[zaA _ _ _ _ _ h,zkg _ _ _ (zny v h)]
 ·exact zpo ls ms ws v h
theorem zqs (ls ms:Int)(ws:List BA)(v:BA):fits 4 ls ms ws v=zm v:=by
 by_cases h:v.size=0
 ·rw[zaA _ _ _ _ _ h,zhj v h]
 ·exact zpu ls ms ws v h
theorem zlj (ls ms:Int)(ws:List BA)(v:BA)(h:zbW v=false):fits 3 ls ms ws v=false:=by
 by_cases hz:v.size=0
 ·exact zaA _ _ _ _ _ hz
 ·rw[zmU ls ms ws v hz,zb2,h];simp
theorem zlp (ls ms:Int)(ws:List BA)(v:BA)(h:zbW v=true)(hz:¬v.size=0):fits 3 ls ms ws v=(decide (ls<=v.size)&&decide ((v.size:Int)<=ms)):=by
 rw[zmU ls ms ws v hz,zb2,h];simp
end Go.Proofs.YthdfpinbnncghaaGreat
namespace Go.Proofs.YthdfpinbnncghaaGreat
open Go.RowKit
theorem ze {a b:Bool}(h:a=b):Ending.returned (.bool a)=.returned (.bool b):=by rw[h]
theorem zk {k:IntKind}{a b:Int}(h:a=b):Ending.returned (.int k a)=.returned (.int k b):=by rw[h]
def zD (t:Nat)(left:Int):Int:=if (t:Int)<=left then left-t else -1
theorem zF {t:Nat}{left:Int}(h:(t:Int)<=left):zD t left=left-t:=by simp[zD,h]
theorem zq {t:Nat}{left:Int}(h:¬(t:Int)<=left):zD t left=-1:=by simp[zD,h]
theorem zas {α:Type}(g:α->Nat)(l:List α)(k:Nat)(h:k<l.length):((l.take (k+1)).map g).sum=((l.take k).map g).sum+g l[k]:=by
 rw[tSe h,List.map_append,List.sum_append];simp
theorem zbO {α:Type}(g:α->Nat)(l:List α)(k:Nat):((l.take k).map g).sum<=(l.map g).sum:=by
 conv=>rhs;rw[<- List.take_append_drop k l]
 rw[List.map_append,List.sum_append];omega
theorem zfB {α:Type}(g:α->Nat)(l:List α)(k:Nat)(h:k<l.length):g l[k]<=(l.map g).sum:=by
 have h1:=zas g l k h;have h2:=zbO g l (k+1);omega
theorem qN {P:Program}(t e:TypeId)(z:Value)(size bytes:Nat)(ht:P.underlying t=some (.slice e))(hinfo:(P.info? e).map (fun i=>(i.zero,i.size,i.bytes))=some (some z,size,bytes))
 (n:Nat) (hbytes:bytes*n<=281474976710656) (h63:n<=9223372036854775807) (w:World) :
 (Instr.makeSlice t (.i (n:Int)) (.i (n:Int))).run P w=.ok (.l (some (aD w.heap.size 0)) n n) (w.alloc (.cells (madeCells z.cells (n*size)) e)):=by
 obtain⟨i,hi,hzz⟩:=Option.map_eq_some_iff.1 hinfo;simp only[Prod.mk.injEq]at hzz;obtain⟨hz,hs,hb⟩:=hzz
 have hb':(i.bytes:Int)*(n:Int)<=281474976710656:=by
  have h:((i.bytes*n:Nat):Int)<=281474976710656:=by rw[hb];omega
  rwa [Int.natCast_mul]at h
 have hr:=run_make (P:=P) w t e i z ht hi hz .i64 .i64 n n (by omega) (Int.le_refl _) hb' (by omega);simp only[Int.toNat_natCast,hs]at hr;exact hr
theorem hid {p:Prop}(h:p):Hid p:=h
theorem ji {a b:Prop}(x:a)(y:b):Hid (a/\b):=⟨x,y⟩
theorem zcl {a b c:Prop}(x:a)(y:b)(z:c):Hid (a/\b/\c):=⟨x,y,z⟩
theorem zk2 {a b c d:Prop}(x:a)(y:b)(z:c)(u:d):Hid (a/\b/\c/\d):=⟨x,y,z,u⟩
theorem zst {a b c d e:Prop}(x:a)(y:b)(z:c)(u:d)(v:e):Hid (a/\b/\c/\d/\e):=⟨x,y,z,u,v⟩
theorem hid6 {a b c d e f:Prop}(x:a)(y:b)(z:c)(u:d)(v:e)(t:f):Hid (a/\b/\c/\d/\e/\f):=⟨x,y,z,u,v,t⟩
structure zJ (w:World)(a:OA)(ws:List BA):Prop where
 len:ws.length<=maxLen
 small:∀s∈ws,s.size<=maxLen
 cells:ws≠[]->∃b off,a=some (aD b off)/\b<w.heap.size/\∀i (h:i<ws.length),w.cell? (aD b (off+i))=some (.s ws[i])
theorem zJ.mono {w w':World}{a:OA}{ws:List BA}(h:zJ w a ws)(hb:Bw w w'):zJ w' a ws:=
 ⟨h.len,h.small,fun hne=>by
  obtain⟨b,off,ha,hbs,hc⟩:=h.cells hne;exact⟨b,off,ha,nLt hbs hb.size,fun i hi=>(hb.cell (p:=(aD b (off+i))) hbs).trans (hc i hi)⟩⟩
theorem zsC {W w1:World}(hb:Bw W w1):(∀b o,b<W.heap.size->w1.cell? (aD b o)=W.cell? (aD b o))/\(∀b o,b<W.heap.size->w1.frozen? (aD b o)=W.frozen? (aD b o)):=
 ⟨fun b o h=>hb.cell (p:=(aD b o)) h,fun b o h=>hb.frozen (p:=(aD b o)) h⟩
def jO (ws:List BA):AV:=(ws.map Value.string).toArray
def strCells (ws:List BA)(k:Nat):AV:=((ws.take k).map Value.string++List.replicate (ws.length-k) (Value.s ByteArray.empty)).toArray
theorem znO (ws:List BA)(k:Nat)(h:k<ws.length):(strCells ws k)[k]?=some (.s ByteArray.empty):=by
 unfold strCells;have hl:((ws.take k).map Value.string).length=k:=by simp;omega
 rw[List.getElem?_toArray,List.getElem?_append_right (by omega),hl,Nat.sub_self];obtain⟨m,hm⟩:∃m,ws.length-k=m+1:=⟨ws.length-k-1,by omega⟩
 rw[hm,List.replicate_succ];rfl
theorem zmo (ws:List BA)(k:Nat)(h:k<ws.length):(strCells ws k).setIfInBounds k (.s ws[k])=strCells ws (k+1):=by
 unfold strCells;rw[List.setIfInBounds_toArray,List.set_append_right _ _ (by simp;omega)]
 congr 1
 rw[tSe h,List.map_append,List.append_assoc]
 congr 1
 obtain⟨m,hm⟩:∃m,ws.length-k=m+1:=⟨ws.length-k-1,by omega⟩
 rw[hm,show ws.length-(k+1)=m by omega]
 have:k-((ws.take k).map Value.string).length=0:=by simp;omega
 rw[this,List.replicate_succ]
 rfl
theorem zmO (ws:List BA)(k:Nat)(h:ws.length<=k):strCells ws k=jO ws:=by
 unfold strCells jO;rw[tOl h,show ws.length-k=0 by omega];simp
theorem zlB (ws:List BA):madeCells #[Value.string ByteArray.empty] ws.length=strCells ws 0:=by
 apply Array.toList_inj.1
 rw[toList_madeCells_one]
 simp[strCells]
theorem zca {w:World}{bk:Nat}{ws:List BA}{t:TypeId}(h:w.heap[bk]?=some (.cells (jO ws) t))(hl:ws.length<=maxLen)(hs:∀s∈ws,s.size<=maxLen):zJ w (some (aD bk 0)) ws:=
 ⟨hl,hs,fun _=>⟨bk,0,rfl,(gES h).1,fun i hi=>by
  simp[World.cell?,h,jO,hi]⟩⟩
theorem za {wk wl:World}{b:Nat}{X:AV}(h:∀o,wk.cell? (aD b o)=X[o]?)(hb:b<wk.heap.size)(hl:Bw wk wl):∀o,wl.cell? (aD b o)=X[o]?:=
 fun o=>(hl.cell (p:=(aD b o)) hb).trans (h o)
theorem zn (w:World)(X:AV)(t:TypeId):∀o,(w.alloc (.cells X t)).cell? (aD w.heap.size o)=X[o]?:=fun _=>World.cell?_alloc_at _ _ _ _ rfl
theorem below_drewN {B:Nat}{a w:World}(h:Below B a w)(n:Nat):Below B a (w.drewN n):=h.trans ⟨rfl,rfl,rfl,Nat.le_refl _,fun _ _=>rfl⟩
theorem zx (w:World)(o o':Obj):Bw w ((w.alloc o).alloc o'):=(bAl _ _).alloc (by simp) _
theorem zf {P:Program}{f:FuncId}{args:AV}{w:World}{b c:Bool}{R:World->Prop}(hb:b=c)(h:Calls P f args w fun e w'=>e=.returned (.bool b)/\R w'):Calls P f args w fun e w'=>e=.returned (.bool c)/\R w':=by
 subst hb;exact h
theorem zqC (w:World)(o o':Obj):{ (w.alloc o) with heap:=(w.alloc o).heap.setIfInBounds w.heap.size o' }=w.alloc o':=by
 show({ w with heap:=(w.heap.push o).setIfInBounds w.heap.size o' }:World)={ w with heap:=w.heap.push o' }
 congr 1
 apply Array.ext_getElem?
 intro i;simp only[Array.getElem?_setIfInBounds,Array.getElem?_push,Array.size_push]
 by_cases h:w.heap.size=i
 ·subst h;simp
 ·rw[if_neg h,if_neg (fun e=>h e.symm),if_neg (fun e=>h e.symm)]
theorem alloc_at (w:World)(o:Obj):(w.alloc o).heap[w.heap.size]?=some o:=by
 show(w.heap.push o)[w.heap.size]?=some o
 simp
theorem zbn {P:Program}{mty kt et:TypeId}{d:TypeDesc}(hm:P.underlying mty=some (.map kt et))(hd:P.underlying kt=some d)(key val:Value)(hk:MapKept.IsKey d key)
 (es:Array MapEntry) (clock:Nat) (hf:Instr.findNow d key es.toList 0=some none) (w:World) :
 (Instr.mapUpdate mty (.map (some w.heap.size)) key val).run P (w.alloc (.map es clock))=.ok () (w.alloc (.map (es.push ⟨key,val,clock⟩) (clock+1))):=by
 have hb:=alloc_at w (.map es clock);have hc:=MapKept.run_checkKey (P:=P) (w:=w.alloc (.map es clock)) hd hk false 9999
 simp[Instr.mapUpdate,run_underlying hm,MapKept.run_getObj_map hb,hc,MapKept.run_findKey hd hf,MapKept.run_setObj_map _ hb,Result.andThen,<- zqC w (.map es clock) (.map (es.push ⟨key,val,clock⟩) (clock+1))]
theorem y7 {P:Program}{mty kt et:TypeId}{d:TypeDesc}(hm:P.underlying mty=some (.map kt et))(hd:P.underlying kt=some d)(key val:Value)(hk:MapKept.IsKey d key)
 (es:Array MapEntry) (clock i:Nat) (hf:Instr.findNow d key es.toList 0=some (some (i,val))) (w:World) (r:Nat) (hb:w.heap[r]?=some (.map es clock)) :
 (Instr.lookup mty (.map (some r)) key true).run P w=.ok (.tuple #[val,.bool true]) w:=by
 have hc:=MapKept.run_checkKey (P:=P) (w:=w) hd hk es.isEmpty 9999
 simp[Instr.lookup,run_underlying hm,MapKept.run_getObj_map hb,hc,MapKept.run_findKey hd hf,Result.andThen]
theorem zcF {P:Program}{mty kt et:TypeId}{d:TypeDesc}(hm:P.underlying mty=some (.map kt et))(hd:P.underlying kt=some d)(key z:Value)(hk:MapKept.IsKey d key)
 (es:Array MapEntry) (clock:Nat) (hf:Instr.findNow d key es.toList 0=some none) (w:World) (hz:(zeroValue et).run P w=.ok z w) (r:Nat) (hb:w.heap[r]?=some (.map es clock)) :
 (Instr.lookup mty (.map (some r)) key true).run P w=.ok (.tuple #[z,.bool false]) w:=by
 have hc:=MapKept.run_checkKey (P:=P) (w:=w) hd hk es.isEmpty 9999
 simp[Instr.lookup,run_underlying hm,MapKept.run_getObj_map hb,hc,MapKept.run_findKey hd hf,hz,Result.andThen]
def nth:List Oper->Nat->Option Oper
 | [],_=>none
 | o :: _,0=>some o
 | _ :: l,n+1=>nth l n
theorem zq9:∀(l:List Oper) (i:Nat),nth l i=l[i]?
 | [],_=>by simp[nth]
 | _ :: _,0=>by simp[nth]
 | _ :: l,n+1=>by simp[nth,zq9 l n]
section
variable {P:Program} {ops:Array Oper} {Q:Exit->Act->World->Prop} {md:Region.Mode} {S:World->Prop}
theorem zml {i:Nat}{oi:Oper}(hi:nth ops.toList i=some oi):ops[i]?=some oi:=by
 rw[zq9]at hi;simpa using hi
theorem zsh {i:Nat}{oi:Oper}{v:Value}{fuel:Nat}{listed:Array Bool}{a:Act}{w:World}(hi:nth ops.toList i=some oi)
 (hs:Region.noSelect ops=true) (hf:Region.free md ops listed i=true) (hr:(Region.ready md ops listed).contains i=true)
 (hQ:∀c a w,Q (.panic c) (a.put oi.dst v) w->Q (.panic c) a w) (hw:Region.wanted oi (yielded ops a.tmps)=true) (hS:S w)
 (hy:∀w,S w->(execOp a.eval oi).run P w=.ok (.value v) w)
 (h:wpAnyH P md ops Q S fuel (listed.setIfInBounds i true) (a.put oi.dst v) w):wpAnyH P md ops Q S (fuel+1) listed a w:=
 wpAnyH_take (zml hi) hs hf hr hQ (Or.inl ⟨hw,hy⟩) hS h
theorem zsj {i:Nat}{oi:Oper}{fuel:Nat}{listed:Array Bool}{a:Act}{w:World}(hi:nth ops.toList i=some oi)
 (hs:Region.noSelect ops=true) (hf:Region.free md ops listed i=true) (hr:(Region.ready md ops listed).contains i=true)
 (hQ:∀c a w,Q (.panic c) (a.put oi.dst undef) w->Q (.panic c) a w) (hw:Region.wanted oi (yielded ops a.tmps)=false) (hS:S w)
 (h:wpAnyH P md ops Q S fuel (listed.setIfInBounds i true) (a.put oi.dst undef) w):wpAnyH P md ops Q S (fuel+1) listed a w:=
 wpAnyH_take (zml hi) hs hf hr hQ (Or.inr ⟨hw,rfl⟩) hS h
theorem zsx {i:Nat}{oi:Oper}{fuel:Nat}{listed:Array Bool}{a:Act}{w:World}(hi:nth ops.toList i=some oi)
 (hr:Region.ready md ops listed=[i]) (hw:Region.wanted oi (yielded ops a.tmps)=true)
 (h:∀K:Act->World->Prop,Shut (∀a w,S w->(S w->wpAnyH P md ops Q S fuel (listed.setIfInBounds i true) a w)->K a w)->Oper.wp P oi a w K Q):wpAnyH P md ops Q S (fuel+1) listed a w:=
 wpAnyH_ready hr (by simp) (AllReadyH.cons (zml hi) (fun K hK=>by rw[if_pos hw];exact h K hK) AllReadyH.nil)
end
end Go.Proofs.YthdfpinbnncghaaGreat
