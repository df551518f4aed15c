import Derived.WalkKit
import Derived.Laws.NewBlocks
import Derived.Laws.MakeOwn
import Derived.Laws.OwnMore
import Derived.Deep.Draws
import Derived.Deep.OwnRows
import Derived.MapKept
import Derived.Below
namespace Go.Proofs.YtnapmdofidgliaaGreat
open Go.RowKit
theorem bAl (w : World) (o : Obj) : Below w.heap.size w (w.alloc o) := (Below.refl _ _).alloc (Nat.le_refl _) _
theorem bRf (B : Nat) (w : World) : Below B w w := Below.refl B w
theorem nLt {a b c : Nat} (h : a < b) (k : b <= c) : a < c := Nat.lt_of_lt_of_le h k
theorem nSl {a b : Nat} (h : a + 1 < b) : a < b := Nat.lt_of_succ_lt h
theorem gES {t : Type} {x : Array t} {i : Nat} {b : t} (h : x[i]? = some b) : ∃ k : i < x.size, x[i] = b := Array.getElem?_eq_some_iff.1 h
theorem bFi {b : Bool} (h : ¬ b = true) : b = false := Bool.eq_false_iff.2 h
theorem tOl {t : Type} {i : Nat} {l : List t} (h : l.length <= i) : l.take i = l := List.take_of_length_le h
theorem tSe {t : Type} {i : Nat} {l : List t} (h : i < l.length) : l.take (i + 1) = l.take i ++ [l[i]] := List.take_succ_eq_append_getElem h
end Go.Proofs.YtnapmdofidgliaaGreat

namespace Go.Proofs.YtnapmdofidgliaaGreat
open Go.RowKit
theorem hid {p:Prop}(h:p):Hid p:=h
theorem jC {a b:Prop}(x:a)(y:b):Hid (a/\b):=⟨x,y⟩
theorem zc6 {a b c:Prop}(x:a)(y:b)(z:c):Hid (a/\b/\c):=⟨x,y,z⟩
theorem zkC {a b c d:Prop}(x:a)(y:b)(z:c)(u:d):Hid (a/\b/\c/\d):=⟨x,y,z,u⟩
theorem zpx {a b c d e:Prop}(x:a)(y:b)(z:c)(u:d)(v:e):Hid (a/\b/\c/\d/\e):=⟨x,y,z,u,v⟩
theorem hid6 {a b c d e f:Prop}(x:a)(y:b)(z:c)(u:d)(v:e)(t:f):Hid (a/\b/\c/\d/\e/\f):=⟨x,y,z,u,v,t⟩
structure zD (w:World)(a:Option Addr)(ws:List ByteArray):Prop where
 len:ws.length<=maxLen
 small:∀s∈ws,s.size<=maxLen
 cells:ws≠[]->∃b off,a=some ⟨b,off,none⟩/\b<w.heap.size/\∀i (h:i<ws.length),w.cell? ⟨b,off+i,none⟩=some (.string ws[i])
theorem zD.mono {w w':World}{a:Option Addr}{ws:List ByteArray}(h:zD w a ws)(hb:Below w.heap.size w w'):zD w' a ws:=
 ⟨h.len,h.small,fun hne=>by
  obtain⟨b,off,ha,hbs,hc⟩:=h.cells hne;exact⟨b,off,ha,nLt hbs hb.size,fun i hi=>(hb.cell (p:=⟨b,off+i,none⟩) hbs).trans (hc i hi)⟩⟩
theorem zrc {W w1:World}(hb:Below W.heap.size W w1):(∀b o,b<W.heap.size->w1.cell? ⟨b,o,none⟩=W.cell? ⟨b,o,none⟩)/\(∀b o,b<W.heap.size->w1.frozen? ⟨b,o,none⟩=W.frozen? ⟨b,o,none⟩):=
 ⟨fun b o h=>hb.cell (p:=⟨b,o,none⟩) h,fun b o h=>hb.frozen (p:=⟨b,o,none⟩) h⟩
def jY (ws:List ByteArray):Array Value:=(ws.map Value.string).toArray
def strCells (ws:List ByteArray)(k:Nat):Array Value:=((ws.take k).map Value.string++List.replicate (ws.length-k) (Value.string ByteArray.empty)).toArray
theorem znr (ws:List ByteArray)(k:Nat)(h:k<ws.length):(strCells ws k)[k]?=some (.string ByteArray.empty):=by
 unfold strCells;have hl:((ws.take k).map Value.string).length=k:=by simp;omega
 rw[List.getElem?_toArray,List.getElem?_append_right (by omega),hl,Nat.sub_self];obtain⟨m,hm⟩:∃m,ws.length-k=m+1:=⟨ws.length-k-1,by omega⟩
 rw[hm,List.replicate_succ];rfl
theorem zlN (ws:List ByteArray)(k:Nat)(h:k<ws.length):(strCells ws k).setIfInBounds k (.string ws[k])=strCells ws (k+1):=by
 unfold strCells;rw[List.setIfInBounds_toArray,List.set_append_right _ _ (by simp;omega)]
 congr 1
 rw[tSe h,List.map_append,List.append_assoc]
 congr 1
 obtain⟨m,hm⟩:∃m,ws.length-k=m+1:=⟨ws.length-k-1,by omega⟩
 rw[hm,show ws.length-(k+1)=m by omega]
 have:k-((ws.take k).map Value.string).length=0:=by simp;omega
 rw[this,List.replicate_succ]
 rfl
theorem zlX (ws:List ByteArray)(k:Nat)(h:ws.length<=k):strCells ws k=jY ws:=by
 unfold strCells jY;rw[tOl h,show ws.length-k=0 by omega];simp
theorem zk4 (ws:List ByteArray):madeCells #[Value.string ByteArray.empty] ws.length=strCells ws 0:=by
 apply Array.toList_inj.1
 rw[toList_madeCells_one]
 simp[strCells]
theorem zdL {w:World}{bk:Nat}{ws:List ByteArray}{t:TypeId}(h:w.heap[bk]?=some (.cells (jY ws) t))(hl:ws.length<=maxLen)(hs:∀s∈ws,s.size<=maxLen):zD w (some ⟨bk,0,none⟩) ws:=
 ⟨hl,hs,fun _=>⟨bk,0,rfl,(gES h).1,fun i hi=>by
  simp[World.cell?,h,jY,hi]⟩⟩
theorem za {wk wl:World}{b:Nat}{X:Array Value}(h:∀o,wk.cell? ⟨b,o,none⟩=X[o]?)(hb:b<wk.heap.size)(hl:Below wk.heap.size wk wl):∀o,wl.cell? ⟨b,o,none⟩=X[o]?:=
 fun o=>(hl.cell (p:=⟨b,o,none⟩) hb).trans (h o)
theorem zl (w:World)(X:Array Value)(t:TypeId):∀o,(w.alloc (.cells X t)).cell? ⟨w.heap.size,o,none⟩=X[o]?:=fun _=>World.cell?_alloc_at _ _ _ _ rfl
theorem below_drewN {B:Nat}{a w:World}(h:Below B a w)(n:Nat):Below B a (w.drewN n):=h.trans ⟨rfl,rfl,rfl,Nat.le_refl _,fun _ _=>rfl⟩
theorem zw (w:World)(o o':Obj):Below w.heap.size w ((w.alloc o).alloc o'):=(bAl _ _).alloc (by simp) _
theorem zf {P:Program}{f:FuncId}{args:Array Value}{w:World}{b c:Bool}{R:World->Prop}(hb:b=c)(h:Calls P f args w fun e w'=>e=.returned (.bool b)/\R w'):Calls P f args w fun e w'=>e=.returned (.bool c)/\R w':=by
 subst hb;exact h
end Go.Proofs.YtnapmdofidgliaaGreat
namespace Go.Proofs.YtnapmdofidgliaaGreat
def zJ (c:UInt8):Bool:=decide (97<=c.toNat/\c.toNat<=122)||decide (48<=c.toNat/\c.toNat<=57)||decide (c.toNat=45)
def digit (c:UInt8):Bool:=decide (48<=c.toNat/\c.toNat<=57)
def y8 (c:UInt8):Bool:=decide (33<=c.toNat/\c.toNat<=126)
def y5 (s:ByteArray):Bool:=s.data.toList.all zJ
def zbQ (s:ByteArray):Bool:=s.data.toList.all y8
def zbb (s:ByteArray):Bool:=s.data.toList.all digit
def zB (s:ByteArray):Bool:=decide (1<=s.size)&&decide (s.size<=16)&&y5 s
def dec (l:List UInt8):Int:=l.foldl (fun n c=>n*10+((c.toNat:Int)-48)) 0
def zao (s:ByteArray):Bool:=decide (1<=s.size)&&decide (s.size<=7)&&(decide (s.size<=1)||decide ((s.data.toList.headD 0).toNat≠48))&&zbb s
def zbL (ls ms:Int)(s:ByteArray):Bool:=decide (ls<=s.size)&&decide ((s.size:Int)<=ms)&&zbQ s
def zgM (s:ByteArray):Int:=dec s.data.toList
def zaI (ls ms:Int)(s:ByteArray):Bool:=zao s&&decide (ls<=zgM s)&&decide (zgM s<=ms)
theorem znB (l:List UInt8)(c:UInt8):dec (l++[c])=dec l*10+((c.toNat:Int)-48):=by simp[dec]
theorem zkb (l:List UInt8)(h:l.all digit=true):∀a:Int,0<=a->0<=l.foldl (fun n c=>n*10+((c.toNat:Int)-48)) a/\l.foldl (fun n c=>n*10+((c.toNat:Int)-48)) a<(a+1)*10 ^ l.length:=by
 induction l with
 | nil=>intro a ha;simp;omega
 | cons c l ih=>
  intro a ha;rw[List.all_cons,Bool.and_eq_true]at h;have hc:48<=c.toNat/\c.toNat<=57:=by simpa[digit] using h.1
  obtain⟨h1,h2⟩:=ih h.2 (a*10+((c.toNat:Int)-48)) (by omega);simp only[List.foldl_cons,List.length_cons,Int.pow_succ];refine⟨h1,Int.lt_of_lt_of_le h2 ?_⟩;have hp:(0:Int)<=10 ^ l.length:=Int.pow_nonneg (by decide)
  have:=Int.mul_le_mul_of_nonneg_right (show a*10+((c.toNat:Int)-48)+1<=(a+1)*10 by omega) hp
  rw[Int.mul_comm (10 ^ l.length) 10,<- Int.mul_assoc];exact this
theorem zfs (l:List UInt8)(h:l.all digit=true)(n:Nat)(hn:l.length<=n):0<=dec l/\dec l<10 ^ n:=by
 have:=zkb l h 0 (by decide)
 refine⟨this.1,Int.lt_of_lt_of_le this.2 ?_⟩;simp only[Int.zero_add,Int.one_mul]
 exact_mod_cast Nat.pow_le_pow_right (by decide) hn
theorem zhU (s:ByteArray)(k:Nat)(h:k<s.size):s.data.toList.take (k+1)=s.data.toList.take k++[s[k]]:=by
 rw[tSe (by simpa using h)];rfl
theorem zaA (s:ByteArray)(k:Nat)(h:s.size<=k):s.data.toList.take k=s.data.toList:=tOl (by simpa using h)
theorem zaR (p:UInt8->Bool)(s:ByteArray)(k:Nat)(h:k<s.size):(s.data.toList.take (k+1)).all p=((s.data.toList.take k).all p&&p s[k]):=by
 rw[zhU s k h,List.all_append];simp
theorem zce (p:UInt8->Bool)(s:ByteArray)(k:Nat)(h:k<s.size)(hp:p s[k]=false):s.data.toList.all p=false:=by
 rw[<- List.take_append_drop (k+1) s.data.toList,List.all_append,zaR p s k h,hp];simp
theorem zq (s:ByteArray):s.toList.isEmpty=decide (s.size=0):=by
 rw[ByteArray.toList_eq,Bool.eq_iff_iff,List.isEmpty_iff,decide_eq_true_eq,<- List.length_eq_zero_iff,Array.length_toList];exact Iff.rfl
theorem zdn (s:ByteArray)(h:s.size=0):s=ByteArray.empty:=by
 apply ByteArray.ext;apply Array.eq_empty_of_size_eq_zero;exact h
theorem beq_toList (a b:ByteArray):(a.toList == b.toList)=decide (a=b):=by
 rw[ByteArray.toList_eq,ByteArray.toList_eq,Bool.eq_iff_iff];simp only[beq_iff_eq,decide_eq_true_eq,Array.toList_inj]
 constructor
 ·intro h;exact ByteArray.ext h
 ·rintro rfl;rfl
def has (ws:List ByteArray)(v:ByteArray):Bool:=ws.any fun x=>decide (x=v)
theorem zni (ws:List ByteArray)(v:ByteArray)(k:Nat)(h:k<ws.length):has (ws.take (k+1)) v=(has (ws.take k) v||decide (ws[k]=v)):=by
 unfold has;rw[tSe h,List.any_append];simp
theorem zqq (ws:List ByteArray)(v:ByteArray)(k:Nat)(h:k<ws.length)(e:ws[k]=v):has ws v=true:=by
 unfold has;rw[List.any_eq_true];exact⟨ws[k],List.getElem_mem h,by simpa using e⟩
theorem zpc (ws:List ByteArray)(v:ByteArray)(k:Nat)(h:ws.length<=k):has (ws.take k) v=has ws v:=by rw[tOl h]
theorem zns (s:ByteArray)(h:0<s.size):s.data.toList.headD 0=s[0]:=by
 obtain⟨⟨l⟩⟩:=s
 cases l with
 | nil=>simp[ByteArray.size]at h
 | cons a l=>rfl
theorem zd9 (s:ByteArray)(h:¬(1<=s.size/\s.size<=7)):zao s=false:=by
 unfold zao
 by_cases h1:1<=s.size
 ·rw[decide_eq_false (show ¬s.size<=7 by omega)];simp
 ·rw[decide_eq_false h1];simp
theorem zfM (s:ByteArray)(h:1<s.size)(hz:(s[0].toNat:Int)=48):zao s=false:=by
 unfold zao;rw[zns s (by omega),decide_eq_false (show ¬s.size<=1 by omega),decide_eq_false (show ¬s[0].toNat≠48 by omega)];simp
theorem zk8 (s:ByteArray)(h1:1<=s.size)(h7:s.size<=7)(hz:s.size<=1 \/ ¬(s[0].toNat:Int)=48):zao s=zbb s:=by
 unfold zao;rw[zns s (by omega),decide_eq_true h1,decide_eq_true h7]
 rcases hz with h|h
 ·rw[decide_eq_true h];simp
 ·rw[decide_eq_true (show s[0].toNat≠48 by omega)];simp
def fits (kd ls ms:Int)(ws:List ByteArray)(v:ByteArray):Bool:=
 if v.size=0 then false else if kd=1 then zaI ls ms v else if kd=2 then has ws v else if kd=3 then zbL ls ms v else if kd=4 then zB v else false
theorem zaw (kd ls ms:Int)(ws:List ByteArray)(v:ByteArray)(h:v.size=0):fits kd ls ms ws v=false:=by simp[fits,h]
theorem zon (ls ms:Int)(ws:List ByteArray)(v:ByteArray)(h:¬v.size=0):fits 1 ls ms ws v=zaI ls ms v:=by simp[fits,h]
theorem zoZ (ls ms:Int)(ws:List ByteArray)(v:ByteArray)(h:¬v.size=0):fits 2 ls ms ws v=has ws v:=by simp[fits,h]
theorem zlF (ls ms:Int)(ws:List ByteArray)(v:ByteArray)(h:¬v.size=0):fits 3 ls ms ws v=zbL ls ms v:=by simp[fits,h]
theorem zof (ls ms:Int)(ws:List ByteArray)(v:ByteArray)(h:¬v.size=0):fits 4 ls ms ws v=zB v:=by simp[fits,h]
theorem zf2 (kd ls ms:Int)(ws:List ByteArray)(v:ByteArray)(h1:kd≠1)(h2:kd≠2)(h3:kd≠3)(h4:kd≠4):fits kd ls ms ws v=false:=by simp[fits,h1,h2,h3,h4]
theorem zdb (s:ByteArray)(h:zao s=true):0<=zgM s:=by
 unfold zao at h;rw[Bool.and_eq_true]at h;exact(zfs _ h.2 _ (Nat.le_refl _)).1
theorem zjX (ls ms:Int)(s:ByteArray)(h:zao s=false):zaI ls ms s=false:=by simp[zaI,h]
theorem zmB (ls ms:Int)(s:ByteArray)(h:zao s=true):zaI ls ms s=(decide (ls<=zgM s)&&decide (zgM s<=ms)):=by simp[zaI,h]
theorem zmD (s:ByteArray)(h:s.size=0):zao s=false:=zd9 s (by omega)
theorem zg3 (s:ByteArray)(h:s.size=0):zB s=false:=by simp[zB,h]
theorem zqB (ls ms:Int)(ws:List ByteArray)(v:ByteArray):fits 1 ls ms ws v=zaI ls ms v:=by
 by_cases h:v.size=0
 ·rw[zaw _ _ _ _ _ h,zjX _ _ _ (zmD v h)]
 ·exact zon ls ms ws v h
theorem zpt (ls ms:Int)(ws:List ByteArray)(v:ByteArray):fits 4 ls ms ws v=zB v:=by
 by_cases h:v.size=0
 ·rw[zaw _ _ _ _ _ h,zg3 v h]
 ·exact zof ls ms ws v h
theorem zkQ (ls ms:Int)(ws:List ByteArray)(v:ByteArray)(h:zbQ v=false):fits 3 ls ms ws v=false:=by
 by_cases hz:v.size=0
 ·exact zaw _ _ _ _ _ hz
 ·rw[zlF ls ms ws v hz,zbL,h];simp
theorem zkr (ls ms:Int)(ws:List ByteArray)(v:ByteArray)(h:zbQ v=true)(hz:¬v.size=0):fits 3 ls ms ws v=(decide (ls<=v.size)&&decide ((v.size:Int)<=ms)):=by
 rw[zlF ls ms ws v hz,zbL,h];simp
end Go.Proofs.YtnapmdofidgliaaGreat
namespace Go.Proofs.YtnapmdofidgliaaGreat
open Go.RowKit
theorem ze {a b:Bool}(h:a=b):Ending.returned (.bool a)=.returned (.bool b):=by rw[h]
theorem zo {k:IntKind}{a b:Int}(h:a=b):Ending.returned (.int k a)=.returned (.int k b):=by rw[h]
def zK (t:Nat)(left:Int):Int:=if (t:Int)<=left then left-t else -1
theorem zL {t:Nat}{left:Int}(h:(t:Int)<=left):zK t left=left-t:=by simp[zK,h]
theorem zC {t:Nat}{left:Int}(h:¬(t:Int)<=left):zK t left=-1:=by simp[zK,h]
theorem zbd {α:Type}(g:α->Nat)(l:List α)(k:Nat)(h:k<l.length):((l.take (k+1)).map g).sum=((l.take k).map g).sum+g l[k]:=by
 rw[tSe h,List.map_append,List.sum_append];simp
theorem zcY {α:Type}(g:α->Nat)(l:List α)(k:Nat):((l.take k).map g).sum<=(l.map g).sum:=by
 conv=>rhs;rw[<- List.take_append_drop k l]
 rw[List.map_append,List.sum_append];omega
theorem zi5 {α:Type}(g:α->Nat)(l:List α)(k:Nat)(h:k<l.length):g l[k]<=(l.map g).sum:=by
 have h1:=zbd g l k h;have h2:=zcY g l (k+1);omega
theorem jI {P:Program}(t e:TypeId)(z:Value)(size bytes:Nat)(ht:P.underlying t=some (.slice e))(hinfo:(P.info? e).map (fun i=>(i.zero,i.size,i.bytes))=some (some z,size,bytes))
 (n:Nat) (hbytes:bytes*n<=281474976710656) (h63:n<=9223372036854775807) (w:World) :
 (Instr.makeSlice t (.int .i64 (n:Int)) (.int .i64 (n:Int))).run P w=.ok (.slice (some ⟨w.heap.size,0,none⟩) n n) (w.alloc (.cells (madeCells z.cells (n*size)) e)):=by
 obtain⟨i,hi,hzz⟩:=Option.map_eq_some_iff.1 hinfo;simp only[Prod.mk.injEq]at hzz;obtain⟨hz,hs,hb⟩:=hzz
 have hb':(i.bytes:Int)*(n:Int)<=281474976710656:=by
  have h:((i.bytes*n:Nat):Int)<=281474976710656:=by rw[hb];omega
  rwa [Int.natCast_mul]at h
 have hr:=run_make (P:=P) w t e i z ht hi hz .i64 .i64 n n (by omega) (Int.le_refl _) hb' (by omega);simp only[Int.toNat_natCast,hs]at hr;exact hr
theorem zp0 (w:World)(o o':Obj):{ (w.alloc o) with heap:=(w.alloc o).heap.setIfInBounds w.heap.size o' }=w.alloc o':=by
 show({ w with heap:=(w.heap.push o).setIfInBounds w.heap.size o' }:World)={ w with heap:=w.heap.push o' }
 congr 1
 apply Array.ext_getElem?
 intro i;simp only[Array.getElem?_setIfInBounds,Array.getElem?_push,Array.size_push]
 by_cases h:w.heap.size=i
 ·subst h;simp
 ·rw[if_neg h,if_neg (fun e=>h e.symm),if_neg (fun e=>h e.symm)]
theorem alloc_at (w:World)(o:Obj):(w.alloc o).heap[w.heap.size]?=some o:=by
 show(w.heap.push o)[w.heap.size]?=some o
 simp
theorem zbm {P:Program}{mty kt et:TypeId}{d:TypeDesc}(hm:P.underlying mty=some (.map kt et))(hd:P.underlying kt=some d)(key val:Value)(hk:MapKept.IsKey d key)
 (es:Array MapEntry) (clock:Nat) (hf:Instr.findNow d key es.toList 0=some none) (w:World) :
 (Instr.mapUpdate mty (.map (some w.heap.size)) key val).run P (w.alloc (.map es clock))=.ok () (w.alloc (.map (es.push ⟨key,val,clock⟩) (clock+1))):=by
 have hb:=alloc_at w (.map es clock);have hc:=MapKept.run_checkKey (P:=P) (w:=w.alloc (.map es clock)) hd hk false 9999
 simp[Instr.mapUpdate,run_underlying hm,MapKept.run_getObj_map hb,hc,MapKept.run_findKey hd hf,MapKept.run_setObj_map _ hb,Result.andThen,<- zp0 w (.map es clock) (.map (es.push ⟨key,val,clock⟩) (clock+1))]
theorem yT {P:Program}{mty kt et:TypeId}{d:TypeDesc}(hm:P.underlying mty=some (.map kt et))(hd:P.underlying kt=some d)(key val:Value)(hk:MapKept.IsKey d key)
 (es:Array MapEntry) (clock i:Nat) (hf:Instr.findNow d key es.toList 0=some (some (i,val))) (w:World) (r:Nat) (hb:w.heap[r]?=some (.map es clock)) :
 (Instr.lookup mty (.map (some r)) key true).run P w=.ok (.tuple #[val,.bool true]) w:=by
 have hc:=MapKept.run_checkKey (P:=P) (w:=w) hd hk es.isEmpty 9999
 simp[Instr.lookup,run_underlying hm,MapKept.run_getObj_map hb,hc,MapKept.run_findKey hd hf,Result.andThen]
theorem zcu {P:Program}{mty kt et:TypeId}{d:TypeDesc}(hm:P.underlying mty=some (.map kt et))(hd:P.underlying kt=some d)(key z:Value)(hk:MapKept.IsKey d key)
 (es:Array MapEntry) (clock:Nat) (hf:Instr.findNow d key es.toList 0=some none) (w:World) (hz:(zeroValue et).run P w=.ok z w) (r:Nat) (hb:w.heap[r]?=some (.map es clock)) :
 (Instr.lookup mty (.map (some r)) key true).run P w=.ok (.tuple #[z,.bool false]) w:=by
 have hc:=MapKept.run_checkKey (P:=P) (w:=w) hd hk es.isEmpty 9999
 simp[Instr.lookup,run_underlying hm,MapKept.run_getObj_map hb,hc,MapKept.run_findKey hd hf,hz,Result.andThen]
theorem zm {n i:Nat}(h:i<n):n-(intOf (Value.int IntKind.i64 ((i:Int)+1))).toNat<n-(intOf (Value.int IntKind.i64 (i:Int))).toNat:=by
 show n-((i+1:Nat):Int).toNat<n-((i:Nat):Int).toNat
 rw[Int.toNat_natCast,Int.toNat_natCast];omega
theorem yt (n:Int)(h:-9223372036854775808<=n/\n<=9223372036854775807):wrap64 n=n:=by unfold wrap64;omega
theorem wrap_one {i:Nat}(h:i<9000000000000000000):wrap64 ((i:Int)+1)=((i+1:Nat):Int):=by
 rw[yt _ ⟨by omega,by omega⟩];omega
theorem jq {n i:Nat}(h:i<n)(hi:i<9000000000000000000):n-(intOf (Value.int IntKind.i64 (wrap64 ((i:Int)+1)))).toNat<n-(intOf (Value.int IntKind.i64 (i:Int))).toNat:=by
 rw[wrap_one hi]
 show n-((i+1:Nat):Int).toNat<n-((i:Nat):Int).toNat
 rw[Int.toNat_natCast,Int.toNat_natCast];omega
end Go.Proofs.YtnapmdofidgliaaGreat
