import Derived.WalkKit
import Derived.Laws.NewBlocks
import Derived.Laws.MakeOwn
import Derived.Laws.OwnMore
import Derived.Deep.Draws
import Derived.Deep.OwnRows
import Derived.MapKept
import Derived.Test.YtjnpjkigofldlaaGreatRows
import Derived.WalkSpells
import Derived.WalkLawsBesides
import Derived.Test.YtjnpjkigofldlaaGreatM01
set_option maxHeartbeats 400000
namespace Go.Proofs.YtjnpjkigofldlaaGreat
open Go.RowKit
variable {a:OA}{w w':World}{ws:List BA}{t:TypeId}{b k n o:Nat}{C:AV}
theorem hid {p:Prop}(h:p):Hid p:=h
theorem yB {a b:Prop}(x:a)(y:b):Hid (a/\b):=⟨x,y⟩
theorem zao {a b c:Prop}(x:a)(y:b)(z:c):Hid (a/\b/\c):=⟨x,y,z⟩
theorem j3 {a b c d:Prop}(x:a)(y:b)(z:c)(u:d):Hid (a/\b/\c/\d):=⟨x,y,z,u⟩
theorem zkq {a b c d e:Prop}(x:a)(y:b)(z:c)(u:d)(v:e):Hid (a/\b/\c/\d/\e):=⟨x,y,z,u,v⟩
theorem zty {a b c d e f:Prop}(x:a)(y:b)(z:c)(u:d)(v:e)(t:f):Hid (a/\b/\c/\d/\e/\f):=⟨x,y,z,u,v,t⟩
theorem jG {P:Program}{c:Code}{Q:Exit->Act->World->Prop}{a:Act}(R:World->Prop)(hR:R w)(h:∀w',R w'->Code.wp P c Q a w'):Code.wp P c Q a w:=h w hR
structure zD (w:World)(a:OA)(ws:List BA):Prop where
 len:ws.length<=maxLen
 small:∀s∈ws,s.size<=maxLen
 cells:ws≠[]->∃b off,a=some (aD b off)/\b<w.heap.size/\∀i (h:i<ws.length),w.cell? (aD b (off+i))=some (.s ws[i])
theorem zD.mono (h:zD w a ws)(hb:Bw w w'):zD w' a ws:=
 ⟨h.len,h.small,fun hne=>by
  obtain⟨b,off,ha,hbs,hc⟩:=h.cells hne;exact⟨b,off,ha,nLt hbs hb.size,fun i hi=>(hb.cell (p:=(aD b (off+i))) hbs).trans (hc i hi)⟩⟩
theorem zui {W w1:World}(hb:Bw W w1):(∀b o,b<W.heap.size->w1.cell? (aD b o)=W.cell? (aD b o))/\(∀b o,b<W.heap.size->w1.frozen? (aD b o)=W.frozen? (aD b o)):=
 ⟨fun b o h=>hb.cell (p:=(aD b o)) h,fun b o h=>hb.frozen (p:=(aD b o)) h⟩
def jS (ws:List BA):AV:=(ws.map Value.string).toArray
def strCells (ws:List BA)(k:Nat):AV:=((ws.take k).map Value.string++List.replicate (ws.length-k) (Value.s ByteArray.empty)).toArray
theorem zpr (ws:List BA)(k:Nat)(h:k<ws.length):(strCells ws k)[k]?=some (.s ByteArray.empty):=by
 unfold strCells;have hl:((ws.take k).map Value.string).length=k:=by simp;omega
 rw[List.getElem?_toArray,List.getElem?_append_right (by omega),hl,Nat.sub_self];obtain⟨m,hm⟩:∃m,ws.length-k=m+1:=⟨ws.length-k-1,by omega⟩
 rw[hm,List.replicate_succ];rfl
theorem zn2 (ws:List BA)(k:Nat)(h:k<ws.length):(strCells ws k).setIfInBounds k (.s ws[k])=strCells ws (k+1):=by
 unfold strCells;rw[List.setIfInBounds_toArray,List.set_append_right _ _ (by simp;omega)]
 congr 1
 rw[tSe h,List.map_append,List.append_assoc]
 congr 1
 obtain⟨m,hm⟩:∃m,ws.length-k=m+1:=⟨ws.length-k-1,by omega⟩
 rw[hm,show ws.length-(k+1)=m by omega]
 have:k-((ws.take k).map Value.string).length=0:=by simp;omega
 rw[this,List.replicate_succ]
 rfl
theorem znr (ws:List BA)(k:Nat)(h:ws.length<=k):strCells ws k=jS ws:=by
 unfold strCells jS;rw[tOl h,show ws.length-k=0 by omega];simp
theorem zmc (ws:List BA):madeCells #[Value.string ByteArray.empty] ws.length=strCells ws 0:=by
 apply Array.toList_inj.1
 rw[toList_madeCells_one]
 simp[strCells]
theorem zdX {bk:Nat}(h:w.heap[bk]?=some (.cells (jS ws) t))(hl:ws.length<=maxLen)(hs:∀s∈ws,s.size<=maxLen):zD w (some (aD bk 0)) ws:=
 ⟨hl,hs,fun _=>⟨bk,0,rfl,(gES h).1,fun i hi=>by
  simp[World.cell?,h,jS,hi]⟩⟩
theorem za {wk wl:World}{X:AV}(h:∀o,wk.cell? (aD b o)=X[o]?)(hb:b<wk.heap.size)(hl:Bw wk wl):∀o,wl.cell? (aD b o)=X[o]?:=
 fun o=>(hl.cell (p:=(aD b o)) hb).trans (h o)
theorem zI (w:World)(X:AV)(t:TypeId):∀o,(w.alloc (.cells X t)).cell? (aD w.heap.size o)=X[o]?:=fun _=>World.cell?_alloc_at _ _ _ _ rfl
theorem below_drewN {B:Nat}{a:World}(h:Below B a w)(n:Nat):Below B a (w.drewN n):=h.trans ⟨rfl,rfl,rfl,Nat.le_refl _,fun _ _=>rfl⟩
theorem zo (w:World)(o o':Obj):Bw w ((w.alloc o).alloc o'):=(bAl _ _).alloc (by simp) _
theorem zw {P:Program}{f:FuncId}{args:AV}{b c:Bool}{R:World->Prop}(hb:b=c)(h:Calls P f args w fun e w'=>e=.returned (.bool b)/\R w'):Calls P f args w fun e w'=>e=.returned (.bool c)/\R w':=by
 subst hb;exact h
structure Fld where
 nm:BA
 kd:Int
 ls:Int
 ms:Int
 ws:List BA
 to:BA
 rl:Int
 mu:Bool
 fx:Bool
 df:BA
 wg:BA
structure Shp where
 kd:BA
 fs:List Fld
def Fld.cells (f:Fld)(a:OA)(cap:Nat):AV:=
 #[.s f.nm, .i f.kd, .i f.ls, .i f.ms, .l a f.ws.length cap, .s f.to, .i f.rl, .bool f.mu, .bool f.fx, .s f.df, .s f.wg]
structure Fld.Small (f:Fld):Prop where
 nm:f.nm.size<=maxLen
 to:f.to.size<=maxLen
 df:f.df.size<=maxLen
 wg:f.wg.size<=maxLen
structure zf7 (w:World)(b off:Nat)(f:Fld)(a:OA)(cap:Nat):Prop where
 small:f.Small
 strs:zD w a f.ws
 cell:∀j,j<11->w.cell? (aD b (off+j))=(f.cells a cap)[j]?
structure yw (w:World)(a:OA)(fs:List Fld):Prop where
 len:fs.length<=maxLen
 rows:fs≠[]->∃b off,a=some (aD b off)/\b<w.heap.size/\∀i (h:i<fs.length),∃wa wcap,zf7 w b (off+i*11) fs[i] wa wcap
structure zmU (w:World)(b off:Nat)(s:Shp)(a:OA)(cap:Nat):Prop where
 small:s.kd.size<=maxLen
 zdE:yw w a s.fs
 kind:w.cell? (aD b off)=some (.s s.kd)
 list:w.cell? (aD b (off+1))=some (.l a s.fs.length cap)
structure yU (w:World)(a:OA)(ss:List Shp):Prop where
 len:ss.length<=maxLen
 rows:ss≠[]->∃b off,a=some (aD b off)/\b<w.heap.size/\∀i (h:i<ss.length),∃fa fcap,zmU w b (off+i*2) ss[i] fa fcap
theorem zf7.mono {off:Nat}{f:Fld}{cap:Nat}(h:zf7 w b off f a cap)(hb:b<w.heap.size)(hl:Bw w w'):zf7 w' b off f a cap:=
 ⟨h.small,h.strs.mono hl,fun j hj=>(hl.cell (p:=(aD b (off+j))) hb).trans (h.cell j hj)⟩
theorem yw.mono {fs:List Fld}(h:yw w a fs)(hl:Bw w w'):yw w' a fs:=
 ⟨h.len,fun hne=>by
  obtain⟨b,off,ha,hb,hr⟩:=h.rows hne;refine⟨b,off,ha,nLt hb hl.size,fun i hi=>?_⟩;obtain⟨wa,wcap,hf⟩:=hr i hi;exact⟨wa,wcap,hf.mono hb hl⟩⟩
theorem zmU.mono {off:Nat}{s:Shp}{cap:Nat}(h:zmU w b off s a cap)(hb:b<w.heap.size)(hl:Bw w w'):zmU w' b off s a cap:=
 ⟨h.small,h.zdE.mono hl,(hl.cell (p:=(aD b off)) hb).trans h.kind,(hl.cell (p:=(aD b (off+1))) hb).trans h.list⟩
theorem yU.mono {ss:List Shp}(h:yU w a ss)(hl:Bw w w'):yU w' a ss:=
 ⟨h.len,fun hne=>by
  obtain⟨b,off,ha,hb,hr⟩:=h.rows hne;refine⟨b,off,ha,nLt hb hl.size,fun i hi=>?_⟩;obtain⟨fa,fcap,hs⟩:=hr i hi;exact⟨fa,fcap,hs.mono hb hl⟩⟩
structure Mnd where
 kd:BA
 fd:BA
 wh:BA
 wi:BA
 pt:BA
 fr:BA
def Mnd.cells (m:Mnd):AV:=#[.s m.kd,.s m.fd,.s m.wh,.s m.wi,.s m.pt,.s m.fr]
structure Mnd.Small (m:Mnd):Prop where
 kd:m.kd.size<=maxLen
 fd:m.fd.size<=maxLen
 wh:m.wh.size<=maxLen
 wi:m.wi.size<=maxLen
 pt:m.pt.size<=maxLen
 fr:m.fr.size<=maxLen
structure qQ (w:World)(a:OA)(ms:List Mnd):Prop where
 len:ms.length<=maxLen
 small:∀i (h:i<ms.length),ms[i].Small
 rows:ms≠[]->∃b off,a=some (aD b off)/\b<w.heap.size/\∀i (h:i<ms.length),∀j,j<6->w.cell? (aD b (off+i*6+j))=ms[i].cells[j]?
theorem qQ.mono {ms:List Mnd}(h:qQ w a ms)(hl:Bw w w'):qQ w' a ms:=
 ⟨h.len,h.small,fun hne=>by
  obtain⟨b,off,ha,hb,hr⟩:=h.rows hne;exact⟨b,off,ha,nLt hb hl.size,fun i hi j hj=>(hl.cell (p:=(aD b (off+i*6+j))) hb).trans (hr i hi j hj)⟩⟩
theorem qQ.load {ms:List Mnd}(h:qQ w a ms)(hl:Bw w w')(i:Nat)(hi:i<ms.length):∃b off,a=some (aD b off)/\b<w.heap.size /\
 w'.cell? (aD b (off+i*6))=some (.s ms[i].kd)/\w'.cell? (aD b (off+i*6+1))=some (.s ms[i].fd)/\w'.cell? (aD b (off+i*6+2))=some (.s ms[i].wh)/\w'.cell? (aD b (off+i*6+3))=some (.s ms[i].wi)/\w'.cell? (aD b (off+i*6+4))=some (.s ms[i].pt)/\w'.cell? (aD b (off+i*6+5))=some (.s ms[i].fr):=by
 obtain⟨b,off,ha,hb,hr⟩:=h.rows (by rintro rfl;simp at hi);have hc:∀j,j<6->w'.cell? (aD b (off+i*6+j))=ms[i].cells[j]?:=fun j hj=>(hl.cell (p:=(aD b (off+i*6+j))) hb).trans (hr i hi j hj)
 exact⟨b,off,ha,hb,hc 0 (by omega),hc 1 (by omega),hc 2 (by omega),hc 3 (by omega),hc 4 (by omega),hc 5 (by omega)⟩
def yF (c:UInt8):Bool:=decide (97<=c.toNat/\c.toNat<=122)||decide (48<=c.toNat/\c.toNat<=57)||decide (c.toNat=45)
def digit (c:UInt8):Bool:=decide (48<=c.toNat/\c.toNat<=57)
def yX (c:UInt8):Bool:=decide (33<=c.toNat/\c.toNat<=126)
def zav (s:BA):Bool:=s.data.toList.all yF
def zbK (s:BA):Bool:=s.data.toList.all yX
def za3 (s:BA):Bool:=s.data.toList.all digit
def zC (s:BA):Bool:=decide (1<=s.size)&&decide (s.size<=16)&&zav s
def dec (l:List UInt8):Int:=l.foldl (fun n c=>n*10+((c.toNat:Int)-48)) 0
def zaC (s:BA):Bool:=decide (1<=s.size)&&decide (s.size<=7)&&(decide (s.size<=1)||decide ((s.data.toList.headD 0).toNat≠48))&&za3 s
def zbE (ls ms:Int)(s:BA):Bool:=decide (ls<=s.size)&&decide ((s.size:Int)<=ms)&&zbK s
def zg5 (s:BA):Int:=dec s.data.toList
def zaK (ls ms:Int)(s:BA):Bool:=zaC s&&decide (ls<=zg5 s)&&decide (zg5 s<=ms)
theorem zpw (l:List UInt8)(c:UInt8):dec (l++[c])=dec l*10+((c.toNat:Int)-48):=by simp[dec]
theorem zlE (l:List UInt8)(h:l.all digit=true):∀a:Int,0<=a->0<=l.foldl (fun n c=>n*10+((c.toNat:Int)-48)) a/\l.foldl (fun n c=>n*10+((c.toNat:Int)-48)) a<(a+1)*10 ^ l.length:=by
 induction l with
 | nil=>intro a ha;simp;omega
 | cons c l ih=>
  intro a ha;rw[List.all_cons,Bool.and_eq_true]at h;have hc:48<=c.toNat/\c.toNat<=57:=by simpa[digit] using h.1
  obtain⟨h1,h2⟩:=ih h.2 (a*10+((c.toNat:Int)-48)) (by omega);simp only[List.foldl_cons,List.length_cons,Int.pow_succ];refine⟨h1,Int.lt_of_lt_of_le h2 ?_⟩;have hp:(0:Int)<=10 ^ l.length:=Int.pow_nonneg (by decide)
  have:=Int.mul_le_mul_of_nonneg_right (show a*10+((c.toNat:Int)-48)+1<=(a+1)*10 by omega) hp
  rw[Int.mul_comm (10 ^ l.length) 10,<- Int.mul_assoc];exact this
theorem zfV (l:List UInt8)(h:l.all digit=true)(n:Nat)(hn:l.length<=n):0<=dec l/\dec l<10 ^ n:=by
 have:=zlE l h 0 (by decide)
 refine⟨this.1,Int.lt_of_lt_of_le this.2 ?_⟩;simp only[Int.zero_add,Int.one_mul]
 exact_mod_cast Nat.pow_le_pow_right (by decide) hn
theorem zh8 (s:BA)(k:Nat)(h:k<s.size):s.data.toList.take (k+1)=s.data.toList.take k++[s[k]]:=by
 rw[tSe (by simpa using h)];rfl
theorem zbD (s:BA)(k:Nat)(h:s.size<=k):s.data.toList.take k=s.data.toList:=tOl (by simpa using h)
theorem zcy (p:UInt8->Bool)(s:BA)(k:Nat)(h:k<s.size):(s.data.toList.take (k+1)).all p=((s.data.toList.take k).all p&&p s[k]):=by
 rw[zh8 s k h,List.all_append];simp
theorem zeJ (p:UInt8->Bool)(s:BA)(k:Nat)(h:k<s.size)(hp:p s[k]=false):s.data.toList.all p=false:=by
 rw[<- List.take_append_drop (k+1) s.data.toList,List.all_append,zcy p s k h,hp];simp
theorem zu (s:BA):s.toList.isEmpty=decide (s.size=0):=by
 rw[ByteArray.toList_eq,Bool.eq_iff_iff,List.isEmpty_iff,decide_eq_true_eq,<- List.length_eq_zero_iff,Array.length_toList];exact Iff.rfl
theorem zdG (s:BA)(h:s.size=0):s=ByteArray.empty:=by
 apply ByteArray.ext;apply Array.eq_empty_of_size_eq_zero;exact h
theorem beq_toList (a b:BA):(a.toList == b.toList)=decide (a=b):=by
 rw[ByteArray.toList_eq,ByteArray.toList_eq,Bool.eq_iff_iff];simp only[beq_iff_eq,decide_eq_true_eq,Array.toList_inj]
 constructor
 ·intro h;exact ByteArray.ext h
 ·rintro rfl;rfl
def has (ws:List BA)(v:BA):Bool:=ws.any fun x=>decide (x=v)
theorem zoD (ws:List BA)(v:BA)(k:Nat)(h:k<ws.length):has (ws.take (k+1)) v=(has (ws.take k) v||decide (ws[k]=v)):=by
 unfold has;rw[tSe h,List.any_append];simp
theorem ztb (ws:List BA)(v:BA)(k:Nat)(h:k<ws.length)(e:ws[k]=v):has ws v=true:=by
 unfold has;rw[List.any_eq_true];exact⟨ws[k],List.getElem_mem h,by simpa using e⟩
theorem zrC (ws:List BA)(v:BA)(k:Nat)(h:ws.length<=k):has (ws.take k) v=has ws v:=by rw[tOl h]
theorem zqc (s:BA)(h:0<s.size):s.data.toList.headD 0=s[0]:=by
 obtain⟨⟨l⟩⟩:=s
 cases l with
 | nil=>simp[ByteArray.size]at h
 | cons a l=>rfl
theorem zez (s:BA)(h:¬(1<=s.size/\s.size<=7)):zaC s=false:=by
 unfold zaC
 by_cases h1:1<=s.size
 ·rw[decide_eq_false (show ¬s.size<=7 by omega)];simp
 ·rw[decide_eq_false h1];simp
theorem zgc (s:BA)(h:1<s.size)(hz:(s[0].toNat:Int)=48):zaC s=false:=by
 unfold zaC;rw[zqc s (by omega),decide_eq_false (show ¬s.size<=1 by omega),decide_eq_false (show ¬s[0].toNat≠48 by omega)];simp
theorem znl (s:BA)(h1:1<=s.size)(h7:s.size<=7)(hz:s.size<=1 \/ ¬(s[0].toNat:Int)=48):zaC s=za3 s:=by
 unfold zaC;rw[zqc s (by omega),decide_eq_true h1,decide_eq_true h7]
 rcases hz with h|h
 ·rw[decide_eq_true h];simp
 ·rw[decide_eq_true (show s[0].toNat≠48 by omega)];simp
def fits (kd ls ms:Int)(ws:List BA)(v:BA):Bool:=
 if v.size=0 then false else if kd=1 then zaK ls ms v else if kd=2 then has ws v else if kd=3 then zbE ls ms v else if kd=4 then zC v else false
theorem zat (kd ls ms:Int)(ws:List BA)(v:BA)(h:v.size=0):fits kd ls ms ws v=false:=by simp[fits,h]
theorem zqL (ls ms:Int)(ws:List BA)(v:BA)(h:¬v.size=0):fits 1 ls ms ws v=zaK ls ms v:=by simp[fits,h]
theorem zqX (ls ms:Int)(ws:List BA)(v:BA)(h:¬v.size=0):fits 2 ls ms ws v=has ws v:=by simp[fits,h]
theorem zno (ls ms:Int)(ws:List BA)(v:BA)(h:¬v.size=0):fits 3 ls ms ws v=zbE ls ms v:=by simp[fits,h]
theorem zro (ls ms:Int)(ws:List BA)(v:BA)(h:¬v.size=0):fits 4 ls ms ws v=zC v:=by simp[fits,h]
theorem zkB (kd ls ms:Int)(ws:List BA)(v:BA)(h1:kd≠1)(h2:kd≠2)(h3:kd≠3)(h4:kd≠4):fits kd ls ms ws v=false:=by simp[fits,h1,h2,h3,h4]
theorem zdm (s:BA)(h:zaC s=true):0<=zg5 s:=by
 unfold zaC at h;rw[Bool.and_eq_true]at h;exact(zfV _ h.2 _ (Nat.le_refl _)).1
theorem zlr (ls ms:Int)(s:BA)(h:zaC s=false):zaK ls ms s=false:=by simp[zaK,h]
theorem zpu (ls ms:Int)(s:BA)(h:zaC s=true):zaK ls ms s=(decide (ls<=zg5 s)&&decide (zg5 s<=ms)):=by simp[zaK,h]
theorem zoJ (s:BA)(h:s.size=0):zaC s=false:=zez s (by omega)
theorem zhi (s:BA)(h:s.size=0):zC s=false:=by simp[zC,h]
theorem ztG (ls ms:Int)(ws:List BA)(v:BA):fits 1 ls ms ws v=zaK ls ms v:=by
 by_cases h:v.size=0
 ·rw[zat _ _ _ _ _ h,zlr _ _ _ (zoJ v h)]
 ·exact zqL ls ms ws v h
theorem zr4 (ls ms:Int)(ws:List BA)(v:BA):fits 4 ls ms ws v=zC v:=by
 by_cases h:v.size=0
 ·rw[zat _ _ _ _ _ h,zhi v h]
 ·exact zro ls ms ws v h
theorem zlW (ls ms:Int)(ws:List BA)(v:BA)(h:zbK v=false):fits 3 ls ms ws v=false:=by
 by_cases hz:v.size=0
 ·exact zat _ _ _ _ _ hz
 ·rw[zno ls ms ws v hz,zbE,h];simp
theorem zmh (ls ms:Int)(ws:List BA)(v:BA)(h:zbK v=true)(hz:¬v.size=0):fits 3 ls ms ws v=(decide (ls<=v.size)&&decide ((v.size:Int)<=ms)):=by
 rw[zno ls ms ws v hz,zbE,h];simp
theorem ze {a b:Bool}(h:a=b):Ending.returned (.bool a)=.returned (.bool b):=by rw[h]
theorem zm {k:IntKind}{a b:Int}(h:a=b):Ending.returned (.int k a)=.returned (.int k b):=by rw[h]
def zJ (t:Nat)(left:Int):Int:=if (t:Int)<=left then left-t else -1
theorem zN {t:Nat}{left:Int}(h:(t:Int)<=left):zJ t left=left-t:=by simp[zJ,h]
theorem zy {t:Nat}{left:Int}(h:¬(t:Int)<=left):zJ t left=-1:=by simp[zJ,h]
theorem za6 {α:Type}(g:α->Nat)(l:List α)(k:Nat)(h:k<l.length):((l.take (k+1)).map g).sum=((l.take k).map g).sum+g l[k]:=by
 rw[tSe h,List.map_append,List.sum_append];simp
theorem zc5 {α:Type}(g:α->Nat)(l:List α)(k:Nat):((l.take k).map g).sum<=(l.map g).sum:=by
 conv=>rhs;rw[<- List.take_append_drop k l]
 rw[List.map_append,List.sum_append];omega
theorem zj5 {α:Type}(g:α->Nat)(l:List α)(k:Nat)(h:k<l.length):g l[k]<=(l.map g).sum:=by
 have h1:=za6 g l k h;have h2:=zc5 g l (k+1);omega
theorem jy {P:Program}(t e:TypeId)(z:Value)(size bytes:Nat)(ht:P.underlying t=some (.slice e))(hinfo:(P.info? e).map (fun i=>(i.zero,i.size,i.bytes))=some (some z,size,bytes))
 (n:Nat) (hbytes:bytes*n<=281474976710656) (h63:n<=9223372036854775807) (w:World) :
 (Instr.makeSlice t (.i (n:Int)) (.i (n:Int))).run P w=.ok (.l (some (aD w.heap.size 0)) n n) (w.alloc (.cells (madeCells z.cells (n*size)) e)):=by
 obtain⟨i,hi,hzz⟩:=Option.map_eq_some_iff.1 hinfo;simp only[Prod.mk.injEq]at hzz;obtain⟨hz,hs,hb⟩:=hzz
 have hb':(i.bytes:Int)*(n:Int)<=281474976710656:=by
  have h:((i.bytes*n:Nat):Int)<=281474976710656:=by rw[hb];omega
  rwa [Int.natCast_mul]at h
 have hr:=run_make (P:=P) w t e i z ht hi hz .i64 .i64 n n (by omega) (Int.le_refl _) hb' (by omega);simp only[Int.toNat_natCast,hs]at hr;exact hr
theorem zah (n lo hi:Int)(w:World) :
 Calls Tryz.prog 63 #[.i n,.i lo,.i hi] w fun e w'=>e=.returned (.bool (decide (lo<=n)&&decide (n<=hi)))/\w'=w:=by
 go_in
 go_wp2
 all_goals
  go_ret;refine⟨ze ?_,rfl⟩
  simp;try omega
theorem zdb (n lo hi:Int)(w:World)(h1:lo<=n)(h2:n<=hi) :
 Calls Tryz.prog 63 #[.i n,.i lo,.i hi] w fun e w'=>e=.returned (.bool true)/\w'=w:=by
 refine(zah n lo hi w).mono ?_;rintro e w'⟨rfl,rfl⟩;exact⟨ze (by simp;omega),rfl⟩
theorem zfU (n lo hi:Int)(w:World)(h1:¬(lo<=n/\n<=hi)) :
 Calls Tryz.prog 63 #[.i n,.i lo,.i hi] w fun e w'=>e=.returned (.bool false)/\w'=w:=by
 refine(zah n lo hi w).mono ?_;rintro e w'⟨rfl,rfl⟩;exact⟨ze (by simp;omega),rfl⟩
theorem zjg (c:UInt8)(w:World) :
 Calls Tryz.prog 232 #[.int .u8 c.toNat] w fun e w'=>e=.returned (.bool (digit c))/\w'=w:=by
 go_in
 go_wp2
 all_goals
  go_ret;refine⟨ze ?_,rfl⟩;rw[Bool.eq_iff_iff];simp[digit];try omega
theorem ziY (c:UInt8)(w:World)(h:48<=(c.toNat:Int))(h2:(c.toNat:Int)<=57) :
 Calls Tryz.prog 232 #[.int .u8 c.toNat] w fun e w'=>e=.returned (.bool true)/\w'=w:=by
 refine(zjg c w).mono ?_;rintro e w'⟨rfl,rfl⟩;exact⟨ze (by simp[digit];omega),rfl⟩
theorem zdi (c:UInt8)(w:World)(h:¬(48<=(c.toNat:Int)/\(c.toNat:Int)<=57)) :
 Calls Tryz.prog 232 #[.int .u8 c.toNat] w fun e w'=>e=.returned (.bool false)/\w'=w:=by
 refine(zjg c w).mono ?_;rintro e w'⟨rfl,rfl⟩;exact⟨ze (by simp[digit];omega),rfl⟩
def up (P:Nat->Bool)(n:Nat):Bool:=(List.range n).all P
theorem zab (P:Nat->Bool)(n:Nat):up P (n+1)=(up P n&&P n):=by simp[up,List.range_succ,List.all_append]
theorem zbL {P:Nat->Bool}(h:k<n)(hk:P k=false):up P n=false:=by
 unfold up;rw[List.all_eq_false];exact⟨k,List.mem_range.2 h,by simp[hk]⟩
theorem zgn {P:Nat->Bool}(h:k<n)(hu:up P n=true):P k=true:=by
 unfold up at hu;rw[List.all_eq_true]at hu;exact hu k (List.mem_range.2 h)
def less (a b:BA):Bool:=Op.bytesLess a.toList b.toList
def zed (ws:List BA)(i:Nat):Bool:=zC (ws.getD i ByteArray.empty)&&(decide (i=0)||less (ws.getD (i-1) ByteArray.empty) (ws.getD i ByteArray.empty))
def asc (ws:List BA):Bool:=up (zed ws) ws.length
theorem getD_at {α:Type}(l:List α)(i:Nat)(d:α)(h:i<l.length):l.getD i d=l[i]:=by
 rw[List.getD_eq_getElem?_getD,List.getElem?_eq_getElem h];rfl
theorem zk6 (h:k<ws.length)(hn:zC ws[k]=false):zed ws k=false:=by
 unfold zed;rw[getD_at ws k _ h,hn];rfl
theorem zjd (h:0<ws.length)(hn:zC ws[0]=true):zed ws 0=true:=by
 unfold zed;rw[getD_at ws 0 _ h,hn];rfl
theorem zeK (h:k+1<ws.length)(hn:zC ws[k+1]=true):zed ws (k+1)=less ws[k] ws[k+1]:=by
 unfold zed;rw[getD_at ws (k+1) _ h,Nat.add_sub_cancel,getD_at ws k _ (by omega),hn];simp
def jq (kd ls ms:Int)(n:Nat)(to:BA)(rl:Int)(wg:BA):Bool:=
 if kd=1 then decide (n=0)&&to.toList.isEmpty&&decide (rl=0)
 else if kd=2 then decide (ls=0)&&decide (ms=0)&&to.toList.isEmpty&&decide (rl=0)&&wg.toList.isEmpty
 else if kd=3 then decide (n=0)&&to.toList.isEmpty&&decide (rl=0)&&wg.toList.isEmpty
 else if kd=4 then decide (ls=0)&&decide (ms=0)&&decide (n=0)&&wg.toList.isEmpty
 else false
def jO (ls ms lo hi:Int):Bool:=decide (lo<=ls)&&decide (ls<=ms)&&decide (ms<=hi)
def zF (ss:List Shp)(k:BA):Bool:=ss.any fun s=>decide (s.kd=k)
def qE (ss:List Shp)(f:Fld):Bool:=
 if f.kd=1 then jO f.ls f.ms 0 1000000&&(f.wg.toList.isEmpty||zC f.wg)
 else if f.kd=2 then decide (1<=f.ws.length)&&decide (f.ws.length<=6)&&asc f.ws
 else if f.kd=3 then jO f.ls f.ms 1 40
 else if f.kd=4 then zF ss f.to&&(decide (1<=f.rl)&&decide (f.rl<=3))&&f.df.toList.isEmpty&&(decide (f.rl≠2)||!f.mu)
 else false
def bare (f:Fld):Bool:=jq f.kd f.ls f.ms f.ws.length f.to f.rl f.wg
def zgt (f:Fld)(v:BA):Bool:=fits f.kd f.ls f.ms f.ws v
def zul (f:Fld):Bool:=f.df.toList.isEmpty||zgt f f.df
def zau (ss:List Shp)(f:Fld):Bool:=bare f&&qE ss f&&zul f
def zbg:Shp:=⟨ByteArray.empty,[]⟩
def shapeOf (ss:List Shp)(k:BA):Shp:=(ss.find? fun s=>decide (s.kd=k)).getD zbg
theorem zer (ss:List Shp)(v:BA)(k:Nat)(h:k<ss.length):zF (ss.take (k+1)) v=(zF (ss.take k) v||decide (ss[k].kd=v)):=by
 unfold zF;rw[tSe h,List.any_append];simp
theorem zgA (ss:List Shp)(v:BA)(k:Nat)(h:k<ss.length)(e:ss[k].kd=v):zF ss v=true:=by
 unfold zF;rw[List.any_eq_true];exact⟨ss[k],List.getElem_mem h,by simpa using e⟩
theorem zfB (ss:List Shp)(v:BA)(k:Nat)(h:ss.length<=k):zF (ss.take k) v=zF ss v:=by rw[tOl h]
theorem zef (ss:List Shp)(v:BA)(k:Nat)(h:k<ss.length)(hb:zF (ss.take k) v=false)(e:ss[k].kd=v):shapeOf ss v=ss[k]:=by
 unfold shapeOf
 have hn:(ss.take k).find? (fun s=>decide (s.kd=v))=none:=by
  rw[List.find?_eq_none];intro x hx;unfold zF at hb;rw[List.any_eq_false]at hb;exact hb x hx
 conv=>lhs;rw[<- List.take_append_drop k ss]
 rw[List.find?_append,hn,List.drop_eq_getElem_cons h,List.find?_cons_of_pos (by simpa using e)];rfl
theorem zej (ss:List Shp)(v:BA)(hb:zF ss v=false):shapeOf ss v=zbg:=by
 unfold shapeOf
 have hn:ss.find? (fun s=>decide (s.kd=v))=none:=by
  rw[List.find?_eq_none];intro x hx;unfold zF at hb;rw[List.any_eq_false]at hb;exact hb x hx
 rw[hn];rfl
def hasName (fs:List Fld)(v:BA):Bool:=fs.any fun f=>decide (f.nm=v)
def yh (fs:List Fld)(v:BA):Int:=match fs.findIdx? (fun f=>decide (f.nm=v)) with|some i=>i|none=>-1
theorem zeM (fs:List Fld)(v:BA)(k:Nat)(h:k<fs.length):hasName (fs.take (k+1)) v=(hasName (fs.take k) v||decide (fs[k].nm=v)):=by
 unfold hasName;rw[tSe h,List.any_append];simp
theorem zi5 (fs:List Fld)(v:BA)(k:Nat)(h:fs.length<=k):hasName (fs.take k) v=hasName fs v:=by rw[tOl h]
theorem zeO (fs:List Fld)(v:BA)(k:Nat)(h:k<fs.length)(hb:hasName (fs.take k) v=false)(e:fs[k].nm=v):yh fs v=k:=by
 unfold yh
 have hf:fs.findIdx? (fun f=>decide (f.nm=v))=some k:=by
  rw[List.findIdx?_eq_some_iff_getElem];refine⟨h,by simpa using e,fun j hj=>?_⟩;unfold hasName at hb;rw[List.any_eq_false]at hb
  have hm:fs[j]∈fs.take k:=by
   rw[List.mem_iff_getElem];exact⟨j,by simp;omega,by simp⟩
  exact hb _ hm
 rw[hf]
theorem zhr (fs:List Fld)(v:BA)(hb:hasName fs v=false):yh fs v=-1:=by
 unfold yh
 have hf:fs.findIdx? (fun f=>decide (f.nm=v))=none:=by
  rw[List.findIdx?_eq_none_iff];intro x hx;unfold hasName at hb;rw[List.any_eq_false]at hb
  simpa using hb x hx
 rw[hf]
theorem zl1 (fs:List Fld)(v:BA)(k:Nat)(h:k<fs.length)(hh:hasName (fs.take k) v=true):∃j,j<k/\yh fs v=j:=by
 unfold hasName at hh;rw[List.any_eq_true]at hh;obtain⟨x,hx,he⟩:=hh;obtain⟨j,hj,rfl⟩:=List.mem_iff_getElem.1 hx;have hjk:j<k:=by simp at hj;omega
 have hjl:j<fs.length:=by omega
 have hv:fs[j].nm=v:=by simpa using he
 cases hf:fs.findIdx? (fun f=>decide (f.nm=v)) with
 | none=>
  rw[List.findIdx?_eq_none_iff]at hf
  have:=hf fs[j] (List.getElem_mem hjl)
  simp[hv]at this
 | some i=>
  refine⟨i,?_,by unfold yh;rw[hf]⟩;rw[List.findIdx?_eq_some_iff_getElem]at hf;obtain⟨hi,_,hmin⟩:=hf
  rcases Nat.lt_or_ge i k with h1|h1
  ·exact h1
  ·exfalso
   have:=hmin j (by omega)
   simp[hv]at this
def zbz:Fld:=⟨ByteArray.empty,0,0,0,[],ByteArray.empty,0,false,false,ByteArray.empty,ByteArray.empty⟩
def zfw (ss:List Shp)(fs:List Fld)(i:Nat):Bool:=
 zC (fs.getD i zbz).nm&&!hasName (fs.take i) (fs.getD i zbz).nm&&zau ss (fs.getD i zbz)
def yS (ss:List Shp)(fs:List Fld):Bool:=decide (fs.length<=6)&&up (zfw ss fs) fs.length
theorem zhn (ss:List Shp)(fs:List Fld)(i:Nat)(h:i<fs.length):zfw ss fs i=(zC fs[i].nm&&!hasName (fs.take i) fs[i].nm&&zau ss fs[i]):=by
 unfold zfw;rw[getD_at fs i _ h]
def yR (ss:List Shp)(i:Nat):Bool:=
 zC (ss.getD i zbg).kd&&(decide (i=0)||less (ss.getD (i-1) zbg).kd (ss.getD i zbg).kd)&&yS ss (ss.getD i zbg).fs
def zQ (ss:List Shp):Bool:=decide (ss.length<=6)&&up (yR ss) ss.length
theorem zgu (ss:List Shp)(h:0<ss.length):yR ss 0=(zC ss[0].kd&&yS ss ss[0].fs):=by
 unfold yR;rw[getD_at ss 0 _ h];simp
theorem zg8 (ss:List Shp)(k:Nat)(h:k+1<ss.length):yR ss (k+1)=(zC ss[k+1].kd&&less ss[k].kd ss[k+1].kd&&yS ss ss[k+1].fs):=by
 unfold yR;rw[getD_at ss (k+1) _ h,Nat.add_sub_cancel,getD_at ss k _ (by omega)];simp
theorem zcb:∀x:List UInt8,Op.bytesLess x x=false
 | []=>rfl
 | a :: x=>by
  simp only[Op.bytesLess,Bool.or_eq_false_iff,decide_eq_false_iff_not,Bool.and_eq_false_iff];exact⟨fun h=>by simp at h,Or.inr (zcb x)⟩
theorem zbh:∀x y z:List UInt8,Op.bytesLess x y=true->Op.bytesLess y z=true->Op.bytesLess x z=true
 | _,[],_,h,_=>by simp[Op.bytesLess]at h
 | [],_ :: _,[],_,h=>by simp[Op.bytesLess]at h
 | [],_ :: _,_ :: _,_,_=>rfl
 | _ :: _,_ :: _,[],_,h=>by simp[Op.bytesLess]at h
 | a :: x,b :: y,c :: z,h,k=>by
  simp only[Op.bytesLess,Bool.or_eq_true,decide_eq_true_eq,Bool.and_eq_true,beq_iff_eq]at h k ⊢
  rcases h with h|⟨rfl,h⟩
  ·rcases k with k|⟨rfl,k⟩
   ·exact Or.inl (UInt8.lt_trans h k)
   ·exact Or.inl h
  ·rcases k with k|⟨rfl,k⟩
   ·exact Or.inl k
   ·exact Or.inr ⟨rfl,zbh x y z h k⟩
theorem zh (h:w.heap[b]?=some (.cells C t))(v:Value):(w.setCell (aD b o) v).heap[b]?=some (.cells (C.setIfInBounds o v) t):=by
 simp[World.setCell,Array.getElem?_modify,h]
theorem cell_of_block (h:w.heap[b]?=some (.cells C t)):w.cell? (aD b o)=C[o]?:=by simp[World.cell?,h]
theorem zf (h:w.heap[b]?=some (.cells C t)):w.frozen? (aD b o)=false:=by simp[World.frozen?,h]
def zpi (w:World)(b o:Nat)(v0 v1 v2 v3 v4 v5 v6 v7 v8 v9 v10:Value):World:=((((((((((w.setCell (aD b o) v0).setCell (aD b (o+1)) v1).setCell (aD b (o+2)) v2).setCell (aD b (o+3)) v3).setCell (aD b (o+4)) v4).setCell (aD b (o+5)) v5).setCell (aD b (o+6)) v6).setCell (aD b (o+7)) v7).setCell (aD b (o+8)) v8).setCell (aD b (o+9)) v9).setCell (aD b (o+10)) v10
def zkT (C:AV)(o:Nat)(v0 v1 v2 v3 v4 v5 v6 v7 v8 v9 v10:Value):AV:=((((((((((C.setIfInBounds o v0).setIfInBounds (o+1) v1).setIfInBounds (o+2) v2).setIfInBounds (o+3) v3).setIfInBounds (o+4) v4).setIfInBounds (o+5) v5).setIfInBounds (o+6) v6).setIfInBounds (o+7) v7).setIfInBounds (o+8) v8).setIfInBounds (o+9) v9).setIfInBounds (o+10) v10
theorem zp2 (h:w.heap[b]?=some (.cells C t))(v0 v1 v2 v3 v4 v5 v6 v7 v8 v9 v10:Value):(zpi w b o v0 v1 v2 v3 v4 v5 v6 v7 v8 v9 v10).heap[b]?=some (.cells (zkT C o v0 v1 v2 v3 v4 v5 v6 v7 v8 v9 v10) t):=
 zh (zh (zh (zh (zh (zh (zh (zh (zh (zh (zh h v0) v1) v2) v3) v4) v5) v6) v7) v8) v9) v10
theorem zqa {B:Nat}{a:World}(h:Below B a w)(hb:B<=b)(o:Nat)(v0 v1 v2 v3 v4 v5 v6 v7 v8 v9 v10:Value):Below B a (zpi w b o v0 v1 v2 v3 v4 v5 v6 v7 v8 v9 v10):=
 ((((((((((h.setCell hb v0).setCell hb v1).setCell hb v2).setCell hb v3).setCell hb v4).setCell hb v5).setCell hb v6).setCell hb v7).setCell hb v8).setCell hb v9).setCell hb v10
theorem ziQ (w:World)(b o b':Nat)(hb:b'≠b)(v0 v1 v2 v3 v4 v5 v6 v7 v8 v9 v10:Value):(zpi w b o v0 v1 v2 v3 v4 v5 v6 v7 v8 v9 v10).heap[b']?=w.heap[b']?:=by
 unfold zpi
 iterate 11 rw[Below.heap_setCell _ _ _ _ hb]
theorem zrl (C:AV)(o:Nat)(v0 v1 v2 v3 v4 v5 v6 v7 v8 v9 v10:Value):(zkT C o v0 v1 v2 v3 v4 v5 v6 v7 v8 v9 v10).size=C.size:=by simp[zkT]
theorem zr3 (C:AV)(o i:Nat)(v0 v1 v2 v3 v4 v5 v6 v7 v8 v9 v10:Value)(h:i<o \/ o+11<=i):(zkT C o v0 v1 v2 v3 v4 v5 v6 v7 v8 v9 v10)[i]?=C[i]?:=by
 unfold zkT
 iterate 11 rw[Array.getElem?_setIfInBounds,if_neg (by omega)]
theorem ztp (C:AV)(o j:Nat)(v0 v1 v2 v3 v4 v5 v6 v7 v8 v9 v10:Value)(hj:j<11)(ho:o+11<=C.size):(zkT C o v0 v1 v2 v3 v4 v5 v6 v7 v8 v9 v10)[o+j]?=(#[v0,v1,v2,v3,v4,v5,v6,v7,v8,v9,v10]:AV)[j]?:=by
 have hc:j=0 \/ j=1 \/ j=2 \/ j=3 \/ j=4 \/ j=5 \/ j=6 \/ j=7 \/ j=8 \/ j=9 \/ j=10:=by omega
 unfold zkT
 rcases hc with h|h|h|h|h|h|h|h|h|h|h <;> subst h <;> simp[Array.getElem?_setIfInBounds] <;> omega
structure Tm where
 nm:BA
 ov:BA
def zbp:Tm:=⟨ByteArray.empty,ByteArray.empty⟩
def yD (ts:List Tm)(v:BA):Bool:=ts.any fun t=>decide (t.nm=v)
def over (ts:List Tm)(v:BA):BA:=((ts.find? fun t=>decide (t.nm=v)).getD zbp).ov
theorem zeT (ts:List Tm)(v:BA)(k:Nat)(h:k<ts.length):yD (ts.take (k+1)) v=(yD (ts.take k) v||decide (ts[k].nm=v)):=by
 unfold yD;rw[tSe h,List.any_append];simp
theorem zqv (ts:List Tm)(v:BA)(k:Nat)(h:k<ts.length)(e:ts[k].nm=v):yD ts v=true:=by
 unfold yD;rw[List.any_eq_true];exact⟨ts[k],List.getElem_mem h,by simpa using e⟩
theorem zfR (ts:List Tm)(v:BA)(k:Nat)(h:ts.length<=k):yD (ts.take k) v=yD ts v:=by rw[tOl h]
theorem zns (ts:List Tm)(v:BA)(k:Nat)(h:k<ts.length)(hb:yD (ts.take k) v=false)(e:ts[k].nm=v):over ts v=ts[k].ov:=by
 unfold over
 have hn:(ts.take k).find? (fun s=>decide (s.nm=v))=none:=by
  rw[List.find?_eq_none];intro x hx;unfold yD at hb;rw[List.any_eq_false]at hb;exact hb x hx
 have hf:ts.find? (fun s=>decide (s.nm=v))=some ts[k]:=by
  conv=>lhs;rw[<- List.take_append_drop k ts]
  rw[List.find?_append,hn,List.drop_eq_getElem_cons h,List.find?_cons_of_pos (by simpa using e)];rfl
 rw[hf];rfl
theorem ziD (ts:List Tm)(v:BA)(hb:yD ts v=false):over ts v=ByteArray.empty:=by
 unfold over
 have hn:ts.find? (fun s=>decide (s.nm=v))=none:=by
  rw[List.find?_eq_none];intro x hx;unfold yD at hb;rw[List.any_eq_false]at hb;exact hb x hx
 rw[hn];rfl
def under (ts:List Tm):Nat->BA->BA->Bool
 | 0,a,b=>decide (a=b)
 | n+1,a,b=>decide (a=b)||(decide (¬(over ts a).size=0)&&under ts n (over ts a) b)
theorem zeR (ts:List Tm)(n:Nat)(a b:BA)(h:a=b):under ts n a b=true:=by
 cases n <;> simp[under,h]
theorem zmJ (ts:List Tm){a b:BA}(h:¬a=b):under ts 0 a b=false:=by simp[under,h]
theorem zkF (ts:List Tm)(n:Nat){a b:BA}(h:¬a=b)(h0:(over ts a).size=0):under ts (n+1) a b=false:=by simp[under,h,h0]
theorem zpc (ts:List Tm)(n:Nat){a b:BA}(h:¬a=b)(h0:¬(over ts a).size=0):under ts (n+1) a b=under ts n (over ts a) b:=by simp[under,h,h0]
def qD (ts:List Tm)(i:Nat):Bool:=
 zC (ts.getD i zbp).nm&&(decide (i=0)||less (ts.getD (i-1) zbp).nm (ts.getD i zbp).nm)&&((ts.getD i zbp).ov.toList.isEmpty||yD ts (ts.getD i zbp).ov)
def zfN (ts:List Tm):Nat->BA->BA
 | 0,a=>a
 | n+1,a=>zfN ts n (over ts a)
def jR (ts:List Tm):Nat->BA->BA
 | 0,a=>a
 | n+1,a=>if a.size=0 then a else jR ts n (over ts a)
def zeN (ts:List Tm)(t:Tm):Bool:=decide ((zfN ts 4 t.ov).size=0)
def zgH (ts:List Tm)(i:Nat):Bool:=zeN ts (ts.getD i zbp)
def zdT (ts:List Tm)(i:Nat):Bool:=decide ((jR ts 5 (ts.getD i zbp).nm).size=0)
def zbP (ts:List Tm):Bool:=decide (ts.length<=12)&&(up (qD ts) ts.length&&up (zgH ts) ts.length)
def zcf (ts:List Tm)(i:Nat):Bool:=qD ts i&&zdT ts i
def zaW (ts:List Tm):Bool:=decide (ts.length<=12)&&up (zcf ts) ts.length
theorem zdc {P:Nat->Bool}:up P n=true↔∀i,i<n->P i=true:=by
 unfold up;rw[List.all_eq_true];simp
theorem zr2 {ts:List Tm}{i:Nat}(hi:i<ts.length)(h:qD ts i=true):zC ts[i].nm=true:=by
 unfold qD at h;rw[getD_at ts i _ hi]at h;simp only[Bool.and_eq_true]at h;exact h.1.1
theorem zsD {ts:List Tm}{i:Nat}(hi:i+1<ts.length)(h:qD ts (i+1)=true):less ts[i].nm ts[i+1].nm=true:=by
 unfold qD at h;rw[getD_at ts (i+1) _ hi,Nat.add_sub_cancel,getD_at ts i _ (by omega)]at h;simp only[Bool.and_eq_true]at h
 simpa using h.1.2
theorem zrd {ts:List Tm}(h:up (qD ts) ts.length=true):∀(j:Nat) (hj:j<ts.length) (i:Nat) (hi:i<j),less (ts[i]'(by omega)).nm ts[j].nm=true:=by
 intro j
 induction j with
 | zero=>intro _ i hi;omega
 | succ j ih=>
  intro hj i hi;have h2:=zsD hj (zgn hj h)
  rcases Nat.lt_or_ge i j with hlt|hge
  ·exact zbh _ _ _ (ih (by omega) i hlt) h2
  ·have e:i=j:=by omega
   subst e;exact h2
theorem over_self {ts:List Tm}(h:up (qD ts) ts.length=true)(i:Nat)(hi:i<ts.length):over ts ts[i].nm=ts[i].ov:=by
 refine zns ts _ i hi ?_ rfl;unfold yD;rw[List.any_eq_false];intro x hx;obtain⟨k,hk,rfl⟩:=List.mem_iff_getElem.1 hx;have hk':k<i:=by simp at hk;omega
 have h1:=zrd h i hi k hk';simp only[List.getElem_take,decide_eq_true_eq];intro e;unfold less at h1;rw[e,zcb]at h1
 cases h1
theorem zq1 {ts:List Tm}(h:up (qD ts) ts.length=true):over ts ByteArray.empty=ByteArray.empty:=by
 apply ziD
 unfold yD;rw[List.any_eq_false];intro x hx;obtain⟨k,hk,rfl⟩:=List.mem_iff_getElem.1 hx;have h1:=zr2 hk (zgn hk h);simp only[decide_eq_true_eq];intro e;rw[e,zhi _ rfl]at h1
 cases h1
theorem zi3 {ts:List Tm}(h:over ts ByteArray.empty=ByteArray.empty):∀n,zfN ts n ByteArray.empty=ByteArray.empty
 | 0=>rfl
 | n+1=>by unfold zfN;rw[h];exact zi3 h n
theorem zle {ts:List Tm}(h:over ts ByteArray.empty=ByteArray.empty):∀n a,jR ts n a=zfN ts n a
 | 0,_=>rfl
 | n+1,a=>by
  unfold jR
  by_cases h0:a.size=0
  ·rw[if_pos h0,zdG a h0,zi3 h]
  ·rw[if_neg h0,zle h n];rfl
theorem znc {ts:List Tm}(h:up (qD ts) ts.length=true)(i:Nat)(hi:i<ts.length):zdT ts i=zgH ts i:=by
 unfold zdT zgH zeN;rw[getD_at ts i _ hi,zle (zq1 h),show zfN ts 5 ts[i].nm=zfN ts 4 (over ts ts[i].nm) from rfl,over_self h i hi]
theorem znR (ts:List Tm):zbP ts=zaW ts:=by
 unfold zbP zaW
 congr 1
 rw[Bool.eq_iff_iff,Bool.and_eq_true]
 constructor
 ·rintro⟨h1,h2⟩
  rw[zdc];intro i hi;unfold zcf;rw[zgn hi h1,znc h1 i hi,zgn hi h2];rfl
 ·intro h
  rw[zdc]at h
  have h1:up (qD ts) ts.length=true:=by
   rw[zdc];intro i hi;have:=h i hi;unfold zcf at this;rw[Bool.and_eq_true]at this;exact this.1
  refine⟨h1,?_⟩;rw[zdc];intro i hi;have:=h i hi;unfold zcf at this;rw[Bool.and_eq_true,znc h1 i hi]at this;exact this.2
end Go.Proofs.YtjnpjkigofldlaaGreat
