import Derived.Test.YtkficnallnpjnaaGreatM04
set_option maxHeartbeats 1000000
namespace Go.Proofs.YtkficnallnpjnaaGreat
open Go.RowKit
theorem zi {w:World}{b o:Nat}{C:Array Value}{t:TypeId}(h:w.heap[b]?=some (.cells C t))(v:Value):(w.setCell ⟨b,o,none⟩ v).heap[b]?=some (.cells (C.setIfInBounds o v) t):=by
 simp[World.setCell,Array.getElem?_modify,h]
theorem cell_of_block {w:World}{b o:Nat}{C:Array Value}{t:TypeId}(h:w.heap[b]?=some (.cells C t)):w.cell? ⟨b,o,none⟩=C[o]?:=by simp[World.cell?,h]
theorem zh {w:World}{b o:Nat}{C:Array Value}{t:TypeId}(h:w.heap[b]?=some (.cells C t)):w.frozen? ⟨b,o,none⟩=false:=by simp[World.frozen?,h]
def zmB (w:World)(b o:Nat)(v0 v1 v2 v3 v4 v5 v6 v7 v8 v9 v10:Value):World:=((((((((((w.setCell ⟨b,o,none⟩ v0).setCell ⟨b,o+1,none⟩ v1).setCell ⟨b,o+2,none⟩ v2).setCell ⟨b,o+3,none⟩ v3).setCell ⟨b,o+4,none⟩ v4).setCell ⟨b,o+5,none⟩ v5).setCell ⟨b,o+6,none⟩ v6).setCell ⟨b,o+7,none⟩ v7).setCell ⟨b,o+8,none⟩ v8).setCell ⟨b,o+9,none⟩ v9).setCell ⟨b,o+10,none⟩ v10
def zkn (C:Array Value)(o:Nat)(v0 v1 v2 v3 v4 v5 v6 v7 v8 v9 v10:Value):Array Value:=((((((((((C.setIfInBounds o v0).setIfInBounds (o+1) v1).setIfInBounds (o+2) v2).setIfInBounds (o+3) v3).setIfInBounds (o+4) v4).setIfInBounds (o+5) v5).setIfInBounds (o+6) v6).setIfInBounds (o+7) v7).setIfInBounds (o+8) v8).setIfInBounds (o+9) v9).setIfInBounds (o+10) v10
theorem zm1 {w:World}{b o:Nat}{C:Array Value}{t:TypeId}(h:w.heap[b]?=some (.cells C t))(v0 v1 v2 v3 v4 v5 v6 v7 v8 v9 v10:Value):(zmB w b o v0 v1 v2 v3 v4 v5 v6 v7 v8 v9 v10).heap[b]?=some (.cells (zkn C o v0 v1 v2 v3 v4 v5 v6 v7 v8 v9 v10) t):=
 zi (zi (zi (zi (zi (zi (zi (zi (zi (zi (zi h v0) v1) v2) v3) v4) v5) v6) v7) v8) v9) v10
theorem znd {B:Nat}{a w:World}(h:Below B a w){b:Nat}(hb:B<=b)(o:Nat)(v0 v1 v2 v3 v4 v5 v6 v7 v8 v9 v10:Value):Below B a (zmB w b o v0 v1 v2 v3 v4 v5 v6 v7 v8 v9 v10):=
 ((((((((((h.setCell hb v0).setCell hb v1).setCell hb v2).setCell hb v3).setCell hb v4).setCell hb v5).setCell hb v6).setCell hb v7).setCell hb v8).setCell hb v9).setCell hb v10
theorem zhW (w:World)(b o b':Nat)(hb:b'≠b)(v0 v1 v2 v3 v4 v5 v6 v7 v8 v9 v10:Value):(zmB w b o v0 v1 v2 v3 v4 v5 v6 v7 v8 v9 v10).heap[b']?=w.heap[b']?:=by
 unfold zmB
 iterate 11 rw[Below.heap_setCell _ _ _ _ hb]
theorem zov (C:Array Value)(o:Nat)(v0 v1 v2 v3 v4 v5 v6 v7 v8 v9 v10:Value):(zkn C o v0 v1 v2 v3 v4 v5 v6 v7 v8 v9 v10).size=C.size:=by simp[zkn]
theorem zpI (C:Array Value)(o i:Nat)(v0 v1 v2 v3 v4 v5 v6 v7 v8 v9 v10:Value)(h:i<o \/ o+11<=i):(zkn C o v0 v1 v2 v3 v4 v5 v6 v7 v8 v9 v10)[i]?=C[i]?:=by
 unfold zkn
 iterate 11 rw[Array.getElem?_setIfInBounds,if_neg (by omega)]
theorem zqp (C:Array Value)(o j:Nat)(v0 v1 v2 v3 v4 v5 v6 v7 v8 v9 v10:Value)(hj:j<11)(ho:o+11<=C.size):(zkn C o v0 v1 v2 v3 v4 v5 v6 v7 v8 v9 v10)[o+j]?=(#[v0,v1,v2,v3,v4,v5,v6,v7,v8,v9,v10]:Array Value)[j]?:=by
 have hc:j=0 \/ j=1 \/ j=2 \/ j=3 \/ j=4 \/ j=5 \/ j=6 \/ j=7 \/ j=8 \/ j=9 \/ j=10:=by omega
 unfold zkn
 rcases hc with h|h|h|h|h|h|h|h|h|h|h <;> subst h <;> simp[Array.getElem?_setIfInBounds] <;> omega
theorem zdq (a:Option Addr)(cap:Nat)(ws:List ByteArray)(w:World)(hw:zF w a ws)(hl:ws.length<=1048576) :
 Calls Tryz.prog 115 #[.slice a ws.length cap] w fun e w'=>e=.returned (.slice (some ⟨w.heap.size,0,none⟩) ws.length ws.length)/\w'=w.alloc (.cells (jR ws) 9):=by
 have hmk:∀w:World,(Instr.makeSlice 100 (.int .i64 ws.length) (.int .i64 ws.length)).run Tryz.prog w=.ok (.slice (some ⟨w.heap.size,0,none⟩) ws.length ws.length) (w.alloc (.cells (strCells ws 0) 9)):=by
  intro w;have h:=run_make_row' (P:=Tryz.prog) 100 9 (.string ByteArray.empty) 16 Tryz.underlying100 (by kernel_rfl) rfl .i64 .i64 ws.length (by omega) (by omega) w;rw[zkM]at h;exact h
 go_enter Tryz.func115,Tryz.ntmps115
 go_wp2
 clear hmk
 go_loopw [4] (fun i wr=>∃k:Nat,k<=ws.length/\i=.int .i64 k/\wr=w.alloc (.cells (strCells ws k) 9)) (fun i _=>ws.length-(intOf i).toNat)
 case atStart=>exact⟨0,Nat.zero_le _,rfl,rfl⟩
 case round=>
  obtain⟨k,hk,rfl,rfl⟩:=hrel
  by_cases hlt:k<ws.length
  ·obtain⟨b,off,rfl,hb,hc⟩:=hw.cells (by rintro rfl;simp at hlt)
   clear hw;have hck:=hc k hlt;have hold:=zm6 ws k hlt;have HS:=hid (zmb ws k hlt);clear hc
   go_wp2
   go_roundw
   case rel=>exact⟨k+1,by omega,by go_num,by rw[HS.out]⟩
   case measure=>simp[intOf];omega
  ·have HA:=hid (zlV ws k (by omega))
   clear hw
   go_wp2
   go_ret;exact⟨rfl,by rw[HA.out]⟩
theorem zoL (w:World)(o1 o2 o3 o4:Obj):Below w.heap.size w ((((w.alloc o1).alloc o2).alloc o3).alloc o4):=
 (((bAl _ _).alloc (by simp) _).alloc (by simp;omega) _).alloc (by simp;omega) _
theorem at4 (w:World)(o1 o2 o3 o4:Obj):((((w.alloc o1).alloc o2).alloc o3).alloc o4).heap[w.heap.size+1+1+1]?=some o4:=by
 have h:=MapKept.heap_alloc (((w.alloc o1).alloc o2).alloc o3) o4
 simpa using h.1
theorem ziv (nm:ByteArray)(kd ls ms:Int)(a:Option Addr)(cap:Nat)(ws:List ByteArray)(to:ByteArray)(rl:Int)(mu fx:Bool)(df wg:ByteArray)(w:World)(hw:zF w a ws)(hl:ws.length<=1048576) :
 Calls Tryz.prog 147 #[.agg #[.string nm,.int .i64 kd,.int .i64 ls,.int .i64 ms,.slice a ws.length cap,.string to,.int .i64 rl,.bool mu,.bool fx,.string df,.string wg]] w
  fun e w'=>∃bk,e=.returned (.agg #[.string nm,.int .i64 kd,.int .i64 ls,.int .i64 ms,.slice (some ⟨bk,0,none⟩) ws.length ws.length,.string to,.int .i64 rl,.bool mu,.bool fx,.string df,.string wg]) /\
   w.heap.size<=bk/\bk<w'.heap.size/\w'.heap[bk]?=some (.cells (jR ws) 9)/\Below w.heap.size w w':=by
 go_enter Tryz.func147,Tryz.ntmps147
 go_wp2_with (go_at_call 115;refine(zdq _ _ _ _ (by exact hw.mono (((bAl _ _).alloc (by simp) _).alloc (by simp;omega) _)) hl).mono ?_;rintro e w'⟨rfl,rfl⟩)
 refine bodyPost_ret (v:=.agg #[.string nm,.int .i64 kd,.int .i64 ls,.int .i64 ms,.slice (some ⟨w.heap.size+1+1+1,0,none⟩) ws.length ws.length,.string to,.int .i64 rl,.bool mu,.bool fx,.string df,.string wg]) (by simp[results,Tryz.results147,go_sem]) rfl ⟨w.heap.size+1+1+1,rfl,by omega,by simp,at4 _ _ _ _ _,zoL _ _ _ _ _⟩
theorem zeB.load {w:World}{b off:Nat}{f:Fld}{a:Option Addr}{cap:Nat}(h:zeB w b off f a cap) :
 w.cell? ⟨b,off,none⟩=some (.string f.nm)/\w.cell? ⟨b,off+1,none⟩=some (.int .i64 f.kd)/\w.cell? ⟨b,off+2,none⟩=some (.int .i64 f.ls)/\w.cell? ⟨b,off+3,none⟩=some (.int .i64 f.ms) /\
 w.cell? ⟨b,off+4,none⟩=some (.slice a f.ws.length cap)/\w.cell? ⟨b,off+5,none⟩=some (.string f.to)/\w.cell? ⟨b,off+6,none⟩=some (.int .i64 f.rl)/\w.cell? ⟨b,off+7,none⟩=some (.bool f.mu) /\
 w.cell? ⟨b,off+8,none⟩=some (.bool f.fx)/\w.cell? ⟨b,off+9,none⟩=some (.string f.df)/\w.cell? ⟨b,off+10,none⟩=some (.string f.wg):=
 ⟨h.cell 0 (by omega),h.cell 1 (by omega),h.cell 2 (by omega),h.cell 3 (by omega),h.cell 4 (by omega),h.cell 5 (by omega),h.cell 6 (by omega),h.cell 7 (by omega),h.cell 8 (by omega),h.cell 9 (by omega),h.cell 10 (by omega)⟩
end Go.Proofs.YtkficnallnpjnaaGreat
namespace Go.Proofs.YtkficnallnpjnaaGreat
def up (P:Nat->Bool)(n:Nat):Bool:=(List.range n).all P
theorem qZ (P:Nat->Bool)(n:Nat):up P (n+1)=(up P n&&P n):=by simp[up,List.range_succ,List.all_append]
theorem zaG {P:Nat->Bool}{k n:Nat}(h:k<n)(hk:P k=false):up P n=false:=by
 unfold up;rw[List.all_eq_false];exact⟨k,List.mem_range.2 h,by simp[hk]⟩
theorem zib {P:Nat->Bool}{k n:Nat}(h:k<n)(hu:up P n=true):P k=true:=by
 unfold up at hu;rw[List.all_eq_true]at hu;exact hu k (List.mem_range.2 h)
def less (a b:ByteArray):Bool:=Op.bytesLess a.toList b.toList
def zdN (ws:List ByteArray)(i:Nat):Bool:=zA (ws.getD i ByteArray.empty)&&(decide (i=0)||less (ws.getD (i-1) ByteArray.empty) (ws.getD i ByteArray.empty))
def asc (ws:List ByteArray):Bool:=up (zdN ws) ws.length
theorem getD_at {α:Type}(l:List α)(i:Nat)(d:α)(h:i<l.length):l.getD i d=l[i]:=by
 rw[List.getD_eq_getElem?_getD,List.getElem?_eq_getElem h];rfl
theorem zjx {ws:List ByteArray}{k:Nat}(h:k<ws.length)(hn:zA ws[k]=false):zdN ws k=false:=by
 unfold zdN;rw[getD_at ws k _ h,hn];rfl
theorem zhP {ws:List ByteArray}(h:0<ws.length)(hn:zA ws[0]=true):zdN ws 0=true:=by
 unfold zdN;rw[getD_at ws 0 _ h,hn];rfl
theorem zeg {ws:List ByteArray}{k:Nat}(h:k+1<ws.length)(hn:zA ws[k+1]=true):zdN ws (k+1)=less ws[k] ws[k+1]:=by
 unfold zdN;rw[getD_at ws (k+1) _ h,Nat.add_sub_cancel,getD_at ws k _ (by omega),hn];simp
def yL (kd ls ms:Int)(n:Nat)(to:ByteArray)(rl:Int)(wg:ByteArray):Bool:=
 if kd=1 then decide (n=0)&&to.toList.isEmpty&&decide (rl=0)
 else if kd=2 then decide (ls=0)&&decide (ms=0)&&to.toList.isEmpty&&decide (rl=0)&&wg.toList.isEmpty
 else if kd=3 then decide (n=0)&&to.toList.isEmpty&&decide (rl=0)&&wg.toList.isEmpty
 else if kd=4 then decide (ls=0)&&decide (ms=0)&&decide (n=0)&&wg.toList.isEmpty
 else false
def jl (ls ms lo hi:Int):Bool:=decide (lo<=ls)&&decide (ls<=ms)&&decide (ms<=hi)
def zJ (ss:List Shp)(k:ByteArray):Bool:=ss.any fun s=>decide (s.kd=k)
def zW (ss:List Shp)(f:Fld):Bool:=
 if f.kd=1 then jl f.ls f.ms 0 1000000&&(f.wg.toList.isEmpty||zA f.wg)
 else if f.kd=2 then decide (1<=f.ws.length)&&decide (f.ws.length<=6)&&asc f.ws
 else if f.kd=3 then jl f.ls f.ms 1 40
 else if f.kd=4 then zJ ss f.to&&(decide (1<=f.rl)&&decide (f.rl<=3))&&f.df.toList.isEmpty&&(decide (f.rl≠2)||!f.mu)
 else false
def bare (f:Fld):Bool:=yL f.kd f.ls f.ms f.ws.length f.to f.rl f.wg
def zfx (f:Fld)(v:ByteArray):Bool:=fits f.kd f.ls f.ms f.ws v
def zrs (f:Fld):Bool:=f.df.toList.isEmpty||zfx f f.df
def yF (ss:List Shp)(f:Fld):Bool:=bare f&&zW ss f&&zrs f
def zct:Shp:=⟨ByteArray.empty,[]⟩
def shapeOf (ss:List Shp)(k:ByteArray):Shp:=(ss.find? fun s=>decide (s.kd=k)).getD zct
theorem zgw (ss:List Shp)(v:ByteArray)(k:Nat)(h:k<ss.length):zJ (ss.take (k+1)) v=(zJ (ss.take k) v||decide (ss[k].kd=v)):=by
 unfold zJ;rw[tSe h,List.any_append];simp
theorem zjk (ss:List Shp)(v:ByteArray)(k:Nat)(h:k<ss.length)(e:ss[k].kd=v):zJ ss v=true:=by
 unfold zJ;rw[List.any_eq_true];exact⟨ss[k],List.getElem_mem h,by simpa using e⟩
theorem zhZ (ss:List Shp)(v:ByteArray)(k:Nat)(h:ss.length<=k):zJ (ss.take k) v=zJ ss v:=by rw[tOl h]
theorem zfR (ss:List Shp)(v:ByteArray)(k:Nat)(h:k<ss.length)(hb:zJ (ss.take k) v=false)(e:ss[k].kd=v):shapeOf ss v=ss[k]:=by
 unfold shapeOf
 have hn:(ss.take k).find? (fun s=>decide (s.kd=v))=none:=by
  rw[List.find?_eq_none];intro x hx;unfold zJ at hb;rw[List.any_eq_false]at hb;exact hb x hx
 conv=>lhs;rw[<- List.take_append_drop k ss]
 rw[List.find?_append,hn,List.drop_eq_getElem_cons h,List.find?_cons_of_pos (by simpa using e)];rfl
theorem zlM (ss:List Shp)(v:ByteArray)(hb:zJ ss v=false):shapeOf ss v=zct:=by
 unfold shapeOf
 have hn:ss.find? (fun s=>decide (s.kd=v))=none:=by
  rw[List.find?_eq_none];intro x hx;unfold zJ at hb;rw[List.any_eq_false]at hb;exact hb x hx
 rw[hn];rfl
def hasName (fs:List Fld)(v:ByteArray):Bool:=fs.any fun f=>decide (f.nm=v)
def zR (fs:List Fld)(v:ByteArray):Int:=match fs.findIdx? (fun f=>decide (f.nm=v)) with|some i=>i|none=>-1
theorem zd4 (fs:List Fld)(v:ByteArray)(k:Nat)(h:k<fs.length):hasName (fs.take (k+1)) v=(hasName (fs.take k) v||decide (fs[k].nm=v)):=by
 unfold hasName;rw[tSe h,List.any_append];simp
theorem zhU (fs:List Fld)(v:ByteArray)(k:Nat)(h:fs.length<=k):hasName (fs.take k) v=hasName fs v:=by rw[tOl h]
theorem zd7 (fs:List Fld)(v:ByteArray)(k:Nat)(h:k<fs.length)(hb:hasName (fs.take k) v=false)(e:fs[k].nm=v):zR fs v=k:=by
 unfold zR
 have hf:fs.findIdx? (fun f=>decide (f.nm=v))=some k:=by
  rw[List.findIdx?_eq_some_iff_getElem];refine⟨h,by simpa using e,fun j hj=>?_⟩;unfold hasName at hb;rw[List.any_eq_false]at hb
  have hm:fs[j]∈fs.take k:=by
   rw[List.mem_iff_getElem];exact⟨j,by simp;omega,by simp⟩
  exact hb _ hm
 rw[hf]
theorem zgt (fs:List Fld)(v:ByteArray)(hb:hasName fs v=false):zR fs v=-1:=by
 unfold zR
 have hf:fs.findIdx? (fun f=>decide (f.nm=v))=none:=by
  rw[List.findIdx?_eq_none_iff];intro x hx;unfold hasName at hb;rw[List.any_eq_false]at hb
  simpa using hb x hx
 rw[hf]
theorem zkY (fs:List Fld)(v:ByteArray)(k:Nat)(h:k<fs.length)(hh:hasName (fs.take k) v=true):∃j,j<k/\zR fs v=j:=by
 unfold hasName at hh;rw[List.any_eq_true]at hh;obtain⟨x,hx,he⟩:=hh;obtain⟨j,hj,rfl⟩:=List.mem_iff_getElem.1 hx;have hjk:j<k:=by simp at hj;omega
 have hjl:j<fs.length:=by omega
 have hv:fs[j].nm=v:=by simpa using he
 cases hf:fs.findIdx? (fun f=>decide (f.nm=v)) with
 | none=>
  rw[List.findIdx?_eq_none_iff]at hf
  have:=hf fs[j] (List.getElem_mem hjl)
  simp[hv]at this
 | some i=>
  refine⟨i,?_,by unfold zR;rw[hf]⟩;rw[List.findIdx?_eq_some_iff_getElem]at hf;obtain⟨hi,_,hmin⟩:=hf
  rcases Nat.lt_or_ge i k with h1|h1
  ·exact h1
  ·exfalso
   have:=hmin j (by omega)
   simp[hv]at this
def zbs:Fld:=⟨ByteArray.empty,0,0,0,[],ByteArray.empty,0,false,false,ByteArray.empty,ByteArray.empty⟩
def ze5 (ss:List Shp)(fs:List Fld)(i:Nat):Bool:=
 zA (fs.getD i zbs).nm&&!hasName (fs.take i) (fs.getD i zbs).nm&&yF ss (fs.getD i zbs)
def y8 (ss:List Shp)(fs:List Fld):Bool:=decide (fs.length<=6)&&up (ze5 ss fs) fs.length
theorem zi2 (ss:List Shp)(fs:List Fld)(i:Nat)(h:i<fs.length):ze5 ss fs i=(zA fs[i].nm&&!hasName (fs.take i) fs[i].nm&&yF ss fs[i]):=by
 unfold ze5;rw[getD_at fs i _ h]
def yX (ss:List Shp)(i:Nat):Bool:=
 zA (ss.getD i zct).kd&&(decide (i=0)||less (ss.getD (i-1) zct).kd (ss.getD i zct).kd)&&y8 ss (ss.getD i zct).fs
def zZ (ss:List Shp):Bool:=decide (ss.length<=6)&&up (yX ss) ss.length
theorem zfw (ss:List Shp)(h:0<ss.length):yX ss 0=(zA ss[0].kd&&y8 ss ss[0].fs):=by
 unfold yX;rw[getD_at ss 0 _ h];simp
theorem zgd (ss:List Shp)(k:Nat)(h:k+1<ss.length):yX ss (k+1)=(zA ss[k+1].kd&&less ss[k].kd ss[k+1].kd&&y8 ss ss[k+1].fs):=by
 unfold yX;rw[getD_at ss (k+1) _ h,Nat.add_sub_cancel,getD_at ss k _ (by omega)];simp
theorem zbZ:∀x:List UInt8,Op.bytesLess x x=false
 | []=>rfl
 | a :: x=>by
  simp only[Op.bytesLess,Bool.or_eq_false_iff,decide_eq_false_iff_not,Bool.and_eq_false_iff];exact⟨fun h=>by simp at h,Or.inr (zbZ x)⟩
theorem zbb:∀x y z:List UInt8,Op.bytesLess x y=true->Op.bytesLess y z=true->Op.bytesLess x z=true
 | _,[],_,h,_=>by simp[Op.bytesLess]at h
 | [],_ :: _,[],_,h=>by simp[Op.bytesLess]at h
 | [],_ :: _,_ :: _,_,_=>rfl
 | _ :: _,_ :: _,[],_,h=>by simp[Op.bytesLess]at h
 | a :: x,b :: y,c :: z,h,k=>by
  simp only[Op.bytesLess,Bool.or_eq_true,decide_eq_true_eq,Bool.and_eq_true,beq_iff_eq]at h k ⊢
  rcases h with h|⟨rfl,h⟩
  ·rcases k with k|⟨rfl,k⟩
   ·exact Or.inl (UInt8.lt_trans h k)
   ·exact Or.inl h
  ·rcases k with k|⟨rfl,k⟩
   ·exact Or.inl k
   ·exact Or.inr ⟨rfl,zbb x y z h k⟩
end Go.Proofs.YtkficnallnpjnaaGreat
namespace Go.Proofs.YtkficnallnpjnaaGreat
open Go.RowKit
structure Mnd where
 kd:ByteArray
 fd:ByteArray
 wh:ByteArray
 wi:ByteArray
 pt:ByteArray
 fr:ByteArray
def Mnd.cells (m:Mnd):Array Value:=#[.string m.kd,.string m.fd,.string m.wh,.string m.wi,.string m.pt,.string m.fr]
structure Mnd.Small (m:Mnd):Prop where
 kd:m.kd.size<=maxLen
 fd:m.fd.size<=maxLen
 wh:m.wh.size<=maxLen
 wi:m.wi.size<=maxLen
 pt:m.pt.size<=maxLen
 fr:m.fr.size<=maxLen
structure qK (w:World)(a:Option Addr)(ms:List Mnd):Prop where
 len:ms.length<=maxLen
 small:∀i (h:i<ms.length),ms[i].Small
 rows:ms≠[]->∃b off,a=some ⟨b,off,none⟩/\b<w.heap.size/\∀i (h:i<ms.length),∀j,j<6->w.cell? ⟨b,off+i*6+j,none⟩=ms[i].cells[j]?
theorem qK.mono {w w':World}{a:Option Addr}{ms:List Mnd}(h:qK w a ms)(hl:Below w.heap.size w w'):qK w' a ms:=
 ⟨h.len,h.small,fun hne=>by
  obtain⟨b,off,ha,hb,hr⟩:=h.rows hne;exact⟨b,off,ha,nLt hb hl.size,fun i hi j hj=>(hl.cell (p:=⟨b,off+i*6+j,none⟩) hb).trans (hr i hi j hj)⟩⟩
theorem qK.load {w w':World}{a:Option Addr}{ms:List Mnd}(h:qK w a ms)(hl:Below w.heap.size w w')(i:Nat)(hi:i<ms.length):∃b off,a=some ⟨b,off,none⟩/\b<w.heap.size /\
 w'.cell? ⟨b,off+i*6,none⟩=some (.string ms[i].kd)/\w'.cell? ⟨b,off+i*6+1,none⟩=some (.string ms[i].fd)/\w'.cell? ⟨b,off+i*6+2,none⟩=some (.string ms[i].wh)/\w'.cell? ⟨b,off+i*6+3,none⟩=some (.string ms[i].wi)/\w'.cell? ⟨b,off+i*6+4,none⟩=some (.string ms[i].pt)/\w'.cell? ⟨b,off+i*6+5,none⟩=some (.string ms[i].fr):=by
 obtain⟨b,off,ha,hb,hr⟩:=h.rows (by rintro rfl;simp at hi);have hc:∀j,j<6->w'.cell? ⟨b,off+i*6+j,none⟩=ms[i].cells[j]?:=fun j hj=>(hl.cell (p:=⟨b,off+i*6+j,none⟩) hb).trans (hr i hi j hj)
 exact⟨b,off,ha,hb,hc 0 (by omega),hc 1 (by omega),hc 2 (by omega),hc 3 (by omega),hc 4 (by omega),hc 5 (by omega)⟩
end Go.Proofs.YtkficnallnpjnaaGreat
