import Derived.Test.YtjnpjkigofldlaaGreatM04
set_option maxHeartbeats 1000000
namespace Go.Proofs.YtjnpjkigofldlaaGreat
open Go.RowKit
variable {w w3:World}{b k r:Nat}{fs:List Fld}{vs:List BA}{X:AV}{t:TypeId}
structure zbq (w:World)(r:Nat)(f:Int->Option Int):Prop where
 ex:∃es clock,w.heap[r]?=some (.map es clock)/\(∀x∈es.toList,∃k v,x.key=.i k/\x.val=.i v/\f k=some v)/\(∀k v,f k=some v->∃x∈es.toList,x.key=.i k)/\∀(i j:Nat) (x y:MapEntry),es[i]?=some x->es[j]?=some y->x.key=y.key->i=j
theorem zbq.mono {w':World}{f:Int->Option Int}(h:zbq w r f)(hb:w'.heap[r]?=w.heap[r]?):zbq w' r f:=by
 obtain⟨es,clock,h1,h2⟩:=h.ex;exact⟨es,clock,hb.trans h1,h2⟩
theorem zbq.lt {f:Int->Option Int}(h:zbq w r f):r<w.heap.size:=by
 obtain⟨es,clock,h1,_⟩:=h.ex;exact(gES h1).1
theorem zbr (k:Int):MapKept.IsKey (.int .i64) (.i k):=by simp[MapKept.IsKey]
theorem zbq.keys {es:Array MapEntry}{f:Int->Option Int}(h:∀x∈es.toList,∃k v,x.key=.i k/\x.val=.i v/\f k=some v):∀x∈es.toList,MapKept.IsKey (.int .i64) x.key:=by
 intro x hx;obtain⟨k,v,h1,_⟩:=h x hx;rw[h1];exact zbr k
theorem zbq.look {f:Int->Option Int}(h:zbq w r f)(k:Int) :
 (Instr.lookup 283 (.map (some r)) (.i k) true).run Tryz.prog w=.ok (.tuple #[.i ((f k).getD 0),.bool (f k).isSome]) w:=by
 obtain⟨es,clock,hb,h1,h2,h3⟩:=h.ex
 rcases MapKept.findNow_spec (zbr k) es.toList 0 (zbq.keys h1) with⟨g1,g2⟩|⟨j,e,g1,g2,g3⟩
 ·have hn:f k=none:=by
   cases hf:f k with
   | none=>rfl
   | some v=>
    obtain⟨x,hx,hk⟩:=h2 k v hf;exact absurd hk (g2 x hx)
  rw[hn];exact zcA Tryz.underlying283 Tryz.underlying3 (.i k) (.i 0) (zbr k) es clock g1 w (by kernel_rfl) r hb
 ·obtain⟨k',v',e1,e2,e3⟩:=h1 e (List.mem_of_getElem? g2)
  rw[g3]at e1
  cases e1
  rw[e3];rw[e2]at g1;exact qR Tryz.underlying283 Tryz.underlying3 (.i k) (.i v') (zbr k) es clock _ g1 w r hb
structure zeA (r:Nat)(w w':World):Prop where
 os:w'.os=w.os
 tape:w'.tape=w.tape
 output:w'.output=w.output
 size:w'.heap.size=w.heap.size
 out:∀k,k≠r->w'.heap[k]?=w.heap[k]?
theorem zbq.upd {f:Int->Option Int}(h:zbq w r f)(k v:Int) :
 ∃w',(Instr.mapUpdate 283 (.map (some r)) (.i k) (.i v)).run Tryz.prog w=.ok () w'/\zbq w' r (fun q=>if q=k then some v else f q)/\zeA r w w':=by
 obtain⟨es,clock,hb,h1,h2,h3⟩:=h.ex;have hm:=Tryz.underlying283;have hd:=Tryz.underlying3
 rcases MapKept.findNow_spec (zbr k) es.toList 0 (zbq.keys h1) with⟨g1,g2⟩|⟨j,e,g1,g2,g3⟩
 ·refine⟨{ w with heap:=w.heap.setIfInBounds r (.map (es.push ⟨.i k,.i v,clock⟩) (clock+1)) },?_,⟨_,_,(MapKept.heap_set hb).1,?_,?_,?_⟩,rfl,rfl,rfl,by simp,fun q hq=>(MapKept.heap_set hb).2 q hq⟩
  ·simp[Instr.mapUpdate,run_underlying hm,MapKept.run_getObj_map hb,MapKept.run_checkKey hd (zbr k),MapKept.run_findKey hd g1,MapKept.run_setObj_map _ hb,Result.andThen]
  ·intro x hx
   rw[Array.toList_push,List.mem_append,List.mem_singleton]at hx
   rcases hx with hx|rfl
   ·obtain⟨k',v',e1,e2,e3⟩:=h1 x hx
    refine⟨k',v',e1,e2,?_⟩
    have:k'≠k:=by rintro rfl;exact g2 x hx e1
    simp only[if_neg this];exact e3
   ·exact⟨k,v,rfl,rfl,by simp⟩
  ·intro q u hq
   by_cases e:q=k
   ·subst e
    exact⟨⟨.i q,.i v,clock⟩,by simp,rfl⟩
   ·rw[if_neg e]at hq
    obtain⟨x,hx,hk⟩:=h2 q u hq;exact⟨x,by simp[Array.toList_push];exact Or.inl (by simpa using hx),hk⟩
  ·intro i j' x y hx hy hxy
   rw[Array.getElem?_push]at hx hy
   by_cases e1:i=es.size
   ·by_cases e2:j'=es.size
    ·omega
    ·rw[if_pos e1]at hx
     rw[if_neg e2]at hy;have hm:y∈es.toList:=by rw[<- Array.mem_def];exact Array.mem_of_getElem? hy
     cases hx
     exact absurd hxy.symm (g2 y hm)
   ·by_cases e2:j'=es.size
    ·rw[if_neg e1]at hx
     rw[if_pos e2]at hy;have hm:x∈es.toList:=by rw[<- Array.mem_def];exact Array.mem_of_getElem? hx
     cases hy
     exact absurd hxy (g2 x hm)
    ·rw[if_neg e1]at hx
     rw[if_neg e2]at hy;exact h3 i j' x y hx hy hxy
 ·have hj:es[j]?=some e:=by simpa using g2
  refine⟨{ w with heap:=w.heap.setIfInBounds r (.map (es.modify j fun x=>{ x with key:=.i k,val:=.i v }) clock) },?_,⟨_,_,(MapKept.heap_set hb).1,?_,?_,?_⟩,rfl,rfl,rfl,by simp,fun q hq=>(MapKept.heap_set hb).2 q hq⟩
  ·simp[Instr.mapUpdate,run_underlying hm,MapKept.run_getObj_map hb,MapKept.run_checkKey hd (zbr k),MapKept.run_findKey hd g1,hj,g3,MapKept.run_keyThatStays (zbr k),MapKept.run_setObj_map _ hb,Result.andThen]
  ·intro x hx
   obtain⟨i,hi,rfl⟩:=List.mem_iff_getElem.1 hx;have hi':i<es.size:=by simpa using hi
   simp only[Array.getElem_toList,Array.getElem_modify]
   by_cases e':j=i
   ·subst e'
    simp only[if_true];exact⟨k,v,rfl,rfl,by simp⟩
   ·simp only[if_neg e']
    obtain⟨k',v',e1,e2,e3⟩:=h1 es[i] (by simp)
    have ek:k'≠k:=by
     rintro rfl;exact e' (h3 j i e es[i] hj (Array.getElem?_eq_getElem hi') (g3.trans e1.symm))
    exact⟨k',v',e1,e2,by rw[if_neg ek];exact e3⟩
  ·intro q u hq
   have hj':j<es.size:=(gES hj).1
   by_cases e':q=k
   ·subst e'
    refine⟨(es.modify j fun x=>{ x with key:=.i q,val:=.i v })[j]'(by simpa using hj'),?_,?_⟩
    ·rw[<- Array.mem_def];exact Array.getElem_mem _
    ·rw[Array.getElem_modify];simp
   ·rw[if_neg e']at hq
    obtain⟨x,hx,hk⟩:=h2 q u hq;obtain⟨i,hi,rfl⟩:=List.mem_iff_getElem.1 hx;have hi':i<es.size:=by simpa using hi
    have hij:j≠i:=by
     rintro rfl;rw[Array.getElem_toList]at hk;rw[Array.getElem?_eq_getElem hi']at hj
     cases hj
     rw[g3]at hk
     cases hk
     exact e' rfl
    refine⟨(es.modify j fun x=>{ x with key:=.i k,val:=.i v })[i]'(by simpa using hi'),?_,?_⟩
    ·rw[<- Array.mem_def];exact Array.getElem_mem _
    ·rw[Array.getElem_modify,if_neg hij];simpa using hk
  ·have hkey:∀(i:Nat) (x:MapEntry),(es.modify j fun x=>{ x with key:=.i k,val:=.i v })[i]?=some x->∃y,es[i]?=some y/\x.key=y.key:=by
    intro i x hx;obtain⟨hi,rfl⟩:=gES hx;have hi':i<es.size:=by simpa using hi
    refine⟨es[i],Array.getElem?_eq_getElem hi',?_⟩;rw[Array.getElem_modify]
    by_cases e':j=i
    ·subst e'
     rw[Array.getElem?_eq_getElem hi']at hj
     cases hj
     simp[g3]
    ·rw[if_neg e']
   intro i j' x y hx hy hxy;obtain⟨x',hx',ex⟩:=hkey i x hx;obtain⟨y',hy',ey⟩:=hkey j' y hy;exact h3 i j' x' y' hx' hy' (ex.symm.trans (hxy.trans ey))
theorem Tryz.zeB:(Tryz.prog.info? 9).map (fun i=>(i.zero,i.size,i.bytes))=some (some (.s ByteArray.empty),1,16):=by kernel_rfl
theorem zK (w:World)(o1 o2:Obj):((w.alloc o1).alloc o2).heap[w.heap.size]?=some o1/\((w.alloc o1).alloc o2).heap[w.heap.size+1]?=some o2:=by
 refine⟨(Below.heap_alloc _ _ _ (by simp)).trans (alloc_at _ _),?_⟩;have h:=alloc_at (w.alloc o1) o2
 simpa using h
theorem qV (a:OA)(cap:Nat)(ss:List Shp)(v:BA)(w:World)(hw:yU w a ss) :
 Calls Tryz.prog 172 #[.l a ss.length cap,.s v] w fun e w'=>∃fa fcap,e=.returned (.tuple #[.agg #[.s (shapeOf ss v).kd,.l fa (shapeOf ss v).fs.length fcap],.bool (zF ss v)]) /\
  yw w fa (shapeOf ss v).fs/\Bw w w':=by
 have hl:=hw.len;unfold maxLen at hl;go_in
 go_wp2
 go_loopw [10] (fun i wr=>∃k:Nat,k<=ss.length/\i=.i k/\zF (ss.take k) v=false/\Below (w.heap.size+1) (w.alloc (.cells #[.s ByteArray.empty,.l none 0 0] 130)) wr) (fun i _=>ss.length-(intOf i).toNat)
 case atStart=>exact⟨0,Nat.zero_le _,rfl,rfl,bRf _ _⟩
 case round=>
  obtain⟨k,hk,rfl,hno,hbl⟩:=hrel;have hsz:w.heap.size<wr.heap.size:=by have:=hbl.size;simp at this;omega
  have hB0:Bw w wr:=(bAl _ _).trans (hbl.mono (by omega));have hX0:wr.cell? (aD w.heap.size 0)=some (.s ByteArray.empty):=(hbl.cell (p:=(aD w.heap.size 0)) (by simp)).trans (by rw[World.cell?_alloc_at _ _ _ _ rfl];rfl);have hX1:wr.cell? (aD w.heap.size 1)=some (.l none 0 0):=(hbl.cell (p:=(aD w.heap.size 1)) (by simp)).trans (by rw[World.cell?_alloc_at _ _ _ _ rfl];rfl);have hF0:wr.frozen? (aD w.heap.size 0)=false:=(hbl.frozen (p:=(aD w.heap.size 0)) (by simp)).trans (by rw[World.frozen?_alloc_at _ _ _ _ rfl]);have hF1:wr.frozen? (aD w.heap.size 1)=false:=(hbl.frozen (p:=(aD w.heap.size 1)) (by simp)).trans (by rw[World.frozen?_alloc_at _ _ _ _ rfl])
  by_cases hlt:k<ss.length
  ·obtain⟨b,off,rfl,hb,hr⟩:=hw.rows (by rintro rfl;simp at hlt)
   obtain⟨fa,fcap,hs⟩:=hr k hlt;have hck:=(hB0.cell (p:=(aD b (off+k*2))) hb).trans hs.kind;have hcl:=(hB0.cell (p:=(aD b (off+k*2+1))) hb).trans hs.list;have hfl:=hs.zdE;clear hw hr hs
   by_cases he:ss[k].kd=v
   ·have hbe:(ss[k].kd.toList == v.toList)=true:=by rw[beq_toList];simpa using he
    have HA:Hid (zF ss v=true):=zgA ss v k hlt he;have HB:Hid (shapeOf ss v=ss[k]):=zef ss v k hlt hno he;clear he hno
    go_wp2
    refine bodyPost_ret (v:=.tuple #[.agg #[.s ss[k].kd,.l fa ss[k].fs.length fcap],.bool true]) (by simp[results,Tryz.results172,go_sem,hX0,hX1,hsz]) rfl ⟨fa,fcap,by rw[HA.o,HB.o],by rw[HB.o];exact hfl,?_⟩;exact((hB0.setCell (Nat.le_refl _) _).setCell (Nat.le_refl _) _).alloc (by simp[World.setCell];omega) _
   ·have hbe:(ss[k].kd.toList == v.toList)=false:=by rw[beq_toList];simpa using he
    have HS:Hid (zF (ss.take (k+1)) v=false):=by unfold Hid;rw[zer ss v k hlt,hno,decide_eq_false he];rfl
    clear he hno hX0 hX1 hF0 hF1
    go_wp2
    go_roundw
    case rel=>exact⟨k+1,by omega,by go_num,HS.o,hbl.alloc (by omega) _⟩
    case measure=>simp[intOf];omega
  ·have HA:Hid (zF ss v=false):=by rw[<- zfB ss v k (by omega)];exact hno
   have HB:Hid (shapeOf ss v=zbg):=zej ss v HA.o;clear hno hw
   go_wp2
   refine bodyPost_ret (v:=.tuple #[.agg #[.s ByteArray.empty,.l none 0 0],.bool false]) (by simp[results,Tryz.results172,go_sem,hX0,hX1];rfl) rfl ⟨none,0,by rw[HA.o,HB.o];rfl,by rw[HB.o];exact⟨by simp[zbg,maxLen],fun h=>absurd rfl h⟩,?_⟩;exact(hB0.setCell (Nat.le_refl _) _).setCell (Nat.le_refl _) _
def ztw (ss:List Shp)(v:BA)(e:Ending):Prop:=
 (zF ss v=false->e=.returned (.i (-1)))/\(zF ss v=true->∃k,∃h:k<ss.length,e=.returned (.i (k:Nat))/\shapeOf ss v=ss[k])
theorem ziS (a:OA)(cap:Nat)(ss:List Shp)(v:BA)(w:World)(hw:yU w a ss) :
 Calls Tryz.prog 165 #[.l a ss.length cap,.s v] w fun e w'=>ztw ss v e/\w'=w:=by
 have hl:=hw.len;unfold maxLen at hl;go_in
 go_wp2
 go_loop [5] (fun i=>∃k:Nat,k<=ss.length/\i=.i k/\zF (ss.take k) v=false) (fun i=>ss.length-(intOf i).toNat)
 case atStart=>exact⟨0,Nat.zero_le _,rfl,rfl⟩
 case round=>
  obtain⟨k,hk,rfl,hno⟩:=hrel
  by_cases hlt:k<ss.length
  ·obtain⟨b,off,rfl,hb,hr⟩:=hw.rows (by rintro rfl;simp at hlt)
   obtain⟨fa,fcap,hs⟩:=hr k hlt;have hck:=hs.kind;clear hw hr hs
   by_cases he:ss[k].kd=v
   ·have hbe:(ss[k].kd.toList == v.toList)=true:=by rw[beq_toList];simpa using he
    have HA:Hid (zF ss v=true):=zgA ss v k hlt he;have HB:Hid (shapeOf ss v=ss[k]):=zef ss v k hlt hno he;clear he hno
    go_wp2
    go_ret;exact⟨⟨fun h=>(by rw[HA.o]at h;cases h),fun _=>⟨k,hlt,rfl,HB.o⟩⟩,rfl⟩
   ·have hbe:(ss[k].kd.toList == v.toList)=false:=by rw[beq_toList];simpa using he
    have HS:Hid (zF (ss.take (k+1)) v=false):=by unfold Hid;rw[zer ss v k hlt,hno,decide_eq_false he];rfl
    clear he hno
    go_wp2
    go_round
    case rel=>exact⟨k+1,by omega,by go_num,HS.o⟩
    case measure=>simp[intOf];omega
  ·have HA:Hid (zF ss v=false):=by rw[<- zfB ss v k (by omega)];exact hno
   clear hno hw
   go_wp2
   go_ret;exact⟨⟨fun _=>rfl,fun h=>by rw[HA.o]at h;cases h⟩,rfl⟩
theorem zgS (a:OA)(cap:Nat)(ss:List Shp)(v:BA)(w:World)(hw:yU w a ss)(h:zF ss v=false) :
 Calls Tryz.prog 165 #[.l a ss.length cap,.s v] w fun e w'=>e=.returned (.i (-1))/\w'=w:=by
 refine(ziS a cap ss v w hw).mono ?_;rintro e w'⟨⟨h1,_⟩,rfl⟩;exact⟨h1 h,rfl⟩
theorem zbx (a:OA)(cap:Nat)(ss:List Shp)(v:BA)(w:World)(hw:yU w a ss)(h:zF ss v=true) :
 Calls Tryz.prog 165 #[.l a ss.length cap,.s v] w fun e w'=>∃k,∃h:k<ss.length,e=.returned (.i (k:Nat))/\shapeOf ss v=ss[k]/\w'=w:=by
 refine(ziS a cap ss v w hw).mono ?_;rintro e w'⟨⟨_,h2⟩,rfl⟩;obtain⟨k,hk,he,hs⟩:=h2 h;exact⟨k,hk,he,hs,rfl⟩
structure Ob where
 kd:BA
 nm:BA
 tm:BA
 vs:List BA
 en:Bool
 hs:List BA
 vr:Int
abbrev oC (o:Ob)(a a':OA)(c c':Nat):AV:=#[.s o.kd,.s o.nm,.s o.tm,.l a o.vs.length c,.bool o.en,.l a' o.hs.length c',.i o.vr]
abbrev oZ:AV:=#[.s ByteArray.empty,.s ByteArray.empty,.s ByteArray.empty,.l none 0 0,.bool false,.l none 0 0,.i 0]
structure Ob.Small (o:Ob):Prop where
 kd:o.kd.size<=maxLen
 nm:o.nm.size<=maxLen
 tm:o.tm.size<=maxLen
def zaM (f:Fld)(v:BA):Int:=if v.size=0 then (if f.mu then 2 else 0) else if zgt f v then 0 else 3
def zhI (fs:List Fld)(vs:List BA)(i:Nat):Int:=zaM (fs.getD i zbz) (vs.getD i ByteArray.empty)
def zbc (fs:List Fld)(vs:List BA)(i:Nat):Bool:=decide (zhI fs vs i=0)
def jJ (fs:List Fld)(vs:List BA):Int × Int:=match (List.range fs.length).find? (fun i=>!zbc fs vs i) with|some i=>(zhI fs vs i,i)|none=>(0,0)
theorem find_range {P:Nat->Bool}{n:Nat}(hk:k<n)(hu:up P k=true)(hp:P k=false):(List.range n).find? (fun i=>!P i)=some k:=by
 rw[List.find?_eq_some_iff_getElem];refine⟨by simp[hp],k,by simpa using hk,by simp,fun j hj=>?_⟩
 have:=zgn hj hu
 simp[this]
theorem zjz {P:Nat->Bool}{n:Nat}(hu:up P n=true):(List.range n).find? (fun i=>!P i)=none:=by
 rw[List.find?_eq_none];intro x hx
 have:=zgn (List.mem_range.1 hx) hu
 simp[this]
theorem zmB (hk:k<fs.length)(hu:up (zbc fs vs) k=true)(hp:zbc fs vs k=false):jJ fs vs=(zhI fs vs k,(k:Int)):=by
 unfold jJ;rw[find_range hk hu hp]
theorem zjf (hu:up (zbc fs vs) fs.length=true):jJ fs vs=(0,0):=by
 unfold jJ;rw[zjz hu]
theorem zlq (h1:k<fs.length)(h2:k<vs.length):zhI fs vs k=zaM fs[k] vs[k]:=by
 unfold zhI;rw[getD_at fs k _ h1,getD_at vs k _ h2]
def qH (o:Ob):Bool:=zC o.nm&&zC o.tm
def qP (o:Ob):Bool:=decide (o.hs.length<=3)&&asc o.hs
def qw (o:Ob):Bool:=decide (0<=o.vr)&&decide (o.vr<=1000000)
def zq (ss:List Shp)(o:Ob):Bool:=zF ss o.kd&&decide (o.vs.length=(shapeOf ss o.kd).fs.length)
def whole (ss:List Shp)(o:Ob):Bool:=qH o&&qP o&&qw o&&zq ss o
def yI (ss:List Shp)(o:Ob):Int × Int:=if whole ss o=true then jJ (shapeOf ss o.kd).fs o.vs else (1,0)
structure qY (w:World)(o:Ob)(a a':OA):Prop where
 small:o.Small
 vals:zD w a o.vs
 holds:zD w a' o.hs
theorem qY.mono {w':World}{o:Ob}{a a':OA}(h:qY w o a a')(hb:Bw w w'):qY w' o a a':=
 ⟨h.small,h.vals.mono hb,h.holds.mono hb⟩
structure Rl where
 vs:List Int
 kd:BA
 tm:BA
 px:BA
def zdF (v:Int):Bool:=decide (1<=v)&&decide (v<=5)
def zaG (vs:List Int)(i:Nat):Bool:=zdF (vs.getD i 0)&&(decide (i=0)||decide (vs.getD (i-1) 0<vs.getD i 0))
def zci (vs:List Int):Bool:=decide (0<vs.length)&&up (zaG vs) vs.length
def zes (r:Rl):Bool:=(r.kd.toList.isEmpty||zC r.kd)&&(r.tm.toList.isEmpty||zC r.tm)
def zaH (r:Rl):Bool:=zes r&&(zci r.vs&&(decide (r.px.size<=16)&&zav r.px))
theorem yP (h:w.heap[b]?=some (.cells X t)):∀j,w.cell? (aD b j)=X[j]?:=fun _=>cell_of_block h
theorem zbo (h:w.heap[b]?=some (.cells X t)):∀j,w.frozen? (aD b j)=false:=fun _=>zf h
theorem zcN (HZ:Hid (w.heap[b]?=some (.cells X t)))(hb:Bw w w3):Hid (w3.heap[b]?=some (.cells X t)):=(hb.block b (gES HZ.o).1).trans HZ.o
theorem zd5 (hb:Below (w.alloc (.cells X t)).heap.size (w.alloc (.cells X t)) w3):Hid (w3.heap[w.heap.size]?=some (.cells X t)):=(hb.block _ (by simp)).trans (alloc_at _ _)
theorem zbF {ob:Obj}{j:Nat}(h:b<w.heap.size):(w.alloc ob).cell? (aD b j)=w.cell? (aD b j):=World.cell?_alloc_lt _ _ _ h
theorem zbf {ob:Obj}{j:Nat}(h:b<w.heap.size):(w.alloc ob).drew.cell? (aD b j)=w.cell? (aD b j):=World.cell?_alloc_lt _ _ _ h
theorem zcP (hb:Below (w.alloc (.cells X t)).drew.heap.size (w.alloc (.cells X t)).drew w3):Hid (w3.heap[w.heap.size]?=some (.cells X t)):=(hb.block _ (by show w.heap.size<(w.alloc (.cells X t)).heap.size;simp)).trans (alloc_at _ _)
theorem zf6 {ob:Obj}(_hb:Below (w.alloc ob).heap.size (w.alloc ob) w3):w.heap.size<(w.alloc ob).heap.size:=by simp
theorem znQ (w0:World)(a:OA)(cap:Nat)(ss:List Shp)(v:BA)(w:World)(hw:yU w0 a ss)(hbb:Bw w0 w) :
 Calls Tryz.prog 172 #[.l a ss.length cap,.s v] w fun e w'=>∃fa fcap,e=.returned (.tuple #[.agg #[.s (shapeOf ss v).kd,.l fa (shapeOf ss v).fs.length fcap],.bool (zF ss v)]) /\
  yw w0 fa (shapeOf ss v).fs/\Bw w w':=by
 have hl:=hw.len;unfold maxLen at hl;go_in
 go_wp2
 go_loopw [10] (fun i wr=>∃k:Nat,k<=ss.length/\i=.i k/\zF (ss.take k) v=false/\Below (w.heap.size+1) (w.alloc (.cells #[.s ByteArray.empty,.l none 0 0] 130)) wr) (fun i _=>ss.length-(intOf i).toNat)
 case atStart=>exact⟨0,Nat.zero_le _,rfl,rfl,bRf _ _⟩
 case round=>
  obtain⟨k,hk,rfl,hno,hbl⟩:=hrel;have hsz:w.heap.size<wr.heap.size:=by have:=hbl.size;simp at this;omega
  have hB0:Bw w wr:=(bAl _ _).trans (hbl.mono (by omega));have hX0:wr.cell? (aD w.heap.size 0)=some (.s ByteArray.empty):=(hbl.cell (p:=(aD w.heap.size 0)) (by simp)).trans (by rw[World.cell?_alloc_at _ _ _ _ rfl];rfl);have hX1:wr.cell? (aD w.heap.size 1)=some (.l none 0 0):=(hbl.cell (p:=(aD w.heap.size 1)) (by simp)).trans (by rw[World.cell?_alloc_at _ _ _ _ rfl];rfl);have hF0:wr.frozen? (aD w.heap.size 0)=false:=(hbl.frozen (p:=(aD w.heap.size 0)) (by simp)).trans (by rw[World.frozen?_alloc_at _ _ _ _ rfl]);have hF1:wr.frozen? (aD w.heap.size 1)=false:=(hbl.frozen (p:=(aD w.heap.size 1)) (by simp)).trans (by rw[World.frozen?_alloc_at _ _ _ _ rfl])
  by_cases hlt:k<ss.length
  ·obtain⟨b,off,rfl,hb,hr⟩:=hw.rows (by rintro rfl;simp at hlt)
   obtain⟨fa,fcap,hs⟩:=hr k hlt;have hb0:b<w.heap.size:=nLt hb hbb.size;have hck:=((hB0.cell (p:=(aD b (off+k*2))) hb0).trans (hbb.cell (p:=(aD b (off+k*2))) hb)).trans hs.kind;have hcl:=((hB0.cell (p:=(aD b (off+k*2+1))) hb0).trans (hbb.cell (p:=(aD b (off+k*2+1))) hb)).trans hs.list;have hfl:=hs.zdE;clear hw hr hs
   by_cases he:ss[k].kd=v
   ·have hbe:(ss[k].kd.toList == v.toList)=true:=by rw[beq_toList];simpa using he
    have HA:Hid (zF ss v=true):=zgA ss v k hlt he;have HB:Hid (shapeOf ss v=ss[k]):=zef ss v k hlt hno he;clear he hno
    go_wp2
    refine bodyPost_ret (v:=.tuple #[.agg #[.s ss[k].kd,.l fa ss[k].fs.length fcap],.bool true]) (by simp[results,Tryz.results172,go_sem,hX0,hX1,hsz]) rfl ⟨fa,fcap,by rw[HA.o,HB.o],by rw[HB.o];exact hfl,?_⟩;exact((hB0.setCell (Nat.le_refl _) _).setCell (Nat.le_refl _) _).alloc (by simp[World.setCell];omega) _
   ·have hbe:(ss[k].kd.toList == v.toList)=false:=by rw[beq_toList];simpa using he
    have HS:Hid (zF (ss.take (k+1)) v=false):=by unfold Hid;rw[zer ss v k hlt,hno,decide_eq_false he];rfl
    clear he hno hX0 hX1 hF0 hF1
    go_wp2
    go_roundw
    case rel=>exact⟨k+1,by omega,by go_num,HS.o,hbl.alloc (by omega) _⟩
    case measure=>simp[intOf];omega
  ·have HA:Hid (zF ss v=false):=by rw[<- zfB ss v k (by omega)];exact hno
   have HB:Hid (shapeOf ss v=zbg):=zej ss v HA.o;clear hno hw
   go_wp2
   refine bodyPost_ret (v:=.tuple #[.agg #[.s ByteArray.empty,.l none 0 0],.bool false]) (by simp[results,Tryz.results172,go_sem,hX0,hX1];rfl) rfl ⟨none,0,by rw[HA.o,HB.o];rfl,by rw[HB.o];exact⟨by simp[zbg,maxLen],fun h=>absurd rfl h⟩,?_⟩;exact(hB0.setCell (Nat.le_refl _) _).setCell (Nat.le_refl _) _
end Go.Proofs.YtjnpjkigofldlaaGreat
