import Derived.Test.YtbfgkhgmnfghgaaGreatM04
set_option maxHeartbeats 1000000
namespace Go.Proofs.YtbfgkhgmnfghgaaGreat
open Go.RowKit
structure zb3 (fs:List Fld):Prop where
 small:∀i (h:i<fs.length),fs[i].Small/\fs[i].ws.length<=maxLen/\∀s∈fs[i].ws,s.size<=maxLen
theorem yc.smalls {w:World}{a:OA}{fs:List Fld}(h:yc w a fs):zb3 fs:=
 ⟨fun i hi=>by
  obtain⟨b,off,_,_,hr⟩:=h.rows (by rintro rfl;simp at hi);obtain⟨wa,wcap,hf⟩:=hr i hi;exact⟨hf.small,hf.strs.len,hf.strs.small⟩⟩
structure zd4 (ss:List Shp):Prop where
 small:∀i (h:i<ss.length),ss[i].kd.size<=maxLen/\ss[i].fs.length<=maxLen/\zb3 ss[i].fs
theorem yX.smalls {w:World}{a:OA}{ss:List Shp}(h:yX w a ss):zd4 ss:=
 ⟨fun i hi=>by
  obtain⟨b,off,_,_,hr⟩:=h.rows (by rintro rfl;simp at hi);obtain⟨fa,fcap,hs⟩:=hr i hi;exact⟨hs.small,hs.zdS.len,hs.zdS.smalls⟩⟩
structure zbo (w:World)(r:Nat)(f:Int->Option Int):Prop where
 ex:∃es clock,w.heap[r]?=some (.map es clock)/\(∀x∈es.toList,∃k v,x.key=.i k/\x.val=.i v/\f k=some v)/\(∀k v,f k=some v->∃x∈es.toList,x.key=.i k)/\∀(i j:Nat) (x y:MapEntry),es[i]?=some x->es[j]?=some y->x.key=y.key->i=j
theorem zbo.mono {w w':World}{r:Nat}{f:Int->Option Int}(h:zbo w r f)(hb:w'.heap[r]?=w.heap[r]?):zbo w' r f:=by
 obtain⟨es,clock,h1,h2⟩:=h.ex;exact⟨es,clock,hb.trans h1,h2⟩
theorem zbo.lt {w:World}{r:Nat}{f:Int->Option Int}(h:zbo w r f):r<w.heap.size:=by
 obtain⟨es,clock,h1,_⟩:=h.ex;exact(gES h1).1
theorem zbv (k:Int):MapKept.IsKey (.int .i64) (.i k):=by simp[MapKept.IsKey]
theorem zbo.keys {es:Array MapEntry}{f:Int->Option Int}(h:∀x∈es.toList,∃k v,x.key=.i k/\x.val=.i v/\f k=some v):∀x∈es.toList,MapKept.IsKey (.int .i64) x.key:=by
 intro x hx;obtain⟨k,v,h1,_⟩:=h x hx;rw[h1];exact zbv k
theorem zbo.look {w:World}{r:Nat}{f:Int->Option Int}(h:zbo w r f)(k:Int) :
 (Instr.lookup 271 (.map (some r)) (.i k) true).run Tryz.prog w=.ok (.tuple #[.i ((f k).getD 0),.bool (f k).isSome]) w:=by
 obtain⟨es,clock,hb,h1,h2,h3⟩:=h.ex
 rcases MapKept.findNow_spec (zbv k) es.toList 0 (zbo.keys h1) with⟨g1,g2⟩|⟨j,e,g1,g2,g3⟩
 ·have hn:f k=none:=by
   cases hf:f k with
   | none=>rfl
   | some v=>
    obtain⟨x,hx,hk⟩:=h2 k v hf;exact absurd hk (g2 x hx)
  rw[hn];exact zcy Tryz.underlying271 Tryz.underlying3 (.i k) (.i 0) (zbv k) es clock g1 w (by kernel_rfl) r hb
 ·obtain⟨k',v',e1,e2,e3⟩:=h1 e (List.mem_of_getElem? g2)
  rw[g3]at e1
  cases e1
  rw[e3];rw[e2]at g1;exact yS Tryz.underlying271 Tryz.underlying3 (.i k) (.i v') (zbv k) es clock _ g1 w r hb
structure zhx (r:Nat)(w w':World):Prop where
 os:w'.os=w.os
 tape:w'.tape=w.tape
 output:w'.output=w.output
 size:w'.heap.size=w.heap.size
 out:∀k,k≠r->w'.heap[k]?=w.heap[k]?
theorem zbo.upd {w:World}{r:Nat}{f:Int->Option Int}(h:zbo w r f)(k v:Int) :
 ∃w',(Instr.mapUpdate 271 (.map (some r)) (.i k) (.i v)).run Tryz.prog w=.ok () w'/\zbo w' r (fun q=>if q=k then some v else f q)/\zhx r w w':=by
 obtain⟨es,clock,hb,h1,h2,h3⟩:=h.ex;have hm:=Tryz.underlying271;have hd:=Tryz.underlying3
 rcases MapKept.findNow_spec (zbv k) es.toList 0 (zbo.keys h1) with⟨g1,g2⟩|⟨j,e,g1,g2,g3⟩
 ·refine⟨{ w with heap:=w.heap.setIfInBounds r (.map (es.push ⟨.i k,.i v,clock⟩) (clock+1)) },?_,⟨_,_,(MapKept.heap_set hb).1,?_,?_,?_⟩,rfl,rfl,rfl,by simp,fun q hq=>(MapKept.heap_set hb).2 q hq⟩
  ·simp[Instr.mapUpdate,run_underlying hm,MapKept.run_getObj_map hb,MapKept.run_checkKey hd (zbv k),MapKept.run_findKey hd g1,MapKept.run_setObj_map _ hb,Result.andThen]
  ·intro x hx
   rw[Array.toList_push,List.mem_append,List.mem_singleton]at hx
   rcases hx with hx|rfl
   ·obtain⟨k',v',e1,e2,e3⟩:=h1 x hx
    refine⟨k',v',e1,e2,?_⟩
    have:k'≠k:=by rintro rfl;exact g2 x hx e1
    simp only[if_neg this];exact e3
   ·exact⟨k,v,rfl,rfl,by simp⟩
  ·intro q u hq
   by_cases e:q=k
   ·subst e
    exact⟨⟨.i q,.i v,clock⟩,by simp,rfl⟩
   ·rw[if_neg e]at hq
    obtain⟨x,hx,hk⟩:=h2 q u hq;exact⟨x,by simp[Array.toList_push];exact Or.inl (by simpa using hx),hk⟩
  ·intro i j' x y hx hy hxy
   rw[Array.getElem?_push]at hx hy
   by_cases e1:i=es.size
   ·by_cases e2:j'=es.size
    ·omega
    ·rw[if_pos e1]at hx
     rw[if_neg e2]at hy;have hm:y∈es.toList:=by rw[<- Array.mem_def];exact Array.mem_of_getElem? hy
     cases hx
     exact absurd hxy.symm (g2 y hm)
   ·by_cases e2:j'=es.size
    ·rw[if_neg e1]at hx
     rw[if_pos e2]at hy;have hm:x∈es.toList:=by rw[<- Array.mem_def];exact Array.mem_of_getElem? hx
     cases hy
     exact absurd hxy (g2 x hm)
    ·rw[if_neg e1]at hx
     rw[if_neg e2]at hy;exact h3 i j' x y hx hy hxy
 ·have hj:es[j]?=some e:=by simpa using g2
  refine⟨{ w with heap:=w.heap.setIfInBounds r (.map (es.modify j fun x=>{ x with key:=.i k,val:=.i v }) clock) },?_,⟨_,_,(MapKept.heap_set hb).1,?_,?_,?_⟩,rfl,rfl,rfl,by simp,fun q hq=>(MapKept.heap_set hb).2 q hq⟩
  ·simp[Instr.mapUpdate,run_underlying hm,MapKept.run_getObj_map hb,MapKept.run_checkKey hd (zbv k),MapKept.run_findKey hd g1,hj,g3,MapKept.run_keyThatStays (zbv k),MapKept.run_setObj_map _ hb,Result.andThen]
  ·intro x hx
   obtain⟨i,hi,rfl⟩:=List.mem_iff_getElem.1 hx;have hi':i<es.size:=by simpa using hi
   simp only[Array.getElem_toList,Array.getElem_modify]
   by_cases e':j=i
   ·subst e'
    simp only[if_true];exact⟨k,v,rfl,rfl,by simp⟩
   ·simp only[if_neg e']
    obtain⟨k',v',e1,e2,e3⟩:=h1 es[i] (by simp)
    have ek:k'≠k:=by
     rintro rfl;exact e' (h3 j i e es[i] hj (Array.getElem?_eq_getElem hi') (g3.trans e1.symm))
    exact⟨k',v',e1,e2,by rw[if_neg ek];exact e3⟩
  ·intro q u hq
   have hj':j<es.size:=(gES hj).1
   by_cases e':q=k
   ·subst e'
    refine⟨(es.modify j fun x=>{ x with key:=.i q,val:=.i v })[j]'(by simpa using hj'),?_,?_⟩
    ·rw[<- Array.mem_def];exact Array.getElem_mem _
    ·rw[Array.getElem_modify];simp
   ·rw[if_neg e']at hq
    obtain⟨x,hx,hk⟩:=h2 q u hq;obtain⟨i,hi,rfl⟩:=List.mem_iff_getElem.1 hx;have hi':i<es.size:=by simpa using hi
    have hij:j≠i:=by
     rintro rfl;rw[Array.getElem_toList]at hk;rw[Array.getElem?_eq_getElem hi']at hj
     cases hj
     rw[g3]at hk
     cases hk
     exact e' rfl
    refine⟨(es.modify j fun x=>{ x with key:=.i k,val:=.i v })[i]'(by simpa using hi'),?_,?_⟩
    ·rw[<- Array.mem_def];exact Array.getElem_mem _
    ·rw[Array.getElem_modify,if_neg hij];simpa using hk
  ·have hkey:∀(i:Nat) (x:MapEntry),(es.modify j fun x=>{ x with key:=.i k,val:=.i v })[i]?=some x->∃y,es[i]?=some y/\x.key=y.key:=by
    intro i x hx;obtain⟨hi,rfl⟩:=gES hx;have hi':i<es.size:=by simpa using hi
    refine⟨es[i],Array.getElem?_eq_getElem hi',?_⟩;rw[Array.getElem_modify]
    by_cases e':j=i
    ·subst e'
     rw[Array.getElem?_eq_getElem hi']at hj
     cases hj
     simp[g3]
    ·rw[if_neg e']
   intro i j' x y hx hy hxy;obtain⟨x',hx',ex⟩:=hkey i x hx;obtain⟨y',hy',ey⟩:=hkey j' y hy;exact h3 i j' x' y' hx' hy' (ex.symm.trans (hxy.trans ey))
theorem Tryz.zdi:(Tryz.prog.info? 9).map (fun i=>(i.zero,i.size,i.bytes))=some (some (.s ByteArray.empty),1,16):=by kernel_rfl
theorem zS (w:World)(o1 o2:Obj):((w.alloc o1).alloc o2).heap[w.heap.size]?=some o1/\((w.alloc o1).alloc o2).heap[w.heap.size+1]?=some o2:=by
 refine⟨(Below.heap_alloc _ _ _ (by simp)).trans (alloc_at _ _),?_⟩;have h:=alloc_at (w.alloc o1) o2
 simpa using h
theorem qL (a:OA)(cap:Nat)(ss:List Shp)(v:BA)(w:World)(hw:yX w a ss) :
 Calls Tryz.prog 158 #[.l a ss.length cap,.s v] w fun e w'=>∃fa fcap,e=.returned (.tuple #[.agg #[.s (shapeOf ss v).kd,.l fa (shapeOf ss v).fs.length fcap],.bool (zJ ss v)]) /\
  yc w fa (shapeOf ss v).fs/\Bw w w':=by
 have hl:=hw.len;unfold maxLen at hl;go_enter Tryz.func158,Tryz.ntmps158
 go_wp2
 go_loopw [10] (fun i wr=>∃k:Nat,k<=ss.length/\i=.i k/\zJ (ss.take k) v=false/\Below (w.heap.size+1) (w.alloc (.cells #[.s ByteArray.empty,.l none 0 0] 133)) wr) (fun i _=>ss.length-(intOf i).toNat)
 case atStart=>exact⟨0,Nat.zero_le _,rfl,rfl,bRf _ _⟩
 case round=>
  obtain⟨k,hk,rfl,hno,hbl⟩:=hrel;have hsz:w.heap.size<wr.heap.size:=by have:=hbl.size;simp at this;omega
  have hB0:Bw w wr:=(bAl _ _).trans (hbl.mono (by omega));have hX0:wr.cell? (aD w.heap.size 0)=some (.s ByteArray.empty):=(hbl.cell (p:=(aD w.heap.size 0)) (by simp)).trans (by rw[World.cell?_alloc_at _ _ _ _ rfl];rfl);have hX1:wr.cell? (aD w.heap.size 1)=some (.l none 0 0):=(hbl.cell (p:=(aD w.heap.size 1)) (by simp)).trans (by rw[World.cell?_alloc_at _ _ _ _ rfl];rfl);have hF0:wr.frozen? (aD w.heap.size 0)=false:=(hbl.frozen (p:=(aD w.heap.size 0)) (by simp)).trans (by rw[World.frozen?_alloc_at _ _ _ _ rfl]);have hF1:wr.frozen? (aD w.heap.size 1)=false:=(hbl.frozen (p:=(aD w.heap.size 1)) (by simp)).trans (by rw[World.frozen?_alloc_at _ _ _ _ rfl])
  by_cases hlt:k<ss.length
  ·obtain⟨b,off,rfl,hb,hr⟩:=hw.rows (by rintro rfl;simp at hlt)
   obtain⟨fa,fcap,hs⟩:=hr k hlt;have hck:=(hB0.cell (p:=(aD b (off+k*2))) hb).trans hs.kind;have hcl:=(hB0.cell (p:=(aD b (off+k*2+1))) hb).trans hs.list;have hfl:=hs.zdS;clear hw hr hs
   by_cases he:ss[k].kd=v
   ·have hbe:(ss[k].kd.toList == v.toList)=true:=by rw[beq_toList];simpa using he
    have HA:Hid (zJ ss v=true):=zjD ss v k hlt he;have HB:Hid (shapeOf ss v=ss[k]):=zgd ss v k hlt hno he;clear he hno
    go_wp2
    refine bodyPost_ret (v:=.tuple #[.agg #[.s ss[k].kd,.l fa ss[k].fs.length fcap],.bool true]) (by simp[results,Tryz.results158,go_sem,hX0,hX1,hsz]) rfl ⟨fa,fcap,by rw[HA.o,HB.o],by rw[HB.o];exact hfl,?_⟩;exact((hB0.setCell (Nat.le_refl _) _).setCell (Nat.le_refl _) _).alloc (by simp[World.setCell];omega) _
   ·have hbe:(ss[k].kd.toList == v.toList)=false:=by rw[beq_toList];simpa using he
    have HS:Hid (zJ (ss.take (k+1)) v=false):=by unfold Hid;rw[zgH ss v k hlt,hno,decide_eq_false he];rfl
    clear he hno hX0 hX1 hF0 hF1
    go_wp2
    go_roundw
    case rel=>exact⟨k+1,by omega,by go_num,HS.o,hbl.alloc (by omega) _⟩
    case measure=>simp[intOf];omega
  ·have HA:Hid (zJ ss v=false):=by rw[<- zim ss v k (by omega)];exact hno
   have HB:Hid (shapeOf ss v=zcL):=zl2 ss v HA.o;clear hno hw
   go_wp2
   refine bodyPost_ret (v:=.tuple #[.agg #[.s ByteArray.empty,.l none 0 0],.bool false]) (by simp[results,Tryz.results158,go_sem,hX0,hX1];rfl) rfl ⟨none,0,by rw[HA.o,HB.o];rfl,by rw[HB.o];exact⟨by simp[zcL,maxLen],fun h=>absurd rfl h⟩,?_⟩;exact(hB0.setCell (Nat.le_refl _) _).setCell (Nat.le_refl _) _
theorem zk (s:BA)(w:World)(hs:s.size<=maxLen) :
 Calls Tryz.prog 25 #[.s s] w fun e w'=>e=.returned (.bool (zx s))/\w'=w:=by
 unfold maxLen at hs
 by_cases hb:1<=s.size/\s.size<=16
 ·obtain⟨hb1,hb2⟩:=hb
  go_enter Tryz.func25,Tryz.ntmps25
  go_wp2_with (go_at_call 26;refine(zbP _ _ _ _ (by omega) (by omega)).mono ?_;rintro e w'⟨rfl,rfl⟩)
  go_loop [3] (fun i=>∃k:Nat,k<=s.size/\i=.i k/\(s.data.toList.take k).all zK=true) (fun i=>s.size-(intOf i).toNat)
  case atStart=>exact⟨0,Nat.zero_le _,rfl,rfl⟩
  case round=>
   obtain⟨k,hk,rfl,hall⟩:=hrel
   by_cases hlt:k<s.size
   ·have HS:Hid ((s.data.toList.take (k+1)).all zK=(true&&zK s[k])):=by rw[zaT _ s k hlt,hall];rfl
    have HN:=fun h=>zcg zK s k hlt h
    have HN':Hid (zK s[k]=false->y9 s=false):=HN;clear HN hall
    by_cases hc:zK s[k]=true
    ·go_wp2_with (go_at_call 70;refine(zaa _ _).mono ?_;rintro e w'⟨rfl,rfl⟩)
     go_round
     case rel=>exact⟨k+1,by omega,by go_num,by rw[HS.o,hc];rfl⟩
     case measure=>simp[intOf];omega
    ·have hc':zK s[k]=false:=by simpa using hc
     clear hc
     go_wp2_with (go_at_call 70;refine(zaa _ _).mono ?_;rintro e w'⟨rfl,rfl⟩)
     go_ret;refine⟨ze ?_,rfl⟩
     simp[zx,HN'.out hc']
   ·have HA:Hid (y9 s=true):=by unfold y9 Hid;rw[<- zaw s k (by omega)];exact hall
    clear hall
    go_wp2
    go_ret;refine⟨ze ?_,rfl⟩;simp only[zx,HA.o];simp;omega
 ·go_enter Tryz.func25,Tryz.ntmps25
  go_wp2_with (go_at_call 26;refine(zdz _ _ _ _ (by omega)).mono ?_;rintro e w'⟨rfl,rfl⟩)
  go_ret;refine⟨ze ?_,rfl⟩
  simp[zx];omega
theorem jW (s:BA)(w:World)(hs:s.size<=maxLen) :
 Calls Tryz.prog 134 #[.s s] w fun e w'=>e=.returned (.bool (y9 s))/\w'=w:=by
 unfold maxLen at hs;go_enter Tryz.func134,Tryz.ntmps134
 go_wp2
 go_loop [7] (fun i=>∃k:Nat,k<=s.size/\i=.i k/\(s.data.toList.take k).all zK=true) (fun i=>s.size-(intOf i).toNat)
 case atStart=>exact⟨0,Nat.zero_le _,rfl,rfl⟩
 case round=>
  obtain⟨k,hk,rfl,hall⟩:=hrel
  by_cases hlt:k<s.size
  ·have HS:Hid ((s.data.toList.take (k+1)).all zK=(true&&zK s[k])):=by rw[zaT _ s k hlt,hall];rfl
   have HN:Hid (zK s[k]=false->y9 s=false):=fun h=>zcg zK s k hlt h
   clear hall
   by_cases hd:48<=(s[k].toNat:Int)/\(s[k].toNat:Int)<=57
   ·have HC:Hid (zK s[k]=true):=by simp[zK,Hid];omega
    obtain⟨hd1,hd2⟩:=hd
    go_wp2_with (go_at_call 182;refine(ziy _ _ hd1 hd2).mono ?_;rintro e w'⟨rfl,rfl⟩)
    go_round
    case rel=>exact⟨k+1,by omega,by go_num,by rw[HS.o,HC.o];rfl⟩
    case measure=>simp[intOf];omega
   ·have HD:Hid (¬(48<=(s[k].toNat:Int)/\(s[k].toNat:Int)<=57)):=hd
    clear hd
    by_cases h45:(s[k].toNat:Int)=45
    ·have HC:Hid (zK s[k]=true):=by simp[zK,Hid];omega
     have h45':((s[k].toNat:Int) != 45)=false:=by simp[h45]
     clear h45
     go_wp2_with (go_at_call 182;refine(zdb _ _ HD.o).mono ?_;rintro e w'⟨rfl,rfl⟩)
     go_round
     case rel=>exact⟨k+1,by omega,by go_num,by rw[HS.o,HC.o];rfl⟩
     case measure=>simp[intOf];omega
    ·have h45':((s[k].toNat:Int) != 45)=true:=by simp[h45]
     by_cases h97:(s[k].toNat:Int)<97
     ·have HC:Hid (zK s[k]=false):=by have:=HD.o;simp[zK,Hid];omega
      clear h45
      go_wp2_with (go_at_call 182;refine(zdb _ _ HD.o).mono ?_;rintro e w'⟨rfl,rfl⟩)
      go_ret;exact⟨ze (HN.o HC.o).symm,rfl⟩
     ·by_cases h122:122<(s[k].toNat:Int)
      ·have HC:Hid (zK s[k]=false):=by have:=HD.o;simp[zK,Hid];omega
       clear h45
       go_wp2_with (go_at_call 182;refine(zdb _ _ HD.o).mono ?_;rintro e w'⟨rfl,rfl⟩)
       go_ret;exact⟨ze (HN.o HC.o).symm,rfl⟩
      ·have HC:Hid (zK s[k]=true):=by simp[zK,Hid];omega
       clear h45
       go_wp2_with (go_at_call 182;refine(zdb _ _ HD.o).mono ?_;rintro e w'⟨rfl,rfl⟩)
       go_round
       case rel=>exact⟨k+1,by omega,by go_num,by rw[HS.o,HC.o];rfl⟩
       case measure=>simp[intOf];omega
  ·have HA:Hid (y9 s=true):=by unfold y9 Hid;rw[<- zaw s k (by omega)];exact hall
   clear hall
   go_wp2
   go_ret;exact⟨ze HA.o.symm,rfl⟩
theorem zH (s:BA)(w:World)(hs:s.size<=maxLen) :
 Calls Tryz.prog 86 #[.s s] w fun e w'=>e=.returned (.bool (zx s))/\w'=w:=by
 have hs':=hs;unfold maxLen at hs'
 by_cases h0:s.size=0
 ·rw[zdI s h0]
  go_enter Tryz.func86,Tryz.ntmps86
  go_wp2
  go_ret;exact⟨rfl,rfl⟩
 ·have hne:s.toList.isEmpty=false:=by rw[zy];simp[h0]
  by_cases h16:s.size<=16
  ·have HF:Hid (zx s=y9 s):=by
    simp only[Hid,zx];rw[decide_eq_true (show 1<=s.size by omega),decide_eq_true h16];simp
   go_enter Tryz.func86,Tryz.ntmps86
   go_wp2_with (go_at_call 134;refine(jW _ _ hs).mono ?_;rintro e w'⟨rfl,rfl⟩)
   go_ret;exact⟨ze HF.o.symm,rfl⟩
  ·go_enter Tryz.func86,Tryz.ntmps86
   go_wp2_with (go_at_call 134;refine(jW _ _ hs).mono ?_;rintro e w'⟨rfl,rfl⟩)
   go_ret;refine⟨ze ?_,rfl⟩;simp only[zx];rw[decide_eq_false h16];simp
end Go.Proofs.YtbfgkhgmnfghgaaGreat
