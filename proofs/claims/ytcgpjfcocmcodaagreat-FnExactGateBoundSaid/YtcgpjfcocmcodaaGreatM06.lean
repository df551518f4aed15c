import Derived.Test.YtcgpjfcocmcodaaGreatM05
set_option maxHeartbeats 1000000
namespace Go.Proofs.YtcgpjfcocmcodaaGreat
open Go.RowKit
structure zbU (fs:List Fld):Prop where
 small:∀i (h:i<fs.length),fs[i].Small/\fs[i].ws.length<=maxLen/\∀s∈fs[i].ws,s.size<=maxLen
theorem yg.smalls {w:World}{a:OA}{fs:List Fld}(h:yg w a fs):zbU fs:=
 ⟨fun i hi=>by
  obtain⟨b,off,_,_,hr⟩:=h.rows (by rintro rfl;simp at hi);obtain⟨wa,wcap,hf⟩:=hr i hi;exact⟨hf.small,hf.strs.len,hf.strs.small⟩⟩
structure zdX (ss:List Shp):Prop where
 small:∀i (h:i<ss.length),ss[i].kd.size<=maxLen/\ss[i].fs.length<=maxLen/\zbU ss[i].fs
theorem yT.smalls {w:World}{a:OA}{ss:List Shp}(h:yT w a ss):zdX ss:=
 ⟨fun i hi=>by
  obtain⟨b,off,_,_,hr⟩:=h.rows (by rintro rfl;simp at hi);obtain⟨fa,fcap,hs⟩:=hr i hi;exact⟨hs.small,hs.zdS.len,hs.zdS.smalls⟩⟩
structure zbg (w:World)(r:Nat)(f:Int->Option Int):Prop where
 ex:∃es clock,w.heap[r]?=some (.map es clock)/\(∀x∈es.toList,∃k v,x.key=.i k/\x.val=.i v/\f k=some v)/\(∀k v,f k=some v->∃x∈es.toList,x.key=.i k)/\∀(i j:Nat) (x y:MapEntry),es[i]?=some x->es[j]?=some y->x.key=y.key->i=j
theorem zbg.mono {w w':World}{r:Nat}{f:Int->Option Int}(h:zbg w r f)(hb:w'.heap[r]?=w.heap[r]?):zbg w' r f:=by
 obtain⟨es,clock,h1,h2⟩:=h.ex;exact⟨es,clock,hb.trans h1,h2⟩
theorem zbg.lt {w:World}{r:Nat}{f:Int->Option Int}(h:zbg w r f):r<w.heap.size:=by
 obtain⟨es,clock,h1,_⟩:=h.ex;exact(gES h1).1
theorem zbt (k:Int):MapKept.IsKey (.int .i64) (.i k):=by simp[MapKept.IsKey]
theorem zbg.keys {es:Array MapEntry}{f:Int->Option Int}(h:∀x∈es.toList,∃k v,x.key=.i k/\x.val=.i v/\f k=some v):∀x∈es.toList,MapKept.IsKey (.int .i64) x.key:=by
 intro x hx;obtain⟨k,v,h1,_⟩:=h x hx;rw[h1];exact zbt k
theorem zbg.look {w:World}{r:Nat}{f:Int->Option Int}(h:zbg w r f)(k:Int) :
 (Instr.lookup 266 (.map (some r)) (.i k) true).run Tryz.prog w=.ok (.tuple #[.i ((f k).getD 0),.bool (f k).isSome]) w:=by
 obtain⟨es,clock,hb,h1,h2,h3⟩:=h.ex
 rcases MapKept.findNow_spec (zbt k) es.toList 0 (zbg.keys h1) with⟨g1,g2⟩|⟨j,e,g1,g2,g3⟩
 ·have hn:f k=none:=by
   cases hf:f k with
   | none=>rfl
   | some v=>
    obtain⟨x,hx,hk⟩:=h2 k v hf;exact absurd hk (g2 x hx)
  rw[hn];exact zcs Tryz.underlying266 Tryz.underlying3 (.i k) (.i 0) (zbt k) es clock g1 w (by kernel_rfl) r hb
 ·obtain⟨k',v',e1,e2,e3⟩:=h1 e (List.mem_of_getElem? g2)
  rw[g3]at e1
  cases e1
  rw[e3];rw[e2]at g1;exact yQ Tryz.underlying266 Tryz.underlying3 (.i k) (.i v') (zbt k) es clock _ g1 w r hb
structure zhp (r:Nat)(w w':World):Prop where
 os:w'.os=w.os
 tape:w'.tape=w.tape
 output:w'.output=w.output
 size:w'.heap.size=w.heap.size
 out:∀k,k≠r->w'.heap[k]?=w.heap[k]?
theorem zbg.upd {w:World}{r:Nat}{f:Int->Option Int}(h:zbg w r f)(k v:Int) :
 ∃w',(Instr.mapUpdate 266 (.map (some r)) (.i k) (.i v)).run Tryz.prog w=.ok () w'/\zbg w' r (fun q=>if q=k then some v else f q)/\zhp r w w':=by
 obtain⟨es,clock,hb,h1,h2,h3⟩:=h.ex;have hm:=Tryz.underlying266;have hd:=Tryz.underlying3
 rcases MapKept.findNow_spec (zbt k) es.toList 0 (zbg.keys h1) with⟨g1,g2⟩|⟨j,e,g1,g2,g3⟩
 ·refine⟨{ w with heap:=w.heap.setIfInBounds r (.map (es.push ⟨.i k,.i v,clock⟩) (clock+1)) },?_,⟨_,_,(MapKept.heap_set hb).1,?_,?_,?_⟩,rfl,rfl,rfl,by simp,fun q hq=>(MapKept.heap_set hb).2 q hq⟩
  ·simp[Instr.mapUpdate,run_underlying hm,MapKept.run_getObj_map hb,MapKept.run_checkKey hd (zbt k),MapKept.run_findKey hd g1,MapKept.run_setObj_map _ hb,Result.andThen]
  ·intro x hx
   rw[Array.toList_push,List.mem_append,List.mem_singleton]at hx
   rcases hx with hx|rfl
   ·obtain⟨k',v',e1,e2,e3⟩:=h1 x hx
    refine⟨k',v',e1,e2,?_⟩
    have:k'≠k:=by rintro rfl;exact g2 x hx e1
    simp only[if_neg this];exact e3
   ·exact⟨k,v,rfl,rfl,by simp⟩
  ·intro q u hq
   by_cases e:q=k
   ·subst e
    exact⟨⟨.i q,.i v,clock⟩,by simp,rfl⟩
   ·rw[if_neg e]at hq
    obtain⟨x,hx,hk⟩:=h2 q u hq;exact⟨x,by simp[Array.toList_push];exact Or.inl (by simpa using hx),hk⟩
  ·intro i j' x y hx hy hxy
   rw[Array.getElem?_push]at hx hy
   by_cases e1:i=es.size
   ·by_cases e2:j'=es.size
    ·omega
    ·rw[if_pos e1]at hx
     rw[if_neg e2]at hy;have hm:y∈es.toList:=by rw[<- Array.mem_def];exact Array.mem_of_getElem? hy
     cases hx
     exact absurd hxy.symm (g2 y hm)
   ·by_cases e2:j'=es.size
    ·rw[if_neg e1]at hx
     rw[if_pos e2]at hy;have hm:x∈es.toList:=by rw[<- Array.mem_def];exact Array.mem_of_getElem? hx
     cases hy
     exact absurd hxy (g2 x hm)
    ·rw[if_neg e1]at hx
     rw[if_neg e2]at hy;exact h3 i j' x y hx hy hxy
 ·have hj:es[j]?=some e:=by simpa using g2
  refine⟨{ w with heap:=w.heap.setIfInBounds r (.map (es.modify j fun x=>{ x with key:=.i k,val:=.i v }) clock) },?_,⟨_,_,(MapKept.heap_set hb).1,?_,?_,?_⟩,rfl,rfl,rfl,by simp,fun q hq=>(MapKept.heap_set hb).2 q hq⟩
  ·simp[Instr.mapUpdate,run_underlying hm,MapKept.run_getObj_map hb,MapKept.run_checkKey hd (zbt k),MapKept.run_findKey hd g1,hj,g3,MapKept.run_keyThatStays (zbt k),MapKept.run_setObj_map _ hb,Result.andThen]
  ·intro x hx
   obtain⟨i,hi,rfl⟩:=List.mem_iff_getElem.1 hx;have hi':i<es.size:=by simpa using hi
   simp only[Array.getElem_toList,Array.getElem_modify]
   by_cases e':j=i
   ·subst e'
    simp only[if_true];exact⟨k,v,rfl,rfl,by simp⟩
   ·simp only[if_neg e']
    obtain⟨k',v',e1,e2,e3⟩:=h1 es[i] (by simp)
    have ek:k'≠k:=by
     rintro rfl;exact e' (h3 j i e es[i] hj (Array.getElem?_eq_getElem hi') (g3.trans e1.symm))
    exact⟨k',v',e1,e2,by rw[if_neg ek];exact e3⟩
  ·intro q u hq
   have hj':j<es.size:=(gES hj).1
   by_cases e':q=k
   ·subst e'
    refine⟨(es.modify j fun x=>{ x with key:=.i q,val:=.i v })[j]'(by simpa using hj'),?_,?_⟩
    ·rw[<- Array.mem_def];exact Array.getElem_mem _
    ·rw[Array.getElem_modify];simp
   ·rw[if_neg e']at hq
    obtain⟨x,hx,hk⟩:=h2 q u hq;obtain⟨i,hi,rfl⟩:=List.mem_iff_getElem.1 hx;have hi':i<es.size:=by simpa using hi
    have hij:j≠i:=by
     rintro rfl;rw[Array.getElem_toList]at hk;rw[Array.getElem?_eq_getElem hi']at hj
     cases hj
     rw[g3]at hk
     cases hk
     exact e' rfl
    refine⟨(es.modify j fun x=>{ x with key:=.i k,val:=.i v })[i]'(by simpa using hi'),?_,?_⟩
    ·rw[<- Array.mem_def];exact Array.getElem_mem _
    ·rw[Array.getElem_modify,if_neg hij];simpa using hk
  ·have hkey:∀(i:Nat) (x:MapEntry),(es.modify j fun x=>{ x with key:=.i k,val:=.i v })[i]?=some x->∃y,es[i]?=some y/\x.key=y.key:=by
    intro i x hx;obtain⟨hi,rfl⟩:=gES hx;have hi':i<es.size:=by simpa using hi
    refine⟨es[i],Array.getElem?_eq_getElem hi',?_⟩;rw[Array.getElem_modify]
    by_cases e':j=i
    ·subst e'
     rw[Array.getElem?_eq_getElem hi']at hj
     cases hj
     simp[g3]
    ·rw[if_neg e']
   intro i j' x y hx hy hxy;obtain⟨x',hx',ex⟩:=hkey i x hx;obtain⟨y',hy',ey⟩:=hkey j' y hy;exact h3 i j' x' y' hx' hy' (ex.symm.trans (hxy.trans ey))
theorem Tryz.zcV:(Tryz.prog.info? 9).map (fun i=>(i.zero,i.size,i.bytes))=some (some (.s ByteArray.empty),1,16):=by kernel_rfl
theorem zQ (w:World)(o1 o2:Obj):((w.alloc o1).alloc o2).heap[w.heap.size]?=some o1/\((w.alloc o1).alloc o2).heap[w.heap.size+1]?=some o2:=by
 refine⟨(Below.heap_alloc _ _ _ (by simp)).trans (alloc_at _ _),?_⟩;have h:=alloc_at (w.alloc o1) o2
 simpa using h
theorem qJ (a:OA)(cap:Nat)(ss:List Shp)(v:BA)(w:World)(hw:yT w a ss) :
 Calls Tryz.prog 148 #[.l a ss.length cap,.s v] w fun e w'=>∃fa fcap,e=.returned (.tuple #[.agg #[.s (shapeOf ss v).kd,.l fa (shapeOf ss v).fs.length fcap],.bool (zJ ss v)]) /\
  yg w fa (shapeOf ss v).fs/\Bw w w':=by
 have hl:=hw.len;unfold maxLen at hl;go_enter Tryz.func148,Tryz.ntmps148
 go_wp2
 go_loopw [10] (fun i wr=>∃k:Nat,k<=ss.length/\i=.i k/\zJ (ss.take k) v=false/\Below (w.heap.size+1) (w.alloc (.cells #[.s ByteArray.empty,.l none 0 0] 134)) wr) (fun i _=>ss.length-(intOf i).toNat)
 case atStart=>exact⟨0,Nat.zero_le _,rfl,rfl,bRf _ _⟩
 case round=>
  obtain⟨k,hk,rfl,hno,hbl⟩:=hrel;have hsz:w.heap.size<wr.heap.size:=by have:=hbl.size;simp at this;omega
  have hB0:Bw w wr:=(bAl _ _).trans (hbl.mono (by omega));have hX0:wr.cell? (aD w.heap.size 0)=some (.s ByteArray.empty):=(hbl.cell (p:=(aD w.heap.size 0)) (by simp)).trans (by rw[World.cell?_alloc_at _ _ _ _ rfl];rfl);have hX1:wr.cell? (aD w.heap.size 1)=some (.l none 0 0):=(hbl.cell (p:=(aD w.heap.size 1)) (by simp)).trans (by rw[World.cell?_alloc_at _ _ _ _ rfl];rfl);have hF0:wr.frozen? (aD w.heap.size 0)=false:=(hbl.frozen (p:=(aD w.heap.size 0)) (by simp)).trans (by rw[World.frozen?_alloc_at _ _ _ _ rfl]);have hF1:wr.frozen? (aD w.heap.size 1)=false:=(hbl.frozen (p:=(aD w.heap.size 1)) (by simp)).trans (by rw[World.frozen?_alloc_at _ _ _ _ rfl])
  by_cases hlt:k<ss.length
  ·obtain⟨b,off,rfl,hb,hr⟩:=hw.rows (by rintro rfl;simp at hlt)
   obtain⟨fa,fcap,hs⟩:=hr k hlt;have hck:=(hB0.cell (p:=(aD b (off+k*2))) hb).trans hs.kind;have hcl:=(hB0.cell (p:=(aD b (off+k*2+1))) hb).trans hs.list;have hfl:=hs.zdS;clear hw hr hs
   by_cases he:ss[k].kd=v
   ·have hbe:(ss[k].kd.toList == v.toList)=true:=by rw[beq_toList];simpa using he
    have HA:Hid (zJ ss v=true):=zkg ss v k hlt he;have HB:Hid (shapeOf ss v=ss[k]):=zgc ss v k hlt hno he;clear he hno
    go_wp2
    refine bodyPost_ret (v:=.tuple #[.agg #[.s ss[k].kd,.l fa ss[k].fs.length fcap],.bool true]) (by simp[results,Tryz.results148,go_sem,hX0,hX1,hsz]) rfl ⟨fa,fcap,by rw[HA.o,HB.o],by rw[HB.o];exact hfl,?_⟩;exact((hB0.setCell (Nat.le_refl _) _).setCell (Nat.le_refl _) _).alloc (by simp[World.setCell];omega) _
   ·have hbe:(ss[k].kd.toList == v.toList)=false:=by rw[beq_toList];simpa using he
    have HS:Hid (zJ (ss.take (k+1)) v=false):=by unfold Hid;rw[zgs ss v k hlt,hno,decide_eq_false he];rfl
    clear he hno hX0 hX1 hF0 hF1
    go_wp2
    go_roundw
    case rel=>exact⟨k+1,by omega,by go_num,HS.o,hbl.alloc (by omega) _⟩
    case measure=>simp[intOf];omega
  ·have HA:Hid (zJ ss v=false):=by rw[<- zii ss v k (by omega)];exact hno
   have HB:Hid (shapeOf ss v=zcB):=zlX ss v HA.o;clear hno hw
   go_wp2
   refine bodyPost_ret (v:=.tuple #[.agg #[.s ByteArray.empty,.l none 0 0],.bool false]) (by simp[results,Tryz.results148,go_sem,hX0,hX1];rfl) rfl ⟨none,0,by rw[HA.o,HB.o];rfl,by rw[HB.o];exact⟨by simp[zcB,maxLen],fun h=>absurd rfl h⟩,?_⟩;exact(hB0.setCell (Nat.le_refl _) _).setCell (Nat.le_refl _) _
theorem zk (s:BA)(w:World)(hs:s.size<=maxLen) :
 Calls Tryz.prog 25 #[.s s] w fun e w'=>e=.returned (.bool (zx s))/\w'=w:=by
 unfold maxLen at hs
 by_cases hb:1<=s.size/\s.size<=16
 ·obtain⟨hb1,hb2⟩:=hb
  go_enter Tryz.func25,Tryz.ntmps25
  go_wp2_with (go_at_call 26;refine(zbH _ _ _ _ (by omega) (by omega)).mono ?_;rintro e w'⟨rfl,rfl⟩)
  go_loop [3] (fun i=>∃k:Nat,k<=s.size/\i=.i k/\(s.data.toList.take k).all zK=true) (fun i=>s.size-(intOf i).toNat)
  case atStart=>exact⟨0,Nat.zero_le _,rfl,rfl⟩
  case round=>
   obtain⟨k,hk,rfl,hall⟩:=hrel
   by_cases hlt:k<s.size
   ·have HS:Hid ((s.data.toList.take (k+1)).all zK=(true&&zK s[k])):=by rw[zaU _ s k hlt,hall];rfl
    have HN:=fun h=>zb4 zK s k hlt h
    have HN':Hid (zK s[k]=false->yV s=false):=HN;clear HN hall
    by_cases hc:zK s[k]=true
    ·go_wp2_with (go_at_call 75;refine(j4 _ _).mono ?_;rintro e w'⟨rfl,rfl⟩)
     go_round
     case rel=>exact⟨k+1,by omega,by go_num,by rw[HS.o,hc];rfl⟩
     case measure=>simp[intOf];omega
    ·have hc':zK s[k]=false:=by simpa using hc
     clear hc
     go_wp2_with (go_at_call 75;refine(j4 _ _).mono ?_;rintro e w'⟨rfl,rfl⟩)
     go_ret;refine⟨ze ?_,rfl⟩
     simp[zx,HN'.out hc']
   ·have HA:Hid (yV s=true):=by unfold yV Hid;rw[<- zat s k (by omega)];exact hall
    clear hall
    go_wp2
    go_ret;refine⟨ze ?_,rfl⟩;simp only[zx,HA.o];simp;omega
 ·go_enter Tryz.func25,Tryz.ntmps25
  go_wp2_with (go_at_call 26;refine(zdl _ _ _ _ (by omega)).mono ?_;rintro e w'⟨rfl,rfl⟩)
  go_ret;refine⟨ze ?_,rfl⟩
  simp[zx];omega
theorem jV (s:BA)(w:World)(hs:s.size<=maxLen) :
 Calls Tryz.prog 94 #[.s s] w fun e w'=>e=.returned (.bool (yV s))/\w'=w:=by
 unfold maxLen at hs;go_enter Tryz.func94,Tryz.ntmps94
 go_wp2
 go_loop [7] (fun i=>∃k:Nat,k<=s.size/\i=.i k/\(s.data.toList.take k).all zK=true) (fun i=>s.size-(intOf i).toNat)
 case atStart=>exact⟨0,Nat.zero_le _,rfl,rfl⟩
 case round=>
  obtain⟨k,hk,rfl,hall⟩:=hrel
  by_cases hlt:k<s.size
  ·have HS:Hid ((s.data.toList.take (k+1)).all zK=(true&&zK s[k])):=by rw[zaU _ s k hlt,hall];rfl
   have HN:Hid (zK s[k]=false->yV s=false):=fun h=>zb4 zK s k hlt h
   clear hall
   by_cases hd:48<=(s[k].toNat:Int)/\(s[k].toNat:Int)<=57
   ·have HC:Hid (zK s[k]=true):=by simp[zK,Hid];omega
    obtain⟨hd1,hd2⟩:=hd
    go_wp2_with (go_at_call 142;refine(zh5 _ _ hd1 hd2).mono ?_;rintro e w'⟨rfl,rfl⟩)
    go_round
    case rel=>exact⟨k+1,by omega,by go_num,by rw[HS.o,HC.o];rfl⟩
    case measure=>simp[intOf];omega
   ·have HD:Hid (¬(48<=(s[k].toNat:Int)/\(s[k].toNat:Int)<=57)):=hd
    clear hd
    by_cases h45:(s[k].toNat:Int)=45
    ·have HC:Hid (zK s[k]=true):=by simp[zK,Hid];omega
     have h45':((s[k].toNat:Int) != 45)=false:=by simp[h45]
     clear h45
     go_wp2_with (go_at_call 142;refine(zc8 _ _ HD.o).mono ?_;rintro e w'⟨rfl,rfl⟩)
     go_round
     case rel=>exact⟨k+1,by omega,by go_num,by rw[HS.o,HC.o];rfl⟩
     case measure=>simp[intOf];omega
    ·have h45':((s[k].toNat:Int) != 45)=true:=by simp[h45]
     by_cases h97:(s[k].toNat:Int)<97
     ·have HC:Hid (zK s[k]=false):=by have:=HD.o;simp[zK,Hid];omega
      clear h45
      go_wp2_with (go_at_call 142;refine(zc8 _ _ HD.o).mono ?_;rintro e w'⟨rfl,rfl⟩)
      go_ret;exact⟨ze (HN.o HC.o).symm,rfl⟩
     ·by_cases h122:122<(s[k].toNat:Int)
      ·have HC:Hid (zK s[k]=false):=by have:=HD.o;simp[zK,Hid];omega
       clear h45
       go_wp2_with (go_at_call 142;refine(zc8 _ _ HD.o).mono ?_;rintro e w'⟨rfl,rfl⟩)
       go_ret;exact⟨ze (HN.o HC.o).symm,rfl⟩
      ·have HC:Hid (zK s[k]=true):=by simp[zK,Hid];omega
       clear h45
       go_wp2_with (go_at_call 142;refine(zc8 _ _ HD.o).mono ?_;rintro e w'⟨rfl,rfl⟩)
       go_round
       case rel=>exact⟨k+1,by omega,by go_num,by rw[HS.o,HC.o];rfl⟩
       case measure=>simp[intOf];omega
  ·have HA:Hid (yV s=true):=by unfold yV Hid;rw[<- zat s k (by omega)];exact hall
   clear hall
   go_wp2
   go_ret;exact⟨ze HA.o.symm,rfl⟩
theorem zH (s:BA)(w:World)(hs:s.size<=maxLen) :
 Calls Tryz.prog 40 #[.s s] w fun e w'=>e=.returned (.bool (zx s))/\w'=w:=by
 have hs':=hs;unfold maxLen at hs'
 by_cases h0:s.size=0
 ·rw[zdw s h0]
  go_enter Tryz.func40,Tryz.ntmps40
  go_wp2
  go_ret;exact⟨rfl,rfl⟩
 ·have hne:s.toList.isEmpty=false:=by rw[zy];simp[h0]
  by_cases h16:s.size<=16
  ·have HF:Hid (zx s=yV s):=by
    simp only[Hid,zx];rw[decide_eq_true (show 1<=s.size by omega),decide_eq_true h16];simp
   go_enter Tryz.func40,Tryz.ntmps40
   go_wp2_with (go_at_call 94;refine(jV _ _ hs).mono ?_;rintro e w'⟨rfl,rfl⟩)
   go_ret;exact⟨ze HF.o.symm,rfl⟩
  ·go_enter Tryz.func40,Tryz.ntmps40
   go_wp2_with (go_at_call 94;refine(jV _ _ hs).mono ?_;rintro e w'⟨rfl,rfl⟩)
   go_ret;refine⟨ze ?_,rfl⟩;simp only[zx];rw[decide_eq_false h16];simp
theorem zje {a b:Int}{p q:Bool}(h:a=b)(h2:p=q):Ending.returned (.tuple #[.i a,.bool p])=.returned (.tuple #[.i b,.bool q]):=by rw[h,h2]
def zay (s:BA):Int:=if zak s=true then zgF s else 0
theorem zjI (s:BA)(w:World)(h1:1<=s.size)(h7:s.size<=7)(hz:s.size<=1 \/ ¬(s[0].toNat:Int)=48) :
 Calls Tryz.prog 149 #[.s s] w fun e w'=>e=.returned (.tuple #[.i (zay s),.bool (zak s)])/\w'=w:=by
 have HF:Hid (zak s=za9 s):=zlB s h1 h7 hz;have hne:s.toList.isEmpty=false:=by rw[zy];exact decide_eq_false (by omega)
 rcases(show(¬(s[0].toNat:Int)=48) \/ (s.size<=1/\(s[0].toNat:Int)=48) by rcases hz with h|h <;> omega) with hz0|⟨hone,hz0⟩
 all_goals
  clear hz
  first
   | (have hz1:((s[0].toNat:Int) == 48)=true:=by simpa using hz0)
   | (have hz1:((s[0].toNat:Int) == 48)=false:=by simpa using hz0)
  clear hz0;go_enter Tryz.func149,Tryz.ntmps149
  go_wp2
  go_loop [4,25] (fun n i=>∃k:Nat,k<=s.size/\i=.i k/\(s.data.toList.take k).all digit=true/\n=.i (dec (s.data.toList.take k))) (fun _ i=>s.size-(intOf i).toNat)
  case atStart=>exact⟨0,Nat.zero_le _,rfl,rfl,rfl⟩
  case round=>
   obtain⟨k,hk,rfl,hall,rfl⟩:=hrel;have hlen:(s.data.toList.take k).length<=k:=List.length_take_le _ _;obtain⟨hd0,hd1⟩:=zfz _ hall k hlen
   by_cases hlt:k<s.size
   ·have hp:=zlq k (by omega)
    have hd2:dec (s.data.toList.take k)<10000000:=by omega
    clear hp hd1 hlen;have HS:Hid ((s.data.toList.take (k+1)).all digit=(true&&digit s[k])):=by rw[zaU _ s k hlt,hall];rfl
    have HD:Hid (dec (s.data.toList.take (k+1))=dec (s.data.toList.take k)*10+((s[k].toNat:Int)-48)):=by rw[zh1 s k hlt];exact znp _ _
    have HN:Hid (digit s[k]=false->za9 s=false):=fun h=>zb4 digit s k hlt h
    clear hall
    by_cases hd:48<=(s[k].toNat:Int)/\(s[k].toNat:Int)<=57
    ·have HC:Hid (digit s[k]=true):=by simp[digit,Hid];omega
     obtain⟨h48,h57⟩:=hd
     go_wp2_with (go_at_call 142;refine(zh5 _ _ h48 h57).mono ?_;rintro e w'⟨rfl,rfl⟩)
     go_round
     case rel=>exact⟨k+1,by omega,by go_num,by rw[HS.o,HC.o];rfl,by rw[HD.o]⟩
     case measure=>simp[intOf];omega
    ·have HC:Hid (digit s[k]=false):=by simp[digit,Hid];omega
     have HDD:Hid (¬(48<=(s[k].toNat:Int)/\(s[k].toNat:Int)<=57)):=hd;clear hd
     go_wp2_with (go_at_call 142;refine(zc8 _ _ HDD.o).mono ?_;rintro e w'⟨rfl,rfl⟩)
     go_ret2
     exact⟨zje (by unfold zay;rw[HF.o,HN.o HC.o];rfl) (by rw[HF.o,HN.o HC.o]),rfl⟩
   ·have HA:Hid (za9 s=true):=by unfold za9 Hid;rw[<- zat s k (by omega)];exact hall
    have HB:Hid (dec (s.data.toList.take k)=zgF s):=by rw[zat s k (by omega)];rfl
    clear hall hd0 hd1 hlen
    go_wp2
    go_ret2
    exact⟨zje (by unfold zay;rw[HF.o,HA.o,HB.o];rfl) (by rw[HF.o,HA.o]),rfl⟩
theorem zdr (s:BA)(w:World)(hs:s.size<=maxLen) :
 Calls Tryz.prog 149 #[.s s] w fun e w'=>e=.returned (.tuple #[.i (zay s),.bool (zak s)])/\w'=w:=by
 unfold maxLen at hs
 by_cases h0:s.size=0
 ·rw[zdw s h0]
  go_enter Tryz.func149,Tryz.ntmps149
  go_wp2
  go_ret2
  exact⟨rfl,rfl⟩
 have hne:s.toList.isEmpty=false:=by rw[zy];simp[h0]
 by_cases h7:s.size<=7
 ·by_cases hz:1<s.size/\(s[0].toNat:Int)=48
  ·obtain⟨hm,hz0⟩:=hz
   have HF:Hid (zak s=false):=zfT s hm hz0;have hz1:((s[0].toNat:Int) == 48)=true:=by simpa using hz0
   clear hz0;go_enter Tryz.func149,Tryz.ntmps149
   go_wp2
   go_ret2
   exact⟨zje (by unfold zay;rw[HF.o];rfl) HF.o.symm,rfl⟩
  ·exact zjI s w (by omega) h7 (by omega)
 ·have HF:Hid (zak s=false):=zen s (by omega)
  go_enter Tryz.func149,Tryz.ntmps149
  go_wp2
  go_ret2
  exact⟨zje (by unfold zay;rw[HF.o];rfl) HF.o.symm,rfl⟩
def zrc (ss:List Shp)(v:BA)(e:Ending):Prop:=
 (zJ ss v=false->e=.returned (.i (-1)))/\(zJ ss v=true->∃k,∃h:k<ss.length,e=.returned (.i (k:Nat))/\shapeOf ss v=ss[k])
theorem zic (a:OA)(cap:Nat)(ss:List Shp)(v:BA)(w:World)(hw:yT w a ss) :
 Calls Tryz.prog 162 #[.l a ss.length cap,.s v] w fun e w'=>zrc ss v e/\w'=w:=by
 have hl:=hw.len;unfold maxLen at hl;go_enter Tryz.func162,Tryz.ntmps162
 go_wp2
 go_loop [5] (fun i=>∃k:Nat,k<=ss.length/\i=.i k/\zJ (ss.take k) v=false) (fun i=>ss.length-(intOf i).toNat)
 case atStart=>exact⟨0,Nat.zero_le _,rfl,rfl⟩
 case round=>
  obtain⟨k,hk,rfl,hno⟩:=hrel
  by_cases hlt:k<ss.length
  ·obtain⟨b,off,rfl,hb,hr⟩:=hw.rows (by rintro rfl;simp at hlt)
   obtain⟨fa,fcap,hs⟩:=hr k hlt;have hck:=hs.kind;clear hw hr hs
   by_cases he:ss[k].kd=v
   ·have hbe:(ss[k].kd.toList == v.toList)=true:=by rw[beq_toList];simpa using he
    have HA:Hid (zJ ss v=true):=zkg ss v k hlt he;have HB:Hid (shapeOf ss v=ss[k]):=zgc ss v k hlt hno he;clear he hno
    go_wp2
    go_ret;exact⟨⟨fun h=>(by rw[HA.o]at h;cases h),fun _=>⟨k,hlt,rfl,HB.o⟩⟩,rfl⟩
   ·have hbe:(ss[k].kd.toList == v.toList)=false:=by rw[beq_toList];simpa using he
    have HS:Hid (zJ (ss.take (k+1)) v=false):=by unfold Hid;rw[zgs ss v k hlt,hno,decide_eq_false he];rfl
    clear he hno
    go_wp2
    go_round
    case rel=>exact⟨k+1,by omega,by go_num,HS.o⟩
    case measure=>simp[intOf];omega
  ·have HA:Hid (zJ ss v=false):=by rw[<- zii ss v k (by omega)];exact hno
   clear hno hw
   go_wp2
   go_ret;exact⟨⟨fun _=>rfl,fun h=>by rw[HA.o]at h;cases h⟩,rfl⟩
theorem zeq (a:OA)(cap:Nat)(ss:List Shp)(v:BA)(w:World)(hw:yT w a ss)(h:zJ ss v=false) :
 Calls Tryz.prog 162 #[.l a ss.length cap,.s v] w fun e w'=>e=.returned (.i (-1))/\w'=w:=by
 refine(zic a cap ss v w hw).mono ?_;rintro e w'⟨⟨h1,_⟩,rfl⟩;exact⟨h1 h,rfl⟩
theorem jW (a:OA)(cap:Nat)(ss:List Shp)(v:BA)(w:World)(hw:yT w a ss)(h:zJ ss v=true) :
 Calls Tryz.prog 162 #[.l a ss.length cap,.s v] w fun e w'=>∃k,∃h:k<ss.length,e=.returned (.i (k:Nat))/\shapeOf ss v=ss[k]/\w'=w:=by
 refine(zic a cap ss v w hw).mono ?_;rintro e w'⟨⟨_,h2⟩,rfl⟩;obtain⟨k,hk,he,hs⟩:=h2 h;exact⟨k,hk,he,hs,rfl⟩
end Go.Proofs.YtcgpjfcocmcodaaGreat
namespace Go.Proofs.YtcgpjfcocmcodaaGreat
structure Ob where
 kd:BA
 nm:BA
 tm:BA
 vs:List BA
 en:Bool
 hs:List BA
 vr:Int
abbrev oC (o:Ob)(a a':OA)(c c':Nat):AV:=#[.s o.kd,.s o.nm,.s o.tm,.l a o.vs.length c,.bool o.en,.l a' o.hs.length c',.i o.vr]
abbrev oZ:AV:=#[.s ByteArray.empty,.s ByteArray.empty,.s ByteArray.empty,.l none 0 0,.bool false,.l none 0 0,.i 0]
def Ob.cells (o:Ob)(a:OA)(cap:Nat)(a':OA)(cap':Nat):AV:=
 #[.s o.kd, .s o.nm, .s o.tm, .l a o.vs.length cap, .bool o.en, .l a' o.hs.length cap', .i o.vr]
structure Ob.Small (o:Ob):Prop where
 kd:o.kd.size<=maxLen
 nm:o.nm.size<=maxLen
 tm:o.tm.size<=maxLen
def zaD (f:Fld)(v:BA):Int:=if v.size=0 then (if f.mu then 2 else 0) else if zfU f v then 0 else 3
def zgH (fs:List Fld)(vs:List BA)(i:Nat):Int:=zaD (fs.getD i zbw) (vs.getD i ByteArray.empty)
def zbc (fs:List Fld)(vs:List BA)(i:Nat):Bool:=decide (zgH fs vs i=0)
def jN (fs:List Fld)(vs:List BA):Int × Int:=match (List.range fs.length).find? (fun i=>!zbc fs vs i) with|some i=>(zgH fs vs i,i)|none=>(0,0)
theorem find_range {P:Nat->Bool}{n k:Nat}(hk:k<n)(hu:up P k=true)(hp:P k=false):(List.range n).find? (fun i=>!P i)=some k:=by
 rw[List.find?_eq_some_iff_getElem];refine⟨by simp[hp],k,by simpa using hk,by simp,fun j hj=>?_⟩
 have:=zh7 hj hu
 simp[this]
theorem ziG {P:Nat->Bool}{n:Nat}(hu:up P n=true):(List.range n).find? (fun i=>!P i)=none:=by
 rw[List.find?_eq_none];intro x hx
 have:=zh7 (List.mem_range.1 hx) hu
 simp[this]
theorem zls {fs:List Fld}{vs:List BA}{k:Nat}(hk:k<fs.length)(hu:up (zbc fs vs) k=true)(hp:zbc fs vs k=false):jN fs vs=(zgH fs vs k,(k:Int)):=by
 unfold jN;rw[find_range hk hu hp]
theorem zie {fs:List Fld}{vs:List BA}(hu:up (zbc fs vs) fs.length=true):jN fs vs=(0,0):=by
 unfold jN;rw[ziG hu]
theorem zjM {fs:List Fld}{vs:List BA}{k:Nat}(h1:k<fs.length)(h2:k<vs.length):zgH fs vs k=zaD fs[k] vs[k]:=by
 unfold zgH;rw[getD_at fs k _ h1,getD_at vs k _ h2]
def qI (o:Ob):Bool:=zx o.nm&&zx o.tm
def qV (o:Ob):Bool:=decide (o.hs.length<=3)&&asc o.hs
def qy (o:Ob):Bool:=decide (0<=o.vr)&&decide (o.vr<=1000000)
def zB (ss:List Shp)(o:Ob):Bool:=zJ ss o.kd&&decide (o.vs.length=(shapeOf ss o.kd).fs.length)
def whole (ss:List Shp)(o:Ob):Bool:=qI o&&qV o&&qy o&&zB ss o
def yD (ss:List Shp)(o:Ob):Int × Int:=if whole ss o=true then jN (shapeOf ss o.kd).fs o.vs else (1,0)
end Go.Proofs.YtcgpjfcocmcodaaGreat
namespace Go.Proofs.YtcgpjfcocmcodaaGreat
open Go.RowKit
theorem yh {w:World}{p:Addr}{v:Value}{b o:Nat}(h:b≠p.block):(w.setCell p v).cell? (aD b o)=w.cell? (aD b o):=by
 unfold World.cell?;rw[Below.heap_setCell _ _ _ _ h]
theorem zbZ {w:World}{b g o:Nat}(h:b≠g){v0 v1 v2 v3 v4 v5 v6:Value}:(((((((w.setCell (aD g 0) v0).setCell (aD g 1) v1).setCell (aD g 2) v2).setCell (aD g 3) v3).setCell (aD g 4) v4).setCell (aD g 5) v5).setCell (aD g 6) v6).cell? (aD b o)=w.cell? (aD b o):=by
 rw[yh h,yh h,yh h,yh h,yh h,yh h,yh h]
def Fld.sz (f:Fld):Nat:=zaq f.nm f.ws f.to f.df f.wg
def zh3 (fs:List Fld):Nat:=(fs.map Fld.sz).sum
def zaJ (fs:List Fld):Nat:=fs.length+zh3 fs
def Shp.sz (s:Shp):Nat:=s.kd.size+zaJ s.fs
def zhy (ss:List Shp):Nat:=(ss.map Shp.sz).sum
def zaS (ss:List Shp):Nat:=ss.length+zhy ss
theorem zi5 (nm:BA)(kd ls ms:Int)(a:OA)(cap:Nat)(ws:List BA)(to:BA)(rl:Int)(mu fx:Bool)(df wg:BA)(left:Int)(w:World)(hw:zG w a ws)(h0:0<=left)(h1:left<=1048576)
 (hnm:nm.size<=maxLen) (hto:to.size<=maxLen) (hdf:df.size<=maxLen) (hwg:wg.size<=maxLen) (h:(zaq nm ws to df wg:Int)<=left) :
 Calls Tryz.prog 153 #[.agg #[.s nm,.i kd,.i ls,.i ms,.l a ws.length cap,.s to,.i rl,.bool mu,.bool fx,.s df,.s wg],.i left] w fun e w'=>e=.returned (.i (left-zaq nm ws to df wg))/\Bw w w':=by
 refine(zeH nm kd ls ms a cap ws to rl mu fx df wg left w hw h0 h1 hnm hto hdf hwg).mono ?_;rintro e w'⟨rfl,hb⟩;exact⟨zo (zM h),hb⟩
theorem zj0 (nm:BA)(kd ls ms:Int)(a:OA)(cap:Nat)(ws:List BA)(to:BA)(rl:Int)(mu fx:Bool)(df wg:BA)(left:Int)(w:World)(hw:zG w a ws)(h0:0<=left)(h1:left<=1048576)
 (hnm:nm.size<=maxLen) (hto:to.size<=maxLen) (hdf:df.size<=maxLen) (hwg:wg.size<=maxLen) (h:¬(zaq nm ws to df wg:Int)<=left) :
 Calls Tryz.prog 153 #[.agg #[.s nm,.i kd,.i ls,.i ms,.l a ws.length cap,.s to,.i rl,.bool mu,.bool fx,.s df,.s wg],.i left] w fun e w'=>e=.returned (.i (-1))/\Bw w w':=by
 refine(zeH nm kd ls ms a cap ws to rl mu fx df wg left w hw h0 h1 hnm hto hdf hwg).mono ?_;rintro e w'⟨rfl,hb⟩;exact⟨zo (zC h),hb⟩
theorem zdE (a:OA)(cap:Nat)(fs:List Fld)(left:Int)(w:World)(hw:yg w a fs)(h0:0<=left)(h1:left<=1048576) :
 Calls Tryz.prog 113 #[.l a fs.length cap,.i left] w fun e w'=>e=.returned (.i (zL (zaJ fs) left))/\Bw w w':=by
 have hl:=hw.len;unfold maxLen at hl
 by_cases hfit:(fs.length:Int)<=left
 ·go_enter Tryz.func113,Tryz.ntmps113
  go_wp2_with fail
  go_loopw [1,5] (fun l i wr=>∃k:Nat,k<=fs.length/\i=.i k/\0<=left-fs.length-zh3 (fs.take k)/\l=.i (left-fs.length-zh3 (fs.take k))/\Bw w wr) (fun _ i _=>fs.length-(intOf i).toNat)
  case atStart=>exact⟨0,Nat.zero_le _,rfl,by simp[zh3];omega,by simp[zh3],bRf _ _⟩
  case round=>
   obtain⟨k,hk,rfl,hpos,rfl,hB⟩:=hrel
   by_cases hlt:k<fs.length
   ·obtain⟨b,off,rfl,hb,hr⟩:=hw.rows (by rintro rfl;simp at hlt)
    obtain⟨wa,wcap,hf0⟩:=hr k hlt;have hf:=hf0.mono hb hB;obtain⟨c0,c1,c2,c3,c4,c5,c6,c7,c8,c9,c10⟩:=hf.load;have hsm:=hf.small;have hst:=hf.strs;have HS:Hid (zh3 (fs.take (k+1))=zh3 (fs.take k)+fs[k].sz):=za7 Fld.sz fs k hlt;have hle:zh3 (fs.take (k+1))<=zh3 fs:=zcX Fld.sz fs (k+1);clear hw hr hf0 hf
    by_cases hneg:(zaq fs[k].nm fs[k].ws fs[k].to fs[k].df fs[k].wg:Int)<=left-fs.length-zh3 (fs.take k)
    ·have HNG:Hid ((zaq fs[k].nm fs[k].ws fs[k].to fs[k].df fs[k].wg:Int)<=left-fs.length-zh3 (fs.take k)):=hneg
     clear hle;go_wp2_with fail
     refine(zi5 _ _ _ _ _ _ _ _ _ _ _ _ _ _ _ hst hpos (by omega) hsm.nm hsm.to hsm.df hsm.wg HNG.o).mono ?_;rintro e w1⟨rfl,hb1⟩;have hB1:=hB.trans (hb1.mono hB.size);clear hb1;go_wp2_with fail
     exact⟨⟨k+1,by omega,by go_num,by rw[HS.o];show 0<=_-((_+zaq _ _ _ _ _:Nat):Int);omega,by rw[HS.o];show Value.int _ _=Value.int _ (_-((_+zaq _ _ _ _ _:Nat):Int));congr 1;omega,hB1⟩,by simp[intOf];omega⟩
    ·have HF:Hid (zL (zaJ fs) left=-1):=zC (by have:=HS.o;unfold zaJ;unfold Fld.sz at this;omega)
     have HNG:=hid hneg;clear hneg hle;go_wp2_with fail
     refine(zj0 _ _ _ _ _ _ _ _ _ _ _ _ _ _ _ hst hpos (by omega) hsm.nm hsm.to hsm.df hsm.wg (by have:=HNG.o;omega)).mono ?_;rintro e w1⟨rfl,hb1⟩;have hB1:=hB.trans (hb1.mono hB.size);clear hb1;go_wp2_with fail
     go_ret;exact⟨zo HF.o.symm,hB1⟩
   ·have HF:Hid (zL (zaJ fs) left=left-fs.length-zh3 (fs.take k)):=by
     rw[tOl (by omega)]at hpos ⊢;have e:zL (zaJ fs) left=left-zaJ fs:=zM (by unfold zaJ;omega);unfold Hid;rw[e];unfold zaJ;omega
    clear hw
    go_wp2
    go_ret;exact⟨zo HF.o.symm,hB⟩
 ·have HF:Hid (zL (zaJ fs) left=-1):=zC (by unfold zaJ;omega)
  clear hw;go_enter Tryz.func113,Tryz.ntmps113
  go_wp2
  go_ret;exact⟨zo HF.o.symm,bRf _ _⟩
theorem zhn (a:OA)(cap:Nat)(fs:List Fld)(left:Int)(w:World)(hw:yg w a fs)(h0:0<=left)(h1:left<=1048576)(h:(zaJ fs:Int)<=left) :
 Calls Tryz.prog 113 #[.l a fs.length cap,.i left] w fun e w'=>e=.returned (.i (left-zaJ fs))/\Bw w w':=by
 refine(zdE a cap fs left w hw h0 h1).mono ?_;rintro e w'⟨rfl,hb⟩;exact⟨zo (zM h),hb⟩
theorem ziz (a:OA)(cap:Nat)(fs:List Fld)(left:Int)(w:World)(hw:yg w a fs)(h0:0<=left)(h1:left<=1048576)(h:¬(zaJ fs:Int)<=left) :
 Calls Tryz.prog 113 #[.l a fs.length cap,.i left] w fun e w'=>e=.returned (.i (-1))/\Bw w w':=by
 refine(zdE a cap fs left w hw h0 h1).mono ?_;rintro e w'⟨rfl,hb⟩;exact⟨zo (zC h),hb⟩
theorem zeK (kd:BA)(a:OA)(cap:Nat)(fs:List Fld)(left:Int)(w:World)(hkd:kd.size<=maxLen)(hw:yg w a fs)(h0:0<=left)(h1:left<=1048576) :
 Calls Tryz.prog 62 #[.agg #[.s kd,.l a fs.length cap],.i left] w fun e w'=>e=.returned (.i (zL (Shp.sz ⟨kd,fs⟩) left))/\Bw w w':=by
 unfold maxLen at hkd
 by_cases c1:(kd.size:Int)<=left
 rotate_left
 ·have HF:Hid (zL (Shp.sz ⟨kd,fs⟩) left=-1):=zC (by unfold Shp.sz;simp only;omega)
  go_enter Tryz.func62,Tryz.ntmps62;go_wp2_with fail
  go_ret;exact⟨zo HF.o.symm,bAl _ _⟩
 by_cases c2:(zaJ fs:Int)<=left-kd.size
 ·have HF:Hid (zL (Shp.sz ⟨kd,fs⟩) left=left-kd.size-zaJ fs):=by
   have e:zL (Shp.sz ⟨kd,fs⟩) left=left-Shp.sz ⟨kd,fs⟩:=zM (by unfold Shp.sz;simp only;omega);unfold Hid;rw[e];unfold Shp.sz;simp only;omega
  go_enter Tryz.func62,Tryz.ntmps62;go_wp2_with fail
  refine(zhn _ _ _ _ _ (hw.mono (bAl _ _)) (by omega) (by omega) (by omega)).mono ?_;rintro e w1⟨rfl,hb1⟩;go_wp2_with fail
  go_ret;exact⟨zo HF.o.symm,(bAl _ _).trans (hb1.mono (by simp))⟩
 ·have HF:Hid (zL (Shp.sz ⟨kd,fs⟩) left=-1):=zC (by unfold Shp.sz;simp only;omega)
  go_enter Tryz.func62,Tryz.ntmps62;go_wp2_with fail
  refine(ziz _ _ _ _ _ (hw.mono (bAl _ _)) (by omega) (by omega) (by omega)).mono ?_;rintro e w1⟨rfl,hb1⟩;go_wp2_with fail
  go_ret;exact⟨zo HF.o.symm,(bAl _ _).trans (hb1.mono (by simp))⟩
theorem zi8 (kd:BA)(a:OA)(cap:Nat)(fs:List Fld)(left:Int)(w:World)(hkd:kd.size<=maxLen)(hw:yg w a fs)(h0:0<=left)(h1:left<=1048576)(h:(Shp.sz ⟨kd,fs⟩:Int)<=left) :
 Calls Tryz.prog 62 #[.agg #[.s kd,.l a fs.length cap],.i left] w fun e w'=>e=.returned (.i (left-Shp.sz ⟨kd,fs⟩))/\Bw w w':=by
 refine(zeK kd a cap fs left w hkd hw h0 h1).mono ?_;rintro e w'⟨rfl,hb⟩;exact⟨zo (zM h),hb⟩
theorem zjn (kd:BA)(a:OA)(cap:Nat)(fs:List Fld)(left:Int)(w:World)(hkd:kd.size<=maxLen)(hw:yg w a fs)(h0:0<=left)(h1:left<=1048576)(h:¬(Shp.sz ⟨kd,fs⟩:Int)<=left) :
 Calls Tryz.prog 62 #[.agg #[.s kd,.l a fs.length cap],.i left] w fun e w'=>e=.returned (.i (-1))/\Bw w w':=by
 refine(zeK kd a cap fs left w hkd hw h0 h1).mono ?_;rintro e w'⟨rfl,hb⟩;exact⟨zo (zC h),hb⟩
theorem zhM (a:OA)(cap:Nat)(ss:List Shp)(left:Int)(w:World)(hw:yT w a ss)(h0:0<=left)(h1:left<=1048576) :
 Calls Tryz.prog 15 #[.l a ss.length cap,.i left] w fun e w'=>e=.returned (.i (zL (zaS ss) left))/\Bw w w':=by
 have hl:=hw.len;unfold maxLen at hl
 by_cases hfit:(ss.length:Int)<=left
 ·go_enter Tryz.func15,Tryz.ntmps15
  go_wp2_with fail
  go_loopw [1,5] (fun l i wr=>∃k:Nat,k<=ss.length/\i=.i k/\0<=left-ss.length-zhy (ss.take k)/\l=.i (left-ss.length-zhy (ss.take k))/\Bw w wr) (fun _ i _=>ss.length-(intOf i).toNat)
  case atStart=>exact⟨0,Nat.zero_le _,rfl,by simp[zhy];omega,by simp[zhy],bRf _ _⟩
  case round=>
   obtain⟨k,hk,rfl,hpos,rfl,hB⟩:=hrel
   by_cases hlt:k<ss.length
   ·obtain⟨b,off,rfl,hb,hr⟩:=hw.rows (by rintro rfl;simp at hlt)
    obtain⟨fa,fcap,hs0⟩:=hr k hlt;have hs:=hs0.mono hb hB;have hck:=hs.kind;have hcl:=hs.list;have hfl:=hs.zdS;have hsm:=hs.small;have HS:Hid (zhy (ss.take (k+1))=zhy (ss.take k)+Shp.sz ⟨ss[k].kd,ss[k].fs⟩):=za7 Shp.sz ss k hlt;have hle:zhy (ss.take (k+1))<=zhy ss:=zcX Shp.sz ss (k+1);clear hw hr hs0 hs
    by_cases hneg:(Shp.sz ⟨ss[k].kd,ss[k].fs⟩:Int)<=left-ss.length-zhy (ss.take k)
    ·have HNG:Hid ((Shp.sz ⟨ss[k].kd,ss[k].fs⟩:Int)<=left-ss.length-zhy (ss.take k)):=hneg
     clear hle;go_wp2_with fail
     refine(zi8 _ _ _ _ _ _ hsm hfl hpos (by omega) HNG.o).mono ?_;rintro e w1⟨rfl,hb1⟩;have hB1:=hB.trans (hb1.mono hB.size);clear hb1;go_wp2_with fail
     exact⟨⟨k+1,by omega,by go_num,by rw[HS.o];omega,by rw[HS.o];congr 1;omega,hB1⟩,by simp[intOf];omega⟩
    ·have HF:Hid (zL (zaS ss) left=-1):=zC (by have:=HS.o;unfold zaS;omega)
     have HNG:=hid hneg;clear hneg hle;go_wp2_with fail
     refine(zjn _ _ _ _ _ _ hsm hfl hpos (by omega) (by have:=HNG.o;omega)).mono ?_;rintro e w1⟨rfl,hb1⟩;have hB1:=hB.trans (hb1.mono hB.size);clear hb1;go_wp2_with fail
     go_ret;exact⟨zo HF.o.symm,hB1⟩
   ·have HF:Hid (zL (zaS ss) left=left-ss.length-zhy (ss.take k)):=by
     rw[tOl (by omega)]at hpos ⊢;have e:zL (zaS ss) left=left-zaS ss:=zM (by unfold zaS;omega);unfold Hid;rw[e];unfold zaS;omega
    clear hw
    go_wp2
    go_ret;exact⟨zo HF.o.symm,hB⟩
 ·have HF:Hid (zL (zaS ss) left=-1):=zC (by unfold zaS;omega)
  clear hw;go_enter Tryz.func15,Tryz.ntmps15
  go_wp2
  go_ret;exact⟨zo HF.o.symm,bRf _ _⟩
end Go.Proofs.YtcgpjfcocmcodaaGreat
namespace Go.Proofs.YtcgpjfcocmcodaaGreat
structure Tm where
 nm:BA
 ov:BA
def zbf:Tm:=⟨ByteArray.empty,ByteArray.empty⟩
def z8 (ts:List Tm)(v:BA):Bool:=ts.any fun t=>decide (t.nm=v)
def over (ts:List Tm)(v:BA):BA:=((ts.find? fun t=>decide (t.nm=v)).getD zbf).ov
theorem zeB (ts:List Tm)(v:BA)(k:Nat)(h:k<ts.length):z8 (ts.take (k+1)) v=(z8 (ts.take k) v||decide (ts[k].nm=v)):=by
 unfold z8;rw[tSe h,List.any_append];simp
theorem zok (ts:List Tm)(v:BA)(k:Nat)(h:k<ts.length)(e:ts[k].nm=v):z8 ts v=true:=by
 unfold z8;rw[List.any_eq_true];exact⟨ts[k],List.getElem_mem h,by simpa using e⟩
theorem zeY (ts:List Tm)(v:BA)(k:Nat)(h:ts.length<=k):z8 (ts.take k) v=z8 ts v:=by rw[tOl h]
theorem zlT (ts:List Tm)(v:BA)(k:Nat)(h:k<ts.length)(hb:z8 (ts.take k) v=false)(e:ts[k].nm=v):over ts v=ts[k].ov:=by
 unfold over
 have hn:(ts.take k).find? (fun s=>decide (s.nm=v))=none:=by
  rw[List.find?_eq_none];intro x hx;unfold z8 at hb;rw[List.any_eq_false]at hb;exact hb x hx
 have hf:ts.find? (fun s=>decide (s.nm=v))=some ts[k]:=by
  conv=>lhs;rw[<- List.take_append_drop k ts]
  rw[List.find?_append,hn,List.drop_eq_getElem_cons h,List.find?_cons_of_pos (by simpa using e)];rfl
 rw[hf];rfl
theorem zhm (ts:List Tm)(v:BA)(hb:z8 ts v=false):over ts v=ByteArray.empty:=by
 unfold over
 have hn:ts.find? (fun s=>decide (s.nm=v))=none:=by
  rw[List.find?_eq_none];intro x hx;unfold z8 at hb;rw[List.any_eq_false]at hb;exact hb x hx
 rw[hn];rfl
def under (ts:List Tm):Nat->BA->BA->Bool
 | 0,a,b=>decide (a=b)
 | n+1,a,b=>decide (a=b)||(decide (¬(over ts a).size=0)&&under ts n (over ts a) b)
theorem zd6 (ts:List Tm)(n:Nat)(a b:BA)(h:a=b):under ts n a b=true:=by
 cases n <;> simp[under,h]
theorem zlM (ts:List Tm){a b:BA}(h:¬a=b):under ts 0 a b=false:=by simp[under,h]
theorem zkk (ts:List Tm)(n:Nat){a b:BA}(h:¬a=b)(h0:(over ts a).size=0):under ts (n+1) a b=false:=by simp[under,h,h0]
theorem znR (ts:List Tm)(n:Nat){a b:BA}(h:¬a=b)(h0:¬(over ts a).size=0):under ts (n+1) a b=under ts n (over ts a) b:=by simp[under,h,h0]
def qC (ts:List Tm)(i:Nat):Bool:=
 zx (ts.getD i zbf).nm&&(decide (i=0)||less (ts.getD (i-1) zbf).nm (ts.getD i zbf).nm)&&((ts.getD i zbf).ov.toList.isEmpty||z8 ts (ts.getD i zbf).ov)
def ze7 (ts:List Tm):Nat->BA->BA
 | 0,a=>a
 | n+1,a=>ze7 ts n (over ts a)
def jS (ts:List Tm):Nat->BA->BA
 | 0,a=>a
 | n+1,a=>if a.size=0 then a else jS ts n (over ts a)
def zek (ts:List Tm)(t:Tm):Bool:=decide ((ze7 ts 4 t.ov).size=0)
def zf4 (ts:List Tm)(i:Nat):Bool:=zek ts (ts.getD i zbf)
def zdV (ts:List Tm)(i:Nat):Bool:=decide ((jS ts 5 (ts.getD i zbf).nm).size=0)
def zbN (ts:List Tm):Bool:=decide (ts.length<=12)&&(up (qC ts) ts.length&&up (zf4 ts) ts.length)
def zb7 (ts:List Tm)(i:Nat):Bool:=qC ts i&&zdV ts i
def zaR (ts:List Tm):Bool:=decide (ts.length<=12)&&up (zb7 ts) ts.length
theorem zcN {P:Nat->Bool}{n:Nat}:up P n=true↔∀i,i<n->P i=true:=by
 unfold up;rw[List.all_eq_true];simp
theorem zp2 {ts:List Tm}{i:Nat}(hi:i<ts.length)(h:qC ts i=true):zx ts[i].nm=true:=by
 unfold qC at h;rw[getD_at ts i _ hi]at h;simp only[Bool.and_eq_true]at h;exact h.1.1
theorem zp9 {ts:List Tm}{i:Nat}(hi:i+1<ts.length)(h:qC ts (i+1)=true):less ts[i].nm ts[i+1].nm=true:=by
 unfold qC at h;rw[getD_at ts (i+1) _ hi,Nat.add_sub_cancel,getD_at ts i _ (by omega)]at h;simp only[Bool.and_eq_true]at h
 simpa using h.1.2
theorem zn8 {ts:List Tm}(h:up (qC ts) ts.length=true):∀(j:Nat) (hj:j<ts.length) (i:Nat) (hi:i<j),less (ts[i]'(by omega)).nm ts[j].nm=true:=by
 intro j
 induction j with
 | zero=>intro _ i hi;omega
 | succ j ih=>
  intro hj i hi;have h2:=zp9 hj (zh7 hj h)
  rcases Nat.lt_or_ge i j with hlt|hge
  ·exact zbb _ _ _ (ih (by omega) i hlt) h2
  ·have e:i=j:=by omega
   subst e;exact h2
theorem over_self {ts:List Tm}(h:up (qC ts) ts.length=true)(i:Nat)(hi:i<ts.length):over ts ts[i].nm=ts[i].ov:=by
 refine zlT ts _ i hi ?_ rfl;unfold z8;rw[List.any_eq_false];intro x hx;obtain⟨k,hk,rfl⟩:=List.mem_iff_getElem.1 hx;have hk':k<i:=by simp at hk;omega
 have h1:=zn8 h i hi k hk';simp only[List.getElem_take,decide_eq_true_eq];intro e;unfold less at h1;rw[e,zbS]at h1
 cases h1
theorem zpc {ts:List Tm}(h:up (qC ts) ts.length=true):over ts ByteArray.empty=ByteArray.empty:=by
 apply zhm
 unfold z8;rw[List.any_eq_false];intro x hx;obtain⟨k,hk,rfl⟩:=List.mem_iff_getElem.1 hx;have h1:=zp2 hk (zh7 hk h);simp only[decide_eq_true_eq];intro e;rw[e,zhf _ rfl]at h1
 cases h1
theorem zij {ts:List Tm}(h:over ts ByteArray.empty=ByteArray.empty):∀n,ze7 ts n ByteArray.empty=ByteArray.empty
 | 0=>rfl
 | n+1=>by unfold ze7;rw[h];exact zij h n
theorem zj4 {ts:List Tm}(h:over ts ByteArray.empty=ByteArray.empty):∀n a,jS ts n a=ze7 ts n a
 | 0,_=>rfl
 | n+1,a=>by
  unfold jS
  by_cases h0:a.size=0
  ·rw[if_pos h0,zdw a h0,zij h]
  ·rw[if_neg h0,zj4 h n];rfl
theorem zlJ {ts:List Tm}(h:up (qC ts) ts.length=true)(i:Nat)(hi:i<ts.length):zdV ts i=zf4 ts i:=by
 unfold zdV zf4 zek;rw[getD_at ts i _ hi,zj4 (zpc h),show ze7 ts 5 ts[i].nm=ze7 ts 4 (over ts ts[i].nm) from rfl,over_self h i hi]
theorem zme (ts:List Tm):zbN ts=zaR ts:=by
 unfold zbN zaR
 congr 1
 rw[Bool.eq_iff_iff,Bool.and_eq_true]
 constructor
 ·rintro⟨h1,h2⟩
  rw[zcN];intro i hi;unfold zb7;rw[zh7 hi h1,zlJ h1 i hi,zh7 hi h2];rfl
 ·intro h
  rw[zcN]at h
  have h1:up (qC ts) ts.length=true:=by
   rw[zcN];intro i hi;have:=h i hi;unfold zb7 at this;rw[Bool.and_eq_true]at this;exact this.1
  refine⟨h1,?_⟩;rw[zcN];intro i hi;have:=h i hi;unfold zb7 at this;rw[Bool.and_eq_true,zlJ h1 i hi]at this;exact this.2
end Go.Proofs.YtcgpjfcocmcodaaGreat
namespace Go.Proofs.YtcgpjfcocmcodaaGreat
open Go.RowKit
theorem zax {w:World}{b:Nat}{X:AV}{t:TypeId}(h:w.heap[b]?=some (.cells X t)):∀j,w.cell? (aD b j)=X[j]?:=fun _=>cell_of_block h
theorem zbh {w:World}{b:Nat}{X:AV}{t:TypeId}(h:w.heap[b]?=some (.cells X t)):∀j,w.frozen? (aD b j)=false:=fun _=>zh h
theorem zcK {w w3:World}{b:Nat}{X:AV}{t:TypeId}(HZ:Hid (w.heap[b]?=some (.cells X t)))(hb:Bw w w3):Hid (w3.heap[b]?=some (.cells X t)):=(hb.block b (gES HZ.o).1).trans HZ.o
theorem zdY {w w3:World}{X:AV}{t:TypeId}(hb:Below (w.alloc (.cells X t)).heap.size (w.alloc (.cells X t)) w3):Hid (w3.heap[w.heap.size]?=some (.cells X t)):=(hb.block _ (by simp)).trans (alloc_at _ _)
theorem zbM {w:World}{ob:Obj}{b j:Nat}(h:b<w.heap.size):(w.alloc ob).cell? (aD b j)=w.cell? (aD b j):=World.cell?_alloc_lt _ _ _ h
theorem zbd {w:World}{ob:Obj}{b j:Nat}(h:b<w.heap.size):(w.alloc ob).drew.cell? (aD b j)=w.cell? (aD b j):=World.cell?_alloc_lt _ _ _ h
theorem zcI {w w3:World}{X:AV}{t:TypeId}(hb:Below (w.alloc (.cells X t)).drew.heap.size (w.alloc (.cells X t)).drew w3):Hid (w3.heap[w.heap.size]?=some (.cells X t)):=(hb.block _ (by show w.heap.size<(w.alloc (.cells X t)).heap.size;simp)).trans (alloc_at _ _)
theorem zfH {w w3:World}{ob:Obj}(_hb:Below (w.alloc ob).heap.size (w.alloc ob) w3):w.heap.size<(w.alloc ob).heap.size:=by simp
end Go.Proofs.YtcgpjfcocmcodaaGreat
namespace Go.Proofs.YtcgpjfcocmcodaaGreat
open Go.ChangeShapes Go.WideShapes Go.ChangeAt Go.RowKit
theorem Tryz.zkw:Tryz.prog.cellsOf 97=2:=by kernel_rfl
theorem Tryz.zmO:Tryz.prog.cellsOf 95=1:=by kernel_rfl
section
variable {H:Type} {enc:TypeId × Value->H} {w:World} {base:Nat} {spare:Nat->Bool} {held:Bool}
theorem znz {fuel:Nat}{cs:List Value}{x:DataW H × List MemPlace}(h:DataW.trod enc Tryz.prog w base spare held fuel 95 cs=some x) :
 ∃a cap fs,cs=[.l a (List.length fs) cap]/\yg w a fs:=by
 obtain⟨a,len,cap,rfl,hm,hr⟩:=zaY Tryz.underlying95 Tryz.zjs (by omega) h
 rcases Nat.eq_zero_or_pos len with h0|hp
 ·subst h0
  exact⟨a,cap,[],rfl,⟨by simp[maxLen],fun h=>absurd rfl h⟩⟩
 ·obtain⟨b,off,rfl,hb,hrow⟩:=hr hp
  have hf:∀i,i<len->∃f:Fld,∃wa wcap,zeX w b (off+i*11) f wa wcap:=by
   intro i hi;obtain⟨es,n,y,hel,hcell,hy⟩:=hrow i hi;obtain⟨nm,kd,ls,ms,wa,wcap,ws,to,rl,mu,fx,df,wg,rfl,hS,s0,s5,s9,s10⟩:=zoR hy;refine⟨⟨nm,kd,ls,ms,ws,to,rl,mu,fx,df,wg⟩,wa,wcap,⟨s0,s5,s9,s10⟩,hS,fun j hj=>?_⟩;rw[hcell j hj]
   simp[Fld.cells]
  obtain⟨fs,hl,hfs⟩:=zb6 len hf;refine⟨_,cap,fs,by rw[hl],⟨by omega,fun _=>⟨b,off,rfl,hb,fun i hi=>hfs i hi⟩⟩⟩
theorem zpa {fuel:Nat}{cs:List Value}{x:DataW H × List MemPlace}(h:DataW.trod enc Tryz.prog w base spare held fuel 97 cs=some x) :
 ∃kd a cap fs,cs=[.s kd,.l a (List.length fs) cap]/\kd.size<=maxLen/\yg w a fs:=by
 have hlen:cs.length=2:=by
  obtain⟨_,_,_,_,hl,_,_⟩:=DataW.trod_struct Tryz.underlying97 h;rw[hl];exact Tryz.zkw
 match cs,hlen with
 | [c0,c1],_=>
  have hf:=zai Tryz.underlying97 h;obtain⟨_,_,f0⟩:=hf 0 9 0 c0 rfl Tryz.zT rfl;obtain⟨_,_,f1⟩:=hf 1 95 1 c1 rfl Tryz.zmO rfl;obtain⟨kd,e0,_,s0⟩:=DataW.trod_string Tryz.underlying9 f0;obtain⟨a,cap,fs,e1,hF⟩:=znz f1;simp only[List.cons.injEq,and_true]at e0 e1;subst e0 e1;exact⟨kd,a,cap,fs,rfl,s0,hF⟩
theorem znj {fuel:Nat}{cs:List Value}{x:DataW H × List MemPlace}(h:DataW.trod enc Tryz.prog w base spare held fuel 22 cs=some x) :
 ∃a cap ss,cs=[.l a (List.length ss) cap]/\yT w a ss:=by
 obtain⟨a,len,cap,rfl,hm,hr⟩:=zaY Tryz.underlying22 Tryz.zkw (by omega) h
 rcases Nat.eq_zero_or_pos len with h0|hp
 ·subst h0
  exact⟨a,cap,[],rfl,⟨by simp[maxLen],fun h=>absurd rfl h⟩⟩
 ·obtain⟨b,off,rfl,hb,hrow⟩:=hr hp
  have hf:∀i,i<len->∃s:Shp,∃fa fcap,zlv w b (off+i*2) s fa fcap:=by
   intro i hi;obtain⟨es,n,y,hel,hcell,hy⟩:=hrow i hi;obtain⟨kd,fa,fcap,fs,rfl,s0,hF⟩:=zpa hy;exact⟨⟨kd,fs⟩,fa,fcap,s0,hF,hcell 0 (by omega),hcell 1 (by omega)⟩
  obtain⟨ss,hl,hss⟩:=zb6 len hf;exact⟨_,cap,ss,by rw[hl],⟨by omega,fun _=>⟨b,off,rfl,hb,fun i hi=>hss i hi⟩⟩⟩
end
end Go.Proofs.YtcgpjfcocmcodaaGreat
