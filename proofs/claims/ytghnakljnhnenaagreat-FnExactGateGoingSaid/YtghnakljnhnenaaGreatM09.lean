import Derived.Test.YtghnakljnhnenaaGreatM08
set_option maxHeartbeats 1000000
namespace Go.Proofs.YtghnakljnhnenaaGreat
open Go.RowKit
theorem qY (a0:Option Addr) (cap0:Nat) (ss:List Shp) (o:Ob) (a a':Option Addr) (cap cap':Nat) (w:World) (hw:yI w a0 ss) (_ho:qB w o a a') (hc:Gate.zx ss o=true) :
 Calls Tryz.prog 95 #[.slice a0 ss.length cap0,.agg #[.string o.kd,.string o.nm,.string o.tm,.slice a o.vs.length cap,.bool o.en,.slice a' o.hs.length cap',.int .i64 o.vr]] w fun e w'=>∃ fa fcap,e = .returned (.tuple #[.slice fa (Gate.shapeOf ss o.kd).fs.length fcap,.bool true])/\zP w fa (Gate.shapeOf ss o.kd).fs/\Below w.heap.size w w':=by
 unfold Gate.zx at hc;simp only [Bool.and_eq_true,decide_eq_true_eq] at hc;have HK:Hid (Gate.zF ss o.kd=true):=hc.1;have HL:Hid (o.vs.length=(Gate.shapeOf ss o.kd).fs.length):=hc.2;clear hc;have hl:=hw.len;unfold maxLen at hl;go_enter Tryz.func95,Tryz.ntmps95;go_wp2_with fail
 refine (jJ _ _ _ _ _ (hw.mono (bAl _ _)) HK.out).mono ?_;rintro e w1 ⟨ix,hix,rfl,hsh,rfl⟩;have HSh:Hid (Gate.shapeOf ss o.kd=ss[ix]):=hsh;clear hsh;obtain ⟨b,off,rfl,hb,hr⟩:=hw.rows (by rintro rfl;simp at hix);obtain ⟨fa,fcap,hs⟩:=hr ix hix;have hcl:=hs.list;have hfl:=hs.zdk;have hixI:(ix:Int) < (ss.length:Int):=by omega
 have hix0:decide ((ix:Int) < 0)=false:=by simp
 have hneq:((ss[ix].fs.length:Int) != (o.vs.length:Int))=false:=by have h1:=HL.out;have h2:=HSh.out;rw [h2] at h1;simp [h1]
 have hbw:b < w.heap.size:=hb;clear hr hs;go_wp2_with fail
 go_quiet (fail)
 go_wp2_with fail
 go_ret2
 rw [HSh.out];exact ⟨fa,fcap,rfl,hfl,below_drewN (bAl _ _) _⟩
theorem zcZ (a0:Option Addr) (cap0:Nat) (ss:List Shp) (o:Ob) (a a':Option Addr) (cap cap':Nat) (w:World) (hw:yI w a0 ss) (_ho:qB w o a a') (hc:Gate.zx ss o=false) :
 Calls Tryz.prog 95 #[.slice a0 ss.length cap0,.agg #[.string o.kd,.string o.nm,.string o.tm,.slice a o.vs.length cap,.bool o.en,.slice a' o.hs.length cap',.int .i64 o.vr]] w fun e w'=>∃ v,e = .returned (.tuple #[v,.bool false])/\Below w.heap.size w w':=by
 have hl:=hw.len;unfold maxLen at hl
 by_cases hk:Gate.zF ss o.kd=true
 ·have HK:Hid (Gate.zF ss o.kd=true):=hk
  have HL:Hid (¬ o.vs.length=(Gate.shapeOf ss o.kd).fs.length):=by unfold Gate.zx at hc;rw [hk] at hc;simpa [Hid] using hc
  clear hc hk;go_enter Tryz.func95,Tryz.ntmps95;go_wp2_with fail
  refine (jJ _ _ _ _ _ (hw.mono (bAl _ _)) HK.out).mono ?_;rintro e w1 ⟨ix,hix,rfl,hsh,rfl⟩;have HSh:Hid (Gate.shapeOf ss o.kd=ss[ix]):=hsh;clear hsh;obtain ⟨b,off,rfl,hb,hr⟩:=hw.rows (by rintro rfl;simp at hix);obtain ⟨fa,fcap,hs⟩:=hr ix hix;have hcl:=hs.list;have hixI:(ix:Int) < (ss.length:Int):=by omega
  have hix0:decide ((ix:Int) < 0)=false:=by simp
  have hneq:((ss[ix].fs.length:Int) != (o.vs.length:Int))=true:=by have h1:=HL.out;have h2:=HSh.out;rw [h2] at h1;rw [bne_iff_ne];omega
  have hbw:b < w.heap.size:=hb;clear hr hs;go_wp2_with fail
  go_quiet (fail)
  go_wp2_with fail
  go_ret2
  exact ⟨_,rfl,below_drewN (zA _ _ _) _⟩
 ·have HK:Hid (Gate.zF ss o.kd=false):=by simpa [Hid] using hk
  clear hc hk;go_enter Tryz.func95,Tryz.ntmps95;go_wp2_with fail
  refine (zdM _ _ _ _ _ (hw.mono (bAl _ _)) HK.out).mono ?_;rintro e w1 ⟨rfl,rfl⟩;go_wp2_with fail
  go_quiet (fail)
  go_wp2_with fail
  go_ret2
  exact ⟨_,rfl,below_drewN (zA _ _ _) _⟩
end Go.Proofs.YtghnakljnhnenaaGreat
namespace Go.Proofs.YtghnakljnhnenaaGreat
namespace Gate
theorem qU {α:Type} (p:α->Bool) (l:List α) (k:Nat) (h:k < l.length):(l.take (k+1)).all p=((l.take k).all p && p l[k]):=by
 rw [tSe h,List.all_append];simp
theorem zaC {α:Type} (p:α->Bool) (l:List α) (k:Nat) (h:k < l.length) (hp:p l[k]=false):l.all p=false:=by
 rw [List.all_eq_false];exact ⟨l[k],List.getElem_mem h,by simp [hp]⟩
end Gate
end Go.Proofs.YtghnakljnhnenaaGreat
namespace Go.Proofs.YtghnakljnhnenaaGreat
open Go.RowKit
theorem zoR (w:World) (o o':Obj):{ (w.alloc o) with heap:=(w.alloc o).heap.setIfInBounds w.heap.size o' }=w.alloc o':=by
 show ({ w with heap:=(w.heap.push o).setIfInBounds w.heap.size o' }:World)={ w with heap:=w.heap.push o' }
 congr 1
 apply Array.ext_getElem?
 intro i;simp only [Array.getElem?_setIfInBounds,Array.getElem?_push,Array.size_push]
 by_cases h:w.heap.size=i
 ·subst h;simp
 ·rw [if_neg h,if_neg (fun e=>h e.symm),if_neg (fun e=>h e.symm)]
theorem alloc_at (w:World) (o:Obj):(w.alloc o).heap[w.heap.size]?=some o:=by
 show (w.heap.push o)[w.heap.size]?=some o
 simp
theorem zbm {P:Program} {mty kt et:TypeId} {d:TypeDesc} (hm:P.underlying mty=some (.map kt et)) (hd:P.underlying kt=some d) (key val:Value) (hk:MapKept.IsKey d key)
 (es:Array MapEntry) (clock:Nat) (hf:Instr.findNow d key es.toList 0=some none) (w:World) :
 (Instr.mapUpdate mty (.map (some w.heap.size)) key val).run P (w.alloc (.map es clock)) = .ok () (w.alloc (.map (es.push ⟨key,val,clock⟩) (clock+1))):=by
 have hb:=alloc_at w (.map es clock);have hc:=MapKept.run_checkKey (P:=P) (w:=w.alloc (.map es clock)) hd hk false 9999
 simp [Instr.mapUpdate,run_underlying hm,MapKept.run_getObj_map hb,hc,MapKept.run_findKey hd hf,MapKept.run_setObj_map _ hb,Result.andThen,<- zoR w (.map es clock) (.map (es.push ⟨key,val,clock⟩) (clock+1))]
theorem yT {P:Program} {mty kt et:TypeId} {d:TypeDesc} (hm:P.underlying mty=some (.map kt et)) (hd:P.underlying kt=some d) (key val:Value) (hk:MapKept.IsKey d key)
 (es:Array MapEntry) (clock i:Nat) (hf:Instr.findNow d key es.toList 0=some (some (i,val))) (w:World) (r:Nat) (hb:w.heap[r]?=some (.map es clock)) :
 (Instr.lookup mty (.map (some r)) key true).run P w = .ok (.tuple #[val,.bool true]) w:=by
 have hc:=MapKept.run_checkKey (P:=P) (w:=w) hd hk es.isEmpty 9999
 simp [Instr.lookup,run_underlying hm,MapKept.run_getObj_map hb,hc,MapKept.run_findKey hd hf,Result.andThen]
theorem zch {P:Program} {mty kt et:TypeId} {d:TypeDesc} (hm:P.underlying mty=some (.map kt et)) (hd:P.underlying kt=some d) (key z:Value) (hk:MapKept.IsKey d key)
 (es:Array MapEntry) (clock:Nat) (hf:Instr.findNow d key es.toList 0=some none) (w:World) (hz:(zeroValue et).run P w = .ok z w) (r:Nat) (hb:w.heap[r]?=some (.map es clock)) :
 (Instr.lookup mty (.map (some r)) key true).run P w = .ok (.tuple #[z,.bool false]) w:=by
 have hc:=MapKept.run_checkKey (P:=P) (w:=w) hd hk es.isEmpty 9999
 simp [Instr.lookup,run_underlying hm,MapKept.run_getObj_map hb,hc,MapKept.run_findKey hd hf,hz,Result.andThen]
structure zbs (w:World) (r:Nat) (f:Int->Option Int):Prop where
 ex:∃ es clock,w.heap[r]?=some (.map es clock)/\(∀ x ∈ es.toList,∃ k v,x.key = .int .i64 k/\x.val = .int .i64 v/\f k=some v)/\(∀ k v,f k=some v->∃ x ∈ es.toList,x.key = .int .i64 k)/\∀ (i j:Nat) (x y:MapEntry),es[i]?=some x->es[j]?=some y->x.key=y.key->i=j
theorem zbs.mono {w w':World} {r:Nat} {f:Int->Option Int} (h:zbs w r f) (hb:w'.heap[r]?=w.heap[r]?):zbs w' r f:=by
 obtain ⟨es,clock,h1,h2⟩:=h.ex;exact ⟨es,clock,hb.trans h1,h2⟩
theorem zbs.lt {w:World} {r:Nat} {f:Int->Option Int} (h:zbs w r f):r < w.heap.size:=by
 obtain ⟨es,clock,h1,_⟩:=h.ex;exact (gES h1).1
theorem zbw (k:Int):MapKept.IsKey (.int .i64) (.int .i64 k):=by simp [MapKept.IsKey]
theorem zbs.keys {es:Array MapEntry} {f:Int->Option Int} (h:∀ x ∈ es.toList,∃ k v,x.key = .int .i64 k/\x.val = .int .i64 v/\f k=some v):∀ x ∈ es.toList,MapKept.IsKey (.int .i64) x.key:=by
 intro x hx;obtain ⟨k,v,h1,_⟩:=h x hx;rw [h1];exact zbw k
theorem zbs.look {w:World} {r:Nat} {f:Int->Option Int} (h:zbs w r f) (k:Int) :
 (Instr.lookup 266 (.map (some r)) (.int .i64 k) true).run Tryz.prog w = .ok (.tuple #[.int .i64 ((f k).getD 0),.bool (f k).isSome]) w:=by
 obtain ⟨es,clock,hb,h1,h2,h3⟩:=h.ex
 rcases MapKept.findNow_spec (zbw k) es.toList 0 (zbs.keys h1) with ⟨g1,g2⟩ | ⟨j,e,g1,g2,g3⟩
 ·have hn:f k=none:=by
   cases hf:f k with
   | none=>rfl
   | some v =>
    obtain ⟨x,hx,hk⟩:=h2 k v hf;exact absurd hk (g2 x hx)
  rw [hn];exact zch Tryz.underlying266 Tryz.underlying3 (.int .i64 k) (.int .i64 0) (zbw k) es clock g1 w (by kernel_rfl) r hb
 ·obtain ⟨k',v',e1,e2,e3⟩:=h1 e (List.mem_of_getElem? g2)
  rw [g3] at e1
  cases e1
  rw [e3];rw [e2] at g1;exact yT Tryz.underlying266 Tryz.underlying3 (.int .i64 k) (.int .i64 v') (zbw k) es clock _ g1 w r hb
structure zd6 (r:Nat) (w w':World):Prop where
 os:w'.os=w.os
 tape:w'.tape=w.tape
 output:w'.output=w.output
 size:w'.heap.size=w.heap.size
 out:∀ k,k ≠ r->w'.heap[k]?=w.heap[k]?
theorem zbs.upd {w:World} {r:Nat} {f:Int->Option Int} (h:zbs w r f) (k v:Int) :
 ∃ w',(Instr.mapUpdate 266 (.map (some r)) (.int .i64 k) (.int .i64 v)).run Tryz.prog w = .ok () w'/\zbs w' r (fun q=>if q=k then some v else f q)/\zd6 r w w':=by
 obtain ⟨es,clock,hb,h1,h2,h3⟩:=h.ex;have hm:=Tryz.underlying266;have hd:=Tryz.underlying3
 rcases MapKept.findNow_spec (zbw k) es.toList 0 (zbs.keys h1) with ⟨g1,g2⟩ | ⟨j,e,g1,g2,g3⟩
 ·refine ⟨{ w with heap:=w.heap.setIfInBounds r (.map (es.push ⟨.int .i64 k,.int .i64 v,clock⟩) (clock+1)) },?_,⟨_,_,(MapKept.heap_set hb).1,?_,?_,?_⟩,rfl,rfl,rfl,by simp,fun q hq=>(MapKept.heap_set hb).2 q hq⟩
  ·simp [Instr.mapUpdate,run_underlying hm,MapKept.run_getObj_map hb,MapKept.run_checkKey hd (zbw k),MapKept.run_findKey hd g1,MapKept.run_setObj_map _ hb,Result.andThen]
  ·intro x hx
   rw [Array.toList_push,List.mem_append,List.mem_singleton] at hx
   rcases hx with hx | rfl
   ·obtain ⟨k',v',e1,e2,e3⟩:=h1 x hx
    refine ⟨k',v',e1,e2,?_⟩
    have:k' ≠ k:=by rintro rfl;exact g2 x hx e1
    simp only [if_neg this];exact e3
   ·exact ⟨k,v,rfl,rfl,by simp⟩
  ·intro q u hq
   by_cases e:q=k
   ·subst e
    exact ⟨⟨.int .i64 q,.int .i64 v,clock⟩,by simp,rfl⟩
   ·rw [if_neg e] at hq
    obtain ⟨x,hx,hk⟩:=h2 q u hq;exact ⟨x,by simp [Array.toList_push];exact Or.inl (by simpa using hx),hk⟩
  ·intro i j' x y hx hy hxy
   rw [Array.getElem?_push] at hx hy
   by_cases e1:i=es.size
   ·by_cases e2:j'=es.size
    ·omega
    ·rw [if_pos e1] at hx
     rw [if_neg e2] at hy;have hm:y ∈ es.toList:=by rw [<- Array.mem_def];exact Array.mem_of_getElem? hy
     cases hx
     exact absurd hxy.symm (g2 y hm)
   ·by_cases e2:j'=es.size
    ·rw [if_neg e1] at hx
     rw [if_pos e2] at hy;have hm:x ∈ es.toList:=by rw [<- Array.mem_def];exact Array.mem_of_getElem? hx
     cases hy
     exact absurd hxy (g2 x hm)
    ·rw [if_neg e1] at hx
     rw [if_neg e2] at hy;exact h3 i j' x y hx hy hxy
 ·have hj:es[j]?=some e:=by simpa using g2
  refine ⟨{ w with heap:=w.heap.setIfInBounds r (.map (es.modify j fun x=>{ x with key:=.int .i64 k,val:=.int .i64 v }) clock) },?_,⟨_,_,(MapKept.heap_set hb).1,?_,?_,?_⟩,rfl,rfl,rfl,by simp,fun q hq=>(MapKept.heap_set hb).2 q hq⟩
  ·simp [Instr.mapUpdate,run_underlying hm,MapKept.run_getObj_map hb,MapKept.run_checkKey hd (zbw k),MapKept.run_findKey hd g1,hj,g3,MapKept.run_keyThatStays (zbw k),MapKept.run_setObj_map _ hb,Result.andThen]
  ·intro x hx
   obtain ⟨i,hi,rfl⟩:=List.mem_iff_getElem.1 hx;have hi':i < es.size:=by simpa using hi
   simp only [Array.getElem_toList,Array.getElem_modify]
   by_cases e':j=i
   ·subst e'
    simp only [if_true];exact ⟨k,v,rfl,rfl,by simp⟩
   ·simp only [if_neg e']
    obtain ⟨k',v',e1,e2,e3⟩:=h1 es[i] (by simp)
    have ek:k' ≠ k:=by
     rintro rfl;exact e' (h3 j i e es[i] hj (Array.getElem?_eq_getElem hi') (g3.trans e1.symm))
    exact ⟨k',v',e1,e2,by rw [if_neg ek];exact e3⟩
  ·intro q u hq
   have hj':j < es.size:=(gES hj).1
   by_cases e':q=k
   ·subst e'
    refine ⟨(es.modify j fun x=>{ x with key:=.int .i64 q,val:=.int .i64 v })[j]'(by simpa using hj'),?_,?_⟩
    ·rw [<- Array.mem_def];exact Array.getElem_mem _
    ·rw [Array.getElem_modify];simp
   ·rw [if_neg e'] at hq
    obtain ⟨x,hx,hk⟩:=h2 q u hq;obtain ⟨i,hi,rfl⟩:=List.mem_iff_getElem.1 hx;have hi':i < es.size:=by simpa using hi
    have hij:j ≠ i:=by
     rintro rfl;rw [Array.getElem_toList] at hk;rw [Array.getElem?_eq_getElem hi'] at hj
     cases hj
     rw [g3] at hk
     cases hk
     exact e' rfl
    refine ⟨(es.modify j fun x=>{ x with key:=.int .i64 k,val:=.int .i64 v })[i]'(by simpa using hi'),?_,?_⟩
    ·rw [<- Array.mem_def];exact Array.getElem_mem _
    ·rw [Array.getElem_modify,if_neg hij];simpa using hk
  ·have hkey:∀ (i:Nat) (x:MapEntry),(es.modify j fun x=>{ x with key:=.int .i64 k,val:=.int .i64 v })[i]?=some x->∃ y,es[i]?=some y/\x.key=y.key:=by
    intro i x hx;obtain ⟨hi,rfl⟩:=gES hx;have hi':i < es.size:=by simpa using hi
    refine ⟨es[i],Array.getElem?_eq_getElem hi',?_⟩;rw [Array.getElem_modify]
    by_cases e':j=i
    ·subst e'
     rw [Array.getElem?_eq_getElem hi'] at hj
     cases hj
     simp [g3]
    ·rw [if_neg e']
   intro i j' x y hx hy hxy;obtain ⟨x',hx',ex⟩:=hkey i x hx;obtain ⟨y',hy',ey⟩:=hkey j' y hy;exact h3 i j' x' y' hx' hy' (ex.symm.trans (hxy.trans ey))
end Go.Proofs.YtghnakljnhnenaaGreat
