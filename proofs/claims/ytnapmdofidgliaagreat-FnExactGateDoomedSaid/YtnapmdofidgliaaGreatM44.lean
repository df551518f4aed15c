import Derived.Test.YtnapmdofidgliaaGreatM43
import Derived.WideKeyEntry
set_option maxHeartbeats 4000000
namespace Go.Proofs.YtnapmdofidgliaaGreat
open Go.RowKit
theorem yA.entry {kt mt:TypeId}(K:zen kt)(hm:Tryz.prog.underlying mt=some (.map kt 3)){w:World}{r:Nat}{f:ByteArray->ByteArray->Option Int}(h:yA w r f)(a b:ByteArray)(ha:a.size<=maxLen)(hb:b.size<=maxLen)(v0:Int)(hf:f a b=some v0) :
 ∃st:Int,(Instr.mapEntry mt (.map (some r)) (yw a b)).run Tryz.prog w=.ok (.tuple #[.int .i64 v0,.int .i64 st]) w /\
  ∀v:Int,∃w',(Instr.entryStore mt (.map (some r)) (.int .i64 st) (.int .i64 v)).run Tryz.prog w=.ok () w'/\yA w' r (fun p q=>if p=a/\q=b then some v else f p q)/\zbT r w w':=by
 obtain⟨es,clock,hh,h1,h2,h3⟩:=h.ex;obtain⟨l,hl⟩:=K.key a b ha hb;obtain⟨s1,s2⟩:=h.stamps es clock hh
 have hkeys:∀e∈es.toList,∃l,keyOf Tryz.prog kt e.key=some l:=fun e he=>by
  obtain⟨a',b',v,e1,ha',hb',_⟩:=h1 e he;rw[e1];exact K.key a' b' ha' hb'
 have hc:=K.law.check w false hl;have hs:=K.law.stays w hl
 rcases K.law.find w hl es.toList hkeys with⟨g1,g2⟩|⟨j,e,g1,g2,g3⟩
 ·obtain⟨x,hx,hk⟩:=h2 a b v0 hf
  exact absurd hk (g2 x hx)
 ·have hj:es[j]?=some e:=by simpa using g2
  have hv:e.val=.int .i64 v0:=by
   obtain⟨a',b',v',e1,_,_,e2,e3⟩:=h1 e (List.mem_of_getElem? g2);rw[g3]at e1;have hab:a=a'/\b=b':=by unfold yw at e1;simpa using e1
   obtain⟨rfl,rfl⟩:=hab;rw[e3]at hf;rw[e2,Option.some.inj hf]
  have hsame:es.modify j (fun e=>{ e with key:=yw a b })=es:=by
   apply Array.ext'
   rw[Array.toList_modify]
   apply List.ext_getElem?
   intro i;rw[List.getElem?_modify]
   by_cases e':j=i
   ·subst e'
    rw[g2]
    simp[<- g3]
   ·simp[e']
  have hset:{ w with heap:=w.heap.setIfInBounds r (.map es clock) }=w:=by
   have hr:r<w.heap.size:=(gES hh).1
   have:w.heap.setIfInBounds r (.map es clock)=w.heap:=by
    apply Array.ext_getElem?
    intro i
    by_cases e':r=i
    ·subst e';rw[Array.getElem?_setIfInBounds_self_of_lt hr,hh]
    ·rw[Array.getElem?_setIfInBounds_ne e']
   rw[this]
  refine⟨(e.born:Int),?_,fun v=>?_⟩
  ·rw[hv]at g1
   simp[Instr.mapEntry,run_underlying hm,MapKept.run_getObj_map hh,hc,g1,hj,g3,hs,hsame,MapKept.run_setObj_map _ hh,Result.andThen,goInt,hset]
  ·obtain⟨w',u1,u2,u3⟩:=h.upd K hm a b ha hb v
   refine⟨w',?_,u2,u3⟩
   have hidx:es.findIdx? (fun e'=>((e'.born:Nat):Int) == ((e.born:Nat):Int))=some j:=by
    rw[WideElems.findIdx_arr];exact WideElems.findIdx_born s2 g2
   have hmod:es.modify j (fun e=>{ e with val:=.int .i64 v })=es.modify j (fun e'=>{ e' with key:=yw a b,val:=.int .i64 v }):=by
    apply Array.ext'
    rw[Array.toList_modify,Array.toList_modify]
    apply List.ext_getElem?
    intro i;rw[List.getElem?_modify,List.getElem?_modify]
    by_cases e':j=i
    ·subst e'
     rw[g2]
     simp[<- g3]
    ·simp[e']
   simp[Instr.mapUpdate,run_underlying hm,MapKept.run_getObj_map hh,hc,g1,hj,g3,hs,MapKept.run_setObj_map _ hh,Result.andThen]at u1
   simp[Instr.entryStore,MapKept.run_getObj_map hh,asInt,asIntOf,hidx,hmod,MapKept.run_setObj_map _ hh,Result.andThen]
   exact u1
theorem zb9 (ss:List Shp)(o:Ob):(qB ss o).length=o.vs.length:=by
 unfold qB
 split
 ·rename_i h;unfold zy at h;simp only[Bool.and_eq_true,decide_eq_true_eq]at h;exact qR h.2
 ·rfl
theorem zbW {ss:List Shp}{ms:List Mnd}(h:yj ss ms=true):zN ss=true:=by
 unfold yj at h;simp only[Bool.and_eq_true]at h;exact h.1.1.2
theorem znV {ss:List Shp}{ms:List Mnd}{o:Ob}(h:yj ss ms=true):zb1 ss ms o=zcz ss ms ⟨o.kd,o.nm,o.tm,qB ss o,o.en,o.hs,o.vr⟩:=by
 have e:qI ss ms ⟨o.kd,o.nm,o.tm,qB ss o,o.en,o.hs,o.vr⟩=qI ss ms o:=by
  unfold qI;simp only[zb9]
 unfold zb1 zcz;rw[e]
 by_cases hm:qI ss ms o=true
 ·rw[if_pos hm,if_pos hm]
  have hc:zy ss o=true:=by rw[<- zaO h];exact hm
  unfold zgo qB;rw[if_pos hc]
 ·rw[if_neg hm,if_neg hm]
  have hc:¬zy ss o=true:=by rw[<- zaO h];exact hm
  show o.vs=qB ss o
  unfold qB;rw[if_neg hc]
theorem znX (a0 ma:Option Addr)(cap0 mcap:Nat)(ss:List Shp)(ms:List Mnd)(o:Ob)(us:List ByteArray)(hus:us.length=o.vs.length)(b off b' off' cap cap':Nat)(w:World)(hw:yU w a0 ss)(hm:qN w ma ms)(hsm:o.Small)(ho:zD w (some ⟨b,off,none⟩) us)(ho':zD w (some ⟨b',off',none⟩) o.hs)(hl:o.vs.length<=1048576)(hl':o.hs.length<=1048576)(hok:yj ss ms=true) :
 Calls Tryz.prog 136 #[.slice a0 ss.length cap0,.slice ma ms.length mcap,.agg #[.string o.kd,.string o.nm,.string o.tm,.slice (some ⟨b,off,none⟩) o.vs.length cap,.bool o.en,.slice (some ⟨b',off',none⟩) o.hs.length cap',.int .i64 o.vr]] w (zgP o (zcz ss ms ⟨o.kd,o.nm,o.tm,us,o.en,o.hs,o.vr⟩) w):=by
 have h:=zme a0 ma cap0 mcap ss ms ⟨o.kd,o.nm,o.tm,us,o.en,o.hs,o.vr⟩ b off b' off' cap cap' w hw hm ⟨⟨hsm.kd,hsm.nm,hsm.tm⟩,ho,ho'⟩ (by show us.length<=_;omega) hl' hok;unfold zgP at h ⊢;simp only[hus]at h;exact h
theorem zgz (a0 ma:Option Addr)(cap0 mcap:Nat)(ss:List Shp)(ms:List Mnd)(o:Ob)(b off b' off' cap cap':Nat)(w:World)(hw:yU w a0 ss)(hmm:qN w ma ms)(ho:jK w o (some ⟨b,off,none⟩) (some ⟨b',off',none⟩))(hl:o.vs.length<=1048576)(hl':o.hs.length<=1048576)(hok:yj ss ms=true) :
 Calls Tryz.prog 102 #[.slice a0 ss.length cap0,.slice ma ms.length mcap,.agg #[.string o.kd,.string o.nm,.string o.tm,.slice (some ⟨b,off,none⟩) o.vs.length cap,.bool o.en,.slice (some ⟨b',off',none⟩) o.hs.length cap',.int .i64 o.vr]] w (zgP o (zb1 ss ms o) w):=by
 have HRES:Hid (zb1 ss ms o=zcz ss ms ⟨o.kd,o.nm,o.tm,qB ss o,o.en,o.hs,o.vr⟩):=znV hok;have HSM:Hid ((qB ss o).length<=maxLen/\∀s∈qB ss o,s.size<=maxLen):=⟨by rw[zb9];exact ho.vals.len,by rw[<- zoP (zbW hok)];exact zo0 hw.smalls ho.vals.small⟩
 have HH:=zc6 hw hmm ho;clear hw hmm ho;have hb2:=zw w (.cells #[.string o.kd,.string o.nm,.string o.tm,.slice (some ⟨b,off,none⟩) o.vs.length cap,.bool o.en,.slice (some ⟨b',off',none⟩) o.hs.length cap',.int .i64 o.vr] 123) (.cells #[.string ByteArray.empty,.string ByteArray.empty,.string ByteArray.empty,.slice none 0 0,.bool false,.slice none 0 0,.int .i64 0] 123);go_enter Tryz.func102,Tryz.ntmps102;go_wp2_with fail
 refine(zmP a0 cap0 ss o b off b' off' cap cap' _ (HH.out.1.mono hb2) (HH.out.2.2.mono hb2) hl hl').mono ?_;rintro e w1⟨a1,dap1,a1',dap1',m1,rfl,ht1,hm1,hsm1,ht1',hb1,⟨g,rfl⟩,⟨g',rfl⟩⟩;have HR1:Hid (w1.heap[w.heap.size+1]?=some (.cells #[.string ByteArray.empty,.string ByteArray.empty,.string ByteArray.empty,.slice none 0 0,.bool false,.slice none 0 0,.int .i64 0] 123)):=(hb1.block (w.heap.size+1) (by simp)).trans (zT _ _ _).2;have hz1:w.heap.size+1<w1.heap.size:=by have:=hb1.size;simp at this;omega
 have hB1:Below w.heap.size w w1:=hb2.trans (hb1.mono (by simp;omega));have hv1:=ht1.at HSM.out.1 HSM.out.2;have hv1':=ht1'.at HH.out.2.2.holds.len HH.out.2.2.holds.small;clear hb1 hb2 ht1 hm1 hsm1 ht1';go_wp2_with fail
 refine(znX a0 ma cap0 mcap ss ms o (qB ss o) (zb9 ss o) g 0 g' 0 _ _ _ (HH.out.1.mono hB1) (HH.out.2.1.mono hB1) HH.out.2.2.small hv1 hv1' hl hl' hok).mono ?_;rintro e w4⟨a,dap,a',dap',m,rfl,ht,hm,hsm,ht',hb4⟩;have hR4:=(hb4.block (w.heap.size+1) hz1).trans HR1.out;have hRc:∀j,w4.cell? ⟨w.heap.size+1,j,none⟩=(#[.string ByteArray.empty,.string ByteArray.empty,.string ByteArray.empty,.slice none 0 0,.bool false,.slice none 0 0,.int .i64 0]:Array Value)[j]?:=fun j=>cell_of_block hR4
 have hRf:∀j,w4.frozen? ⟨w.heap.size+1,j,none⟩=false:=fun j=>zh hR4
 have HX:Hid (zx (w.heap.size+1+1) w4 a (zb1 ss ms o)/\(∀g,a=some g->g.block<m)/\w.heap.size+1+1<=m/\zx m w4 a' o.hs/\Below w.heap.size w w4):=by rw[HRES.out];exact⟨ht.low hz1,hm,Nat.le_trans hz1 hsm,ht',hB1.trans (hb4.mono hB1.size)⟩
 clear ht hm hsm ht' hb4 hR4;go_wp2_with fail
 refine bodyPost_ret (v:=(.agg #[.string o.kd,.string o.nm,.string o.tm,.slice a o.vs.length dap,.bool o.en,.slice a' o.hs.length dap',.int .i64 o.vr])) (by simp[results,Tryz.results102,go_sem,hRc]) rfl ?_;obtain⟨ht,hm,hsm,ht',hB⟩:=HX.out;exact⟨a,dap,a',dap',m,rfl,(jT ht _ (by omega) _ _ _ _ _ _ _).low (by omega),hm,by omega,jT ht' _ (by omega) _ _ _ _ _ _ _,zaW hB _ (by omega) _ _ _ _ _ _ _⟩
structure zfN (es:Array MapEntry)(clock:Nat)(f:ByteArray->ByteArray->Option Value):Prop where
 has:∀x∈es.toList,∃a b,x.key=yw a b/\a.size<=maxLen/\b.size<=maxLen/\f a b=some x.val
 all:∀a b v,f a b=some v->∃x∈es.toList,x.key=yw a b
 one:∀(i j:Nat) (x y:MapEntry),es[i]?=some x->es[j]?=some y->x.key=y.key->i=j
 born:∀x∈es.toList,x.born<clock
 diff:(es.toList.map (·.born)).Nodup
def zbp (w:World)(r:Nat)(f:ByteArray->ByteArray->Option Value):Prop:=∃es clock,w.heap[r]?=some (.map es clock)/\zfN es clock f
theorem zbp.keep {w w':World}{r:Nat}{f:ByteArray->ByteArray->Option Value}(h:zbp w r f)(hb:w'.heap[r]?=w.heap[r]?):zbp w' r f:=by
 obtain⟨es,clock,h1,h2⟩:=h;exact⟨es,clock,hb.trans h1,h2⟩
theorem zbp.lt {w:World}{r:Nat}{f:ByteArray->ByteArray->Option Value}(h:zbp w r f):r<w.heap.size:=by
 obtain⟨es,clock,h1,_⟩:=h;exact(gES h1).1
theorem zbp.new (w:World):zbp (w.alloc (.map #[] 0)) w.heap.size (fun _ _=>none):=
 ⟨#[],0,(MapKept.heap_alloc w _).1,⟨fun x hx=>(by simp at hx),fun _ _ _ h=>(by cases h),fun i j x y hx=>(by simp at hx),fun x hx=>(by simp at hx),(by simp)⟩⟩
theorem zfp {p q a b:ByteArray}:yw p q=yw a b↔p=a/\q=b:=by unfold yw;simp
def ze3 (f:ByteArray->ByteArray->Option Value)(a b:ByteArray)(v:Value):ByteArray->ByteArray->Option Value:=fun p q=>if p=a/\q=b then some v else f p q
theorem zph (f:ByteArray->ByteArray->Option Value)(a b:ByteArray)(v:Value):ze3 f a b v a b=some v:=by simp[ze3]
theorem zp8 (f:ByteArray->ByteArray->Option Value)(a b:ByteArray)(u v:Value):ze3 (ze3 f a b u) a b v=ze3 f a b v:=by
 funext p q
 unfold ze3
 split <;> rfl
theorem zfN.push {es:Array MapEntry}{clock:Nat}{f:ByteArray->ByteArray->Option Value}(h:zfN es clock f){a b:ByteArray}(ha:a.size<=maxLen)(hb:b.size<=maxLen)(hn:∀x∈es.toList,x.key≠yw a b)(v:Value):zfN (es.push ⟨yw a b,v,clock⟩) (clock+1) (ze3 f a b v):=by
 refine⟨fun x hx=>?_,fun p q u hq=>?_,fun i j' x y hx hy hxy=>?_,fun x hx=>?_,?_⟩
 ·rw[Array.toList_push,List.mem_append,List.mem_singleton]at hx
  rcases hx with hx|rfl
  ·obtain⟨a',b',e1,s1,s2,e3⟩:=h.has x hx
   refine⟨a',b',e1,s1,s2,?_⟩
   have:¬(a'=a/\b'=b):=fun he=>hn x hx (e1.trans (zfp.2 he))
   simp only[ze3,if_neg this];exact e3
  ·exact⟨a,b,rfl,ha,hb,zph _ _ _ _⟩
 ·by_cases e:p=a/\q=b
  ·obtain⟨rfl,rfl⟩:=e
   exact⟨⟨yw p q,v,clock⟩,by simp,rfl⟩
  ·simp only[ze3,if_neg e]at hq
   obtain⟨x,hx,hk⟩:=h.all p q u hq;exact⟨x,by simp[Array.toList_push];exact Or.inl (by simpa using hx),hk⟩
 ·rw[Array.getElem?_push]at hx hy
  by_cases e1:i=es.size
  ·by_cases e2:j'=es.size
   ·omega
   ·rw[if_pos e1]at hx
    rw[if_neg e2]at hy;have hm:y∈es.toList:=by rw[<- Array.mem_def];exact Array.mem_of_getElem? hy
    cases hx
    exact absurd hxy.symm (hn y hm)
  ·by_cases e2:j'=es.size
   ·rw[if_neg e1]at hx
    rw[if_pos e2]at hy;have hm:x∈es.toList:=by rw[<- Array.mem_def];exact Array.mem_of_getElem? hx
    cases hy
    exact absurd hxy (hn x hm)
   ·rw[if_neg e1]at hx
    rw[if_neg e2]at hy;exact h.one i j' x y hx hy hxy
 ·rw[Array.toList_push,List.mem_append,List.mem_singleton]at hx
  rcases hx with hx|rfl
  ·have:=h.born x hx;omega
  ·exact Nat.lt_succ_self _
 ·simp only[Array.toList_push,List.map_append,List.map_cons,List.map_nil]
  refine List.nodup_append.2 ⟨h.diff,by simp,fun a ha c hc e1=>?_⟩;simp only[List.mem_singleton]at hc;obtain⟨x,hx,rfl⟩:=List.mem_map.1 ha
  have:=h.born x hx
  omega
theorem zfN.modify {es:Array MapEntry}{clock:Nat}{f:ByteArray->ByteArray->Option Value}(h:zfN es clock f){a b:ByteArray}(ha:a.size<=maxLen)(hb:b.size<=maxLen){j:Nat}{e:MapEntry}(hj:es[j]?=some e)(hk:e.key=yw a b)(v:Value):zfN (es.modify j fun x=>{ x with val:=v }) clock (ze3 f a b v):=by
 have hj':j<es.size:=(gES hj).1
 have hjj:es[j]=e:=by
  have:=Array.getElem?_eq_getElem hj'
  rw[hj]at this;exact(Option.some.inj this).symm
 have hkey:∀(i:Nat) (x:MapEntry),(es.modify j fun x=>{ x with val:=v })[i]?=some x->∃y,es[i]?=some y/\x.key=y.key:=by
  intro i x hx;obtain⟨hi,rfl⟩:=gES hx;have hi':i<es.size:=by simpa using hi
  refine⟨es[i],Array.getElem?_eq_getElem hi',?_⟩;rw[Array.getElem_modify]
  by_cases e':j=i
  ·subst e';simp
  ·rw[if_neg e']
 have hbn:(es.modify j fun x=>{ x with val:=v }).toList.map (·.born)=es.toList.map (·.born):=by
  apply List.ext_getElem?
  intro i;simp only[Array.toList_modify,List.getElem?_map,List.getElem?_modify]
  by_cases e':j=i
  ·simp only[if_pos e'];cases es.toList[i]? <;> rfl
  ·simp[if_neg e']
 refine⟨fun x hx=>?_,fun p q u hq=>?_,fun i j' x y hx hy hxy=>?_,fun x hx=>?_,by rw[hbn];exact h.diff⟩
 ·obtain⟨i,hi,rfl⟩:=List.mem_iff_getElem.1 hx
  have hi':i<es.size:=by simpa using hi
  simp only[Array.getElem_toList,Array.getElem_modify]
  by_cases e':j=i
  ·subst e'
   simp only[if_true];exact⟨a,b,by rw[hjj];exact hk,ha,hb,zph _ _ _ _⟩
  ·simp only[if_neg e']
   obtain⟨a',b',e1,s1,s2,e3⟩:=h.has es[i] (by simp);have ek:¬(a'=a/\b'=b):=fun he=>e' (h.one j i e es[i] hj (Array.getElem?_eq_getElem hi') (hk.trans (e1.trans (zfp.2 he)).symm))
   exact⟨a',b',e1,s1,s2,by simp only[ze3,if_neg ek];exact e3⟩
 ·have hin:∀i (hi':i<es.size),(es.modify j fun x=>{ x with val:=v })[i]'(by simpa using hi')∈(es.modify j fun x=>{ x with val:=v }).toList:=fun i hi'=>by rw[<- Array.mem_def];exact Array.getElem_mem _
  by_cases e':p=a/\q=b
  ·obtain⟨rfl,rfl⟩:=e'
   refine⟨_,hin j hj',?_⟩;rw[Array.getElem_modify,if_pos rfl]
   show es[j].key=_
   rw[hjj];exact hk
  ·simp only[ze3,if_neg e']at hq
   obtain⟨x,hx,hk'⟩:=h.all p q u hq;obtain⟨i,hi,rfl⟩:=List.mem_iff_getElem.1 hx;have hi':i<es.size:=by simpa using hi
   refine⟨_,hin i hi',?_⟩;rw[Array.getElem_modify]
   by_cases e2:j=i
   ·subst e2
    simp only[Array.getElem_toList]at hk';rw[hjj,hk]at hk';exact absurd (zfp.1 hk'.symm) e'
   ·rw[if_neg e2];exact hk'
 ·obtain⟨x',hx',ex⟩:=hkey i x hx
  obtain⟨y',hy',ey⟩:=hkey j' y hy;exact h.one i j' x' y' hx' hy' (ex.symm.trans (hxy.trans ey))
 ·have h4:x.born∈es.toList.map (·.born):=by rw[<- hbn];exact List.mem_map.2 ⟨x,hx,rfl⟩
  obtain⟨y,hy,e5⟩:=List.mem_map.1 h4;rw[<- e5];exact h.born y hy
theorem zfN.same {es:Array MapEntry}{clock:Nat}{f:ByteArray->ByteArray->Option Value}(h:zfN es clock f){a b:ByteArray}{e:MapEntry}(hx:e∈es.toList)(hk:e.key=yw a b):f a b=some e.val:=by
 obtain⟨a',b',e1,_,_,e3⟩:=h.has e hx
 have:=zfp.1 (hk.symm.trans e1)
 obtain⟨rfl,rfl⟩:=this;exact e3
section
variable {kt mt et:TypeId} (K:zen kt) (hm:Tryz.prog.underlying mt=some (.map kt et)) {Z:Value} (hz:∀w:World,(zeroValue et).run Tryz.prog w=.ok Z w)
include K hm hz
theorem zbp.look {w:World}{r:Nat}{f:ByteArray->ByteArray->Option Value}(h:zbp w r f)(a b:ByteArray)(ha:a.size<=maxLen)(hb:b.size<=maxLen) :
 (Instr.lookup mt (.map (some r)) (yw a b) false).run Tryz.prog w=.ok ((f a b).getD Z) w:=by
 obtain⟨es,clock,hh,hE⟩:=h;obtain⟨l,hl⟩:=K.key a b ha hb
 have hkeys:∀e∈es.toList,∃l,keyOf Tryz.prog kt e.key=some l:=fun e he=>by
  obtain⟨a',b',e1,ha',hb',_⟩:=hE.has e he;rw[e1];exact K.key a' b' ha' hb'
 have hc:=K.law.check w es.isEmpty hl
 rcases K.law.find w hl es.toList hkeys with⟨g1,g2⟩|⟨j,e,g1,g2,g3⟩
 ·have hn:f a b=none:=by
   cases hf:f a b with
   | none=>rfl
   | some v=>
    obtain⟨x,hx,hk⟩:=hE.all a b v hf;exact absurd hk (g2 x hx)
  rw[hn]
  simp[Instr.lookup,run_underlying hm,MapKept.run_getObj_map hh,hc,g1,hz w,Result.andThen]
 ·rw[hE.same (List.mem_of_getElem? g2) g3]
  simp[Instr.lookup,run_underlying hm,MapKept.run_getObj_map hh,hc,g1,Result.andThen]
theorem zbp.entry {w:World}{r:Nat}{f:ByteArray->ByteArray->Option Value}(h:zbp w r f)(a b:ByteArray)(ha:a.size<=maxLen)(hb:b.size<=maxLen) :
 ∃(st:Int) (w1:World),(Instr.mapEntry mt (.map (some r)) (yw a b)).run Tryz.prog w=.ok (.tuple #[(f a b).getD Z,.int .i64 st]) w1/\zbT r w w1 /\
  ∀(w2:World) (v:Value),w2.heap[r]?=w1.heap[r]?->∃w3,(Instr.entryStore mt (.map (some r)) (.int .i64 st) v).run Tryz.prog w2=.ok () w3/\zbp w3 r (ze3 f a b v)/\zbT r w2 w3:=by
 obtain⟨es,clock,hh,hE⟩:=h;obtain⟨l,hl⟩:=K.key a b ha hb
 have hkeys:∀e∈es.toList,∃l,keyOf Tryz.prog kt e.key=some l:=fun e he=>by
  obtain⟨a',b',e1,ha',hb',_⟩:=hE.has e he;rw[e1];exact K.key a' b' ha' hb'
 have hc:=K.law.check w false hl;have hs:=K.law.stays w hl
 have store:∀(es1:Array MapEntry) (c1:Nat) (f1:ByteArray->ByteArray->Option Value),zfN es1 c1 f1->∀(j:Nat) (e:MapEntry),es1[j]?=some e->e.key=yw a b->∀(w1 w2:World) (v:Value),w1.heap[r]?=some (.map es1 c1)->w2.heap[r]?=w1.heap[r]? ->
  ∃w3,(Instr.entryStore mt (.map (some r)) (.int .i64 (e.born:Int)) v).run Tryz.prog w2=.ok () w3/\zbp w3 r (ze3 f1 a b v)/\zbT r w2 w3:=by
  intro es1 c1 f1 hE1 j e hj hk w1 w2 v h1 h2;have hh2:=h2.trans h1;have g2:es1.toList[j]?=some e:=by simpa using hj
  have hidx:es1.findIdx? (fun e'=>((e'.born:Nat):Int) == ((e.born:Nat):Int))=some j:=by
   rw[WideElems.findIdx_arr];exact WideElems.findIdx_born hE1.diff g2
  refine⟨{ w2 with heap:=w2.heap.setIfInBounds r (.map (es1.modify j fun x=>{ x with val:=v }) c1) },?_,⟨_,_,(MapKept.heap_set hh2).1,hE1.modify ha hb hj hk v⟩,rfl,rfl,rfl,by simp,fun q hq=>(MapKept.heap_set hh2).2 q hq⟩
  simp[Instr.entryStore,MapKept.run_getObj_map hh2,asInt,asIntOf,hidx,MapKept.run_setObj_map _ hh2,Result.andThen]
 rcases K.law.find w hl es.toList hkeys with⟨g1,g2⟩|⟨j,e,g1,g2,g3⟩
 ·have hn:f a b=none:=by
   cases hf:f a b with
   | none=>rfl
   | some v=>
    obtain⟨x,hx,hk⟩:=hE.all a b v hf;exact absurd hk (g2 x hx)
  have hP:=hE.push ha hb g2 Z;refine⟨(clock:Int),{ w with heap:=w.heap.setIfInBounds r (.map (es.push ⟨yw a b,Z,clock⟩) (clock+1)) },?_,⟨rfl,rfl,rfl,by simp,fun q hq=>(MapKept.heap_set hh).2 q hq⟩,fun w2 v h2=>?_⟩
  ·rw[hn]
   simp[Instr.mapEntry,run_underlying hm,MapKept.run_getObj_map hh,hc,g1,hz w,MapKept.run_setObj_map _ hh,Result.andThen,goInt]
  ·have h9:=store _ _ _ hP es.size ⟨yw a b,Z,clock⟩ (by simp) rfl _ w2 v (MapKept.heap_set hh).1 h2
   rwa [zp8]at h9
 ·have hj:es[j]?=some e:=by simpa using g2
  have hsame:es.modify j (fun e=>{ e with key:=yw a b })=es:=by
   apply Array.ext'
   rw[Array.toList_modify]
   apply List.ext_getElem?
   intro i;rw[List.getElem?_modify]
   by_cases e':j=i
   ·subst e'
    rw[g2]
    simp[<- g3]
   ·simp[e']
  have hset:{ w with heap:=w.heap.setIfInBounds r (.map es clock) }=w:=by
   have hr:r<w.heap.size:=(gES hh).1
   have:w.heap.setIfInBounds r (.map es clock)=w.heap:=by
    apply Array.ext_getElem?
    intro i
    by_cases e':r=i
    ·subst e';rw[Array.getElem?_setIfInBounds_self_of_lt hr,hh]
    ·rw[Array.getElem?_setIfInBounds_ne e']
   rw[this]
  refine⟨(e.born:Int),w,?_,⟨rfl,rfl,rfl,rfl,fun _ _=>rfl⟩,fun w2 v h2=>store es clock f hE j e hj g3 w w2 v hh h2⟩;rw[hE.same (List.mem_of_getElem? g2) g3]
  simp[Instr.mapEntry,run_underlying hm,MapKept.run_getObj_map hh,hc,g1,hj,g3,hs,hsame,MapKept.run_setObj_map _ hh,Result.andThen,goInt,hset]
end
structure zi8 (b:Bk):Prop where
 one:∀i j (hi:i<b.ls.length) (hj:j<b.ls.length),b.ls[i].tm=b.ls[j].tm->b.ls[i].rs=b.ls[j].rs->i=j
 has:∀k (hk:k<b.ps.length),∃j,∃hj:j<b.ls.length,b.ls[j].tm=b.ps[k].tm/\b.ls[j].rs=b.ps[k].rs
 fr:∀i (hi:i<b.ls.length),0<=b.ls[i].fr/\b.ls[i].fr<=1000000
 am:∀i (hi:i<b.ps.length),0<=b.ps[i].am/\b.ps[i].am<=1000000
 ll:b.ls.length<=1000
 lp:b.ps.length<=1000
 sz:qG b.os<=1048576
def sumTo (l:Lw)(b:Bk)(g:Lg)(k:Nat):Int:=g.fr+used l b.os g.tm g.rs+zbt b.ps g.tm g.rs k
theorem zej (l:Lw)(b:Bk)(tm rs:ByteArray)(h:qG b.os<=1048576):0<=used l b.os tm rs/\used l b.os tm rs<=20000000000000:=by
 have h2:=zcd l b.os tm rs b.os.length (Nat.le_refl _);rw[tOl (Nat.le_refl _)]at h2;unfold used;unfold qG at h;omega
theorem zg8 {r:Nat}{w w':World}(h:zbT r w w'){b o:Nat}(hb:b≠r):w'.cell? ⟨b,o,none⟩=w.cell? ⟨b,o,none⟩:=by
 unfold World.cell?
 rw[h.out b hb]
set_option maxRecDepth 20000 in
theorem zok (l:Lw)(la lb lc:Option Addr)(lca lcb lcc:Nat)(b:Bk)(a0 a1 a2 a3:Option Addr)(c0 c1 c2 c3:Nat)(w:World)(hl:jh w l la lb lc)(hb:jk w b a0 a1 a2 a3)(hs:zi8 b) :
 Calls Tryz.prog 167 #[.agg #[.slice la l.ss.length lca,.slice lb l.ms.length lcb,.slice lc l.ts.length lcc],.agg #[.int .i64 b.now,.int .i64 b.tick,.int .i64 b.given,.slice a0 b.os.length c0,.slice a1 b.gs.length c1,.slice a2 b.ls.length c2,.slice a3 b.ps.length c3]] w fun e w'=>(∃r f,e=.returned (.map (some r))/\w.heap.size<=r/\yA w' r f/\∀i (hi:i<b.ls.length),f b.ls[i].tm b.ls[i].rs=some (sumTo l b b.ls[i] b.ps.length))/\Below w.heap.size w w':=by
 have HH:Hid (jh w l la lb lc/\jk w b a0 a1 a2 a3/\zi8 b):=⟨hl,hb,hs⟩
 have hll:=hs.ll;have hlp:=hs.lp;have hmk:∀w:World,(Instr.makeMap 234 none).run Tryz.prog w=.ok (.map (some w.heap.size)) (w.alloc (.map #[] 0)):=fun w=>by kernel_rfl
 clear hl hb hs;go_enter Tryz.func167,Tryz.ntmps167;go_wp2_with fail
 have HB0:Hid (Below w.heap.size w ((w.alloc (.cells #[.slice la l.ss.length lca,.slice lb l.ms.length lcb,.slice lc l.ts.length lcc] 41)).alloc (.cells #[.int .i64 b.now,.int .i64 b.tick,.int .i64 b.given,.slice a0 b.os.length c0,.slice a1 b.gs.length c1,.slice a2 b.ls.length c2,.slice a3 b.ps.length c3] 48))):=zw _ _ _;have hX0:∀j,((w.alloc (.cells #[.slice la l.ss.length lca,.slice lb l.ms.length lcb,.slice lc l.ts.length lcc] 41)).alloc (.cells #[.int .i64 b.now,.int .i64 b.tick,.int .i64 b.given,.slice a0 b.os.length c0,.slice a1 b.gs.length c1,.slice a2 b.ls.length c2,.slice a3 b.ps.length c3] 48)).cell? ⟨w.heap.size,j,none⟩=(#[.slice la l.ss.length lca,.slice lb l.ms.length lcb,.slice lc l.ts.length lcc]:Array Value)[j]?:=fun j=>cell_of_block (zT _ _ _).1
 have hX1:∀j,((w.alloc (.cells #[.slice la l.ss.length lca,.slice lb l.ms.length lcb,.slice lc l.ts.length lcc] 41)).alloc (.cells #[.int .i64 b.now,.int .i64 b.tick,.int .i64 b.given,.slice a0 b.os.length c0,.slice a1 b.gs.length c1,.slice a2 b.ls.length c2,.slice a3 b.ps.length c3] 48)).cell? ⟨w.heap.size+1,j,none⟩=(#[.int .i64 b.now,.int .i64 b.tick,.int .i64 b.given,.slice a0 b.os.length c0,.slice a1 b.gs.length c1,.slice a2 b.ls.length c2,.slice a3 b.ps.length c3]:Array Value)[j]?:=fun j=>cell_of_block (zT _ _ _).2
 obtain⟨W0,hW0⟩:∃W0,W0=(w.alloc (.cells #[.slice la l.ss.length lca,.slice lb l.ms.length lcb,.slice lc l.ts.length lcc] 41)).alloc (.cells #[.int .i64 b.now,.int .i64 b.tick,.int .i64 b.given,.slice a0 b.os.length c0,.slice a1 b.gs.length c1,.slice a2 b.ls.length c2,.slice a3 b.ps.length c3] 48):=⟨_,rfl⟩
 have hsz:W0.heap.size=w.heap.size+1+1:=by rw[hW0];simp
 rw[<- hW0]at HB0 hX0 hX1 ⊢;clear hW0;have hz0:w.heap.size<W0.heap.size:=by omega
 have hz1:w.heap.size+1<W0.heap.size:=by omega
 have HSZ:=hid hsz;clear hsz;have hba:=(bRf W0.heap.size W0).alloc (Nat.le_refl _) (.map #[] 0);have hY1:=za hX1 hz1 hba;have hzm:=nLt hz1 hba.size;go_wp2_with fail
 clear hmk hY1 hzm hba
 go_loopw [14] (fun iv wr=>∃k:Nat,k<=b.ls.length/\iv=.int .i64 k/\Hid ((∃f,yA wr W0.heap.size f/\∀i (hi:i<b.ls.length),i<k->f b.ls[i].tm b.ls[i].rs=some (sumTo l b b.ls[i] 0))/\Below W0.heap.size W0 wr)) (fun iv _=>b.ls.length-(intOf iv).toNat)
 case atStart=>exact⟨0,Nat.zero_le _,rfl,⟨_,yA.new W0,fun i hi h=>absurd h (Nat.not_lt_zero _)⟩,bAl _ _⟩
 case round=>
  obtain⟨k,hk,rfl,HQ⟩:=hrel;have hkn:k<=1000:=by omega
  by_cases hlt:k<b.ls.length
  ·obtain⟨f,hf,hfk⟩:=HQ.out.1
   have hBr:=HQ.out.2;have HBw:Hid (∀W,Below W0.heap.size W0 W->Below w.heap.size w W):=fun W hW=>HB0.out.trans (hW.mono HB0.out.size)
   obtain⟨ob,off,rfl,hob,d0,d1,d2,d3⟩:=HH.out.2.1.ls.load (HBw.out _ hBr) k hlt;have hsm:=HH.out.2.1.ls.small k hlt;have hltI:(k:Int)<(b.ls.length:Int):=by omega
   have hob':=nLt hob (HBw.out _ hBr).size;have hfr:=HH.out.2.2.fr k hlt;have hus:=zej l b b.ls[k].tm b.ls[k].rs HH.out.2.2.sz;have hwr:IntKind.i64.wrap (b.ls[k].fr+used l b.os b.ls[k].tm b.ls[k].rs)=b.ls[k].fr+used l b.os b.ls[k].tm b.ls[k].rs:=by rw[IntKind.wrap_i64];omega
   have hS0:=za hX0 hz0 hBr;have hS1:=za hX1 hz1 hBr;have HM:=jC hf hBr;have HFK:=hid hfk;have hzl:=nLt hz0 hBr.size;have hzb:=nLt hz1 hBr.size;clear hf hfk hBr HQ;go_wp2_with fail
   have hba:=(bRf wr.heap.size wr).alloc (Nat.le_refl _) (.cells #[.string b.ls[k].tm,.string b.ls[k].rs,.int .i64 b.ls[k].mo,.int .i64 b.ls[k].fr] 142);have hT0:=za hS0 hzl hba;have hT1:=za hS1 hzb hba;have hT2:=zl wr #[.string b.ls[k].tm,.string b.ls[k].rs,.int .i64 b.ls[k].mo,.int .i64 b.ls[k].fr] 142;have hzg:wr.heap.size<(wr.alloc (.cells #[.string b.ls[k].tm,.string b.ls[k].rs,.int .i64 b.ls[k].mo,.int .i64 b.ls[k].fr] 142)).heap.size:=by simp
   obtain⟨W2,hW2⟩:∃W2,W2=wr.alloc (.cells #[.string b.ls[k].tm,.string b.ls[k].rs,.int .i64 b.ls[k].mo,.int .i64 b.ls[k].fr] 142):=⟨_,rfl⟩
   rw[<- hW2]at hba hT0 hT1 hT2 hzg ⊢;clear hW2 hS0 hS1 d0 d1 d2 d3;have hS0:=za hT0 (nLt hzl hba.size) (bRf W2.heap.size W2).drew;have hS1:=za hT1 (nLt hzb hba.size) (bRf W2.heap.size W2).drew;have hS2:=za hT2 hzg (bRf W2.heap.size W2).drew;have hb:=hba.trans ((bRf W2.heap.size W2).drew.mono hba.size);have hy0:=nLt hzl hb.size;have hy1:=nLt hzb hb.size;have hy2:=hzg;have hne0:w.heap.size≠W0.heap.size:=by have:=HSZ.out;omega
   have hne1:w.heap.size+1≠W0.heap.size:=by have:=HSZ.out;omega
   have hne2:wr.heap.size≠W0.heap.size:=by have:=HM.out.1.lt;omega
   have HNE:=zc6 hne0 hne1 hne2;clear hne0 hne1 hne2;clear hT0 hT1 hT2 hba
   go_region_held3 (fun w'=>(∀j,w'.cell? ⟨w.heap.size,j,none⟩=(#[.slice la l.ss.length lca,.slice lb l.ms.length lcb,.slice lc l.ts.length lcc]:Array Value)[j]?)/\(∀j,w'.cell? ⟨w.heap.size+1,j,none⟩=(#[.int .i64 b.now,.int .i64 b.tick,.int .i64 b.given,.slice a0 b.os.length c0,.slice a1 b.gs.length c1,.slice (some ⟨ob,off,none⟩) b.ls.length c2,.slice a3 b.ps.length c3]:Array Value)[j]?)/\(∀j,w'.cell? ⟨wr.heap.size,j,none⟩=(#[.string b.ls[k].tm,.string b.ls[k].rs,.int .i64 b.ls[k].mo,.int .i64 b.ls[k].fr]:Array Value)[j]?)) (first|exact⟨fun j=>by rw[hS0],fun j=>by rw[hS1],fun j=>by rw[hS2]⟩|exact⟨fun j=>by rw[hU0],fun j=>by rw[hU1],fun j=>by rw[hU2]⟩) (first
    | (go_at_call 168;refine(zbY b.ls[k] _).mono ?_;rintro e w5⟨rfl,hb5⟩;unfold yw;have hS0:=za hS0 hy0 hb5;have hS1:=za hS1 hy1 hb5;have hS2:=za hS2 hy2 hb5;have hy0:=nLt hy0 hb5.size;have hy1:=nLt hy1 hb5.size;have hy2:=nLt hy2 hb5.size;have hb:=hb.trans (hb5.mono hb.size);clear hb5)
    | (go_at_call 202;refine(zlW l la lb lc lca lcb lcc b a0 a1 (some ⟨ob,off,none⟩) a3 c0 c1 c2 c3 _ _ _ (by exact HH.out.1.mono ((HBw.out _ HM.out.2).trans (hb.mono (HBw.out _ HM.out.2).size))) (by exact HH.out.2.1.mono ((HBw.out _ HM.out.2).trans (hb.mono (HBw.out _ HM.out.2).size))) HH.out.2.2.sz).mono ?_;rintro e w6⟨rfl,hb6⟩;have hS0:=za hS0 hy0 hb6;have hS1:=za hS1 hy1 hb6;have hS2:=za hS2 hy2 hb6;have hb:=hb.trans (hb6.mono hb.size);have hf6:=HM.out.1.mono hb;obtain⟨w7,hup,hf7,hp7⟩:=hf6.upd zcL Tryz.underlying234 b.ls[k].tm b.ls[k].rs hsm.tm hsm.rs (b.ls[k].fr+used l b.os b.ls[k].tm b.ls[k].rs);unfold yw at hup;rw[HSZ.out]at hup;have hU0:=fun j=>(zg8 hp7 (o:=j) HNE.out.1).trans (hS0 j);have hU1:=fun j=>(zg8 hp7 (o:=j) HNE.out.2.1).trans (hS1 j);have hU2:=fun j=>(zg8 hp7 (o:=j) HNE.out.2.2).trans (hS2 j);clear hb6))
   go_wp2_with fail
   refine⟨⟨k+1,by omega,by go_num,⟨_,hf7,fun i hi hik=>?_⟩,hp7.below (HM.out.2.trans (hb.mono HM.out.2.size)) (Nat.le_refl _)⟩,zm hlt⟩
   by_cases e:i=k
   ·subst e
    rw[if_pos ⟨rfl,rfl⟩]
    simp[sumTo,zbt]
   ·rw[if_neg (fun h=>e (HH.out.2.2.one i k hi hlt h.1 h.2))]
    exact HFK.out i hi (by omega)
  ·have e:k=b.ls.length:=by omega
   have hBr:=HQ.out.2;have hS1:=za hX1 hz1 hBr;have hzb:=nLt hz1 hBr.size
   have HM:Hid (∃f,yA wr W0.heap.size f/\∀i (hi:i<b.ls.length),f b.ls[i].tm b.ls[i].rs=some (sumTo l b b.ls[i] 0)):=by
    obtain⟨f,hf,hfk⟩:=HQ.out.1;exact⟨f,hf,fun i hi=>hfk i hi (by omega)⟩
   have HBr:=hid hBr;have HBw:Hid (∀W,Below W0.heap.size W0 W->Below w.heap.size w W):=fun W hW=>HB0.out.trans (hW.mono HB0.out.size)
   clear hBr HQ hlt hk hkn;subst e;go_wp2_with fail
   clear hS1
   go_loopw [35] (fun iv ws=>∃k:Nat,k<=b.ps.length/\iv=.int .i64 k/\Hid ((∃f,yA ws W0.heap.size f/\∀i (hi:i<b.ls.length),f b.ls[i].tm b.ls[i].rs=some (sumTo l b b.ls[i] k))/\Below W0.heap.size W0 ws)) (fun iv _=>b.ps.length-(intOf iv).toNat)
   case atStart=>exact⟨0,Nat.zero_le _,rfl,HM.out,HBr.out⟩
   case round=>
    obtain⟨k,hk,rfl,HQ⟩:=hrel;have hkn:k<=1000:=by omega
    by_cases hlt:k<b.ps.length
    ·obtain⟨f,hf,hfk⟩:=HQ.out.1
     have hBr:=HQ.out.2;obtain⟨ob,off,rfl,hob,d0,d1,d2,d3,d4⟩:=HH.out.2.1.ps.load (HBw.out _ hBr) k hlt;have hsm:=HH.out.2.1.ps.small k hlt;have hltI:(k:Int)<(b.ps.length:Int):=by omega
     have hob':=nLt hob (HBw.out _ hBr).size
     obtain⟨v,hv,hvb⟩:∃v,f b.ps[k].tm b.ps[k].rs=some v/\0<=v/\v<=30000000000000:=by
      obtain⟨j,hj,e1,e2⟩:=HH.out.2.2.has k hlt;refine⟨_,by rw[<- e1,<- e2];exact hfk j hj,?_⟩;have h1:=HH.out.2.2.fr j hj;have h2:=zej l b b.ls[j].tm b.ls[j].rs HH.out.2.2.sz;have h3:=zbN b.ps b.ls[j].tm b.ls[j].rs HH.out.2.2.am k hk;unfold sumTo;omega
     have ham:=HH.out.2.2.am k hlt;have hwr:IntKind.i64.wrap (v+b.ps[k].am)=v+b.ps[k].am:=by rw[IntKind.wrap_i64];omega
     have HM2:=zkC hf hBr hv hfk;clear hf hfk hBr HQ hv hvb
     have HFIN:Hid (∀i (hi:i<b.ls.length),(if b.ls[i].tm=b.ps[k].tm/\b.ls[i].rs=b.ps[k].rs then some (v+b.ps[k].am) else f b.ls[i].tm b.ls[i].rs)=some (sumTo l b b.ls[i] (k+1))):=by
      intro i hi;obtain⟨_,_,g1,g2⟩:=HM2.out;have g3:=g2 i hi
      by_cases e:b.ls[i].tm=b.ps[k].tm/\b.ls[i].rs=b.ps[k].rs
      ·rw[if_pos e]
       have g4:v=sumTo l b b.ls[i] k:=by
        rw[e.1,e.2,g1]at g3;exact Option.some.inj g3
       unfold sumTo at g4 ⊢;rw[zfn _ _ _ _ hlt,if_pos (by unfold zod;simp[e.1,e.2]),g4]
       congr 1
       omega
      ·rw[if_neg e,g3]
       unfold sumTo;rw[zfn _ _ _ _ hlt,if_neg (by unfold zod;simp only[Bool.and_eq_true,decide_eq_true_eq];exact fun h=>e ⟨h.1.symm,h.2.symm⟩)]
       congr 1
       omega
     go_wp2_with fail
     have hba:=(bRf wr.heap.size wr).alloc (Nat.le_refl _) (.cells #[.string b.ps[k].dr,.string b.ps[k].tm,.string b.ps[k].rs,.int .i64 b.ps[k].am,.int .i64 b.ps[k].un] 144);have hT2:=zl wr #[.string b.ps[k].dr,.string b.ps[k].tm,.string b.ps[k].rs,.int .i64 b.ps[k].am,.int .i64 b.ps[k].un] 144;have hzg:wr.heap.size<(wr.alloc (.cells #[.string b.ps[k].dr,.string b.ps[k].tm,.string b.ps[k].rs,.int .i64 b.ps[k].am,.int .i64 b.ps[k].un] 144)).heap.size:=by simp
     obtain⟨W2,hW2⟩:∃W2,W2=wr.alloc (.cells #[.string b.ps[k].dr,.string b.ps[k].tm,.string b.ps[k].rs,.int .i64 b.ps[k].am,.int .i64 b.ps[k].un] 144):=⟨_,rfl⟩
     rw[<- hW2]at hba hT2 hzg ⊢;clear hW2 d0 d1 d2 d3 d4;have hS2:=za hT2 hzg (bRf W2.heap.size W2).drew;have hb:=hba.trans ((bRf W2.heap.size W2).drew.mono hba.size);have hy2:=hzg;have HNE:Hid (wr.heap.size≠W0.heap.size):=by have:=HM2.out.1.lt;intro h;omega
     clear hT2 hba
     go_region_held3 (fun w'=>∀j,w'.cell? ⟨wr.heap.size,j,none⟩=(#[.string b.ps[k].dr,.string b.ps[k].tm,.string b.ps[k].rs,.int .i64 b.ps[k].am,.int .i64 b.ps[k].un]:Array Value)[j]?) (first|exact fun j=>by rw[hS2]|exact fun j=>by rw[hU2]) (first
      | (go_at_call 166;refine(zdP b.ps[k] _).mono ?_;rintro e w5⟨rfl,hb5⟩;have hS2:=za hS2 hy2 hb5;have hb:=hb.trans (hb5.mono hb.size);have hf5:=HM2.out.1.mono hb;have hlk:=hf5.look zcL Tryz.underlying234 b.ps[k].tm b.ps[k].rs hsm.tm hsm.rs false;rw[HM2.out.2.2.1]at hlk;obtain⟨st,hen,hst⟩:=hf5.entry zcL Tryz.underlying234 b.ps[k].tm b.ps[k].rs hsm.tm hsm.rs v HM2.out.2.2.1;obtain⟨w7,hup,hf7,hp7⟩:=hst (v+b.ps[k].am);unfold yw at hlk hen ⊢;rw[HSZ.out]at hlk hen hup;simp only[Option.getD_some,Bool.false_eq_true,if_false]at hlk;have hU2:=fun j=>(zg8 hp7 (o:=j) HNE.out).trans (hS2 j);clear hb5 hst))
     all_goals first|(go_wp2_with fail;exact⟨⟨k+1,by omega,by go_num,⟨_,hf7,HFIN.out⟩,hp7.below (HM2.out.2.1.trans (hb.mono HM2.out.2.1.size)) (Nat.le_refl _)⟩,zm hlt⟩)|exact⟨⟨k+1,by omega,by go_num,⟨_,hf7,HFIN.out⟩,hp7.below (HM2.out.2.1.trans (hb.mono HM2.out.2.1.size)) (Nat.le_refl _)⟩,zm hlt⟩
    ·have e:k=b.ps.length:=by omega
     subst e;have HE:=hid HQ.out;clear HQ hlt hk;go_wp2_with fail
     go_ret;obtain⟨⟨f,h1,h2⟩,h3⟩:=HE.out;rw[HSZ.out]at h1;exact⟨⟨_,f,rfl,by omega,h1,h2⟩,HBw.out _ h3⟩
def za1 (l:Lw)(b:Bk)(g:Lg):Bool:=decide (sumTo l b g b.ps.length=g.mo)
def zcV (l:Lw)(b:Bk):Bool:=b.ls.all (za1 l b)
set_option maxRecDepth 20000 in
theorem zmJ (l:Lw)(la lb lc:Option Addr)(lca lcb lcc:Nat)(b:Bk)(a0 a1 a2 a3:Option Addr)(c0 c1 c2 c3:Nat)(w:World)(hl:jh w l la lb lc)(hb:jk w b a0 a1 a2 a3)(hs:zi8 b) :
 Calls Tryz.prog 121 #[.agg #[.slice la l.ss.length lca,.slice lb l.ms.length lcb,.slice lc l.ts.length lcc],.agg #[.int .i64 b.now,.int .i64 b.tick,.int .i64 b.given,.slice a0 b.os.length c0,.slice a1 b.gs.length c1,.slice a2 b.ls.length c2,.slice a3 b.ps.length c3]] w fun e w'=>e=.returned (.bool (zcV l b))/\Below w.heap.size w w':=by
 have HH:=zc6 hl hb hs;have hll:=hs.ll;clear hl hb hs;have HG:Hid (zcV l b=b.ls.all (za1 l b)):=rfl;go_enter Tryz.func121,Tryz.ntmps121;go_wp2_with fail
 have hb2:=zw w (.cells #[.slice la l.ss.length lca,.slice lb l.ms.length lcb,.slice lc l.ts.length lcc] 41) (.cells #[.int .i64 b.now,.int .i64 b.tick,.int .i64 b.given,.slice a0 b.os.length c0,.slice a1 b.gs.length c1,.slice a2 b.ls.length c2,.slice a3 b.ps.length c3] 48);refine(zok l la lb lc lca lcb lcc b a0 a1 a2 a3 c0 c1 c2 c3 _ (HH.out.1.mono hb2) (HH.out.2.1.mono hb2) HH.out.2.2).mono ?_;rintro e w1⟨⟨r,f,rfl,hr,hf,hfk⟩,hb1⟩;have hX1:∀j,w1.cell? ⟨w.heap.size+1,j,none⟩=(#[.int .i64 b.now,.int .i64 b.tick,.int .i64 b.given,.slice a0 b.os.length c0,.slice a1 b.gs.length c1,.slice a2 b.ls.length c2,.slice a3 b.ps.length c3]:Array Value)[j]?:=fun j=>cell_of_block ((hb1.block (w.heap.size+1) (by simp)).trans (zT _ _ _).2)
 have hz1:w.heap.size+1<w1.heap.size:=by have:=hb1.size;simp at this;omega
 have HB1:Hid (Below w.heap.size w w1):=hb2.trans (hb1.mono (by simp;omega));have HM:=jC hf hfk;clear hb1 hb2 hf hfk hr;go_wp2_with fail
 go_loopw [14] (fun iv wr=>∃k:Nat,k<=b.ls.length/\iv=.int .i64 k/\Hid ((b.ls.take k).all (za1 l b)=true/\Below w1.heap.size w1 wr)) (fun iv _=>b.ls.length-(intOf iv).toNat)
 case atStart=>exact⟨0,Nat.zero_le _,rfl,by simp,bRf _ _⟩
 case round=>
  obtain⟨k,hk,rfl,HQ⟩:=hrel;have hkn:k<=1000:=by omega
  by_cases hlt:k<b.ls.length
  ·have hBr:=HQ.out.2
   have hBw:=HB1.out.trans (hBr.mono HB1.out.size);obtain⟨ob,off,rfl,hob,d0,d1,d2,d3⟩:=HH.out.2.1.ls.load hBw k hlt;have hsm:=HH.out.2.1.ls.small k hlt;have hltI:(k:Int)<(b.ls.length:Int):=by omega
   have hob':ob<wr.heap.size:=nLt hob hBw.size;have HSn:Hid ((b.ls.take (k+1)).all (za1 l b)=((b.ls.take k).all (za1 l b)&&(za1 l b) b.ls[k])):=qQ _ _ _ hlt;have HNo:Hid ((za1 l b) b.ls[k]=false->zcV l b=false):=fun h=>by rw[HG.out];exact zaD _ _ _ hlt h
   have HYes:Hid ((za1 l b) b.ls[k]=true->(b.ls.take (k+1)).all (za1 l b)=true):=fun h=>by rw[HSn.out,HQ.out.1,h];rfl
   obtain⟨v,hv⟩:∃v,v=sumTo l b b.ls[k] b.ps.length:=⟨_,rfl⟩
   have HM2:Hid (yA wr r f/\Below w1.heap.size w1 wr/\f b.ls[k].tm b.ls[k].rs=some v):=⟨HM.out.1.mono hBr,hBr,by rw[hv];exact HM.out.2 k hlt⟩
   have HV:=hid hv;clear hBr hBw HQ hv
   by_cases he:v=b.ls[k].mo
   ·have e2:(v != b.ls[k].mo)=false:=by simp[he]
    have HN:Hid ((b.ls.take (k+1)).all (za1 l b)=true):=HYes.out (by unfold za1;rw[decide_eq_true_eq,<- HV.out];exact he);clear he;go_wp2_with fail
    have hba:=(bRf wr.heap.size wr).alloc (Nat.le_refl _) (.cells #[.string b.ls[k].tm,.string b.ls[k].rs,.int .i64 b.ls[k].mo,.int .i64 b.ls[k].fr] 142);have hT2:=zl wr #[.string b.ls[k].tm,.string b.ls[k].rs,.int .i64 b.ls[k].mo,.int .i64 b.ls[k].fr] 142;have hzg:wr.heap.size<(wr.alloc (.cells #[.string b.ls[k].tm,.string b.ls[k].rs,.int .i64 b.ls[k].mo,.int .i64 b.ls[k].fr] 142)).heap.size:=by simp
    obtain⟨W2,hW2⟩:∃W2,W2=wr.alloc (.cells #[.string b.ls[k].tm,.string b.ls[k].rs,.int .i64 b.ls[k].mo,.int .i64 b.ls[k].fr] 142):=⟨_,rfl⟩
    rw[<- hW2]at hba hT2 hzg ⊢;clear hW2 d0 d1 d2 d3;have hS2:=za hT2 hzg (bRf W2.heap.size W2).drew;have hb:=hba.trans ((bRf W2.heap.size W2).drew.mono hba.size);have hy2:=hzg;clear hT2 hba
    go_region_held3 (fun w'=>∀j,w'.cell? ⟨wr.heap.size,j,none⟩=(#[.string b.ls[k].tm,.string b.ls[k].rs,.int .i64 b.ls[k].mo,.int .i64 b.ls[k].fr]:Array Value)[j]?) (exact fun j=>by rw[hS2]) (first
     | (go_at_call 168;refine(zbY b.ls[k] _).mono ?_;rintro e w5⟨rfl,hb5⟩;have hS2:=za hS2 hy2 hb5;have hb:=hb.trans (hb5.mono hb.size);have hf5:=HM2.out.1.mono hb;have hlk:=hf5.look zcL Tryz.underlying234 b.ls[k].tm b.ls[k].rs hsm.tm hsm.rs false;rw[HM2.out.2.2]at hlk;unfold yw at hlk ⊢;simp only[Option.getD_some,Bool.false_eq_true,if_false]at hlk;clear hb5))
    go_wp2_with fail
    exact⟨⟨k+1,by omega,by go_num,HN.out,HM2.out.2.1.trans (hb.mono HM2.out.2.1.size)⟩,zm hlt⟩
   ·have e2:(v != b.ls[k].mo)=true:=by simp[he]
    have HN:Hid (zcV l b=false):=HNo.out (by unfold za1;rw[decide_eq_false_iff_not,<- HV.out];exact he);clear he;go_wp2_with fail
    have hba:=(bRf wr.heap.size wr).alloc (Nat.le_refl _) (.cells #[.string b.ls[k].tm,.string b.ls[k].rs,.int .i64 b.ls[k].mo,.int .i64 b.ls[k].fr] 142);have hT2:=zl wr #[.string b.ls[k].tm,.string b.ls[k].rs,.int .i64 b.ls[k].mo,.int .i64 b.ls[k].fr] 142;have hzg:wr.heap.size<(wr.alloc (.cells #[.string b.ls[k].tm,.string b.ls[k].rs,.int .i64 b.ls[k].mo,.int .i64 b.ls[k].fr] 142)).heap.size:=by simp
    obtain⟨W2,hW2⟩:∃W2,W2=wr.alloc (.cells #[.string b.ls[k].tm,.string b.ls[k].rs,.int .i64 b.ls[k].mo,.int .i64 b.ls[k].fr] 142):=⟨_,rfl⟩
    rw[<- hW2]at hba hT2 hzg ⊢;clear hW2 d0 d1 d2 d3;have hS2:=za hT2 hzg (bRf W2.heap.size W2).drew;have hb:=hba.trans ((bRf W2.heap.size W2).drew.mono hba.size);have hy2:=hzg;clear hT2 hba
    go_region_held3 (fun w'=>∀j,w'.cell? ⟨wr.heap.size,j,none⟩=(#[.string b.ls[k].tm,.string b.ls[k].rs,.int .i64 b.ls[k].mo,.int .i64 b.ls[k].fr]:Array Value)[j]?) (exact fun j=>by rw[hS2]) (first
     | (go_at_call 168;refine(zbY b.ls[k] _).mono ?_;rintro e w5⟨rfl,hb5⟩;have hS2:=za hS2 hy2 hb5;have hb:=hb.trans (hb5.mono hb.size);have hf5:=HM2.out.1.mono hb;have hlk:=hf5.look zcL Tryz.underlying234 b.ls[k].tm b.ls[k].rs hsm.tm hsm.rs false;rw[HM2.out.2.2]at hlk;unfold yw at hlk ⊢;simp only[Option.getD_some,Bool.false_eq_true,if_false]at hlk;clear hb5))
    go_wp2_with fail
    go_ret;have h9:=HM2.out.2.1.trans (hb.mono HM2.out.2.1.size);exact⟨ze HN.out.symm,HB1.out.trans (h9.mono HB1.out.size)⟩
  ·have e:k=b.ls.length:=by omega
   subst e;have HE:Hid (zcV l b=true):=by have:=HQ.out.1;rw[tOl (Nat.le_refl _)]at this;unfold Hid;rw[HG.out];exact this
   have HB:=hid HQ.out.2;clear HQ hlt hk;go_wp2_with fail
   go_ret;exact⟨ze HE.out.symm,HB1.out.trans (HB.out.mono HB1.out.size)⟩
end Go.Proofs.YtnapmdofidgliaaGreat
