import Derived.Test.YtnapmdofidgliaaGreatM51
set_option maxHeartbeats 4000000
namespace Go.Proofs.YtnapmdofidgliaaGreat
noncomputable def lks (l:Lw)(o:Ob):List Lk:=qm (shapeOf l.ss o.kd).fs o.vs (shapeOf l.ss o.kd).fs.length
def zhy (l:Lw)(os:List Ob)(j:Nat)(p q:ByteArray):Prop:=∃hj:j<os.length,∃y∈lks l os[j],y.rl=3/\y.to=p/\y.nm=q
structure zch (l:Lw)(os:List Ob)(n:Nat)(g:ByteArray->ByteArray->List Int):Prop where
 sound:∀p q x,x∈g p q->∃j:Nat,j<n/\x=(j:Int)/\zhy l os j p q
 whole:∀j p q,j<n->zhy l os j p q->(j:Int)∈g p q
 few:∀p q,(g p q).length<=6*n
structure zaY (l:Lw)(os:List Ob)(k:Nat)(pre:List Lk)(g:ByteArray->ByteArray->List Int):Prop where
 sound:∀p q x,x∈g p q->(∃j:Nat,j<k/\x=(j:Int)/\zhy l os j p q) \/ (x=(k:Int)/\∃y∈pre,y.rl=3/\y.to=p/\y.nm=q)
 whole:∀j p q,j<k->zhy l os j p q->(j:Int)∈g p q
 here:∀y∈pre,y.rl=3->(k:Int)∈g y.to y.nm
 few:∀p q,(g p q).length<=6*k+pre.length
theorem zch.zero (l:Lw)(os:List Ob):zch l os 0 (fun _ _=>[]):=⟨fun _ _ _ h=>(by cases h),fun _ _ _ h=>(by omega),fun _ _=>(by simp)⟩
theorem zch.start {l:Lw}{os:List Ob}{k:Nat}{g:ByteArray->ByteArray->List Int}(h:zch l os k g):zaY l os k [] g:=
 ⟨fun p q x hx=>Or.inl (h.sound p q x hx),h.whole,fun y hy=>(by cases hy),fun p q=>(by simpa using h.few p q)⟩
theorem zaY.skip {l:Lw}{os:List Ob}{k:Nat}{pre:List Lk}{g:ByteArray->ByteArray->List Int}(h:zaY l os k pre g){x:Lk}(hx:x.rl≠3):zaY l os k (pre++[x]) g:=by
 refine⟨fun p q v hv=>(h.sound p q v hv).imp id (fun⟨e,y,hy,h3⟩=>⟨e,y,List.mem_append_left _ hy,h3⟩),h.whole,fun y hy h3=>?_,fun p q=>?_⟩
 ·rcases List.mem_append.1 hy with h1|h1
  ·exact h.here y h1 h3
  ·rw[List.mem_singleton.1 h1]at h3;exact absurd h3 hx
 ·have:=h.few p q
  simp;omega
theorem zaY.put {l:Lw}{os:List Ob}{k:Nat}{pre:List Lk}{g:ByteArray->ByteArray->List Int}(h:zaY l os k pre g){x:Lk}(hx:x.rl=3):zaY l os k (pre++[x]) (fun p q=>if p=x.to/\q=x.nm then g x.to x.nm++[(k:Int)] else g p q):=by
 refine⟨fun p q v hv=>?_,fun j p q hj hl=>?_,fun y hy h3=>?_,fun p q=>?_⟩
 ·by_cases e:p=x.to/\q=x.nm
  ·simp only[if_pos e]at hv
   obtain⟨rfl,rfl⟩:=e
   rcases List.mem_append.1 hv with h1|h1
   ·exact(h.sound _ _ v h1).imp id (fun⟨e,y,hy,h3⟩=>⟨e,y,List.mem_append_left _ hy,h3⟩)
   ·exact Or.inr ⟨List.mem_singleton.1 h1,x,by simp,hx,rfl,rfl⟩
  ·simp only[if_neg e]at hv
   exact(h.sound p q v hv).imp id (fun⟨e,y,hy,h3⟩=>⟨e,y,List.mem_append_left _ hy,h3⟩)
 ·by_cases e:p=x.to/\q=x.nm
  ·simp only[if_pos e]
   obtain⟨rfl,rfl⟩:=e;exact List.mem_append_left _ (h.whole j _ _ hj hl)
  ·simp only[if_neg e]
   exact h.whole j p q hj hl
 ·by_cases e:y.to=x.to/\y.nm=x.nm
  ·simp only[if_pos e]
   simp
  ·simp only[if_neg e]
   rcases List.mem_append.1 hy with h1|h1
   ·exact h.here y h1 h3
   ·rw[List.mem_singleton.1 h1]at e;exact absurd ⟨rfl,rfl⟩ e
 ·by_cases e:p=x.to/\q=x.nm
  ·simp only[if_pos e]
   have:=h.few x.to x.nm
   simp;omega
  ·simp only[if_neg e]
   have:=h.few p q
   simp;omega
theorem zaY.done {l:Lw}{os:List Ob}{k:Nat}{g:ByteArray->ByteArray->List Int}(hk:k<os.length)(h6:(lks l os[k]).length<=6)(h:zaY l os k (lks l os[k]) g):zch l os (k+1) g:=by
 refine⟨fun p q x hx=>?_,fun j p q hj hl=>?_,fun p q=>?_⟩
 ·rcases h.sound p q x hx with⟨j,h1,h2,h3⟩|⟨e,y,hy,h3⟩
  ·exact⟨j,by omega,h2,h3⟩
  ·exact⟨k,by omega,e,hk,y,hy,h3⟩
 ·by_cases e:j=k
  ·subst e
   obtain⟨_,y,hy,h3,rfl,rfl⟩:=hl;exact h.here y hy h3
  ·exact h.whole j p q (by omega) hl
 ·have:=h.few p q
  omega
theorem znA {l:Lw}{os:List Ob}(j k:Nat)(hj:j<os.length):zhy l os k os[j].kd os[j].nm↔zbr l os j k:=by
 unfold zhy zbr names jy lks
 constructor
 ·rintro⟨hk,y,hy,h3,e1,e2⟩
  refine⟨hj,hk,List.any_eq_true.2 ⟨y,hy,?_⟩⟩;unfold zar
  simp[h3,e1,e2]
 ·rintro⟨_,hk,h⟩
  obtain⟨y,hy,h1⟩:=List.any_eq_true.1 h;unfold zar at h1;simp only[Bool.and_eq_true,decide_eq_true_eq]at h1;exact⟨hk,y,hy,h1.1,h1.2.1.symm,h1.2.2.symm⟩
end Go.Proofs.YtnapmdofidgliaaGreat
namespace Go.Proofs.YtnapmdofidgliaaGreat
open Go.RowKit Go.Shelf
attribute [local go_sem] Oper.semAt_some
structure zmm (w0:World)(l:Lw)(bk:Bk)(a b c oa:Option Addr)(ca cb cc oc:Nat)(Bl Bb Bp rp:Nat)(fp:ByteArray->ByteArray->Option Int):Prop where
 law:jh w0 l a b c
 obs:zbV w0 oa bk.os
 few:bk.os.length<=1048576
 bl:w0.heap[Bl]?=some (.cells #[.slice a l.ss.length ca,.slice b l.ms.length cb,.slice c l.ts.length cc] 41)
 bb:w0.cell? ⟨Bb,3,none⟩=some (.slice oa bk.os.length oc)
 bbl:Bb<w0.heap.size
 bp:Boxed w0 Bp 78 (.map (some rp))
 mp:yA w0 rp fp
 pl:zbK fp bk.os bk.os.length
 ok:zI l bk=true
 sh:zN l.ss=true
 ln:∀i (h:i<bk.os.length),bk.os[i].vs.length=(shapeOf l.ss bk.os[i].kd).fs.length
set_option maxRecDepth 100000 in
theorem zn1 (w0:World)(l:Lw)(bk:Bk)(a b c oa:Option Addr)(ca cb cc oc:Nat)(Bl Bb Bp rp:Nat)(fp:ByteArray->ByteArray->Option Int)(hH:zmm w0 l bk a b c oa ca cb cc oc Bl Bb Bp rp fp)(Bk Bf:Nat)(hk:w0.heap.size<Bk)(hf:w0.heap.size<Bf)(m:Nat) :
 ∀(S:Nat->Bool) (i:Nat) (hi:i<bk.os.length) (w:World),lacks S bk.os.length<m->Below w0.heap.size w0 w->yR bk.os w0.heap.size S w->Boxed w Bk 79 (.map (some w0.heap.size)) ->
 Boxed w Bf 147 (.func (.func 77) #[] #[.pointer (some ⟨Bk,0,none⟩),.pointer (some ⟨Bp,0,none⟩),.pointer (some ⟨Bl,0,none⟩),.pointer (some ⟨Bb,0,none⟩),.pointer (some ⟨Bf,0,none⟩)]) ->
 Calls Tryz.prog 77 #[yw bk.os[i].kd bk.os[i].nm,.pointer (some ⟨Bk,0,none⟩),.pointer (some ⟨Bp,0,none⟩),.pointer (some ⟨Bl,0,none⟩),.pointer (some ⟨Bb,0,none⟩),.pointer (some ⟨Bf,0,none⟩)] w
  fun e w'=>e=.returned (.tuple #[])/\(∃S',yR bk.os w0.heap.size S' w'/\Keeps l bk.os (·=i) S S'/\S' i=true)/\But w0.heap.size w.heap.size w w':=by
 induction m with
 | zero=>intro S i hi w hm;omega
 | succ m IH=>
 intro S i hi w hm hB0 hS bK bF;have HH:Hid (zmm w0 l bk a b c oa ca cb cc oc Bl Bb Bp rp fp/\lacks S bk.os.length<m+1/\Below w0.heap.size w0 w/\yR bk.os w0.heap.size S w):=⟨hH,hm,hB0,hS⟩
 clear hm hB0 hS hH;unfold yw;refine(callsIn_wide (n:=6)).1 ?_;refine callsIn_of_wp_marks Tryz.func77 rfl trivial ?_ rfl;simp only[Tryz.ntmps77,List.size_toArray,List.length_cons,List.length_nil,Nat.reduceAdd,Nat.reduceSub,Array.replicate_succ,Array.replicate_zero,List.push_toArray,List.append_toArray,List.nil_append,List.cons_append];have cK:=bK.cell;have hKl:=bK.lt
 gi_wp2_with fail
 refine⟨trivial,?_⟩;obtain⟨f,hpm,hfS⟩:=HH.out.2.2.2;have hba:Below w.heap.size w (w.alloc (.cells #[.string bk.os[i].kd,.string bk.os[i].nm] 149)):=bAl _ _;obtain⟨_,_,_,_,_,_,_,_,hsm,_⟩:=HH.out.1.obs.load (bRf _ _) i hi;refine(callsIn_wide.2 (zdX w0.heap.size f bk.os[i].kd bk.os[i].nm _ (hpm.mono hba) hsm.kd hsm.nm)).mono ?_;rintro e w1⟨rfl,hb1⟩;rw[hfS i hi];have cK1:=((hba.trans (hb1.mono hba.size)).cell (p:=⟨Bk,0,none⟩) hKl).trans cK;have hB1:Below w0.heap.size w0 w1:=HH.out.2.2.1.trans ((hba.trans (hb1.mono hba.size)).mono HH.out.2.2.1.size);have HB1:Hid (Below w.heap.size w w1):=hba.trans (hb1.mono hba.size)
 cases hSi:S i with
 | true=>
  gi_wp2
  exact⟨.tuple #[],by simp[results,Tryz.results77,go_sem],rfl,⟨S,HH.out.2.2.2.mono HB1.out,Keeps.refl _ _ _ _,hSi⟩,But.of_below HB1.out⟩
 | false=>
  have hv:fp bk.os[i].kd bk.os[i].nm=some (i:Int):=by
   have h1:=HH.out.1.pl.has bk.os[i].kd bk.os[i].nm;rw[List.take_length,List.any_eq_true.2 ⟨bk.os[i],List.getElem_mem hi,by simp[zar]⟩]at h1;obtain⟨v,hv⟩:=Option.isSome_iff_exists.1 h1;obtain⟨j,hj,e,e1,e2⟩:=HH.out.1.pl.at_ _ _ _ hv
   have:=zdZ.of HH.out.1.ok j i hj hi e1 e2
   subst this;rw[hv,e]
  have bp1:Boxed w1 Bp 78 (.map (some rp)):=(hB1.block _ HH.out.1.bp.lt).trans HH.out.1.bp;have cp:=bp1.cell;have hlk:=(HH.out.1.mp.mono hB1.drew).look zab Tryz.underlying78 bk.os[i].kd bk.os[i].nm hsm.kd hsm.nm false;obtain⟨w2,hup,hf2,hp2⟩:=(hpm.mono HB1.out.drew).upd zab Tryz.underlying79 bk.os[i].kd bk.os[i].nm hsm.kd hsm.nm (i:Int);have hmx:Tryz.prog.follows .mixedOrders=true:=by kernel_rfl
  unfold yw at hlk hup;rw[hv]at hlk;have ck0:w1.cell? ⟨w.heap.size,0,none⟩=some (.string bk.os[i].kd):=(hb1.cell (p:=⟨w.heap.size,0,none⟩) (by simp)).trans (cell_of_block (World.alloc_heap_new w _));have ck1:w1.cell? ⟨w.heap.size,1,none⟩=some (.string bk.os[i].nm):=(hb1.cell (p:=⟨w.heap.size,1,none⟩) (by simp)).trans (cell_of_block (World.alloc_heap_new w _));have ckb:∀j,w1.cell? ⟨w.heap.size,j,none⟩=(#[.string bk.os[i].kd,.string bk.os[i].nm]:Array Value)[j]?:=za (zl w _ 149) (by simp) hb1;simp only[Bool.false_eq_true,if_false,Option.getD_some]at hlk;have hzl:w.heap.size<w1.heap.size:=nLt (by simp) hb1.size;have hBpl:Bp<w1.heap.size:=bp1.lt;have hBkl:Bk<w1.heap.size:=nLt hKl HB1.out.size;have HP:Hid (yA w2 w0.heap.size (fun p q=>if p=bk.os[i].kd/\q=bk.os[i].nm then some (i:Int) else f p q)/\zbT w0.heap.size w1.drew w2/\Below w0.heap.size w0 w1):=⟨hf2,hp2,hB1⟩
  clear hf2 hp2 hb1 hba
  gi_wp2
  refine zlS (fun a' w'=>∃u,a'={ tmps:=u,defers:=[] }/\w2=w'/\u=#[.agg #[.string bk.os[i].kd,.string bk.os[i].nm],.pointer (some ⟨Bk,0,none⟩),.pointer (some ⟨Bp,0,none⟩),.pointer (some ⟨Bl,0,none⟩),.pointer (some ⟨Bb,0,none⟩),.pointer (some ⟨Bf,0,none⟩),.pointer (some ⟨w.heap.size,0,none⟩),undef,.map (some w0.heap.size),.agg #[.string bk.os[i].kd,.string bk.os[i].nm],.bool false,.map (some w0.heap.size),.agg #[.string bk.os[i].kd,.string bk.os[i].nm],.map (some rp),.agg #[.string bk.os[i].kd,.string bk.os[i].nm],.int .i64 i,undef,undef,undef,undef,undef,undef,undef,undef,undef,undef,undef,undef,undef,undef,undef,undef,undef]) ?_ ?_
  ·gi_region_with_o fail
   all_goals exact⟨rfl,_,rfl,rfl,rfl⟩
  rintro a' w'⟨u,rfl,rfl,rfl⟩;have hB2:Below w0.heap.size w0 w2:=HP.out.2.1.below HP.out.2.2.drew (Nat.le_refl _);have hlt2:∀ {k},k<w0.heap.size->k<w2.heap.size:=fun h=>nLt h hB2.size
  have bl2:w2.heap[Bl]?=some (.cells #[.slice a l.ss.length ca,.slice b l.ms.length cb,.slice c l.ts.length cc] 41):=(hB2.block _ (gES HH.out.1.bl).1).trans HH.out.1.bl;have cl0:w2.cell? ⟨Bl,0,none⟩=some (.slice a l.ss.length ca):=cell_of_block bl2;have cl1:w2.cell? ⟨Bl,1,none⟩=some (.slice b l.ms.length cb):=cell_of_block bl2;have cl2:w2.cell? ⟨Bl,2,none⟩=some (.slice c l.ts.length cc):=cell_of_block bl2;have cb3:=(hB2.cell (p:=⟨Bb,3,none⟩) HH.out.1.bbl).trans HH.out.1.bb;have cp2:=(hB2.cell (p:=⟨Bp,0,none⟩) HH.out.1.bp.lt).trans HH.out.1.bp.cell;have hne:=Nat.ne_of_gt (nLt hpm.lt (Nat.le_refl _));have ckk0:=(World.cell?_of_block (HP.out.2.1.out _ hne)).trans ck0;have ckk1:=(World.cell?_of_block (HP.out.2.1.out _ hne)).trans ck1;have hlk2:=(HH.out.1.mp.mono hB2.drew).look zab Tryz.underlying78 bk.os[i].kd bk.os[i].nm hsm.kd hsm.nm false;unfold yw at hlk2;rw[hv]at hlk2;simp only[Bool.false_eq_true,if_false,Option.getD_some]at hlk2;obtain⟨ob,off,va,ha,q0,q1,hoa,hob,_,hva,hha,d0,d1,d2,d3,d4,d5,d6⟩:=HH.out.1.obs.load hB2 i hi;have hob2:=hlt2 hob;have hBl2:=hlt2 (gES HH.out.1.bl).1;have hBb2:=hlt2 HH.out.1.bbl;have hBp2:=hlt2 HH.out.1.bp.lt;have hz2:w.heap.size<w2.heap.size:=by rw[HP.out.2.1.size];exact hzl
  have hiI:(i:Int)<(bk.os.length:Int):=by omega
  have hfw:=HH.out.1.few;rw[hoa]at cb3;have hLk:=zh8 l a b c ca cb cc bk.os[i] va ha q0 q1 w2.drew (HH.out.1.law.mono hB2.drew);have HB2:=jC hB2 hva;have HSm:=jC hsm.kd hsm.nm;have HSm2:=hid hv;have ckk:∀j,w2.cell? ⟨w.heap.size,j,none⟩=(#[.string bk.os[i].kd,.string bk.os[i].nm]:Array Value)[j]?:=fun j=>(World.cell?_of_block (HP.out.2.1.out _ hne)).trans (ckb j)
  clear hlk hup hv ck0 ck1 cK1 cp hB2 hlt2 hva hha bp1 cK hlk2 ckk0 ckk1 cl0 cl1 cl2
  gi_wp2_with fail
  refine zn0 (fun a' w'=>∃u16 u17 u18 u19 u20 u21 u22 u23 u24,a'={ tmps:=#[.agg #[.string bk.os[i].kd,.string bk.os[i].nm],.pointer (some ⟨Bk,0,none⟩),.pointer (some ⟨Bp,0,none⟩),.pointer (some ⟨Bl,0,none⟩),.pointer (some ⟨Bb,0,none⟩),.pointer (some ⟨Bf,0,none⟩),.pointer (some ⟨w.heap.size,0,none⟩),undef,.map (some w0.heap.size),.agg #[.string bk.os[i].kd,.string bk.os[i].nm],.bool false,.map (some w0.heap.size),.agg #[.string bk.os[i].kd,.string bk.os[i].nm],.map (some rp),.agg #[.string bk.os[i].kd,.string bk.os[i].nm],.int .i64 i,u16,u17,u18,u19,u20,u21,u22,u23,u24,undef,undef,undef,undef,undef,undef,undef,undef],defers:=[] }/\∃Bs Bo fa fcap,u24=.func (.func 123) #[] #[.pointer (some ⟨Bs,0,none⟩),.pointer (some ⟨Bo,0,none⟩)]/\Bs<w'.heap.size/\Bo<w'.heap.size/\zY w' fa (shapeOf l.ss bk.os[i].kd).fs /\
   (∀j,w'.cell? ⟨Bs,j,none⟩=(#[.string (shapeOf l.ss bk.os[i].kd).kd,.slice fa (shapeOf l.ss bk.os[i].kd).fs.length fcap]:Array Value)[j]?)/\(∀j,w'.cell? ⟨Bo,j,none⟩=(#[.string bk.os[i].kd,.string bk.os[i].nm,.string bk.os[i].tm,.slice va bk.os[i].vs.length q0,.bool bk.os[i].en,.slice ha bk.os[i].hs.length q1,.int .i64 bk.os[i].vr]:Array Value)[j]?)/\Below w2.heap.size w2 w') ?_ ?_
  ·refine wpIn_wide.2 ?_
   have hdr:=(bRf w2.heap.size w2).drew;have cL:∀j,w2.drew.cell? ⟨Bl,j,none⟩=(#[.slice a l.ss.length ca,.slice b l.ms.length cb,.slice c l.ts.length cc]:Array Value)[j]?:=fun j=>(hdr.cell (p:=⟨Bl,j,none⟩) hBl2).trans (zaj bl2 j)
   have cK:∀j,w2.drew.cell? ⟨w.heap.size,j,none⟩=(#[.string bk.os[i].kd,.string bk.os[i].nm]:Array Value)[j]?:=fun j=>(hdr.cell (p:=⟨w.heap.size,j,none⟩) hz2).trans (ckk j)
   have cB:=(hdr.cell (p:=⟨Bb,3,none⟩) hBb2).trans cb3;have cP:=(hdr.cell (p:=⟨Bp,0,none⟩) hBp2).trans cp2;have e0:=(hdr.cell (p:=⟨ob,off+i*7,none⟩) hob2).trans d0;have e1:=(hdr.cell (p:=⟨ob,off+i*7+1,none⟩) hob2).trans d1;have e2:=(hdr.cell (p:=⟨ob,off+i*7+2,none⟩) hob2).trans d2;have e3:=(hdr.cell (p:=⟨ob,off+i*7+3,none⟩) hob2).trans d3;have e4:=(hdr.cell (p:=⟨ob,off+i*7+4,none⟩) hob2).trans d4;have e5:=(hdr.cell (p:=⟨ob,off+i*7+5,none⟩) hob2).trans d5;have e6:=(hdr.cell (p:=⟨ob,off+i*7+6,none⟩) hob2).trans d6
   have hHM:∀W,Below w2.drew.heap.size w2.drew W->((∀j,W.cell? ⟨Bl,j,none⟩=(#[.slice a l.ss.length ca,.slice b l.ms.length cb,.slice c l.ts.length cc]:Array Value)[j]?)/\W.cell? ⟨Bb,3,none⟩=some (.slice (some ⟨ob,off,none⟩) bk.os.length oc)/\W.cell? ⟨Bp,0,none⟩=some (.map (some rp))/\(∀j,W.cell? ⟨w.heap.size,j,none⟩=(#[.string bk.os[i].kd,.string bk.os[i].nm]:Array Value)[j]?)/\W.cell? ⟨ob,off+i*7,none⟩=some (.string bk.os[i].kd)/\W.cell? ⟨ob,off+i*7+1,none⟩=some (.string bk.os[i].nm)/\W.cell? ⟨ob,off+i*7+2,none⟩=some (.string bk.os[i].tm)/\W.cell? ⟨ob,off+i*7+3,none⟩=some (.slice va bk.os[i].vs.length q0)/\W.cell? ⟨ob,off+i*7+4,none⟩=some (.bool bk.os[i].en)/\W.cell? ⟨ob,off+i*7+5,none⟩=some (.slice ha bk.os[i].hs.length q1)/\W.cell? ⟨ob,off+i*7+6,none⟩=some (.int .i64 bk.os[i].vr)/\(Instr.lookup 78 (.map (some rp)) (.agg #[.string bk.os[i].kd,.string bk.os[i].nm]) false).run Tryz.prog W=.ok (.int .i64 i) W):=fun W hW=>⟨za cL hBl2 hW,(hW.cell (p:=⟨Bb,3,none⟩) hBb2).trans cB,(hW.cell (p:=⟨Bp,0,none⟩) hBp2).trans cP,za cK hz2 hW,(hW.cell (p:=⟨ob,off+i*7,none⟩) hob2).trans e0,(hW.cell (p:=⟨ob,off+i*7+1,none⟩) hob2).trans e1,(hW.cell (p:=⟨ob,off+i*7+2,none⟩) hob2).trans e2,(hW.cell (p:=⟨ob,off+i*7+3,none⟩) hob2).trans e3,(hW.cell (p:=⟨ob,off+i*7+4,none⟩) hob2).trans e4,(hW.cell (p:=⟨ob,off+i*7+5,none⟩) hob2).trans e5,(hW.cell (p:=⟨ob,off+i*7+6,none⟩) hob2).trans e6,by
    have h:=(HH.out.1.mp.mono (HB2.out.1.drew.trans (hW.mono HB2.out.1.size))).look zab Tryz.underlying78 bk.os[i].kd bk.os[i].nm HSm.out.1 HSm.out.2 false;unfold yw at h;rw[HSm2.out]at h
    simpa only[Bool.false_eq_true,if_false,Option.getD_some] using h⟩
   have H_Now:=hHM _ (bRf _ _);have HHM:=hid hHM;clear hHM cL cK cB cP e0 e1 e2 e3 e4 e5 e6 d0 d1 d2 d3 d4 d5 d6
   go_region_held3 (fun w'=>(∀j,w'.cell? ⟨Bl,j,none⟩=(#[.slice a l.ss.length ca,.slice b l.ms.length cb,.slice c l.ts.length cc]:Array Value)[j]?)/\w'.cell? ⟨Bb,3,none⟩=some (.slice (some ⟨ob,off,none⟩) bk.os.length oc)/\w'.cell? ⟨Bp,0,none⟩=some (.map (some rp))/\(∀j,w'.cell? ⟨w.heap.size,j,none⟩=(#[.string bk.os[i].kd,.string bk.os[i].nm]:Array Value)[j]?)/\w'.cell? ⟨ob,off+i*7,none⟩=some (.string bk.os[i].kd)/\w'.cell? ⟨ob,off+i*7+1,none⟩=some (.string bk.os[i].nm)/\w'.cell? ⟨ob,off+i*7+2,none⟩=some (.string bk.os[i].tm)/\w'.cell? ⟨ob,off+i*7+3,none⟩=some (.slice va bk.os[i].vs.length q0)/\w'.cell? ⟨ob,off+i*7+4,none⟩=some (.bool bk.os[i].en)/\w'.cell? ⟨ob,off+i*7+5,none⟩=some (.slice ha bk.os[i].hs.length q1)/\w'.cell? ⟨ob,off+i*7+6,none⟩=some (.int .i64 bk.os[i].vr)/\(Instr.lookup 78 (.map (some rp)) (.agg #[.string bk.os[i].kd,.string bk.os[i].nm]) false).run Tryz.prog w'=.ok (.int .i64 i) w') (exact H_Now) (first
    | (go_at_call 79;refine hLk.mono ?_;rintro e W0⟨Bs,Bo,fa,fcap,rfl,hBs,hBo,hfl,hXs,hXo,hb⟩;have H_Now:=HHM.out W0 hb))
   exact⟨_,_,_,_,_,_,_,_,_,rfl,Bs,Bo,fa,fcap,rfl,hBs,hBo,hfl,hXs,hXo,hdr.trans hb⟩
  rintro a' W0⟨u16,u17,u18,u19,u20,u21,u22,u23,u24,rfl,Bs,Bo,fa,fcap,rfl,hBs,hBo,hfl,hXs,hXo,hb1⟩;have hr0:=hpm.lt;have hB20:=hb1;have hBw0:=HB2.out.1.trans (hB20.mono HB2.out.1.size);have bK0:Boxed W0 Bk 79 (.map (some w0.heap.size)):=(hB20.block _ (by rw[HP.out.2.1.size];exact hBkl)).trans ((HP.out.2.1.out _ (Nat.ne_of_gt hk)).trans ((HB1.out.drew.block _ hKl).trans bK));have bF0:Boxed W0 Bf 147 (.func (.func 77) #[] #[.pointer (some ⟨Bk,0,none⟩),.pointer (some ⟨Bp,0,none⟩),.pointer (some ⟨Bl,0,none⟩),.pointer (some ⟨Bb,0,none⟩),.pointer (some ⟨Bf,0,none⟩)]):=(hB20.block _ (by rw[HP.out.2.1.size];exact nLt bF.lt HB1.out.size)).trans ((HP.out.2.1.out _ (Nat.ne_of_gt hf)).trans ((HB1.out.drew.block _ bF.lt).trans bF));have hone:=zdZ.of HH.out.1.ok;have HM0:=hid (yR.mono ⟨_,HP.out.1,fun j hj=>znE hone hfS i hi (i:Int) j hj⟩ hB20);have HBut0:Hid (But w0.heap.size w.heap.size w W0):=(But.of_below HB1.out.drew).trans ((HP.out.2.1.but (B:=w.heap.size)).trans (But.of_below (hB20.mono (by rw[HP.out.2.1.size];exact HB1.out.size))));have HLk:Hid (lacks (qM S i) bk.os.length<m):=by have h1:=zjn hi hSi;have h2:=HH.out.2.1;show _<_;omega
  have HST:=hid (HB2.out.2.mono hB20);have hrW:=nLt hr0 HBut0.out.size;have HW:=hid hBw0;have hKW:=bK0.lt;have hFW:=bF0.lt;clear hb1 hB20 hBw0 d0 d1 d2 d3 d4 d5 d6 cb3 cp2 ckk ckb bl2 hLk
  gi_wp2_with fail
  refine wpIn_rangeFunc_ownH rfl (by omega) (gf:=123) (lb:=#[.pointer (some ⟨Bs,0,none⟩),.pointer (some ⟨Bo,0,none⟩)]) rfl trivial (enters_of Tryz.func123 (by kernel_rfl) rfl)
   (zl6 5 (by omega) Bs Bo (shapeOf l.ss bk.os[i].kd).kd (shapeOf l.ss bk.os[i].kd).fs fa fcap bk.os[i] va ha q0 q1 W0 hBs hBo hXs hXo hfl HST.out (HH.out.1.ln i hi)) CB.trans (fun W l o o' hl h hc hw=>CB.of_below (belowK_b (Nat.le_refl _) W l o o' hl h hc hw)) (bRf _ _) (fun _=>rfl)
   (fun pre W=>∃S1,yR bk.os w0.heap.size S1 W/\(Keeps l bk.os (zhl l bk.os i) (qM S i) S1/\zbR bk.os S1 (pre.map (·.1)))/\But w0.heap.size W0.heap.size W0 W)
   (fun _ _ _=>False)
   (zjP (fun S1=>OwnFrom.and (zml hrW (fun _=>S1)) (OwnFrom.and (ownFrom_pure _ _) (zna (Nat.le_refl _) (Nat.le_refl _)))))
   (fun _=>fun _ _ _ _ h _ _=>h)
   ⟨_,HM0.out,⟨Keeps.refl _ _ _ _,zbR.nil _ _⟩,But.refl _ _ _⟩
   (fun x a' W=>∃Bx,W.heap[Bx]?=some (.cells #[.int .i64 x.1.pl,.int .i64 x.1.rl,.string x.1.to,.string x.1.nm] 155)/\a'={ tmps:=#[.agg #[.string bk.os[i].kd,.string bk.os[i].nm],.pointer (some ⟨Bk,0,none⟩),.pointer (some ⟨Bp,0,none⟩),.pointer (some ⟨Bl,0,none⟩),.pointer (some ⟨Bb,0,none⟩),.pointer (some ⟨Bf,0,none⟩),.pointer (some ⟨w.heap.size,0,none⟩),.pointer (some ⟨Bx,0,none⟩),.map (some w0.heap.size),.agg #[.string bk.os[i].kd,.string bk.os[i].nm],.bool false,.map (some w0.heap.size),.agg #[.string bk.os[i].kd,.string bk.os[i].nm],.map (some rp),.agg #[.string bk.os[i].kd,.string bk.os[i].nm],.int .i64 i,u16,u17,u18,u19,u20,u21,u22,u23,.func (.func 123) #[] #[.pointer (some ⟨Bs,0,none⟩),.pointer (some ⟨Bo,0,none⟩)],.agg #[.int .i64 x.1.pl,.int .i64 x.1.rl,.string x.1.to,.string x.1.nm],undef,undef,undef,undef,undef,undef,undef],defers:=[] })
   (fun x a' _ X Y row hs hg hr=>by
    obtain⟨Bx,e1,e2⟩:=hs;refine⟨Bx,(hg.block Bx (gES e1).1 (fun e=>?_)).trans e1,e2⟩;obtain⟨_,ob,h1,h2⟩:=hr Bx e.symm;rw[e1]at h1
    cases h1
    cases h2)
   ?assign ?body ?done ?stop
  case assign=>
   rintro l' pre x W K⟨S1,hp,hq,hB1⟩ hK;unfold Lk.enc
   gi_wp2
   exact hK _ _ ((KeepsOthers.alloc _ _).from _) (CB.of_below ((bRf _ W).alloc hB1.size _)) ⟨S1,hp.mono ((bRf _ W).alloc (Nat.le_refl _) _),hq,hB1.trans (But.of_below ((bRf _ W).alloc hB1.size _))⟩ ⟨W.heap.size,World.alloc_heap_new W _,rfl⟩
  case body=>
   rintro l' pre x a' W hl⟨rr,hr⟩ ⟨S1,hp,hq,hB1⟩ ⟨Bx,hBx,rfl⟩ hlt;have cX:=zaj hBx;have bF1:=hB1.boxed bF0 hFW (Nat.ne_of_gt hf);have bK1:=hB1.boxed bK0 hKW (Nat.ne_of_gt hk);have cF:=bF1.cell;have HI1:=zc6 hp hq hB1;clear hp hq hB1
   by_cases h2:x.1.rl=2
   ·have hd2:(x.1.rl != 2)=false:=by simp[h2]
    have H2:=hid h2;clear h2
    gi_wp2
    exact⟨KeepsFrom.refl _ _,CB.of_below (bRf _ _),S1,HI1.out.1,⟨HI1.out.2.1.1,by rw[List.map_append];exact HI1.out.2.1.2.snoc (fun _ h=>h) x.1 (fun h=>absurd H2.out h)⟩,HI1.out.2.2⟩
   ·have hd2:(x.1.rl != 2)=true:=by simp[h2]
    obtain⟨j,hj,e1,e2⟩:=zoy HH.out.1.ok i hi x.1 x.2;have hLS:=Nat.lt_of_le_of_lt (zji HI1.out.2.1.1.le _) HLk.out;have hcall:=IH S1 j hj W hLS (HW.out.trans (HI1.out.2.2.below hrW)) HI1.out.1 bK1 bF1;unfold yw at hcall;rw[e1,e2]at hcall;have H2:=zc6 h2 e1 e2;clear h2 e1 e2 bK1 bF1
    gi_wp2_with fail
    refine⟨trivial,?_⟩;refine(callsIn_wide.2 hcall).mono ?_;rintro e W1⟨rfl,⟨S2,hk2,hkp,hS2⟩,hbut⟩
    have HN:Hid (KeepsFrom W0.heap.size W W1/\CB W0.heap.size W W1/\∃S2,yR bk.os w0.heap.size S2 W1/\(Keeps l bk.os (zhl l bk.os i) (qM S i) S2/\zbR bk.os S2 ((pre++[x]).map (·.1)))/\But w0.heap.size W0.heap.size W0 W1):=by
     obtain⟨f1,hf1,_⟩:=HI1.out.1;obtain⟨es,ck,hes,_⟩:=hf1.ex;have hbW:=hbut.mono HI1.out.2.2.size;refine⟨hbut.keeps hrW,hbW.cb hes,S2,hk2,⟨HI1.out.2.1.1.trans (hkp.wider (fun j' e=>by subst e;exact znR HH.out.1.sh hi hj x.1 x.2 H2.out.1 H2.out.2.1 H2.out.2.2)),?_⟩,HI1.out.2.2.trans hbW⟩;rw[List.map_append];refine HI1.out.2.1.2.snoc hkp.le x.1 (fun _ j' hj' e1' e2'=>?_)
     have:=hone j' j hj' hj (e1'.trans H2.out.2.1.symm) (e2'.trans H2.out.2.2.symm)
     subst this;exact hS2
    clear hk2 hkp hS2 hbut
    gi_wp2
    exact HN.out
  case done=>
   rintro D ys W hD hys⟨S1,hp,hq,hB1⟩ hK;have hrD:w0.heap.size≠D:=by omega
   have HE:Hid ((∃S',yR bk.os w0.heap.size S' (W.putObj D (.deferred none))/\Keeps l bk.os (·=i) S S'/\S' i=true)/\But w0.heap.size w.heap.size w (W.putObj D (.deferred none))):=by
    refine⟨⟨S1,?_,Keeps.close hq.1 (zbR.all HH.out.1.sh hi (by rw[<- hys];exact hq.2)),hq.1.has⟩,?_⟩
    ·obtain⟨f1,hf1,h3⟩:=hp
     exact⟨f1,hf1.keep (World.putObj_heap_other (fun e=>hrD e)),h3⟩
    ·refine HBut0.out.trans ((hB1.mono HBut0.out.size).trans ⟨rfl,rfl,rfl,by simp,fun k hk _=>World.putObj_heap_other (fun e=>?_)⟩)
     have:=HBut0.out.size
     omega
   clear hp hq hB1 hys
   gi_wp2
   refine⟨by simp,.inl ⟨_,_,rfl,run_takeDeferred hK,?_⟩⟩;exact⟨.tuple #[],by simp[results,Tryz.results77,go_sem],rfl,HE.out⟩
  case stop=>
   rintro D cd pre W hD hpre h hK;exact h.elim
end Go.Proofs.YtnapmdofidgliaaGreat
