import Derived.Test.YtnapmdofidgliaaGreatM45
import Derived.Maps.OwnIn
set_option maxHeartbeats 4000000
namespace Go.Proofs.YtnapmdofidgliaaGreat
open Go.RowKit
set_option maxRecDepth 20000 in
theorem zh8 (l:Lw)(a b c:Option Addr)(ca cb cc:Nat)(o:Ob)(va ha:Option Addr)(cap cap':Nat)(w:World)(hL:jh w l a b c) :
 Calls Tryz.prog 79 #[.agg #[.slice a l.ss.length ca,.slice b l.ms.length cb,.slice c l.ts.length cc],.agg #[.string o.kd,.string o.nm,.string o.tm,.slice va o.vs.length cap,.bool o.en,.slice ha o.hs.length cap',.int .i64 o.vr]] w
  fun e w'=>∃Bs Bo fa fcap,e=.returned (.func (.func 123) #[] #[.pointer (some ⟨Bs,0,none⟩),.pointer (some ⟨Bo,0,none⟩)])/\Bs<w'.heap.size/\Bo<w'.heap.size/\zY w' fa (shapeOf l.ss o.kd).fs /\
   (∀j,w'.cell? ⟨Bs,j,none⟩=(#[.string (shapeOf l.ss o.kd).kd,.slice fa (shapeOf l.ss o.kd).fs.length fcap]:Array Value)[j]?)/\(∀j,w'.cell? ⟨Bo,j,none⟩=(#[.string o.kd,.string o.nm,.string o.tm,.slice va o.vs.length cap,.bool o.en,.slice ha o.hs.length cap',.int .i64 o.vr]:Array Value)[j]?)/\Below w.heap.size w w':=by
 have HH:=hid hL;clear hL;go_enter Tryz.func79,Tryz.ntmps79;go_wp2_with fail
 have hb2:=zw w (.cells #[.slice a l.ss.length ca,.slice b l.ms.length cb,.slice c l.ts.length cc] 41) (.cells #[.string o.kd,.string o.nm,.string o.tm,.slice va o.vs.length cap,.bool o.en,.slice ha o.hs.length cap',.int .i64 o.vr] 123);refine(qJ _ _ l.ss o.kd _ (HH.out.ss.mono hb2)).mono ?_;rintro e w1⟨fa,fcap,rfl,hfl0,hb1⟩;have HFL:=hid (hfl0.mono hb1);have hX1:∀j,w1.cell? ⟨w.heap.size+1,j,none⟩=(#[.string o.kd,.string o.nm,.string o.tm,.slice va o.vs.length cap,.bool o.en,.slice ha o.hs.length cap',.int .i64 o.vr]:Array Value)[j]?:=fun j=>cell_of_block ((hb1.block (w.heap.size+1) (by simp)).trans (zT _ _ _).2)
 have hz1:w.heap.size+1<w1.heap.size:=by have:=hb1.size;simp at this;omega
 have HB1:Hid (Below w.heap.size w w1):=hb2.trans (hb1.mono (by simp;omega));have HX1:=hid hX1;clear hb1 hb2 hfl0;go_wp2_with fail
 go_ret;have hba:=(bRf w1.heap.size w1).alloc (Nat.le_refl _) (.cells #[.string (shapeOf l.ss o.kd).kd,.slice fa (shapeOf l.ss o.kd).fs.length fcap] 131);exact⟨w1.heap.size,w.heap.size+1,fa,fcap,rfl,by simp,nLt hz1 hba.size,HFL.out.mono hba,zl w1 _ _,za HX1.out hz1 hba,HB1.out.trans (hba.mono HB1.out.size)⟩
end Go.Proofs.YtnapmdofidgliaaGreat
namespace Go.Proofs.YtnapmdofidgliaaGreat
open Go.RowKit Go.Shelf
structure But (r B:Nat)(w w':World):Prop where
 os:w'.os=w.os
 tape:w'.tape=w.tape
 output:w'.output=w.output
 size:w.heap.size<=w'.heap.size
 block:∀k,k<B->k≠r->w'.heap[k]?=w.heap[k]?
theorem But.of_below {r B:Nat}{w w':World}(h:Below B w w'):But r B w w':=⟨h.os,h.tape,h.output,h.size,fun k hk _=>h.block k hk⟩
theorem But.refl (r B:Nat)(w:World):But r B w w:=But.of_below (bRf B w)
theorem But.trans {r B:Nat}{a b c:World}(h:But r B a b)(k:But r B b c):But r B a c:=
 ⟨k.os.trans h.os,k.tape.trans h.tape,k.output.trans h.output,Nat.le_trans h.size k.size,fun i hi hr=>(k.block i hi hr).trans (h.block i hi hr)⟩
theorem But.mono {r B B':Nat}{w w':World}(h:But r B w w')(hB:B'<=B):But r B' w w':=⟨h.os,h.tape,h.output,h.size,fun k hk hr=>h.block k (nLt hk hB) hr⟩
theorem But.below {r B:Nat}{w w':World}(h:But r B w w')(hr:r<B):Below r w w':=⟨h.os,h.tape,h.output,h.size,fun k hk=>h.block k (Nat.lt_trans hk hr) (Nat.ne_of_lt hk)⟩
theorem But.cb {r B:Nat}{w w':World}{es:Array MapEntry}{ck:Nat}(h:But r B w w')(hm:w.heap[r]?=some (.map es ck)):CB B w w':=
 ⟨h.size,fun k C t z hk hc=>(h.block k hk (fun e=>by rw[e,hm]at hc;cases hc)).trans hc⟩
theorem But.keeps {r B:Nat}{w w':World}(h:But r w.heap.size w w')(hr:r<B):KeepsFrom B w w':=
 ⟨h.size,fun k o hB hk _=>(h.block k (gES hk).1 (by omega)).trans hk⟩
theorem But.boxed {r B:Nat}{w w':World}{b:Nat}{t:TypeId}{v:Value}(h:But r B w w')(hb:Boxed w b t v)(hB:b<B)(hr:b≠r):Boxed w' b t v:=(h.block b hB hr).trans hb
theorem zlR {β:Type}{B r:Nat}(hr:r<B)(f:β->ByteArray->ByteArray->Option Int):OwnFrom B (fun s W=>yA W r (f s)):=by
 intro s W W' row hs hg hrow;refine hs.keep (hg.block r hs.lt (fun e=>?_))
 have:=(hrow r e.symm).1
 omega
theorem zjP {β γ:Type}{B:Nat}{I:γ->β->World->Prop}(h:∀c,OwnFrom B (I c)):OwnFrom B (fun s W=>∃c,I c s W):=by
 rintro s W W' row⟨c,hs⟩ hg hr;exact⟨c,h c s W W' row hs hg hr⟩
theorem zna {β:Type}{B r C:Nat}{w0:World}(h0:C<=w0.heap.size)(hC:C<=B):OwnFrom B (fun(_:β) W=>But r C w0 W):=by
 intro s W W' row hs hg hr;refine hs.trans ⟨hg.os,hg.tape,hg.output,hg.size,fun k hk _=>?_⟩;exact hg.block k (nLt hk (Nat.le_trans h0 hs.size)) (fun e=>by have:=(hr k e.symm).1;omega)
end Go.Proofs.YtnapmdofidgliaaGreat
namespace Go.Proofs.YtnapmdofidgliaaGreat
open Go.RowKit Go.Shelf
attribute [local go_sem] Oper.semAt_some
def zed (f:ByteArray->ByteArray->Option Int)(xs:List Lk):Bool:=xs.all fun x=>(f x.to x.nm).isSome
set_option maxRecDepth 100000 in
theorem zlE (l:Lw)(a b c:Option Addr)(ca cb cc:Nat)(r:Nat)(f:ByteArray->ByteArray->Option Int)(o:Ob)(va ha:Option Addr)(cap cap':Nat)(w:World)(hL:jh w l a b c)(hM:yA w r f)(ho:jK w o va ha)(hc:o.vs.length=(shapeOf l.ss o.kd).fs.length) :
 Calls Tryz.prog 156 #[.agg #[.slice a l.ss.length ca,.slice b l.ms.length cb,.slice c l.ts.length cc],.map (some r),.agg #[.string o.kd,.string o.nm,.string o.tm,.slice va o.vs.length cap,.bool o.en,.slice ha o.hs.length cap',.int .i64 o.vr]] w
  fun e w'=>e=.returned (.bool (zed f (qm (shapeOf l.ss o.kd).fs o.vs (shapeOf l.ss o.kd).fs.length)))/\Below w.heap.size w w':=by
 have HH:=zkC hL hM ho hc;clear hL hM ho hc;refine(callsIn_wide (n:=6)).1 ?_;refine callsIn_of_wp_marks Tryz.func156 rfl trivial ?_ rfl;simp only[Tryz.ntmps156,List.size_toArray,List.length_cons,List.length_nil,Nat.reduceAdd,Nat.reduceSub,Array.replicate_succ,Array.replicate_zero,List.push_toArray,List.append_toArray,List.nil_append,List.cons_append]
 gi_wp2_with fail
 refine⟨trivial,?_⟩;have hb4:Below w.heap.size w ((((w.alloc (.cells #[.slice a l.ss.length ca,.slice b l.ms.length cb,.slice c l.ts.length cc] 41)).alloc (.cells #[.map (some r)] 78)).alloc (.cells #[.string o.kd,.string o.nm,.string o.tm,.slice va o.vs.length cap,.bool o.en,.slice ha o.hs.length cap',.int .i64 o.vr] 123)).alloc (.cells #[.bool false] 4)):=(jH _ _ _ _).alloc (by simp;omega) _;have hbR:=Boxed.new (((w.alloc (.cells #[.slice a l.ss.length ca,.slice b l.ms.length cb,.slice c l.ts.length cc] 41)).alloc (.cells #[.map (some r)] 78)).alloc (.cells #[.string o.kd,.string o.nm,.string o.tm,.slice va o.vs.length cap,.bool o.en,.slice ha o.hs.length cap',.int .i64 o.vr] 123)) 4 (.bool false);have hbP:=((Boxed.new (w.alloc (.cells #[.slice a l.ss.length ca,.slice b l.ms.length cb,.slice c l.ts.length cc] 41)) 78 (.map (some r))).alloc (.cells #[.string o.kd,.string o.nm,.string o.tm,.slice va o.vs.length cap,.bool o.en,.slice ha o.hs.length cap',.int .i64 o.vr] 123)).alloc (.cells #[.bool false] 4);simp only[World.size_alloc]at hbR hbP;obtain⟨w4,hw4⟩:∃w4,w4=((((w.alloc (.cells #[.slice a l.ss.length ca,.slice b l.ms.length cb,.slice c l.ts.length cc] 41)).alloc (.cells #[.map (some r)] 78)).alloc (.cells #[.string o.kd,.string o.nm,.string o.tm,.slice va o.vs.length cap,.bool o.en,.slice ha o.hs.length cap',.int .i64 o.vr] 123)).alloc (.cells #[.bool false] 4)):=⟨_,rfl⟩
 rw[<- hw4]at hb4 hbR hbP ⊢;clear hw4;refine(callsIn_wide.2 (zh8 l a b c ca cb cc o va ha cap cap' w4 (HH.out.1.mono hb4))).mono ?_;rintro e W0⟨Bs,Bo,fa,fcap,rfl,hBs,hBo,hfl,hXs,hXo,hb1⟩;have bR:Boxed W0 (w.heap.size+1+1+1) 4 (.bool false):=(hb1.block _ hbR.lt).trans hbR;have bP:Boxed W0 (w.heap.size+1) 78 (.map (some r)):=(hb1.block _ hbP.lt).trans hbP;have HB0:Hid (Below w.heap.size w W0):=hb4.trans (hb1.mono hb4.size);have hN:w.heap.size<=W0.heap.size:=HB0.out.size;have HO0:Hid (zD W0 va o.vs):=HH.out.2.2.1.vals.mono HB0.out;clear hb1 hb4 hbR hbP
 gi_wp2_with fail
 refine wpIn_rangeFunc_ownH rfl (by omega) (gf:=123) (lb:=#[.pointer (some ⟨Bs,0,none⟩),.pointer (some ⟨Bo,0,none⟩)]) rfl trivial (enters_of Tryz.func123 (by kernel_rfl) rfl)
  (zm6 5 (by omega) Bs Bo (shapeOf l.ss o.kd).kd (shapeOf l.ss o.kd).fs fa fcap o va ha cap cap' W0 hBs hBo hXs hXo hfl HO0.out HH.out.2.2.2) belowK_t (belowK_b (Nat.le_refl _)) (bRf _ _) (fun _=>rfl)
  (fun pre W=>(∀x∈pre,(f x.to x.nm).isSome=true)/\Below W0.heap.size W0 W)
  (fun cd pre W=>((cd=.ret/\∃x∈pre,(f x.to x.nm).isSome=false)/\Boxed W (w.heap.size+1+1+1) 4 (.bool false))/\Below w.heap.size w W)
  (OwnFrom.and (ownFrom_pure _ _) (ownFrom_below (Nat.le_refl _) (Nat.le_refl _)))
  (fun cd=>OwnFrom.and (OwnFrom.and (ownFrom_pure _ _) (Own.from (boxed_own _ _ _) _)) (ownFrom_below (Nat.le_refl _) hN))
  ⟨by simp,bRf _ _⟩
  (fun x a' W=>∃Bx,W.heap[Bx]?=some (.cells #[.int .i64 x.pl,.int .i64 x.rl,.string x.to,.string x.nm] 155)/\a'={ tmps:=#[.agg #[.slice a l.ss.length ca,.slice b l.ms.length cb,.slice c l.ts.length cc],.map (some r),.agg #[.string o.kd,.string o.nm,.string o.tm,.slice va o.vs.length cap,.bool o.en,.slice ha o.hs.length cap',.int .i64 o.vr],.pointer (some ⟨w.heap.size,0,none⟩),.pointer (some ⟨w.heap.size+1,0,none⟩),.pointer (some ⟨w.heap.size+1+1,0,none⟩),.pointer (some ⟨w.heap.size+1+1+1,0,none⟩),.pointer (some ⟨Bx,0,none⟩),undef,undef,.agg #[.slice a l.ss.length ca,.slice b l.ms.length cb,.slice c l.ts.length cc],.agg #[.string o.kd,.string o.nm,.string o.tm,.slice va o.vs.length cap,.bool o.en,.slice ha o.hs.length cap',.int .i64 o.vr],.func (.func 123) #[] #[.pointer (some ⟨Bs,0,none⟩),.pointer (some ⟨Bo,0,none⟩)],.agg #[.int .i64 x.pl,.int .i64 x.rl,.string x.to,.string x.nm],undef,undef,undef,undef,undef,undef,undef,undef,undef],defers:=[] })
  (fun x a' _ X Y row hs hg hr=>by
   obtain⟨Bx,e1,e2⟩:=hs;refine⟨Bx,(hg.block Bx (gES e1).1 (fun e=>?_)).trans e1,e2⟩;obtain⟨_,ob,h1,h2⟩:=hr Bx e.symm;rw[e1]at h1
   cases h1
   cases h2)
  ?assign ?body ?done ?stop
 case assign=>
  rintro l' pre x W K⟨hp,hB1⟩ hK;unfold Lk.enc
  gi_wp2
  exact hK _ _ ((KeepsOthers.alloc _ _).from _) ((bRf _ W).alloc hB1.size _) ⟨hp,hB1.alloc hB1.size _⟩ ⟨W.heap.size,World.alloc_heap_new W _,rfl⟩
 case body=>
  rintro l' pre x a' W hl⟨rr,hr⟩ ⟨hp,hB1⟩ ⟨Bx,hBx,rfl⟩ hlt;have cX:=zaj hBx;have bP1:Boxed W (w.heap.size+1) 78 (.map (some r)):=(hB1.block _ bP.lt).trans bP;have cP:=bP1.cell;have bR1:Boxed W (w.heap.size+1+1+1) 4 (.bool false):=(hB1.block _ bR.lt).trans bR;have cR:=bR1.cell;have fR:=bR1.frozen;have hlk:=(HH.out.2.1.mono (HB0.out.trans (hB1.mono HB0.out.size))).look zab Tryz.underlying78 x.to x.nm x.hto x.hnm true;unfold yw at hlk;simp only[if_true]at hlk;have HB2:Hid (Below W0.heap.size W0 W):=hB1;have HP:Hid (∀x∈pre,(f x.to x.nm).isSome=true):=hp;have HR1:Hid (Boxed W (w.heap.size+1+1+1) 4 (.bool false)):=bR1;clear hp hB1 bR1
  cases hq:(f x.to x.nm).isSome with
  | false=>
   rw[hq]at hlk
   gi_wp2
   exact⟨(KeepsOthers.setCell _ _ _).from _,⟨⟨rfl,x,List.mem_append.2 (.inr (by simp)),hq⟩,HR1.out.set _⟩,(HB0.out.trans (HB2.out.mono hN)).setCell (p:=⟨(w.heap.size+1+1+1),0,none⟩) (by show w.heap.size<=(w.heap.size+1+1+1);omega) _⟩
  | true=>
   rw[hq]at hlk
   gi_wp2
   exact⟨KeepsFrom.refl _ _,bRf _ _,fun z hz=>(List.mem_append.1 hz).elim (HP.out z) (fun e=>by simp at e;subst e;exact hq),HB2.out⟩
 case done=>
  rintro D ys W hD rfl⟨hp,hB1⟩ hK;have bR1:Boxed W (w.heap.size+1+1+1) 4 (.bool false):=(hB1.block _ bR.lt).trans bR;have cR:=bR1.cell;have fR:=bR1.frozen
  gi_wp2
  have hK':=(KeepsOthers.setCell W ⟨(w.heap.size+1+1+1),0,none⟩ (.bool true)).same D _ hK rfl;refine⟨by simp,.inl ⟨_,_,rfl,run_takeDeferred hK',?_⟩⟩;have hc5:=cell_kept (World.cell?_setCell_same' W ⟨(w.heap.size+1+1+1),0,none⟩ (.bool true) (by rw[cR];rfl)) (grownBy_putObj' _ D (.deferred none)) (fun r e=>by cases e;exact⟨_,hK',rfl⟩);have hall:zed f (qm (shapeOf l.ss o.kd).fs o.vs (shapeOf l.ss o.kd).fs.length)=true:=List.all_eq_true.2 hp;refine⟨.bool true,?_,by rw[hall],((HB0.out.trans (hB1.mono hN)).setCell (p:=⟨(w.heap.size+1+1+1),0,none⟩) (by show w.heap.size<=(w.heap.size+1+1+1);omega) _).trans (belowK_b (w:=w) (Nat.le_refl _) _ D _ _ (by omega) hK' rfl rfl)⟩
  simp[results,Tryz.results156,go_sem,hc5]
 case stop=>
  rintro D cd pre W hD hpre⟨⟨⟨rfl,x,hx,hq⟩,bR1⟩,hB⟩ hK
  gi_wp2
  refine⟨by simp,.inl ⟨_,_,rfl,run_takeDeferred hK,?_⟩⟩;have hc5:=cell_kept bR1.cell (grownBy_putObj' _ D (.deferred none)) (fun r e=>by cases e;exact⟨_,hK,rfl⟩)
  have hno:zed f (qm (shapeOf l.ss o.kd).fs o.vs (shapeOf l.ss o.kd).fs.length)=false:=by
   unfold zed;rw[List.all_eq_false];exact⟨x,hpre.subset hx,by rw[hq];simp⟩
  refine⟨.bool false,?_,by rw[hno],hB.trans (belowK_b (w:=w) (Nat.le_refl _) W D _ _ (by omega) hK rfl rfl)⟩
  simp[results,Tryz.results156,go_sem,hc5]
end Go.Proofs.YtnapmdofidgliaaGreat
namespace Go.Proofs.YtnapmdofidgliaaGreat
open Go.RowKit
set_option maxRecDepth 20000 in
theorem zmZ (w00:World)(l:Lw)(a b c:Option Addr)(ca cb cc:Nat)(o:Ob)(va ha:Option Addr)(cap cap':Nat)(w:World)(hL:jh w00 l a b c)(hbb:Below w00.heap.size w00 w) :
 Calls Tryz.prog 79 #[.agg #[.slice a l.ss.length ca,.slice b l.ms.length cb,.slice c l.ts.length cc],.agg #[.string o.kd,.string o.nm,.string o.tm,.slice va o.vs.length cap,.bool o.en,.slice ha o.hs.length cap',.int .i64 o.vr]] w
  fun e w'=>∃Bs Bo fa fcap,e=.returned (.func (.func 123) #[] #[.pointer (some ⟨Bs,0,none⟩),.pointer (some ⟨Bo,0,none⟩)])/\Bs<w'.heap.size/\Bo<w'.heap.size/\w.heap.size<=Bo/\zY w00 fa (shapeOf l.ss o.kd).fs /\
   (∀j,w'.cell? ⟨Bs,j,none⟩=(#[.string (shapeOf l.ss o.kd).kd,.slice fa (shapeOf l.ss o.kd).fs.length fcap]:Array Value)[j]?)/\(∀j,w'.cell? ⟨Bo,j,none⟩=(#[.string o.kd,.string o.nm,.string o.tm,.slice va o.vs.length cap,.bool o.en,.slice ha o.hs.length cap',.int .i64 o.vr]:Array Value)[j]?)/\Below w.heap.size w w':=by
 have HH:=jC hL hbb;clear hL hbb;go_enter Tryz.func79,Tryz.ntmps79;go_wp2_with fail
 have hb2:=zw w (.cells #[.slice a l.ss.length ca,.slice b l.ms.length cb,.slice c l.ts.length cc] 41) (.cells #[.string o.kd,.string o.nm,.string o.tm,.slice va o.vs.length cap,.bool o.en,.slice ha o.hs.length cap',.int .i64 o.vr] 123);refine(zlO w00 _ _ l.ss o.kd _ HH.out.1.ss (HH.out.2.trans (hb2.mono HH.out.2.size))).mono ?_;rintro e w1⟨fa,fcap,rfl,hfl0,hb1⟩;have HFL:=hid hfl0;have hX1:∀j,w1.cell? ⟨w.heap.size+1,j,none⟩=(#[.string o.kd,.string o.nm,.string o.tm,.slice va o.vs.length cap,.bool o.en,.slice ha o.hs.length cap',.int .i64 o.vr]:Array Value)[j]?:=fun j=>cell_of_block ((hb1.block (w.heap.size+1) (by simp)).trans (zT _ _ _).2)
 have hz1:w.heap.size+1<w1.heap.size:=by have:=hb1.size;simp at this;omega
 have HB1:Hid (Below w.heap.size w w1):=hb2.trans (hb1.mono (by simp;omega));have HX1:=hid hX1;clear hb1 hb2 hfl0;go_wp2_with fail
 go_ret;have hba:=(bRf w1.heap.size w1).alloc (Nat.le_refl _) (.cells #[.string (shapeOf l.ss o.kd).kd,.slice fa (shapeOf l.ss o.kd).fs.length fcap] 131);exact⟨w1.heap.size,w.heap.size+1,fa,fcap,rfl,by simp,nLt hz1 hba.size,Nat.le_succ _,HFL.out,zl w1 _ _,za HX1.out hz1 hba,HB1.out.trans (hba.mono HB1.out.size)⟩
end Go.Proofs.YtnapmdofidgliaaGreat
namespace Go.Proofs.YtnapmdofidgliaaGreat
open Go.RowKit Go.Shelf
structure qU (B:Nat)(No:Nat->Prop)(r:Nat)(g:ByteArray->ByteArray->List Int)(w:World):Prop where
 ex:∃f,zbp w r f/\(∀a b v,f a b=some v->w.ownsRow B 3 1 v (g a b).length ((g a b).map (Value.int .i64))/\∀k,v.ownBlock=some k->¬No k)/\(∀a b,f a b=none->g a b=[]) /\
  ∀a b a' b' v v' k,f a b=some v->f a' b'=some v'->v.ownBlock=some k->v'.ownBlock=some k->a=a'/\b=b'
theorem qU.lt {B r:Nat}{No:Nat->Prop}{g:ByteArray->ByteArray->List Int}{w:World}(h:qU B No r g w):r<w.heap.size:=by
 obtain⟨f,hf,_⟩:=h.ex;exact hf.lt
theorem qU.keep {B r:Nat}{No:Nat->Prop}{g:ByteArray->ByteArray->List Int}{w w':World}(h:qU B No r g w)(hr:w'.heap[r]?=w.heap[r]?)(hk:∀(k:Nat) (C:Array Value),w.heap[k]?=some (.cells C 3 (0,0))->w'.heap[k]?=w.heap[k]?):qU B No r g w':=by
 obtain⟨f,hf,h1,h2,h3⟩:=h.ex;refine⟨f,hf.keep hr,fun a b v hv=>⟨qW (h1 a b v hv).1 fun k hk'=>?_,(h1 a b v hv).2⟩,h2,h3⟩;obtain⟨_,⟨rfl,_⟩|⟨k',cap,cur,rfl,_,hc,_⟩⟩:=(h1 a b v hv).1
 ·cases hk'
 ·cases hk'
  exact hk _ cur hc
theorem qU.mono {B r:Nat}{No:Nat->Prop}{g:ByteArray->ByteArray->List Int}{w w':World}(h:qU B No r g w)(hb:Below w.heap.size w w'):qU B No r g w':=
 h.keep (hb.block r h.lt) fun k _ hC=>hb.block k (gES hC).1
theorem qU.reno {B r:Nat}{No No':Nat->Prop}{g:ByteArray->ByteArray->List Int}{w:World}(h:qU B No r g w)(hn:∀k,No' k->No k \/ w.heap.size<=k):qU B No' r g w:=by
 obtain⟨f,hf,h1,h2,h3⟩:=h.ex;refine⟨f,hf,fun a b v hv=>⟨(h1 a b v hv).1,fun k hk hN=>?_⟩,h2,h3⟩
 rcases hn k hN with h4|h4
 ·exact(h1 a b v hv).2 k hk h4
 ·have:=((h1 a b v hv).1.lt k hk).2
  omega
theorem qU.new (No:Nat->Prop)(w:World):qU (w.heap.size+1) No w.heap.size (fun _ _=>[]) (w.alloc (.map #[] 0)):=
 ⟨_,zbp.new w,fun _ _ _ h=>(by cases h),fun _ _ _=>rfl,fun _ _ _ _ _ _ _ h=>(by cases h)⟩
theorem znK {β:Type}{C B r:Nat}{No:Nat->Prop}(hr:r<C)(g:β->ByteArray->ByteArray->List Int):OwnFrom C (fun s W=>qU B No r (g s) W):=by
 intro s W W' row hs hg hrow;refine hs.keep (hg.block r hs.lt (fun e=>?_)) fun k X hX=>hg.block k (gES hX).1 (fun e=>?_)
 ·have:=(hrow r e.symm).1
  omega
 ·obtain⟨_,o,h1,h2⟩:=hrow k e.symm
  rw[hX]at h1
  cases h1
  cases h2
structure yL (r B:Nat)(No:Nat->Prop)(w w':World):Prop where
 os:w'.os=w.os
 tape:w'.tape=w.tape
 output:w'.output=w.output
 size:w.heap.size<=w'.heap.size
 block:∀k,k<w.heap.size->k≠r->(k<B \/ No k)->w'.heap[k]?=w.heap[k]?
 other:∀k o,k≠r->w.heap[k]?=some o->o.isCells=false->w'.heap[k]?=some o
theorem yL.of_below {r B:Nat}{No:Nat->Prop}{w w':World}(h:Below w.heap.size w w'):yL r B No w w':=
 ⟨h.os,h.tape,h.output,h.size,fun k hk _ _=>h.block k hk,fun k _ _ hk _=>(h.block k (gES hk).1).trans hk⟩
theorem yL.refl (r B:Nat)(No:Nat->Prop)(w:World):yL r B No w w:=yL.of_below (bRf _ _)
theorem yL.trans {r B:Nat}{No:Nat->Prop}{a b c:World}(h:yL r B No a b)(k:yL r B No b c):yL r B No a c:=
 ⟨k.os.trans h.os,k.tape.trans h.tape,k.output.trans h.output,Nat.le_trans h.size k.size,fun i hi hr hn=>(k.block i (nLt hi h.size) hr hn).trans (h.block i hi hr hn),fun i o hr ho hc=>k.other i o hr (h.other i o hr ho hc) hc⟩
theorem yL.wider {r B:Nat}{No No':Nat->Prop}{w w':World}(h:yL r B No w w')(hn:∀k,k<w.heap.size->No' k->No k):yL r B No' w w':=
 ⟨h.os,h.tape,h.output,h.size,fun k hk hr hx=>h.block k hk hr (hx.imp id (hn k hk)),h.other⟩
theorem zbT.rows {r B:Nat}{No:Nat->Prop}{w w':World}(h:zbT r w w'):yL r B No w w':=
 ⟨h.os,h.tape,h.output,Nat.le_of_eq h.size.symm,fun k _ hk _=>h.out k hk,fun k _ hr ho _=>(h.out k hr).trans ho⟩
theorem qU.step {kt mt:TypeId}(K:zen kt)(hm:Tryz.prog.underlying mt=some (.map kt 35)){B r:Nat}{No:Nat->Prop}{g:ByteArray->ByteArray->List Int}{w:World}(h:qU B No r g w)(hrB:r<B)(hB:B<=w.heap.size)(hNo:∀k,No k->k<w.heap.size)
 (a b:ByteArray) (ha:a.size<=maxLen) (hb:b.size<=maxLen) (p:Int) (hlen:(g a b).length<=1048576) (ty:TypeId) :
 ∃v st w2 v' w3 w4,(Instr.mapEntry mt (.map (some r)) (yw a b)).run Tryz.prog (w.alloc (.cells #[.int .i64 p] 3))=.ok (.tuple #[v,.int .i64 st]) w2 /\
  (Builtin.append_ #[35,35] ty #[v,.slice (some ⟨w.heap.size,0,none⟩) 1 1]).run Tryz.prog w2=.ok v' w3 /\
  (Instr.entryStore mt (.map (some r)) (.int .i64 st) v').run Tryz.prog w3=.ok () w4 /\
  qU B No r (fun x y=>if x=a/\y=b then g a b++[p] else g x y) w4/\yL r B No w w4:=by
 obtain⟨f,hf,h1,h2,h3⟩:=h.ex;obtain⟨i0,hi,hz0,hz1,hz2⟩:=info_parts Tryz.zfu;have hz:∀w:World,(zeroValue 35).run Tryz.prog w=.ok (.slice none 0 0) w:=fun w=>by kernel_rfl
 have hrw:=hf.lt;obtain⟨st,w2,e1,mp2,hst⟩:=(hf.keep (w':=w.alloc (.cells #[.int .i64 p] 3)) (Below.heap_alloc _ _ _ hrw)).entry K hm hz a b ha hb;have hal:Below w.heap.size w (w.alloc (.cells #[.int .i64 p] 3)):=bAl _ _;have hsz2:w2.heap.size=w.heap.size+1:=by rw[mp2.size];simp
 -- the row of the entry
 have hrow:∀x y v,f x y=some v->w2.ownsRow B 3 1 v (g x y).length ((g x y).map (Value.int .i64)):=fun x y v hv=>qW (yF (h1 x y v hv).1 hal) fun k hk=>mp2.out k (fun e=>by
  have:=((h1 x y v hv).1.lt k hk).1
  omega)
 have hv0:w2.ownsRow B 3 1 ((f a b).getD (.slice none 0 0)) (g a b).length ((g a b).map (Value.int .i64)):=by
  cases hfa:f a b with
  | none=>rw[h2 a b hfa];exact World.ownsRow_nil _ _ _ _
  | some v=>exact hrow a b v hfa
 have hnew:w2.heap[w.heap.size]?=some (.cells #[.int .i64 p] 3):=(mp2.out _ (by omega)).trans (MapKept.heap_alloc w _).1
 obtain⟨v',w3,e2,hown,hgr,_,hat⟩:=run_append_own_at (P:=Tryz.prog) (w:=w2) B 35 ty 3 i0 (.int .i64 0) 1 8 Tryz.underlying35 hi hz0 hz1 hz2 rfl (by decide) ((f a b).getD (.slice none 0 0)) (g a b).length _ hv0 ⟨w.heap.size,0,none⟩ 1 1 [.int .i64 p] rfl (fun j u hj=>by
  rw[Addr.add_mid,Nat.zero_add,cell_of_block hnew];simpa using hj) (by intro u hu;simp only[List.mem_singleton]at hu;subst hu;rfl) (by unfold maxLen;omega) (by omega) (by omega)
 have hob:∀k,((f a b).getD (.slice none 0 0)).ownBlock=some k->B<=k/\k<w.heap.size/\¬No k/\∃v,f a b=some v/\v.ownBlock=some k:=fun k hk=>by
  cases hfa:f a b with
  | none=>rw[hfa]at hk;cases hk
  | some v=>
   rw[hfa]at hk
   have:=(h1 a b v hfa).1.lt k hk
   exact⟨this.1,this.2,(h1 a b v hfa).2 k hk,v,rfl,hk⟩
 have hr3:w3.heap[r]?=w2.heap[r]?:=hgr.block r (by omega) (fun e=>by have:=(hob r e.symm).1;omega);obtain⟨w4,e3,hvm,mp4⟩:=hst w3 v' hr3;refine⟨_,st,w2,v',w3,w4,e1,e2,e3,⟨_,hvm,?_,?_,?_⟩,?_⟩
 ·intro x y v hv
  unfold ze3 at hv
  by_cases e:x=a/\y=b
  ·rw[if_pos e]at hv
   cases hv
   simp only[if_pos e];refine⟨qW (by simpa using hown) fun k hk=>mp4.out k (fun e=>?_),fun k hk=>?_⟩
   ·have:=(hown.lt k hk).1
    omega
   ·rcases hat with h4|h4
    ·exact(hob k (h4.symm.trans hk)).2.2.1
    ·intro hN
     have h5:some w2.heap.size=some k:=h4.symm.trans hk
     have:=Option.some.inj h5
     have:=hNo k hN
     omega
  ·rw[if_neg e]at hv
   simp only[if_neg e];refine⟨qW ((hrow x y v hv).kept hgr ?_) fun k hk=>mp4.out k (fun e=>?_),(h1 x y v hv).2⟩
   ·cases hvb:v.ownBlock with
    | none=>exact Or.inl rfl
    | some k=>
     refine Or.inr (fun e4=>?_);obtain⟨_,_,_,u,hu,hub⟩:=hob k e4.symm;exact e (h3 x y a b v u k hv hu hvb hub)
   ·have:=((h1 x y v hv).1.lt k hk).1
    omega
 ·intro x y hv
  unfold ze3 at hv
  by_cases e:x=a/\y=b
  ·rw[if_pos e]at hv;cases hv
  ·rw[if_neg e]at hv
   simp only[if_neg e];exact h2 x y hv
 ·intro x y x' y' v u k hv hu hk hk'
  unfold ze3 at hv hu
  by_cases e:x=a/\y=b
  ·by_cases e':x'=a/\y'=b
   ·exact⟨e.1.trans e'.1.symm,e.2.trans e'.2.symm⟩
   ·rw[if_pos e]at hv
    rw[if_neg e']at hu
    cases hv
    have hul:=((h1 x' y' u hu).1.lt k hk').2
    rcases hat with h4|h4
    ·obtain⟨_,_,_,u',hu',hub⟩:=hob k (h4.symm.trans hk)
     have:=h3 a b x' y' u' u k hu' hu hub hk'
     exact absurd ⟨this.1.symm,this.2.symm⟩ e'
    ·have:=Option.some.inj (h4.symm.trans hk)
     omega
  ·by_cases e':x'=a/\y'=b
   ·rw[if_neg e]at hv
    rw[if_pos e']at hu
    cases hu
    have hul:=((h1 x y v hv).1.lt k hk).2
    rcases hat with h4|h4
    ·obtain⟨_,_,_,u',hu',hub⟩:=hob k (h4.symm.trans hk')
     have:=h3 a b x y u' v k hu' hv hub hk
     exact absurd ⟨this.1.symm,this.2.symm⟩ e
    ·have:=Option.some.inj (h4.symm.trans hk')
     omega
   ·rw[if_neg e]at hv
    rw[if_neg e']at hu;exact h3 x y x' y' v u k hv hu hk hk'
 ·refine((yL.of_below hal).trans mp2.rows).trans (yL.trans ?_ mp4.rows)
  refine⟨hgr.os,hgr.tape,hgr.output,hgr.size,fun k hk _ hn=>hgr.block k hk (fun e=>?_),fun k o _ ho hc=>(hgr.block k (gES ho).1 (fun e=>?_)).trans ho⟩
  ·obtain⟨h5,_,h6,_⟩:=hob k e.symm
   rcases hn with h7|h7
   ·omega
   ·exact h6 h7
  ·obtain⟨_,_,_,u,hu,hub⟩:=hob k e.symm
   obtain⟨_,⟨rfl,_⟩|⟨k',cap,cur,rfl,_,hc',_⟩⟩:=hrow a b u hu
   ·cases hub
   ·cases hub
    rw[hc']at ho
    cases ho
    cases hc
theorem qU.look {kt mt:TypeId}(K:zen kt)(hm:Tryz.prog.underlying mt=some (.map kt 35)){B r:Nat}{No:Nat->Prop}{g:ByteArray->ByteArray->List Int}{w:World}(h:qU B No r g w)(a b:ByteArray)(ha:a.size<=maxLen)(hb:b.size<=maxLen)(hlen:(g a b).length<=maxLen) :
 ∃ga cap,(∀w':World,w'.heap[r]?=w.heap[r]?->(Instr.lookup mt (.map (some r)) (yw a b) false).run Tryz.prog w'=.ok (.slice ga (g a b).length cap) w')/\qy w ga (g a b):=by
 obtain⟨f,hf,h1,h2,h3⟩:=h.ex;have hz:∀w:World,(zeroValue 35).run Tryz.prog w=.ok (.slice none 0 0) w:=fun w=>by kernel_rfl
 have hlk:∀w':World,w'.heap[r]?=w.heap[r]?->(Instr.lookup mt (.map (some r)) (yw a b) false).run Tryz.prog w'=.ok ((f a b).getD (.slice none 0 0)) w':=fun w' h'=>(hf.keep h').look K hm hz a b ha hb
 cases hfa:f a b with
 | none=>
  rw[hfa]at hlk;rw[h2 a b hfa];exact⟨none,0,hlk,⟨by simp[maxLen],fun h=>absurd rfl h⟩⟩
 | some v=>
  rw[hfa]at hlk;have ho:=(h1 a b v hfa).1;obtain⟨_,⟨rfl,hn⟩|⟨k,cap,cur,rfl,_,hc,_⟩⟩:=id ho
  ·have e:g a b=[]:=List.length_eq_zero_iff.1 hn
   rw[e];exact⟨none,0,hlk,⟨by simp[maxLen],fun h=>absurd rfl h⟩⟩
  ·refine⟨some ⟨k,0,none⟩,cap,hlk,⟨hlen,fun _=>⟨k,0,rfl,(ho.lt k rfl).2,fun i hi=>?_⟩⟩⟩
   rw[Nat.zero_add,ho.cellAt i (by omega)]
   simp[hi]
theorem zfw {F:Fence}{nF:Nat}{P:Program}{w w':World}{ops:Array Oper}{rest:List Oper}{o:Oper}{a:Act}{Q:Exit->Act->World->Prop}{v u v':Value}{t:TypeId}{s x:Operand}(hr:(Builtin.append_ #[t,t] o.type #[v,u]).run P w=.ok v' w')(hgd:o.guard=none)
 (ho:o.op=.call { callee:=.builtin .append,args:=#[s,x],argTypes:=#[t,t] }) (hs:a.eval s=v) (hx:a.eval x=u) (h:wpListIn F nF P ops Q rest (a.put o.dst v') w'):wpListIn F nF P ops Q (o :: rest) a w:=by
 refine wpListIn_plain hgd fun K hK=>?_
 unfold Oper.wpIn;refine⟨by simp[Oper.about,ho,resolve,Target.leads,Sem.run_pure],?_⟩;rw[Oper.semAt_plain F _ _ (by rw[ho];intro c hc';cases hc')]
 simp[execOp,ho,resolve,invoke,builtin,hs,hx,hr,Result.andThen]
 exact hK _ _ h
theorem yL.below {r B C:Nat}{No:Nat->Prop}{w w':World}(h:yL r B No w w')(hC:C<=B)(hr:C<=r)(hw:C<=w.heap.size):Below C w w':=
 ⟨h.os,h.tape,h.output,h.size,fun k hk=>h.block k (by omega) (by omega) (Or.inl (by omega))⟩
theorem zmA {β:Type}{r B:Nat}{No:Nat->Prop}{w0:World}:OwnFrom w0.heap.size (fun(_:β) W=>yL r B No w0 W):=by
 intro s W W' row hs hg hr;refine⟨hg.os.trans hs.os,hg.tape.trans hs.tape,hg.output.trans hs.output,Nat.le_trans hs.size hg.size,fun k hk hkr hn=>?_,fun k o hkr ho hc=>?_⟩
 ·refine(hg.block k (nLt hk hs.size) (fun e=>?_)).trans (hs.block k hk hkr hn)
  have:=(hr k e.symm).1
  omega
 ·have hk:=(gES ho).1
  refine(hg.block k (nLt hk hs.size) (fun e=>?_)).trans (hs.other k o hkr ho hc)
  have:=(hr k e.symm).1
  omega
theorem yL.keeps {r B C:Nat}{No:Nat->Prop}{w w':World}(h:yL r B No w w')(hr:r<C):KeepsFrom C w w':=
 ⟨h.size,fun k o hC hk ho=>h.other k o (by omega) hk ho⟩
theorem yL.cbp {r B:Nat}{No P:Nat->Prop}{w w':World}(h:yL r B No w w')(hP:∀k,P k->k≠r/\(k<B \/ No k)):CBP P w w':=
 ⟨h.size,fun k _ _ _ hk hc=>(h.block k (gES hc).1 (hP k hk).1 (hP k hk).2).trans hc⟩
def Coll (B:Nat)(w:World)(ds:List Deferred):Prop:=(∀d∈ds,∃r,d.target=.collected r/\B<=r/\w.heap[r]?=some (.deferred (some [])))/\(ds.map fun d=>match d.target with|.collected r=>r|_=>0).Nodup
structure zqM (B:Nat)(w w':World):Prop where
 os:w'.os=w.os
 tape:w'.tape=w.tape
 output:w'.output=w.output
 size:w'.heap.size=w.heap.size
 block:∀k,(k<B \/ ∀x,w.heap[k]?≠some (.deferred x))->w'.heap[k]?=w.heap[k]?
theorem zqM.refl (B:Nat)(w:World):zqM B w w:=⟨rfl,rfl,rfl,rfl,fun _ _=>rfl⟩
theorem Coll.nil (B:Nat)(w:World):Coll B w []:=⟨fun d h=>(by cases h),by simp⟩
theorem Coll.rows {r B C:Nat}{No:Nat->Prop}{w w':World}{ds:List Deferred}(h:Coll B w ds)(hr:yL r C No w w')(hrB:r<B):Coll B w' ds:=
 ⟨fun d hd=>by
  obtain⟨q,h1,h2,h3⟩:=h.1 d hd;exact⟨q,h1,h2,hr.other q _ (by omega) h3 rfl⟩,h.2⟩
theorem Coll.cons {B D:Nat}{w w':World}{ds:List Deferred}(h:Coll B w' ds)(hD:B<=D)(hd:w'.heap[D]?=some (.deferred (some [])))(hold:Coll B w ds)(hlt:w.heap.size<=D):Coll B w' ({ target:=.collected D,args:=#[] } :: ds):=by
 refine⟨fun d hm=>?_,?_⟩
 ·rcases List.mem_cons.1 hm with rfl|hm
  ·exact⟨D,rfl,hD,hd⟩
  ·exact h.1 d hm
 ·rw[List.map_cons,List.nodup_cons]
  refine⟨fun hm=>?_,h.2⟩;obtain⟨d,hd',e⟩:=List.mem_map.1 hm;obtain⟨q,h1,_,h3⟩:=hold.1 d hd';simp only[h1]at e
  have:=(gES h3).1
  omega
theorem zh7 {F:Fence}{n:Nat}{P:Program}{fn:Func}{tmps:Array Value}{R:Ending->World->Prop}{B:Nat}:∀(ds:List Deferred) (w:World),Coll B w ds->(∀w',zqM B w w'->LeavesInM F n P fn tmps R [] .returning w')->LeavesInM F n P fn tmps R ds .returning w
 | [],w,_,h=>h w (zqM.refl _ _)
 | d :: ds,w,hc,h=>by
  obtain⟨q,h1,h2,h3⟩:=hc.1 d (by simp);refine⟨by simp,.inl ⟨q,_,h1,run_takeDeferred h3,?_⟩⟩;have hnd:=hc.2;rw[List.map_cons,List.nodup_cons]at hnd;have hput:∀k,k≠q->(w.putObj q (.deferred none)).heap[k]?=w.heap[k]?:=fun k hk=>World.putObj_heap_other (fun e=>hk e)
  refine zh7 (B:=B) ds _ ⟨fun d' hd'=>?_,hnd.2⟩ (fun w' hw'=>h w' ?_)
  ·obtain⟨q',g1,g2,g3⟩:=hc.1 d' (by simp[hd'])
   refine⟨q',g1,g2,(hput q' (fun e=>?_)).trans g3⟩;subst e;exact hnd.1 (List.mem_map.2 ⟨d',hd',by simp only[g1,h1]⟩)
  ·refine⟨hw'.os,hw'.tape,hw'.output,hw'.size.trans (by simp),fun k hk=>?_⟩
   have hkq:k≠q:=by
    rintro rfl
    rcases hk with hk|hk
    ·omega
    ·exact hk _ h3
   rw[hw'.block k (hk.imp id fun hx x=>by rw[hput k hkq];exact hx x),hput k hkq]
end Go.Proofs.YtnapmdofidgliaaGreat
namespace Go.Proofs.YtnapmdofidgliaaGreat
open Go.RowKit
noncomputable def zaz (l:Lw)(os:List Ob)(o:Ob):Bool:=(qm (shapeOf l.ss o.kd).fs o.vs (shapeOf l.ss o.kd).fs.length).all fun x=>os.any (zar x.to x.nm)
noncomputable def yM (l:Lw)(b:Bk)(o:Ob):Bool:=within o.vr 1 b.now&&(yG l.ts o.tm&&(zaS l o&&zaz l b.os o))
noncomputable def zI (l:Lw)(b:Bk):Bool:=decide (b.os.length<=40)&&(zbZ zbD b.os&&b.os.all (yM l b))
theorem zjH {l:Lw}{os:List Ob}{o:Ob}{f:ByteArray->ByteArray->Option Int}(h:∀p q,(f p q).isSome=os.any (zar p q)):zed f (qm (shapeOf l.ss o.kd).fs o.vs (shapeOf l.ss o.kd).fs.length)=zaz l os o:=by
 unfold zed zaz
 congr 1
 funext x
 exact h _ _
set_option maxRecDepth 20000 in
theorem zj6 (l:Lw)(la lb lc:Option Addr)(lca lcb lcc:Nat)(b:Bk)(a0 a1 a2 a3:Option Addr)(c0 c1 c2 c3:Nat)(w:World)(hb:jk w b a0 a1 a2 a3)(hl:jh w l la lb lc)(hml:l.ms.length<=1048576)(hok:yj l.ss l.ms=true)(hfw:∀i (h:i<b.os.length),b.os[i].vs.length<=1048576/\b.os[i].hs.length<=1048576) :
 Calls Tryz.prog 117 #[.agg #[.slice la l.ss.length lca,.slice lb l.ms.length lcb,.slice lc l.ts.length lcc],.agg #[.int .i64 b.now,.int .i64 b.tick,.int .i64 b.given,.slice a0 b.os.length c0,.slice a1 b.gs.length c1,.slice a2 b.ls.length c2,.slice a3 b.ps.length c3]] w fun e w'=>e=.returned (.bool (zI l b))/\Below w.heap.size w w':=by
 have HK:=hid hb;have HL:=hid hl;have HW:=jC hok hfw;clear hb hl hok hfw
 by_cases hln:b.os.length<=40
 rotate_left
 ·have HF:Hid (zI l b=false):=by unfold Hid zI;rw[decide_eq_false hln];rfl
  have hg:(40:Int)<(b.os.length:Int):=by omega
  go_enter Tryz.func117,Tryz.ntmps117;go_wp2_with fail
  go_ret;exact⟨ze HF.out.symm,zw _ _ _⟩
 have hg:decide ((40:Int)<(b.os.length:Int))=false:=by simp;omega
 have HLN:Hid (b.os.length<=40):=hln;clear hln;go_enter Tryz.func117,Tryz.ntmps117;go_wp2_with fail
 obtain⟨hL0,hX0⟩:=qx w #[.slice la l.ss.length lca,.slice lb l.ms.length lcb,.slice lc l.ts.length lcc] #[.int .i64 b.now,.int .i64 b.tick,.int .i64 b.given,.slice a0 b.os.length c0,.slice a1 b.gs.length c1,.slice a2 b.ls.length c2,.slice a3 b.ps.length c3] 41 48;have HB0:Hid (Below w.heap.size w ((w.alloc (.cells #[.slice la l.ss.length lca,.slice lb l.ms.length lcb,.slice lc l.ts.length lcc] 41)).alloc (.cells #[.int .i64 b.now,.int .i64 b.tick,.int .i64 b.given,.slice a0 b.os.length c0,.slice a1 b.gs.length c1,.slice a2 b.ls.length c2,.slice a3 b.ps.length c3] 48))):=zw w _ _;obtain⟨W0,hW0⟩:∃W0,W0=(w.alloc (.cells #[.slice la l.ss.length lca,.slice lb l.ms.length lcb,.slice lc l.ts.length lcc] 41)).alloc (.cells #[.int .i64 b.now,.int .i64 b.tick,.int .i64 b.given,.slice a0 b.os.length c0,.slice a1 b.gs.length c1,.slice a2 b.ls.length c2,.slice a3 b.ps.length c3] 48):=⟨_,rfl⟩
 have hz0:w.heap.size+1<W0.heap.size:=by rw[hW0];simp
 rw[<- hW0]at HB0 hX0 hL0 ⊢;clear hW0;refine(ziX _ _ b.os _ (HK.out.os.mono HB0.out)).mono ?_;rintro e w1⟨rfl,hb1⟩;have HB1:=hid (HB0.out.trans (hb1.mono HB0.out.size));have hX1:=za hX0 hz0 hb1;have hL1:=za hL0 (nSl hz0) hb1;have hz1:=nLt hz0 hb1.size;clear hb1 hX0 hL0 hz0 HB0
 by_cases has:zbZ zbD b.os=true
 rotate_left
 ·have has':zbZ zbD b.os=false:=by simpa using has
  have HF:Hid (zI l b=false):=by unfold Hid zI;rw[has'];simp
  rw[has'];clear has has';go_wp2_with fail
  go_ret;exact⟨ze HF.out.symm,HB1.out⟩
 have HG:Hid (zI l b=b.os.all (yM l b)):=by unfold Hid zI;rw[has,decide_eq_true HLN.out];rfl
 rw[has];clear has;go_wp2_with fail
 refine(zhN _ _ b.os _ (HK.out.os.mono HB1.out) (by have:=HLN.out;omega)).mono ?_;rintro e w1'⟨⟨f,rfl,hpm,hpf⟩,hb1⟩;have HB1':=hid (HB1.out.trans (hb1.mono HB1.out.size));have hX1':=za hX1 hz1 hb1;have hL1':=za hL1 (nSl hz1) hb1;have hz1':=nLt hz1 hb1.size;have HPM:=jC hpm hpf;clear hb1 hX1 hL1 hz1 HB1 hpm hpf;go_wp2_with fail
 go_loopw [24] (fun iv wr=>∃k:Nat,k<=b.os.length/\iv=.int .i64 k/\Hid ((b.os.take k).all (yM l b)=true/\Below w1'.heap.size w1' wr)) (fun iv _=>b.os.length-(intOf iv).toNat)
 case atStart=>exact⟨0,Nat.zero_le _,rfl,by simp,bRf _ _⟩
 case round=>
  obtain⟨k,hk,rfl,HQ⟩:=hrel;have hkn:k<=40:=by have:=HLN.out;omega
  by_cases hlt:k<b.os.length
  ·have HBw:Hid (∀W,Below w1'.heap.size w1' W->Below w.heap.size w W):=fun W hW=>HB1'.out.trans (hW.mono HB1'.out.size)
   obtain⟨ob,off,v0,v1,q0,q1,rfl,hob,hsm,hl0,hl1,d0,d1,d2,d3,d4,d5,d6⟩:=HK.out.os.load (HBw.out _ HQ.out.2) k hlt;have hltI:(k:Int)<(b.os.length:Int):=by omega
   have hob':=nLt hob (HBw.out _ HQ.out.2).size;have hX:=za hX1' hz1' HQ.out.2;have hL:=za hL1' (nSl hz1') HQ.out.2;have hz:=nLt hz1' HQ.out.2.size;have HOB:Hid (jK wr b.os[k] v0 v1):=⟨hsm,hl0,hl1⟩
   have HSn:Hid ((b.os.take (k+1)).all (yM l b)=((b.os.take k).all (yM l b)&&(yM l b) b.os[k])):=qQ _ _ _ hlt;have HBo:Hid (∀ob,Below w1'.heap.size w1' (wr.alloc ob)):=fun ob=>HQ.out.2.alloc HQ.out.2.size _
   have HNo:Hid ((yM l b) b.os[k]=false->zI l b=false):=fun h=>by rw[HG.out];exact zaD _ _ _ hlt h
   have HYes:Hid ((yM l b) b.os[k]=true->(b.os.take (k+1)).all (yM l b)=true):=fun h=>by rw[HSn.out,HQ.out.1,h];rfl
   have HF2:Hid (b.os[k].vs.length<=1048576/\b.os[k].hs.length<=1048576):=HW.out.2 k hlt;clear HQ hsm hl0 hl1;go_wp2_with fail
   have hbN:Below wr.heap.size wr (wr.alloc (.cells #[.string b.os[k].kd,.string b.os[k].nm,.string b.os[k].tm,.slice v0 b.os[k].vs.length q0,.bool b.os[k].en,.slice v1 b.os[k].hs.length q1,.int .i64 b.os[k].vr] 123)):=bAl _ _;have hN:=zl wr #[.string b.os[k].kd,.string b.os[k].nm,.string b.os[k].tm,.slice v0 b.os[k].vs.length q0,.bool b.os[k].en,.slice v1 b.os[k].hs.length q1,.int .i64 b.os[k].vr] 123;obtain⟨w2,hw2⟩:∃w2,w2=wr.alloc (.cells #[.string b.os[k].kd,.string b.os[k].nm,.string b.os[k].tm,.slice v0 b.os[k].vs.length q0,.bool b.os[k].en,.slice v1 b.os[k].hs.length q1,.int .i64 b.os[k].vr] 123):=⟨_,rfl⟩
   have hn2:wr.heap.size<w2.heap.size:=by rw[hw2];simp
   rw[<- hw2]at hbN hN ⊢;have HB2:Hid (Below w1'.heap.size w1' w2):=by unfold Hid;rw[hw2];exact HBo.out _
   have HO2:=hid (HOB.out.mono hbN);have hX2:=za hX hz hbN;have hL2:=za hL (nSl hz) hbN;have hz2:=nLt hz hbN.size;have hy2:=nSl hz2;clear hw2 d0 d1 d2 d3 d4 d5 d6 hX hL hbN;refine(jg _ _ _ _).mono ?_;rintro e w3⟨rfl,rfl⟩
   by_cases t1:within b.os[k].vr 1 b.now=true
   rotate_left
   ·have HF:Hid (zI l b=false):=HNo.out (by unfold yM;rw[bFi t1];rfl)
    rw[bFi t1];clear t1;go_wp2_with fail
    go_ret;exact⟨ze HF.out.symm,HBw.out _ HB2.out⟩
   rw[t1];have HT1:=hid t1;clear t1;go_wp2_with fail
   refine(zb4 _ _ l.ts b.os[k].tm _ (HL.out.ts.mono (HBw.out _ HB2.out))).mono ?_;rintro e w4⟨rfl,hb4⟩;have HB4:=hid (HB2.out.trans (hb4.mono HB2.out.size));have hN4:=za hN hn2 hb4;have hX4:=za hX2 hz2 hb4;have hL4:=za hL2 hy2 hb4;have hn4:=nLt hn2 hb4.size;have hz4:=nLt hz2 hb4.size;have hy4:=nLt hy2 hb4.size;have HO4:=hid (HO2.out.mono hb4);clear hb4 hN hX2 hL2 hn2 hz2 hy2
   by_cases t2:yG l.ts b.os[k].tm=true
   rotate_left
   ·have HF:Hid (zI l b=false):=HNo.out (by unfold yM;rw[HT1.out,bFi t2];rfl)
    rw[bFi t2];clear t2;go_wp2_with fail
    go_ret;exact⟨ze HF.out.symm,HBw.out _ HB4.out⟩
   rw[t2];have HT2:Hid (yG l.ts b.os[k].tm=true):=t2;clear t2;go_wp2_with fail
   refine(zlI l la lb lc lca lcb lcc b.os[k] v0 v1 q0 q1 _ (HL.out.mono (HBw.out _ HB4.out)) hml HO4.out HF2.out.1 HF2.out.2 HW.out.1).mono ?_;rintro e w5⟨rfl,hb5⟩;have HB5:Hid (Below w1'.heap.size w1' w5):=HB4.out.trans (hb5.mono HB4.out.size);have hN5:=za hN4 hn4 hb5;have hL5:=za hL4 hy4 hb5;have hn5:=nLt hn4 hb5.size;have hy5:=nLt hy4 hb5.size;have HO5:Hid (jK w5 b.os[k] v0 v1):=HO4.out.mono hb5;clear hb5 hN4 hX4 hL4 hn4 hz4 hy4
   by_cases t3:zaS l b.os[k]=true
   rotate_left
   ·have HF:Hid (zI l b=false):=HNo.out (by unfold yM;rw[HT1.out,HT2.out,bFi t3];rfl)
    rw[bFi t3];clear t3;go_wp2_with fail
    go_ret;exact⟨ze HF.out.symm,HBw.out _ HB5.out⟩
   have HT3:Hid (zaS l b.os[k]=true):=t3
   have HC:Hid (b.os[k].vs.length=(shapeOf l.ss b.os[k].kd).fs.length):=by
    have h:=t3;unfold zaS at h;simp only[Bool.and_eq_true,decide_eq_true_eq]at h;exact(zb0 (jG HW.out.1 h.1)).1
   rw[t3];clear t3;go_wp2_with fail
   refine(zlE l la lb lc lca lcb lcc w1.heap.size f b.os[k] v0 v1 q0 q1 _ (HL.out.mono (HBw.out _ HB5.out)) (HPM.out.1.mono HB5.out) HO5.out HC.out).mono ?_;rintro e w6⟨rfl,hb6⟩;have HB6:Hid (Below w1'.heap.size w1' w6):=HB5.out.trans (hb6.mono HB5.out.size);have HLE:Hid (zed f (qm (shapeOf l.ss b.os[k].kd).fs b.os[k].vs (shapeOf l.ss b.os[k].kd).fs.length)=zaz l b.os b.os[k]):=zjH HPM.out.2;rw[HLE.out];clear hb6
   by_cases t4:zaz l b.os b.os[k]=true
   ·have HY:Hid ((b.os.take (k+1)).all (yM l b)=true):=HYes.out (by unfold yM;rw[HT1.out,HT2.out,HT3.out,t4];rfl)
    rw[t4];clear t4;go_wp2_with fail
    exact⟨⟨k+1,by omega,by go_num,HY.out,HB6.out⟩,zm hlt⟩
   ·have HF:Hid (zI l b=false):=HNo.out (by unfold yM;rw[HT1.out,HT2.out,HT3.out,bFi t4];rfl)
    rw[bFi t4];clear t4;go_wp2_with fail
    go_ret;exact⟨ze HF.out.symm,HBw.out _ HB6.out⟩
  ·have e:k=b.os.length:=by omega
   subst e
   have HE:Hid (zI l b=true):=by
    unfold Hid;rw[HG.out];have h:=HQ.out.1;rw[tOl (Nat.le_refl _)]at h;exact h
   have HBe:=hid (HB1'.out.trans (HQ.out.2.mono HB1'.out.size));clear hlt hk HQ;go_wp2_with fail
   go_ret;exact⟨ze HE.out.symm,HBe.out⟩
end Go.Proofs.YtnapmdofidgliaaGreat
