import Derived.Test.YtaickbhifenbjaaGreatM37
import Derived.Test.YtaickbhifenbjaaGreatM38
import Derived.Test.YtaickbhifenbjaaGreatM09
set_option maxHeartbeats 4000000
namespace Go.Proofs.YtaickbhifenbjaaGreat
open Go.RowKit
set_option maxRecDepth 20000 in
theorem zkG (l:Lw) (a b c:Option Addr) (ca cb cc:Nat) (o:Ob) (va ha:Option Addr) (cap cap':Nat) (w:World) (hL:qp w l a b c) :
 Calls Tryz.prog 191 #[.agg #[.slice a l.ss.length ca,.slice b l.ms.length cb,.slice c l.ts.length cc],.agg #[.string o.kd,.string o.nm,.string o.tm,.slice va o.vs.length cap,.bool o.en,.slice ha o.hs.length cap',.int .i64 o.vr]] w
  fun e w'=>∃ Bs Bo fa fcap,e = .returned (.func (.func 211) #[] #[.pointer (some ⟨Bs,0,none⟩),.pointer (some ⟨Bo,0,none⟩)])/\Bs < w'.heap.size/\Bo < w'.heap.size/\zR w' fa (Gate.shapeOf l.ss o.kd).fs /\
   (∀ j,w'.cell? ⟨Bs,j,none⟩=(#[.string (Gate.shapeOf l.ss o.kd).kd,.slice fa (Gate.shapeOf l.ss o.kd).fs.length fcap]:Array Value)[j]?)/\(∀ j,w'.cell? ⟨Bo,j,none⟩=(#[.string o.kd,.string o.nm,.string o.tm,.slice va o.vs.length cap,.bool o.en,.slice ha o.hs.length cap',.int .i64 o.vr]:Array Value)[j]?)/\Below w.heap.size w w':=by
 have HH:Hid (qp w l a b c):=hL
 clear hL
 go_enter Tryz.func191,Tryz.ntmps191
 go_wp2_with fail
 have hb2:=zC w (.cells #[.slice a l.ss.length ca,.slice b l.ms.length cb,.slice c l.ts.length cc] 43) (.cells #[.string o.kd,.string o.nm,.string o.tm,.slice va o.vs.length cap,.bool o.en,.slice ha o.hs.length cap',.int .i64 o.vr] 121)
 refine (qL _ _ l.ss o.kd _ (HH.out.ss.mono hb2)).mono ?_
 rintro e w1 ⟨fa,fcap,rfl,hfl0,hb1⟩
 have HFL:Hid (zR w1 fa (Gate.shapeOf l.ss o.kd).fs):=hfl0.mono hb1
 have hX1:∀ j,w1.cell? ⟨w.heap.size+1,j,none⟩=(#[.string o.kd,.string o.nm,.string o.tm,.slice va o.vs.length cap,.bool o.en,.slice ha o.hs.length cap',.int .i64 o.vr]:Array Value)[j]?:=fun j=>cell_of_block ((hb1.block (w.heap.size+1) (by simp)).trans (yw _ _ _).2)
 have hz1:w.heap.size+1 < w1.heap.size:=by have:=hb1.size;simp at this;omega
 have HB1:Hid (Below w.heap.size w w1):=hb2.trans (hb1.mono (by simp;omega))
 have HX1:Hid (∀ j,w1.cell? ⟨w.heap.size+1,j,none⟩=(#[.string o.kd,.string o.nm,.string o.tm,.slice va o.vs.length cap,.bool o.en,.slice ha o.hs.length cap',.int .i64 o.vr]:Array Value)[j]?):=hX1
 clear hb1 hb2 hfl0
 go_wp2_with fail
 go_ret
 have hba:=(Below.refl w1.heap.size w1).alloc (Nat.le_refl _) (.cells #[.string (Gate.shapeOf l.ss o.kd).kd,.slice fa (Gate.shapeOf l.ss o.kd).fs.length fcap] 115)
 exact ⟨w1.heap.size,w.heap.size+1,fa,fcap,rfl,by simp,Nat.lt_of_lt_of_le hz1 hba.size,HFL.out.mono hba,zl w1 _ _,za HX1.out hz1 hba,HB1.out.trans (hba.mono HB1.out.size)⟩
end Go.Proofs.YtaickbhifenbjaaGreat
namespace Go.Proofs.YtaickbhifenbjaaGreat
open Go.RowKit Go.Shelf
attribute [local go_sem] Oper.semAt_some
def zdk (f:ByteArray->ByteArray->Option Int) (xs:List Lk):Bool:=xs.all fun x=>(f x.to x.nm).isSome
set_option maxRecDepth 100000 in
theorem zkc (l:Lw) (a b c:Option Addr) (ca cb cc:Nat) (r:Nat) (f:ByteArray->ByteArray->Option Int) (o:Ob) (va ha:Option Addr) (cap cap':Nat) (w:World) (hL:qp w l a b c) (hM:yK w r f) (ho:qG w o va ha) (hc:o.vs.length=(Gate.shapeOf l.ss o.kd).fs.length) :
 Calls Tryz.prog 144 #[.agg #[.slice a l.ss.length ca,.slice b l.ms.length cb,.slice c l.ts.length cc],.map (some r),.agg #[.string o.kd,.string o.nm,.string o.tm,.slice va o.vs.length cap,.bool o.en,.slice ha o.hs.length cap',.int .i64 o.vr]] w
  fun e w'=>e = .returned (.bool (zdk f (jN (Gate.shapeOf l.ss o.kd).fs o.vs (Gate.shapeOf l.ss o.kd).fs.length)))/\Below w.heap.size w w':=by
 have HH:Hid (qp w l a b c/\yK w r f/\qG w o va ha/\o.vs.length=(Gate.shapeOf l.ss o.kd).fs.length):=⟨hL,hM,ho,hc⟩
 clear hL hM ho hc
 refine (callsIn_wide (n:=6)).1 ?_
 refine callsIn_of_wp_marks Tryz.func144 rfl trivial ?_ rfl
 simp only [Tryz.ntmps144,List.size_toArray,List.length_cons,List.length_nil,Nat.reduceAdd,Nat.reduceSub,Array.replicate_succ,Array.replicate_zero,List.push_toArray,List.append_toArray,List.nil_append,List.cons_append]
 gi_wp2_with fail
 refine ⟨trivial,?_⟩
 have hb4:Below w.heap.size w ((((w.alloc (.cells #[.slice a l.ss.length ca,.slice b l.ms.length cb,.slice c l.ts.length cc] 43)).alloc (.cells #[.map (some r)] 204)).alloc (.cells #[.string o.kd,.string o.nm,.string o.tm,.slice va o.vs.length cap,.bool o.en,.slice ha o.hs.length cap',.int .i64 o.vr] 121)).alloc (.cells #[.bool false] 4)):=(jB _ _ _ _).alloc (by simp;omega) _
 have hbR:=Boxed.new (((w.alloc (.cells #[.slice a l.ss.length ca,.slice b l.ms.length cb,.slice c l.ts.length cc] 43)).alloc (.cells #[.map (some r)] 204)).alloc (.cells #[.string o.kd,.string o.nm,.string o.tm,.slice va o.vs.length cap,.bool o.en,.slice ha o.hs.length cap',.int .i64 o.vr] 121)) 4 (.bool false)
 have hbP:=((Boxed.new (w.alloc (.cells #[.slice a l.ss.length ca,.slice b l.ms.length cb,.slice c l.ts.length cc] 43)) 204 (.map (some r))).alloc (.cells #[.string o.kd,.string o.nm,.string o.tm,.slice va o.vs.length cap,.bool o.en,.slice ha o.hs.length cap',.int .i64 o.vr] 121)).alloc (.cells #[.bool false] 4)
 simp only [World.size_alloc] at hbR hbP
 obtain ⟨w4,hw4⟩:∃ w4,w4=((((w.alloc (.cells #[.slice a l.ss.length ca,.slice b l.ms.length cb,.slice c l.ts.length cc] 43)).alloc (.cells #[.map (some r)] 204)).alloc (.cells #[.string o.kd,.string o.nm,.string o.tm,.slice va o.vs.length cap,.bool o.en,.slice ha o.hs.length cap',.int .i64 o.vr] 121)).alloc (.cells #[.bool false] 4)):=⟨_,rfl⟩
 rw [<- hw4] at hb4 hbR hbP ⊢
 clear hw4
 refine (callsIn_wide.2 (zkG l a b c ca cb cc o va ha cap cap' w4 (HH.out.1.mono hb4))).mono ?_
 rintro e W0 ⟨Bs,Bo,fa,fcap,rfl,hBs,hBo,hfl,hXs,hXo,hb1⟩
 have bR:Boxed W0 (w.heap.size+1+1+1) 4 (.bool false):=(hb1.block _ hbR.lt).trans hbR
 have bP:Boxed W0 (w.heap.size+1) 204 (.map (some r)):=(hb1.block _ hbP.lt).trans hbP
 have HB0:Hid (Below w.heap.size w W0):=hb4.trans (hb1.mono hb4.size)
 have hN:w.heap.size<=W0.heap.size:=HB0.out.size
 have HO0:Hid (zF W0 va o.vs):=HH.out.2.2.1.vals.mono HB0.out
 clear hb1 hb4 hbR hbP
 gi_wp2_with fail
 refine wpIn_rangeFunc_ownH rfl (by omega) (gf:=211) (lb:=#[.pointer (some ⟨Bs,0,none⟩),.pointer (some ⟨Bo,0,none⟩)]) rfl trivial (enters_of Tryz.func211 (by kernel_rfl) rfl)
  (zk1 5 (by omega) Bs Bo (Gate.shapeOf l.ss o.kd).kd (Gate.shapeOf l.ss o.kd).fs fa fcap o va ha cap cap' W0 hBs hBo hXs hXo hfl HO0.out HH.out.2.2.2) belowK_t (belowK_b (Nat.le_refl _)) (Below.refl _ _) (fun _=>rfl)
  (fun pre W=>(∀ x ∈ pre,(f x.to x.nm).isSome=true)/\Below W0.heap.size W0 W)
  (fun cd pre W=>((cd = .ret/\∃ x ∈ pre,(f x.to x.nm).isSome=false)/\Boxed W (w.heap.size+1+1+1) 4 (.bool false))/\Below w.heap.size w W)
  (OwnFrom.and (ownFrom_pure _ _) (ownFrom_below (Nat.le_refl _) (Nat.le_refl _)))
  (fun cd=>OwnFrom.and (OwnFrom.and (ownFrom_pure _ _) (Own.from (boxed_own _ _ _) _)) (ownFrom_below (Nat.le_refl _) hN))
  ⟨by simp,Below.refl _ _⟩
  (fun x a' W=>∃ Bx,W.heap[Bx]?=some (.cells #[.int .i64 x.pl,.int .i64 x.rl,.string x.to,.string x.nm] 255)/\a'={ tmps:=#[.agg #[.slice a l.ss.length ca,.slice b l.ms.length cb,.slice c l.ts.length cc],.map (some r),.agg #[.string o.kd,.string o.nm,.string o.tm,.slice va o.vs.length cap,.bool o.en,.slice ha o.hs.length cap',.int .i64 o.vr],.pointer (some ⟨w.heap.size,0,none⟩),.pointer (some ⟨w.heap.size+1,0,none⟩),.pointer (some ⟨w.heap.size+1+1,0,none⟩),.pointer (some ⟨w.heap.size+1+1+1,0,none⟩),.pointer (some ⟨Bx,0,none⟩),undef,undef,.agg #[.slice a l.ss.length ca,.slice b l.ms.length cb,.slice c l.ts.length cc],.agg #[.string o.kd,.string o.nm,.string o.tm,.slice va o.vs.length cap,.bool o.en,.slice ha o.hs.length cap',.int .i64 o.vr],.func (.func 211) #[] #[.pointer (some ⟨Bs,0,none⟩),.pointer (some ⟨Bo,0,none⟩)],.agg #[.int .i64 x.pl,.int .i64 x.rl,.string x.to,.string x.nm],undef,undef,undef,undef,undef,undef,undef,undef,undef],defers:=[] })
  (fun x a' _ X Y row hs hg hr=>by
   obtain ⟨Bx,e1,e2⟩:=hs
   refine ⟨Bx,(hg.block Bx (Array.getElem?_eq_some_iff.1 e1).1 (fun e=>?_)).trans e1,e2⟩
   obtain ⟨_,ob,h1,h2⟩:=hr Bx e.symm
   rw [e1] at h1
   cases h1
   cases h2)
  ?assign ?body ?done ?stop
 case assign =>
  rintro l' pre x W K ⟨hp,hB1⟩ hK
  unfold Lk.enc
  gi_wp2
  exact hK _ _ ((KeepsOthers.alloc _ _).from _) ((Below.refl _ W).alloc hB1.size _) ⟨hp,hB1.alloc hB1.size _⟩ ⟨W.heap.size,World.alloc_heap_new W _,rfl⟩
 case body =>
  rintro l' pre x a' W hl ⟨rr,hr⟩ ⟨hp,hB1⟩ ⟨Bx,hBx,rfl⟩ hlt
  have cX:=zf0 hBx
  have bP1:Boxed W (w.heap.size+1) 204 (.map (some r)):=(hB1.block _ bP.lt).trans bP
  have cP:=bP1.cell
  have bR1:Boxed W (w.heap.size+1+1+1) 4 (.bool false):=(hB1.block _ bR.lt).trans bR
  have cR:=bR1.cell
  have fR:=bR1.frozen
  have hlk:=(HH.out.2.1.mono (HB0.out.trans (hB1.mono HB0.out.size))).look zio Tryz.underlying204 x.to x.nm x.hto x.hnm true
  unfold q8 at hlk
  simp only [if_true] at hlk
  have HB2:Hid (Below W0.heap.size W0 W):=hB1
  have HP:Hid (∀ x ∈ pre,(f x.to x.nm).isSome=true):=hp
  have HR1:Hid (Boxed W (w.heap.size+1+1+1) 4 (.bool false)):=bR1
  clear hp hB1 bR1
  cases hq:(f x.to x.nm).isSome with
  | false =>
   rw [hq] at hlk
   gi_wp2
   exact ⟨(KeepsOthers.setCell _ _ _).from _,⟨⟨rfl,x,List.mem_append.2 (.inr (by simp)),hq⟩,HR1.out.set _⟩,(HB0.out.trans (HB2.out.mono hN)).setCell (p:=⟨(w.heap.size+1+1+1),0,none⟩) (by show w.heap.size<=(w.heap.size+1+1+1);omega) _⟩
  | true =>
   rw [hq] at hlk
   gi_wp2
   exact ⟨KeepsFrom.refl _ _,Below.refl _ _,fun z hz=>(List.mem_append.1 hz).elim (HP.out z) (fun e=>by simp at e;subst e;exact hq),HB2.out⟩
 case done =>
  rintro D ys W hD rfl ⟨hp,hB1⟩ hK
  have bR1:Boxed W (w.heap.size+1+1+1) 4 (.bool false):=(hB1.block _ bR.lt).trans bR
  have cR:=bR1.cell
  have fR:=bR1.frozen
  gi_wp2
  have hK':=(KeepsOthers.setCell W ⟨(w.heap.size+1+1+1),0,none⟩ (.bool true)).same D _ hK rfl
  refine ⟨by simp,.inl ⟨_,_,rfl,run_takeDeferred hK',?_⟩⟩
  have hc5:=cell_kept (World.cell?_setCell_same' W ⟨(w.heap.size+1+1+1),0,none⟩ (.bool true) (by rw [cR];rfl)) (grownBy_putObj' _ D (.deferred none)) (fun r e=>by cases e;exact ⟨_,hK',rfl⟩)
  have hall:zdk f (jN (Gate.shapeOf l.ss o.kd).fs o.vs (Gate.shapeOf l.ss o.kd).fs.length)=true:=List.all_eq_true.2 hp
  refine ⟨.bool true,?_,by rw [hall],((HB0.out.trans (hB1.mono hN)).setCell (p:=⟨(w.heap.size+1+1+1),0,none⟩) (by show w.heap.size<=(w.heap.size+1+1+1);omega) _).trans (belowK_b (w:=w) (Nat.le_refl _) _ D _ _ (by omega) hK' rfl rfl)⟩
  simp [results,Tryz.results144,go_sem,hc5]
 case stop =>
  rintro D cd pre W hD hpre ⟨⟨⟨rfl,x,hx,hq⟩,bR1⟩,hB⟩ hK
  gi_wp2
  refine ⟨by simp,.inl ⟨_,_,rfl,run_takeDeferred hK,?_⟩⟩
  have hc5:=cell_kept bR1.cell (grownBy_putObj' _ D (.deferred none)) (fun r e=>by cases e;exact ⟨_,hK,rfl⟩)
  have hno:zdk f (jN (Gate.shapeOf l.ss o.kd).fs o.vs (Gate.shapeOf l.ss o.kd).fs.length)=false:=by
   unfold zdk
   rw [List.all_eq_false]
   exact ⟨x,hpre.subset hx,by rw [hq];simp⟩
  refine ⟨.bool false,?_,by rw [hno],hB.trans (belowK_b (w:=w) (Nat.le_refl _) W D _ _ (by omega) hK rfl rfl)⟩
  simp [results,Tryz.results144,go_sem,hc5]
end Go.Proofs.YtaickbhifenbjaaGreat
namespace Go.Proofs.YtaickbhifenbjaaGreat
open Go.RowKit
namespace Gate
noncomputable def zam (l:Lw) (os:List Ob) (o:Ob):Bool:=(jN (shapeOf l.ss o.kd).fs o.vs (shapeOf l.ss o.kd).fs.length).all fun x=>os.any (zaU x.to x.nm)
noncomputable def yV (l:Lw) (b:Bk) (o:Ob):Bool:=within o.vr 1 b.now && (yC l.ts o.tm && (zbs l o && zam l b.os o))
noncomputable def yj (l:Lw) (b:Bk):Bool:=decide (b.os.length<=40) && (zaV zaI b.os && b.os.all (yV l b))
end Gate
theorem zhR {l:Lw} {os:List Ob} {o:Ob} {f:ByteArray->ByteArray->Option Int} (h:∀ p q,(f p q).isSome=os.any (Gate.zaU p q)):zdk f (jN (Gate.shapeOf l.ss o.kd).fs o.vs (Gate.shapeOf l.ss o.kd).fs.length)=Gate.zam l os o:=by
 unfold zdk Gate.zam
 congr 1
 funext x
 exact h _ _
set_option maxRecDepth 20000 in
theorem zhO (l:Lw) (la lb lc:Option Addr) (lca lcb lcc:Nat) (b:Bk) (a0 a1 a2 a3:Option Addr) (c0 c1 c2 c3:Nat) (w:World) (hb:qA w b a0 a1 a2 a3) (hl:qp w l la lb lc) (hml:l.ms.length<=1048576) (hok:Gate.yx l.ss l.ms=true) (hfw:∀ i (h:i < b.os.length),b.os[i].vs.length<=1048576/\b.os[i].hs.length<=1048576) :
 Calls Tryz.prog 101 #[.agg #[.slice la l.ss.length lca,.slice lb l.ms.length lcb,.slice lc l.ts.length lcc],.agg #[.int .i64 b.now,.int .i64 b.tick,.int .i64 b.given,.slice a0 b.os.length c0,.slice a1 b.gs.length c1,.slice a2 b.ls.length c2,.slice a3 b.ps.length c3]] w fun e w'=>e = .returned (.bool (Gate.yj l b))/\Below w.heap.size w w':=by
 have HK:Hid (qA w b a0 a1 a2 a3):=hb
 have HL:Hid (qp w l la lb lc):=hl
 have HW:Hid (Gate.yx l.ss l.ms=true/\∀ i (h:i < b.os.length),b.os[i].vs.length<=1048576/\b.os[i].hs.length<=1048576):=⟨hok,hfw⟩
 clear hb hl hok hfw
 by_cases hln:b.os.length<=40
 rotate_left
 ·have HF:Hid (Gate.yj l b=false):=by unfold Hid Gate.yj;rw [decide_eq_false hln];rfl
  have hg:(40:Int) < (b.os.length:Int):=by omega
  go_enter Tryz.func101,Tryz.ntmps101
  go_wp2_with fail
  go_ret
  exact ⟨ze HF.out.symm,zC _ _ _⟩
 have hg:decide ((40:Int) < (b.os.length:Int))=false:=by simp;omega
 have HLN:Hid (b.os.length<=40):=hln
 clear hln
 go_enter Tryz.func101,Tryz.ntmps101
 go_wp2_with fail
 obtain ⟨hL0,hX0⟩:=jd w #[.slice la l.ss.length lca,.slice lb l.ms.length lcb,.slice lc l.ts.length lcc] #[.int .i64 b.now,.int .i64 b.tick,.int .i64 b.given,.slice a0 b.os.length c0,.slice a1 b.gs.length c1,.slice a2 b.ls.length c2,.slice a3 b.ps.length c3] 43 50
 have HB0:Hid (Below w.heap.size w ((w.alloc (.cells #[.slice la l.ss.length lca,.slice lb l.ms.length lcb,.slice lc l.ts.length lcc] 43)).alloc (.cells #[.int .i64 b.now,.int .i64 b.tick,.int .i64 b.given,.slice a0 b.os.length c0,.slice a1 b.gs.length c1,.slice a2 b.ls.length c2,.slice a3 b.ps.length c3] 50))):=zC w _ _
 obtain ⟨W0,hW0⟩:∃ W0,W0=(w.alloc (.cells #[.slice la l.ss.length lca,.slice lb l.ms.length lcb,.slice lc l.ts.length lcc] 43)).alloc (.cells #[.int .i64 b.now,.int .i64 b.tick,.int .i64 b.given,.slice a0 b.os.length c0,.slice a1 b.gs.length c1,.slice a2 b.ls.length c2,.slice a3 b.ps.length c3] 50):=⟨_,rfl⟩
 have hz0:w.heap.size+1 < W0.heap.size:=by rw [hW0];simp
 rw [<- hW0] at HB0 hX0 hL0 ⊢
 clear hW0
 refine (zhl _ _ b.os _ (HK.out.os.mono HB0.out)).mono ?_
 rintro e w1 ⟨rfl,hb1⟩
 have HB1:Hid (Below w.heap.size w w1):=HB0.out.trans (hb1.mono HB0.out.size)
 have hX1:=za hX0 hz0 hb1
 have hL1:=za hL0 (Nat.lt_of_succ_lt hz0) hb1
 have hz1:=Nat.lt_of_lt_of_le hz0 hb1.size
 clear hb1 hX0 hL0 hz0 HB0
 by_cases has:Gate.zaV Gate.zaI b.os=true
 rotate_left
 ·have has':Gate.zaV Gate.zaI b.os=false:=by simpa using has
  have HF:Hid (Gate.yj l b=false):=by unfold Hid Gate.yj;rw [has'];simp
  rw [has']
  clear has has'
  go_wp2_with fail
  go_ret
  exact ⟨ze HF.out.symm,HB1.out⟩
 have HG:Hid (Gate.yj l b=b.os.all (Gate.yV l b)):=by unfold Hid Gate.yj;rw [has,decide_eq_true HLN.out];rfl
 rw [has]
 clear has
 go_wp2_with fail
 refine (zfW _ _ b.os _ (HK.out.os.mono HB1.out) (by have:=HLN.out;omega)).mono ?_
 rintro e w1' ⟨⟨f,rfl,hpm,hpf⟩,hb1⟩
 have HB1':Hid (Below w.heap.size w w1'):=HB1.out.trans (hb1.mono HB1.out.size)
 have hX1':=za hX1 hz1 hb1
 have hL1':=za hL1 (Nat.lt_of_succ_lt hz1) hb1
 have hz1':=Nat.lt_of_lt_of_le hz1 hb1.size
 have HPM:Hid (yK w1' w1.heap.size f/\∀ p q,(f p q).isSome=b.os.any (Gate.zaU p q)):=⟨hpm,hpf⟩
 clear hb1 hX1 hL1 hz1 HB1 hpm hpf
 go_wp2_with fail
 go_loopw [24] (fun iv wr=>∃ k:Nat,k<=b.os.length/\iv = .int .i64 k/\Hid ((b.os.take k).all (Gate.yV l b)=true/\Below w1'.heap.size w1' wr)) (fun iv _=>b.os.length - (intOf iv).toNat)
 case atStart=>exact ⟨0,Nat.zero_le _,rfl,by simp,Below.refl _ _⟩
 case round =>
  obtain ⟨k,hk,rfl,HQ⟩:=hrel
  have hkn:k<=40:=by have:=HLN.out;omega
  by_cases hlt:k < b.os.length
  ·have HBw:Hid (∀ W,Below w1'.heap.size w1' W->Below w.heap.size w W):=fun W hW=>HB1'.out.trans (hW.mono HB1'.out.size)
   obtain ⟨ob,off,v0,v1,q0,q1,rfl,hob,hsm,hl0,hl1,d0,d1,d2,d3,d4,d5,d6⟩:=HK.out.os.load (HBw.out _ HQ.out.2) k hlt
   have hltI:(k:Int) < (b.os.length:Int):=by omega
   have hob':ob < wr.heap.size:=Nat.lt_of_lt_of_le hob (HBw.out _ HQ.out.2).size
   have hX:=za hX1' hz1' HQ.out.2
   have hL:=za hL1' (Nat.lt_of_succ_lt hz1') HQ.out.2
   have hz:w.heap.size+1 < wr.heap.size:=Nat.lt_of_lt_of_le hz1' HQ.out.2.size
   have HOB:Hid (qG wr b.os[k] v0 v1):=⟨hsm,hl0,hl1⟩
   have HSn:Hid ((b.os.take (k+1)).all (Gate.yV l b)=((b.os.take k).all (Gate.yV l b) && (Gate.yV l b) b.os[k])):=Gate.qR _ _ _ hlt
   have HBo:Hid (∀ ob,Below w1'.heap.size w1' (wr.alloc ob)):=fun ob=>HQ.out.2.alloc HQ.out.2.size _
   have HNo:Hid ((Gate.yV l b) b.os[k]=false->Gate.yj l b=false):=fun h=>by rw [HG.out];exact Gate.zar _ _ _ hlt h
   have HYes:Hid ((Gate.yV l b) b.os[k]=true->(b.os.take (k+1)).all (Gate.yV l b)=true):=fun h=>by rw [HSn.out,HQ.out.1,h];rfl
   have HF2:Hid (b.os[k].vs.length<=1048576/\b.os[k].hs.length<=1048576):=HW.out.2 k hlt
   clear HQ hsm hl0 hl1
   go_wp2_with fail
   have hbN:Below wr.heap.size wr (wr.alloc (.cells #[.string b.os[k].kd,.string b.os[k].nm,.string b.os[k].tm,.slice v0 b.os[k].vs.length q0,.bool b.os[k].en,.slice v1 b.os[k].hs.length q1,.int .i64 b.os[k].vr] 121)):=(Below.refl _ _).alloc (Nat.le_refl _) _
   have hN:=zl wr #[.string b.os[k].kd,.string b.os[k].nm,.string b.os[k].tm,.slice v0 b.os[k].vs.length q0,.bool b.os[k].en,.slice v1 b.os[k].hs.length q1,.int .i64 b.os[k].vr] 121
   obtain ⟨w2,hw2⟩:∃ w2,w2=wr.alloc (.cells #[.string b.os[k].kd,.string b.os[k].nm,.string b.os[k].tm,.slice v0 b.os[k].vs.length q0,.bool b.os[k].en,.slice v1 b.os[k].hs.length q1,.int .i64 b.os[k].vr] 121):=⟨_,rfl⟩
   have hn2:wr.heap.size < w2.heap.size:=by rw [hw2];simp
   rw [<- hw2] at hbN hN ⊢
   have HB2:Hid (Below w1'.heap.size w1' w2):=by unfold Hid;rw [hw2];exact HBo.out _
   have HO2:Hid (qG w2 b.os[k] v0 v1):=HOB.out.mono hbN
   have hX2:=za hX hz hbN
   have hL2:=za hL (Nat.lt_of_succ_lt hz) hbN
   have hz2:=Nat.lt_of_lt_of_le hz hbN.size
   have hy2:=Nat.lt_of_succ_lt hz2
   clear hw2 d0 d1 d2 d3 d4 d5 d6 hX hL hbN
   refine (ji _ _ _ _).mono ?_
   rintro e w3 ⟨rfl,rfl⟩
   by_cases t1:Gate.within b.os[k].vr 1 b.now=true
   rotate_left
   ·have HF:Hid (Gate.yj l b=false):=HNo.out (by unfold Gate.yV;rw [Bool.eq_false_iff.2 t1];rfl)
    rw [Bool.eq_false_iff.2 t1]
    clear t1
    go_wp2_with fail
    go_ret
    exact ⟨ze HF.out.symm,HBw.out _ HB2.out⟩
   rw [t1]
   have HT1:Hid (Gate.within b.os[k].vr 1 b.now=true):=t1
   clear t1
   go_wp2_with fail
   refine (zbv _ _ l.ts b.os[k].tm _ (HL.out.ts.mono (HBw.out _ HB2.out))).mono ?_
   rintro e w4 ⟨rfl,hb4⟩
   have HB4:Hid (Below w1'.heap.size w1' w4):=HB2.out.trans (hb4.mono HB2.out.size)
   have hN4:=za hN hn2 hb4
   have hX4:=za hX2 hz2 hb4
   have hL4:=za hL2 hy2 hb4
   have hn4:=Nat.lt_of_lt_of_le hn2 hb4.size
   have hz4:=Nat.lt_of_lt_of_le hz2 hb4.size
   have hy4:=Nat.lt_of_lt_of_le hy2 hb4.size
   have HO4:Hid (qG w4 b.os[k] v0 v1):=HO2.out.mono hb4
   clear hb4 hN hX2 hL2 hn2 hz2 hy2
   by_cases t2:Gate.yC l.ts b.os[k].tm=true
   rotate_left
   ·have HF:Hid (Gate.yj l b=false):=HNo.out (by unfold Gate.yV;rw [HT1.out,Bool.eq_false_iff.2 t2];rfl)
    rw [Bool.eq_false_iff.2 t2]
    clear t2
    go_wp2_with fail
    go_ret
    exact ⟨ze HF.out.symm,HBw.out _ HB4.out⟩
   rw [t2]
   have HT2:Hid (Gate.yC l.ts b.os[k].tm=true):=t2
   clear t2
   go_wp2_with fail
   refine (zkb l la lb lc lca lcb lcc b.os[k] v0 v1 q0 q1 _ (HL.out.mono (HBw.out _ HB4.out)) hml HO4.out HF2.out.1 HF2.out.2 HW.out.1).mono ?_
   rintro e w5 ⟨rfl,hb5⟩
   have HB5:Hid (Below w1'.heap.size w1' w5):=HB4.out.trans (hb5.mono HB4.out.size)
   have hN5:=za hN4 hn4 hb5
   have hL5:=za hL4 hy4 hb5
   have hn5:=Nat.lt_of_lt_of_le hn4 hb5.size
   have hy5:=Nat.lt_of_lt_of_le hy4 hb5.size
   have HO5:Hid (qG w5 b.os[k] v0 v1):=HO4.out.mono hb5
   clear hb5 hN4 hX4 hL4 hn4 hz4 hy4
   by_cases t3:Gate.zbs l b.os[k]=true
   rotate_left
   ·have HF:Hid (Gate.yj l b=false):=HNo.out (by unfold Gate.yV;rw [HT1.out,HT2.out,Bool.eq_false_iff.2 t3];rfl)
    rw [Bool.eq_false_iff.2 t3]
    clear t3
    go_wp2_with fail
    go_ret
    exact ⟨ze HF.out.symm,HBw.out _ HB5.out⟩
   have HT3:Hid (Gate.zbs l b.os[k]=true):=t3
   have HC:Hid (b.os[k].vs.length=(Gate.shapeOf l.ss b.os[k].kd).fs.length):=by
    have h:=t3
    unfold Gate.zbs at h
    simp only [Bool.and_eq_true,decide_eq_true_eq] at h
    exact (Gate.zcq (Gate.zae HW.out.1 h.1)).1
   rw [t3]
   clear t3
   go_wp2_with fail
   refine (zkc l la lb lc lca lcb lcc w1.heap.size f b.os[k] v0 v1 q0 q1 _ (HL.out.mono (HBw.out _ HB5.out)) (HPM.out.1.mono HB5.out) HO5.out HC.out).mono ?_
   rintro e w6 ⟨rfl,hb6⟩
   have HB6:Hid (Below w1'.heap.size w1' w6):=HB5.out.trans (hb6.mono HB5.out.size)
   have HLE:Hid (zdk f (jN (Gate.shapeOf l.ss b.os[k].kd).fs b.os[k].vs (Gate.shapeOf l.ss b.os[k].kd).fs.length)=Gate.zam l b.os b.os[k]):=zhR HPM.out.2
   rw [HLE.out]
   clear hb6
   by_cases t4:Gate.zam l b.os b.os[k]=true
   ·have HY:Hid ((b.os.take (k+1)).all (Gate.yV l b)=true):=HYes.out (by unfold Gate.yV;rw [HT1.out,HT2.out,HT3.out,t4];rfl)
    rw [t4]
    clear t4
    go_wp2_with fail
    exact ⟨⟨k+1,by omega,by go_num,HY.out,HB6.out⟩,zw hlt⟩
   ·have HF:Hid (Gate.yj l b=false):=HNo.out (by unfold Gate.yV;rw [HT1.out,HT2.out,HT3.out,Bool.eq_false_iff.2 t4];rfl)
    rw [Bool.eq_false_iff.2 t4]
    clear t4
    go_wp2_with fail
    go_ret
    exact ⟨ze HF.out.symm,HBw.out _ HB6.out⟩
  ·have e:k=b.os.length:=by omega
   subst e
   have HE:Hid (Gate.yj l b=true):=by
    unfold Hid
    rw [HG.out]
    have h:=HQ.out.1
    rw [List.take_of_length_le (Nat.le_refl _)] at h
    exact h
   have HBe:Hid (Below w.heap.size w wr):=HB1'.out.trans (HQ.out.2.mono HB1'.out.size)
   clear hlt hk HQ
   go_wp2_with fail
   go_ret
   exact ⟨ze HE.out.symm,HBe.out⟩
theorem zd5 (b:Bk) (a0 a1 a2 a3:Option Addr) (c0 c1 c2 c3:Nat) (w:World) (hl:qA w b a0 a1 a2 a3) (hf:b.Few) :
 Calls Tryz.prog 9 #[.agg (b.cells a0 a1 a2 a3 c0 c1 c2 c3)] w fun e w'=>∃ lo g0 g1 g2 g3,e = .returned (.agg (b.cells (some ⟨g0,0,none⟩) (some ⟨g1,0,none⟩) (some ⟨g2,0,none⟩) (some ⟨g3,0,none⟩) b.os.length b.gs.length b.ls.length b.ps.length))/\w.heap.size<=lo/\zn7 lo w' b g0 g1 g2 g3/\Below w.heap.size w w':=by
 have HL:Hid (qA w b a0 a1 a2 a3):=hl
 have HF:Hid b.Few:=hf
 clear hl hf
 unfold Bk.cells
 go_enter Tryz.func9,Tryz.ntmps9
 go_wp2_with fail
 have k0:=zoF w (.cells #[.int .i64 b.now,.int .i64 b.tick,.int .i64 b.given,.slice a0 b.os.length c0,.slice a1 b.gs.length c1,.slice a2 b.ls.length c2,.slice a3 b.ps.length c3] 32) (.cells #[.int .i64 0,.int .i64 0,.int .i64 0,.slice none 0 0,.slice none 0 0,.slice none 0 0,.slice none 0 0] 50) (.cells #[.int .i64 b.now,.int .i64 b.tick,.int .i64 b.given,.slice none 0 0,.slice none 0 0,.slice none 0 0,.slice none 0 0] 50)
 have hB0:=below3' w (.cells #[.int .i64 b.now,.int .i64 b.tick,.int .i64 b.given,.slice a0 b.os.length c0,.slice a1 b.gs.length c1,.slice a2 b.ls.length c2,.slice a3 b.ps.length c3] 32) (.cells #[.int .i64 0,.int .i64 0,.int .i64 0,.slice none 0 0,.slice none 0 0,.slice none 0 0,.slice none 0 0] 50) (.cells #[.int .i64 b.now,.int .i64 b.tick,.int .i64 b.given,.slice none 0 0,.slice none 0 0,.slice none 0 0,.slice none 0 0] 50)
 obtain ⟨W0,hW0⟩:∃ W0,W0=((w.alloc (.cells #[.int .i64 b.now,.int .i64 b.tick,.int .i64 b.given,.slice a0 b.os.length c0,.slice a1 b.gs.length c1,.slice a2 b.ls.length c2,.slice a3 b.ps.length c3] 32)).alloc (.cells #[.int .i64 0,.int .i64 0,.int .i64 0,.slice none 0 0,.slice none 0 0,.slice none 0 0,.slice none 0 0] 50)).alloc (.cells #[.int .i64 b.now,.int .i64 b.tick,.int .i64 b.given,.slice none 0 0,.slice none 0 0,.slice none 0 0,.slice none 0 0] 50):=⟨_,rfl⟩
 have hz0:w.heap.size+1+1 < W0.heap.size:=by rw [hW0];simp
 rw [<- hW0] at k0 hB0 ⊢
 clear hW0
 have HLO:Hid (w.heap.size+1+1 < W0.heap.size):=hz0
 refine (zfC _ _ b.os _ (HL.out.os.mono hB0) HF.out.os.1 HF.out.os.2).mono ?_
 rintro e w1 ⟨rfl,hown,hb⟩
 obtain ⟨g0,hp'⟩:∃ g0,g0=W0.heap.size:=⟨_,rfl⟩
 have HN1:Hid (zaf W0.heap.size w1 g0 b.os b.os.length):=by rw [hp'];exact hown
 have hX1:=(hb.block _ (by omega)).trans k0.1
 have hR1:=(hb.block _ (by omega)).trans k0.2.1
 have hO1:=(hb.block _ hz0).trans k0.2.2
 have HZ1:Hid (W0.heap.size<=w1.heap.size):=hb.size
 have HB1:Hid (Below w.heap.size w w1):=hB0.trans (hb.mono hB0.size)
 rw [<- hp']
 clear hown hb k0 hB0 hz0 hp'
 have cO1:=fun j=>cell_of_block (o:=j) hO1
 have fO1:=fun j=>zn (o:=j) hO1
 have HX1':Hid ((w1.setCell ⟨w.heap.size+1+1,3,none⟩ (.slice (some ⟨g0,0,none⟩) b.os.length b.os.length)).heap[w.heap.size]?=some (.cells #[.int .i64 b.now,.int .i64 b.tick,.int .i64 b.given,.slice a0 b.os.length c0,.slice a1 b.gs.length c1,.slice a2 b.ls.length c2,.slice a3 b.ps.length c3] 32)):=(zN (by omega)).trans hX1
 have HR1':Hid ((w1.setCell ⟨w.heap.size+1+1,3,none⟩ (.slice (some ⟨g0,0,none⟩) b.os.length b.os.length)).heap[w.heap.size+1]?=some (.cells #[.int .i64 0,.int .i64 0,.int .i64 0,.slice none 0 0,.slice none 0 0,.slice none 0 0,.slice none 0 0] 50)):=(zN (by omega)).trans hR1
 have HO1':Hid ((w1.setCell ⟨w.heap.size+1+1,3,none⟩ (.slice (some ⟨g0,0,none⟩) b.os.length b.os.length)).heap[w.heap.size+1+1]?=some (.cells #[.int .i64 b.now,.int .i64 b.tick,.int .i64 b.given,.slice (some ⟨g0,0,none⟩) b.os.length b.os.length,.slice none 0 0,.slice none 0 0,.slice none 0 0] 50)):=zi hO1 _
 have HAB1:Hid (yS W0.heap.size w1 (w1.setCell ⟨w.heap.size+1+1,3,none⟩ (.slice (some ⟨g0,0,none⟩) b.os.length b.os.length))):=yS.setCell HLO.out _
 have HBB1:Hid (Below w.heap.size w (w1.setCell ⟨w.heap.size+1+1,3,none⟩ (.slice (some ⟨g0,0,none⟩) b.os.length b.os.length))):=HB1.out.setCell (by show w.heap.size<=w.heap.size+1+1;omega) _
 have HZZ1:Hid (W0.heap.size<=(w1.setCell ⟨w.heap.size+1+1,3,none⟩ (.slice (some ⟨g0,0,none⟩) b.os.length b.os.length)).heap.size):=by unfold Hid;rw [World.size_setCell];exact HZ1.out
 clear hX1 hR1 hO1
 have cX1:=fun j=>cell_of_block (o:=j) HX1'.out
 have cR1:=fun j=>cell_of_block (o:=j) HR1'.out
 have fR1:=fun j=>zn (o:=j) HR1'.out
 have cOO1:=fun j=>cell_of_block (o:=j) HO1'.out
 go_wp2_with fail
 refine (zf2 _ _ b.gs _ (HL.out.gs.mono HBB1.out) HF.out.gs.1 HF.out.gs.2).mono ?_
 rintro e w2 ⟨rfl,hown,hb⟩
 obtain ⟨g1,hp'⟩:∃ g1,g1=(w1.setCell ⟨w.heap.size+1+1,3,none⟩ (.slice (some ⟨g0,0,none⟩) b.os.length b.os.length)).heap.size:=⟨_,rfl⟩
 have HN2:Hid (j5 W0.heap.size w2 g1 b.gs b.gs.length):=by rw [hp'];exact hown.weaken HZZ1.out
 have HAA2:Hid (yS W0.heap.size w1 w2):=HAB1.out.trans (yS.below hb)
 have hX2:=(hb.block _ (lt_of_some HX1'.out)).trans HX1'.out
 have hR2:=(hb.block _ (lt_of_some HR1'.out)).trans HR1'.out
 have hO2:=(hb.block _ (lt_of_some HO1'.out)).trans HO1'.out
 have HZ2:Hid (W0.heap.size<=w2.heap.size):=Nat.le_trans HZZ1.out hb.size
 have HB2:Hid (Below w.heap.size w w2):=HBB1.out.trans (hb.mono HBB1.out.size)
 rw [<- hp']
 clear hown hb hp' cX1 cR1 fR1 cOO1
 have cO2:=fun j=>cell_of_block (o:=j) hO2
 have fO2:=fun j=>zn (o:=j) hO2
 have HX2':Hid ((w2.setCell ⟨w.heap.size+1+1,4,none⟩ (.slice (some ⟨g1,0,none⟩) b.gs.length b.gs.length)).heap[w.heap.size]?=some (.cells #[.int .i64 b.now,.int .i64 b.tick,.int .i64 b.given,.slice a0 b.os.length c0,.slice a1 b.gs.length c1,.slice a2 b.ls.length c2,.slice a3 b.ps.length c3] 32)):=(zN (by omega)).trans hX2
 have HR2':Hid ((w2.setCell ⟨w.heap.size+1+1,4,none⟩ (.slice (some ⟨g1,0,none⟩) b.gs.length b.gs.length)).heap[w.heap.size+1]?=some (.cells #[.int .i64 0,.int .i64 0,.int .i64 0,.slice none 0 0,.slice none 0 0,.slice none 0 0,.slice none 0 0] 50)):=(zN (by omega)).trans hR2
 have HO2':Hid ((w2.setCell ⟨w.heap.size+1+1,4,none⟩ (.slice (some ⟨g1,0,none⟩) b.gs.length b.gs.length)).heap[w.heap.size+1+1]?=some (.cells #[.int .i64 b.now,.int .i64 b.tick,.int .i64 b.given,.slice (some ⟨g0,0,none⟩) b.os.length b.os.length,.slice (some ⟨g1,0,none⟩) b.gs.length b.gs.length,.slice none 0 0,.slice none 0 0] 50)):=zi hO2 _
 have HAB2:Hid (yS W0.heap.size w2 (w2.setCell ⟨w.heap.size+1+1,4,none⟩ (.slice (some ⟨g1,0,none⟩) b.gs.length b.gs.length))):=yS.setCell HLO.out _
 have HBB2:Hid (Below w.heap.size w (w2.setCell ⟨w.heap.size+1+1,4,none⟩ (.slice (some ⟨g1,0,none⟩) b.gs.length b.gs.length))):=HB2.out.setCell (by show w.heap.size<=w.heap.size+1+1;omega) _
 have HZZ2:Hid (W0.heap.size<=(w2.setCell ⟨w.heap.size+1+1,4,none⟩ (.slice (some ⟨g1,0,none⟩) b.gs.length b.gs.length)).heap.size):=by unfold Hid;rw [World.size_setCell];exact HZ2.out
 clear hX2 hR2 hO2
 have cX2:=fun j=>cell_of_block (o:=j) HX2'.out
 have cR2:=fun j=>cell_of_block (o:=j) HR2'.out
 have fR2:=fun j=>zn (o:=j) HR2'.out
 have cOO2:=fun j=>cell_of_block (o:=j) HO2'.out
 go_wp2_with fail
 refine (zeW _ _ b.ls _ (HL.out.ls.mono HBB2.out) HF.out.ls).mono ?_
 rintro e w3 ⟨rfl,hown,hb⟩
 obtain ⟨g2,hp'⟩:∃ g2,g2=(w2.setCell ⟨w.heap.size+1+1,4,none⟩ (.slice (some ⟨g1,0,none⟩) b.gs.length b.gs.length)).heap.size:=⟨_,rfl⟩
 have HN3:Hid (j4 W0.heap.size w3 g2 b.ls b.ls.length):=by rw [hp'];exact hown.weaken HZZ2.out
 have HAA3:Hid (yS W0.heap.size w2 w3):=HAB2.out.trans (yS.below hb)
 have hX3:=(hb.block _ (lt_of_some HX2'.out)).trans HX2'.out
 have hR3:=(hb.block _ (lt_of_some HR2'.out)).trans HR2'.out
 have hO3:=(hb.block _ (lt_of_some HO2'.out)).trans HO2'.out
 have HZ3:Hid (W0.heap.size<=w3.heap.size):=Nat.le_trans HZZ2.out hb.size
 have HB3:Hid (Below w.heap.size w w3):=HBB2.out.trans (hb.mono HBB2.out.size)
 rw [<- hp']
 clear hown hb hp' cX2 cR2 fR2 cOO2
 have cO3:=fun j=>cell_of_block (o:=j) hO3
 have fO3:=fun j=>zn (o:=j) hO3
 have HX3':Hid ((w3.setCell ⟨w.heap.size+1+1,5,none⟩ (.slice (some ⟨g2,0,none⟩) b.ls.length b.ls.length)).heap[w.heap.size]?=some (.cells #[.int .i64 b.now,.int .i64 b.tick,.int .i64 b.given,.slice a0 b.os.length c0,.slice a1 b.gs.length c1,.slice a2 b.ls.length c2,.slice a3 b.ps.length c3] 32)):=(zN (by omega)).trans hX3
 have HR3':Hid ((w3.setCell ⟨w.heap.size+1+1,5,none⟩ (.slice (some ⟨g2,0,none⟩) b.ls.length b.ls.length)).heap[w.heap.size+1]?=some (.cells #[.int .i64 0,.int .i64 0,.int .i64 0,.slice none 0 0,.slice none 0 0,.slice none 0 0,.slice none 0 0] 50)):=(zN (by omega)).trans hR3
 have HO3':Hid ((w3.setCell ⟨w.heap.size+1+1,5,none⟩ (.slice (some ⟨g2,0,none⟩) b.ls.length b.ls.length)).heap[w.heap.size+1+1]?=some (.cells #[.int .i64 b.now,.int .i64 b.tick,.int .i64 b.given,.slice (some ⟨g0,0,none⟩) b.os.length b.os.length,.slice (some ⟨g1,0,none⟩) b.gs.length b.gs.length,.slice (some ⟨g2,0,none⟩) b.ls.length b.ls.length,.slice none 0 0] 50)):=zi hO3 _
 have HAB3:Hid (yS W0.heap.size w3 (w3.setCell ⟨w.heap.size+1+1,5,none⟩ (.slice (some ⟨g2,0,none⟩) b.ls.length b.ls.length))):=yS.setCell HLO.out _
 have HBB3:Hid (Below w.heap.size w (w3.setCell ⟨w.heap.size+1+1,5,none⟩ (.slice (some ⟨g2,0,none⟩) b.ls.length b.ls.length))):=HB3.out.setCell (by show w.heap.size<=w.heap.size+1+1;omega) _
 have HZZ3:Hid (W0.heap.size<=(w3.setCell ⟨w.heap.size+1+1,5,none⟩ (.slice (some ⟨g2,0,none⟩) b.ls.length b.ls.length)).heap.size):=by unfold Hid;rw [World.size_setCell];exact HZ3.out
 clear hX3 hR3 hO3
 have cX3:=fun j=>cell_of_block (o:=j) HX3'.out
 have cR3:=fun j=>cell_of_block (o:=j) HR3'.out
 have fR3:=fun j=>zn (o:=j) HR3'.out
 have cOO3:=fun j=>cell_of_block (o:=j) HO3'.out
 go_wp2_with fail
 refine (zgu _ _ b.ps _ (HL.out.ps.mono HBB3.out) HF.out.ps).mono ?_
 rintro e w4 ⟨rfl,hown,hb⟩
 obtain ⟨g3,hp'⟩:∃ g3,g3=(w3.setCell ⟨w.heap.size+1+1,5,none⟩ (.slice (some ⟨g2,0,none⟩) b.ls.length b.ls.length)).heap.size:=⟨_,rfl⟩
 have HN4:Hid (j3 W0.heap.size w4 g3 b.ps b.ps.length):=by rw [hp'];exact hown.weaken HZZ3.out
 have HAA4:Hid (yS W0.heap.size w3 w4):=HAB3.out.trans (yS.below hb)
 have hX4:=(hb.block _ (lt_of_some HX3'.out)).trans HX3'.out
 have hR4:=(hb.block _ (lt_of_some HR3'.out)).trans HR3'.out
 have hO4:=(hb.block _ (lt_of_some HO3'.out)).trans HO3'.out
 have HZ4:Hid (W0.heap.size<=w4.heap.size):=Nat.le_trans HZZ3.out hb.size
 have HB4:Hid (Below w.heap.size w w4):=HBB3.out.trans (hb.mono HBB3.out.size)
 rw [<- hp']
 clear hown hb hp' cX3 cR3 fR3 cOO3
 have cO4:=fun j=>cell_of_block (o:=j) hO4
 have fO4:=fun j=>zn (o:=j) hO4
 have HX4':Hid ((w4.setCell ⟨w.heap.size+1+1,6,none⟩ (.slice (some ⟨g3,0,none⟩) b.ps.length b.ps.length)).heap[w.heap.size]?=some (.cells #[.int .i64 b.now,.int .i64 b.tick,.int .i64 b.given,.slice a0 b.os.length c0,.slice a1 b.gs.length c1,.slice a2 b.ls.length c2,.slice a3 b.ps.length c3] 32)):=(zN (by omega)).trans hX4
 have HR4':Hid ((w4.setCell ⟨w.heap.size+1+1,6,none⟩ (.slice (some ⟨g3,0,none⟩) b.ps.length b.ps.length)).heap[w.heap.size+1]?=some (.cells #[.int .i64 0,.int .i64 0,.int .i64 0,.slice none 0 0,.slice none 0 0,.slice none 0 0,.slice none 0 0] 50)):=(zN (by omega)).trans hR4
 have HO4':Hid ((w4.setCell ⟨w.heap.size+1+1,6,none⟩ (.slice (some ⟨g3,0,none⟩) b.ps.length b.ps.length)).heap[w.heap.size+1+1]?=some (.cells #[.int .i64 b.now,.int .i64 b.tick,.int .i64 b.given,.slice (some ⟨g0,0,none⟩) b.os.length b.os.length,.slice (some ⟨g1,0,none⟩) b.gs.length b.gs.length,.slice (some ⟨g2,0,none⟩) b.ls.length b.ls.length,.slice (some ⟨g3,0,none⟩) b.ps.length b.ps.length] 50)):=zi hO4 _
 have HAB4:Hid (yS W0.heap.size w4 (w4.setCell ⟨w.heap.size+1+1,6,none⟩ (.slice (some ⟨g3,0,none⟩) b.ps.length b.ps.length))):=yS.setCell HLO.out _
 have HBB4:Hid (Below w.heap.size w (w4.setCell ⟨w.heap.size+1+1,6,none⟩ (.slice (some ⟨g3,0,none⟩) b.ps.length b.ps.length))):=HB4.out.setCell (by show w.heap.size<=w.heap.size+1+1;omega) _
 have HZZ4:Hid (W0.heap.size<=(w4.setCell ⟨w.heap.size+1+1,6,none⟩ (.slice (some ⟨g3,0,none⟩) b.ps.length b.ps.length)).heap.size):=by unfold Hid;rw [World.size_setCell];exact HZ4.out
 clear hX4 hR4 hO4
 have cX4:=fun j=>cell_of_block (o:=j) HX4'.out
 have cR4:=fun j=>cell_of_block (o:=j) HR4'.out
 have fR4:=fun j=>zn (o:=j) HR4'.out
 have cOO4:=fun j=>cell_of_block (o:=j) HO4'.out
 go_wp2_with fail
 refine bodyPost_ret (v:=.agg #[.int .i64 b.now,.int .i64 b.tick,.int .i64 b.given,.slice (some ⟨g0,0,none⟩) b.os.length b.os.length,.slice (some ⟨g1,0,none⟩) b.gs.length b.gs.length,.slice (some ⟨g2,0,none⟩) b.ls.length b.ls.length,.slice (some ⟨g3,0,none⟩) b.ps.length b.ps.length]) (by simp [results,Tryz.results9,go_sem,cR4]) rfl ⟨W0.heap.size,g0,g1,g2,g3,rfl,by have:=HLO.out;omega,?_,?_⟩
 ·have hlt1:w.heap.size+1 < W0.heap.size:=by have:=HLO.out;omega
  have hA4:∀ v0 v1 v2 v3 v4 v5 v6,yS W0.heap.size w4 ((((((((w4.setCell ⟨w.heap.size+1+1,6,none⟩ (.slice (some ⟨g3,0,none⟩) b.ps.length b.ps.length)).setCell ⟨w.heap.size+1,0,none⟩ v0).setCell ⟨w.heap.size+1,1,none⟩ v1).setCell ⟨w.heap.size+1,2,none⟩ v2).setCell ⟨w.heap.size+1,3,none⟩ v3).setCell ⟨w.heap.size+1,4,none⟩ v4).setCell ⟨w.heap.size+1,5,none⟩ v5).setCell ⟨w.heap.size+1,6,none⟩ v6):=fun v0 v1 v2 v3 v4 v5 v6=>(((((((HAB4.out.trans (yS.setCell (p:=⟨w.heap.size+1,0,none⟩) hlt1 v0)).trans (yS.setCell (p:=⟨w.heap.size+1,1,none⟩) hlt1 v1)).trans (yS.setCell (p:=⟨w.heap.size+1,2,none⟩) hlt1 v2)).trans (yS.setCell (p:=⟨w.heap.size+1,3,none⟩) hlt1 v3)).trans (yS.setCell (p:=⟨w.heap.size+1,4,none⟩) hlt1 v4)).trans (yS.setCell (p:=⟨w.heap.size+1,5,none⟩) hlt1 v5)).trans (yS.setCell (p:=⟨w.heap.size+1,6,none⟩) hlt1 v6))
  exact ⟨HN1.out.above (((HAA2.out.trans HAA3.out).trans HAA4.out).trans (hA4 _ _ _ _ _ _ _)),HN2.out.above ((HAA3.out.trans HAA4.out).trans (hA4 _ _ _ _ _ _ _)),HN3.out.above (HAA4.out.trans (hA4 _ _ _ _ _ _ _)),HN4.out.above (hA4 _ _ _ _ _ _ _)⟩
 ·exact ((((((HBB4.out.setCell (Nat.le_succ _) _).setCell (Nat.le_succ _) _).setCell (Nat.le_succ _) _).setCell (Nat.le_succ _) _).setCell (Nat.le_succ _) _).setCell (Nat.le_succ _) _).setCell (Nat.le_succ _) _
theorem zd3 (b:Bk) (a0 a1 a2 a3:Option Addr) (c0 c1 c2 c3:Nat) (w:World) (hl:qA w b a0 a1 a2 a3) (hf:b.Few) :
 Calls Tryz.prog 9 #[.agg (b.cells a0 a1 a2 a3 c0 c1 c2 c3)] w fun e w'=>∃ a0' a1' a2' a3',e = .returned (.agg (b.cells a0' a1' a2' a3' b.os.length b.gs.length b.ls.length b.ps.length))/\qA w' b a0' a1' a2' a3'/\Below w.heap.size w w':=by
 refine (zd5 b a0 a1 a2 a3 c0 c1 c2 c3 w hl hf).mono ?_
 rintro e w' ⟨lo,g0,g1,g2,g3,he,_,ho,hb⟩
 exact ⟨_,_,_,_,he,ho.at hl.small,hb⟩
end Go.Proofs.YtaickbhifenbjaaGreat
