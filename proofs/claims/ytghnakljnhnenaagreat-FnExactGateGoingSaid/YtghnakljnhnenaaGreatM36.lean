import Derived.Test.YtghnakljnhnenaaGreatM35
set_option maxHeartbeats 4000000
namespace Go.Proofs.YtghnakljnhnenaaGreat
open Go.RowKit
set_option maxRecDepth 20000 in
theorem zhr (l:Lw) (a b c:Option Addr) (ca cb cc:Nat) (o:Ob) (va ha:Option Addr) (cap cap':Nat) (w:World) (hL:y9 w l a b c) :
 Calls Tryz.prog 118 #[.agg #[.slice a l.ss.length ca,.slice b l.ms.length cb,.slice c l.ts.length cc],.agg #[.string o.kd,.string o.nm,.string o.tm,.slice va o.vs.length cap,.bool o.en,.slice ha o.hs.length cap',.int .i64 o.vr]] w
  fun e w'=>∃ Bs Bo fa fcap,e = .returned (.func (.func 167) #[] #[.pointer (some ⟨Bs,0,none⟩),.pointer (some ⟨Bo,0,none⟩)])/\Bs < w'.heap.size/\Bo < w'.heap.size/\zP w' fa (Gate.shapeOf l.ss o.kd).fs /\
   (∀ j,w'.cell? ⟨Bs,j,none⟩=(#[.string (Gate.shapeOf l.ss o.kd).kd,.slice fa (Gate.shapeOf l.ss o.kd).fs.length fcap]:Array Value)[j]?)/\(∀ j,w'.cell? ⟨Bo,j,none⟩=(#[.string o.kd,.string o.nm,.string o.tm,.slice va o.vs.length cap,.bool o.en,.slice ha o.hs.length cap',.int .i64 o.vr]:Array Value)[j]?)/\Below w.heap.size w w':=by
 have HH:Hid (y9 w l a b c):=hL;clear hL;go_enter Tryz.func118,Tryz.ntmps118;go_wp2_with fail
 have hb2:=zA w (.cells #[.slice a l.ss.length ca,.slice b l.ms.length cb,.slice c l.ts.length cc] 41) (.cells #[.string o.kd,.string o.nm,.string o.tm,.slice va o.vs.length cap,.bool o.en,.slice ha o.hs.length cap',.int .i64 o.vr] 119);refine (qN _ _ l.ss o.kd _ (HH.out.ss.mono hb2)).mono ?_;rintro e w1 ⟨fa,fcap,rfl,hfl0,hb1⟩;have HFL:Hid (zP w1 fa (Gate.shapeOf l.ss o.kd).fs):=hfl0.mono hb1;have hX1:∀ j,w1.cell? ⟨w.heap.size+1,j,none⟩=(#[.string o.kd,.string o.nm,.string o.tm,.slice va o.vs.length cap,.bool o.en,.slice ha o.hs.length cap',.int .i64 o.vr]:Array Value)[j]?:=fun j=>cell_of_block ((hb1.block (w.heap.size+1) (by simp)).trans (yh _ _ _).2)
 have hz1:w.heap.size+1 < w1.heap.size:=by have:=hb1.size;simp at this;omega
 have HB1:Hid (Below w.heap.size w w1):=hb2.trans (hb1.mono (by simp;omega));have HX1:Hid (∀ j,w1.cell? ⟨w.heap.size+1,j,none⟩=(#[.string o.kd,.string o.nm,.string o.tm,.slice va o.vs.length cap,.bool o.en,.slice ha o.hs.length cap',.int .i64 o.vr]:Array Value)[j]?):=hX1;clear hb1 hb2 hfl0;go_wp2_with fail
 go_ret;have hba:=(bRf w1.heap.size w1).alloc (Nat.le_refl _) (.cells #[.string (Gate.shapeOf l.ss o.kd).kd,.slice fa (Gate.shapeOf l.ss o.kd).fs.length fcap] 123);exact ⟨w1.heap.size,w.heap.size+1,fa,fcap,rfl,by simp,nLt hz1 hba.size,HFL.out.mono hba,zm w1 _ _,za HX1.out hz1 hba,HB1.out.trans (hba.mono HB1.out.size)⟩
end Go.Proofs.YtghnakljnhnenaaGreat
namespace Go.Proofs.YtghnakljnhnenaaGreat
open Go.RowKit Go.Shelf
attribute [local go_sem] Oper.semAt_some
def zd5 (f:ByteArray->ByteArray->Option Int) (xs:List Lk):Bool:=xs.all fun x=>(f x.to x.nm).isSome
set_option maxRecDepth 100000 in
theorem zkT (l:Lw) (a b c:Option Addr) (ca cb cc:Nat) (r:Nat) (f:ByteArray->ByteArray->Option Int) (o:Ob) (va ha:Option Addr) (cap cap':Nat) (w:World) (hL:y9 w l a b c) (hM:zW w r f) (ho:qB w o va ha) (hc:o.vs.length=(Gate.shapeOf l.ss o.kd).fs.length) :
 Calls Tryz.prog 154 #[.agg #[.slice a l.ss.length ca,.slice b l.ms.length cb,.slice c l.ts.length cc],.map (some r),.agg #[.string o.kd,.string o.nm,.string o.tm,.slice va o.vs.length cap,.bool o.en,.slice ha o.hs.length cap',.int .i64 o.vr]] w
  fun e w'=>e = .returned (.bool (zd5 f (qH (Gate.shapeOf l.ss o.kd).fs o.vs (Gate.shapeOf l.ss o.kd).fs.length)))/\Below w.heap.size w w':=by
 have HH:Hid (y9 w l a b c/\zW w r f/\qB w o va ha/\o.vs.length=(Gate.shapeOf l.ss o.kd).fs.length):=⟨hL,hM,ho,hc⟩
 clear hL hM ho hc;refine (callsIn_wide (n:=6)).1 ?_;refine callsIn_of_wp_marks Tryz.func154 rfl trivial ?_ rfl;simp only [Tryz.ntmps154,List.size_toArray,List.length_cons,List.length_nil,Nat.reduceAdd,Nat.reduceSub,Array.replicate_succ,Array.replicate_zero,List.push_toArray,List.append_toArray,List.nil_append,List.cons_append]
 gi_wp2_with fail
 refine ⟨trivial,?_⟩;have hb4:Below w.heap.size w ((((w.alloc (.cells #[.slice a l.ss.length ca,.slice b l.ms.length cb,.slice c l.ts.length cc] 41)).alloc (.cells #[.map (some r)] 139)).alloc (.cells #[.string o.kd,.string o.nm,.string o.tm,.slice va o.vs.length cap,.bool o.en,.slice ha o.hs.length cap',.int .i64 o.vr] 119)).alloc (.cells #[.bool false] 4)):=(jH _ _ _ _).alloc (by simp;omega) _;have hbR:=Boxed.new (((w.alloc (.cells #[.slice a l.ss.length ca,.slice b l.ms.length cb,.slice c l.ts.length cc] 41)).alloc (.cells #[.map (some r)] 139)).alloc (.cells #[.string o.kd,.string o.nm,.string o.tm,.slice va o.vs.length cap,.bool o.en,.slice ha o.hs.length cap',.int .i64 o.vr] 119)) 4 (.bool false);have hbP:=((Boxed.new (w.alloc (.cells #[.slice a l.ss.length ca,.slice b l.ms.length cb,.slice c l.ts.length cc] 41)) 139 (.map (some r))).alloc (.cells #[.string o.kd,.string o.nm,.string o.tm,.slice va o.vs.length cap,.bool o.en,.slice ha o.hs.length cap',.int .i64 o.vr] 119)).alloc (.cells #[.bool false] 4);simp only [World.size_alloc] at hbR hbP;obtain ⟨w4,hw4⟩:∃ w4,w4=((((w.alloc (.cells #[.slice a l.ss.length ca,.slice b l.ms.length cb,.slice c l.ts.length cc] 41)).alloc (.cells #[.map (some r)] 139)).alloc (.cells #[.string o.kd,.string o.nm,.string o.tm,.slice va o.vs.length cap,.bool o.en,.slice ha o.hs.length cap',.int .i64 o.vr] 119)).alloc (.cells #[.bool false] 4)):=⟨_,rfl⟩
 rw [<- hw4] at hb4 hbR hbP ⊢;clear hw4;refine (callsIn_wide.2 (zhr l a b c ca cb cc o va ha cap cap' w4 (HH.out.1.mono hb4))).mono ?_;rintro e W0 ⟨Bs,Bo,fa,fcap,rfl,hBs,hBo,hfl,hXs,hXo,hb1⟩;have bR:Boxed W0 (w.heap.size+1+1+1) 4 (.bool false):=(hb1.block _ hbR.lt).trans hbR;have bP:Boxed W0 (w.heap.size+1) 139 (.map (some r)):=(hb1.block _ hbP.lt).trans hbP;have HB0:Hid (Below w.heap.size w W0):=hb4.trans (hb1.mono hb4.size);have hN:w.heap.size<=W0.heap.size:=HB0.out.size;have HO0:Hid (zD W0 va o.vs):=HH.out.2.2.1.vals.mono HB0.out;clear hb1 hb4 hbR hbP
 gi_wp2_with fail
 refine wpIn_rangeFunc_ownH rfl (by omega) (gf:=167) (lb:=#[.pointer (some ⟨Bs,0,none⟩),.pointer (some ⟨Bo,0,none⟩)]) rfl trivial (enters_of Tryz.func167 (by kernel_rfl) rfl)
  (zm2 5 (by omega) Bs Bo (Gate.shapeOf l.ss o.kd).kd (Gate.shapeOf l.ss o.kd).fs fa fcap o va ha cap cap' W0 hBs hBo hXs hXo hfl HO0.out HH.out.2.2.2) belowK_t (belowK_b (Nat.le_refl _)) (bRf _ _) (fun _=>rfl)
  (fun pre W=>(∀ x ∈ pre,(f x.to x.nm).isSome=true)/\Below W0.heap.size W0 W)
  (fun cd pre W=>((cd = .ret/\∃ x ∈ pre,(f x.to x.nm).isSome=false)/\Boxed W (w.heap.size+1+1+1) 4 (.bool false))/\Below w.heap.size w W)
  (OwnFrom.and (ownFrom_pure _ _) (ownFrom_below (Nat.le_refl _) (Nat.le_refl _)))
  (fun cd=>OwnFrom.and (OwnFrom.and (ownFrom_pure _ _) (Own.from (boxed_own _ _ _) _)) (ownFrom_below (Nat.le_refl _) hN))
  ⟨by simp,bRf _ _⟩
  (fun x a' W=>∃ Bx,W.heap[Bx]?=some (.cells #[.int .i64 x.pl,.int .i64 x.rl,.string x.to,.string x.nm] 184)/\a'={ tmps:=#[.agg #[.slice a l.ss.length ca,.slice b l.ms.length cb,.slice c l.ts.length cc],.map (some r),.agg #[.string o.kd,.string o.nm,.string o.tm,.slice va o.vs.length cap,.bool o.en,.slice ha o.hs.length cap',.int .i64 o.vr],.pointer (some ⟨w.heap.size,0,none⟩),.pointer (some ⟨w.heap.size+1,0,none⟩),.pointer (some ⟨w.heap.size+1+1,0,none⟩),.pointer (some ⟨w.heap.size+1+1+1,0,none⟩),.pointer (some ⟨Bx,0,none⟩),undef,undef,.agg #[.slice a l.ss.length ca,.slice b l.ms.length cb,.slice c l.ts.length cc],.agg #[.string o.kd,.string o.nm,.string o.tm,.slice va o.vs.length cap,.bool o.en,.slice ha o.hs.length cap',.int .i64 o.vr],.func (.func 167) #[] #[.pointer (some ⟨Bs,0,none⟩),.pointer (some ⟨Bo,0,none⟩)],.agg #[.int .i64 x.pl,.int .i64 x.rl,.string x.to,.string x.nm],undef,undef,undef,undef,undef,undef,undef,undef,undef],defers:=[] })
  (fun x a' _ X Y row hs hg hr=>by
   obtain ⟨Bx,e1,e2⟩:=hs;refine ⟨Bx,(hg.block Bx (gES e1).1 (fun e=>?_)).trans e1,e2⟩;obtain ⟨_,ob,h1,h2⟩:=hr Bx e.symm;rw [e1] at h1
   cases h1
   cases h2)
  ?assign ?body ?done ?stop
 case assign =>
  rintro l' pre x W K ⟨hp,hB1⟩ hK;unfold Lk.enc
  gi_wp2
  exact hK _ _ ((KeepsOthers.alloc _ _).from _) ((bRf _ W).alloc hB1.size _) ⟨hp,hB1.alloc hB1.size _⟩ ⟨W.heap.size,World.alloc_heap_new W _,rfl⟩
 case body =>
  rintro l' pre x a' W hl ⟨rr,hr⟩ ⟨hp,hB1⟩ ⟨Bx,hBx,rfl⟩ hlt;have cX:=zaA hBx;have bP1:Boxed W (w.heap.size+1) 139 (.map (some r)):=(hB1.block _ bP.lt).trans bP;have cP:=bP1.cell;have bR1:Boxed W (w.heap.size+1+1+1) 4 (.bool false):=(hB1.block _ bR.lt).trans bR;have cR:=bR1.cell;have fR:=bR1.frozen;have hlk:=(HH.out.2.1.mono (HB0.out.trans (hB1.mono HB0.out.size))).look zaL Tryz.underlying139 x.to x.nm x.hto x.hnm true;unfold qj at hlk;simp only [if_true] at hlk;have HB2:Hid (Below W0.heap.size W0 W):=hB1;have HP:Hid (∀ x ∈ pre,(f x.to x.nm).isSome=true):=hp;have HR1:Hid (Boxed W (w.heap.size+1+1+1) 4 (.bool false)):=bR1;clear hp hB1 bR1
  cases hq:(f x.to x.nm).isSome with
  | false =>
   rw [hq] at hlk
   gi_wp2
   exact ⟨(KeepsOthers.setCell _ _ _).from _,⟨⟨rfl,x,List.mem_append.2 (.inr (by simp)),hq⟩,HR1.out.set _⟩,(HB0.out.trans (HB2.out.mono hN)).setCell (p:=⟨(w.heap.size+1+1+1),0,none⟩) (by show w.heap.size<=(w.heap.size+1+1+1);omega) _⟩
  | true =>
   rw [hq] at hlk
   gi_wp2
   exact ⟨KeepsFrom.refl _ _,bRf _ _,fun z hz=>(List.mem_append.1 hz).elim (HP.out z) (fun e=>by simp at e;subst e;exact hq),HB2.out⟩
 case done =>
  rintro D ys W hD rfl ⟨hp,hB1⟩ hK;have bR1:Boxed W (w.heap.size+1+1+1) 4 (.bool false):=(hB1.block _ bR.lt).trans bR;have cR:=bR1.cell;have fR:=bR1.frozen
  gi_wp2
  have hK':=(KeepsOthers.setCell W ⟨(w.heap.size+1+1+1),0,none⟩ (.bool true)).same D _ hK rfl;refine ⟨by simp,.inl ⟨_,_,rfl,run_takeDeferred hK',?_⟩⟩;have hc5:=cell_kept (World.cell?_setCell_same' W ⟨(w.heap.size+1+1+1),0,none⟩ (.bool true) (by rw [cR];rfl)) (grownBy_putObj' _ D (.deferred none)) (fun r e=>by cases e;exact ⟨_,hK',rfl⟩);have hall:zd5 f (qH (Gate.shapeOf l.ss o.kd).fs o.vs (Gate.shapeOf l.ss o.kd).fs.length)=true:=List.all_eq_true.2 hp;refine ⟨.bool true,?_,by rw [hall],((HB0.out.trans (hB1.mono hN)).setCell (p:=⟨(w.heap.size+1+1+1),0,none⟩) (by show w.heap.size<=(w.heap.size+1+1+1);omega) _).trans (belowK_b (w:=w) (Nat.le_refl _) _ D _ _ (by omega) hK' rfl rfl)⟩
  simp [results,Tryz.results154,go_sem,hc5]
 case stop =>
  rintro D cd pre W hD hpre ⟨⟨⟨rfl,x,hx,hq⟩,bR1⟩,hB⟩ hK
  gi_wp2
  refine ⟨by simp,.inl ⟨_,_,rfl,run_takeDeferred hK,?_⟩⟩;have hc5:=cell_kept bR1.cell (grownBy_putObj' _ D (.deferred none)) (fun r e=>by cases e;exact ⟨_,hK,rfl⟩)
  have hno:zd5 f (qH (Gate.shapeOf l.ss o.kd).fs o.vs (Gate.shapeOf l.ss o.kd).fs.length)=false:=by
   unfold zd5;rw [List.all_eq_false];exact ⟨x,hpre.subset hx,by rw [hq];simp⟩
  refine ⟨.bool false,?_,by rw [hno],hB.trans (belowK_b (w:=w) (Nat.le_refl _) W D _ _ (by omega) hK rfl rfl)⟩
  simp [results,Tryz.results154,go_sem,hc5]
end Go.Proofs.YtghnakljnhnenaaGreat
namespace Go.Proofs.YtghnakljnhnenaaGreat
open Go.RowKit
namespace Gate
noncomputable def zaj (l:Lw) (os:List Ob) (o:Ob):Bool:=(qH (shapeOf l.ss o.kd).fs o.vs (shapeOf l.ss o.kd).fs.length).all fun x=>os.any (jL x.to x.nm)
noncomputable def yJ (l:Lw) (b:Bk) (o:Ob):Bool:=within o.vr 1 b.now && (yA l.ts o.tm && (zaO l o && zaj l b.os o))
noncomputable def zH (l:Lw) (b:Bk):Bool:=decide (b.os.length<=40) && (zbd zax b.os && b.os.all (yJ l b))
end Gate
theorem zjb {l:Lw} {os:List Ob} {o:Ob} {f:ByteArray->ByteArray->Option Int} (h:∀ p q,(f p q).isSome=os.any (Gate.jL p q)):zd5 f (qH (Gate.shapeOf l.ss o.kd).fs o.vs (Gate.shapeOf l.ss o.kd).fs.length)=Gate.zaj l os o:=by
 unfold zd5 Gate.zaj
 congr 1
 funext x
 exact h _ _
set_option maxRecDepth 20000 in
theorem zi2 (l:Lw) (la lb lc:Option Addr) (lca lcb lcc:Nat) (b:Bk) (a0 a1 a2 a3:Option Addr) (c0 c1 c2 c3:Nat) (w:World) (hb:y7 w b a0 a1 a2 a3) (hl:y9 w l la lb lc) (hml:l.ms.length<=1048576) (hok:Gate.yt l.ss l.ms=true) (hfw:∀ i (h:i < b.os.length),b.os[i].vs.length<=1048576/\b.os[i].hs.length<=1048576) :
 Calls Tryz.prog 110 #[.agg #[.slice la l.ss.length lca,.slice lb l.ms.length lcb,.slice lc l.ts.length lcc],.agg #[.int .i64 b.now,.int .i64 b.tick,.int .i64 b.given,.slice a0 b.os.length c0,.slice a1 b.gs.length c1,.slice a2 b.ls.length c2,.slice a3 b.ps.length c3]] w fun e w'=>e = .returned (.bool (Gate.zH l b))/\Below w.heap.size w w':=by
 have HK:Hid (y7 w b a0 a1 a2 a3):=hb;have HL:Hid (y9 w l la lb lc):=hl;have HW:Hid (Gate.yt l.ss l.ms=true/\∀ i (h:i < b.os.length),b.os[i].vs.length<=1048576/\b.os[i].hs.length<=1048576):=⟨hok,hfw⟩
 clear hb hl hok hfw
 by_cases hln:b.os.length<=40
 rotate_left
 ·have HF:Hid (Gate.zH l b=false):=by unfold Hid Gate.zH;rw [decide_eq_false hln];rfl
  have hg:(40:Int) < (b.os.length:Int):=by omega
  go_enter Tryz.func110,Tryz.ntmps110;go_wp2_with fail
  go_ret;exact ⟨ze HF.out.symm,zA _ _ _⟩
 have hg:decide ((40:Int) < (b.os.length:Int))=false:=by simp;omega
 have HLN:Hid (b.os.length<=40):=hln;clear hln;go_enter Tryz.func110,Tryz.ntmps110;go_wp2_with fail
 obtain ⟨hL0,hX0⟩:=qw w #[.slice la l.ss.length lca,.slice lb l.ms.length lcb,.slice lc l.ts.length lcc] #[.int .i64 b.now,.int .i64 b.tick,.int .i64 b.given,.slice a0 b.os.length c0,.slice a1 b.gs.length c1,.slice a2 b.ls.length c2,.slice a3 b.ps.length c3] 41 48;have HB0:Hid (Below w.heap.size w ((w.alloc (.cells #[.slice la l.ss.length lca,.slice lb l.ms.length lcb,.slice lc l.ts.length lcc] 41)).alloc (.cells #[.int .i64 b.now,.int .i64 b.tick,.int .i64 b.given,.slice a0 b.os.length c0,.slice a1 b.gs.length c1,.slice a2 b.ls.length c2,.slice a3 b.ps.length c3] 48))):=zA w _ _;obtain ⟨W0,hW0⟩:∃ W0,W0=(w.alloc (.cells #[.slice la l.ss.length lca,.slice lb l.ms.length lcb,.slice lc l.ts.length lcc] 41)).alloc (.cells #[.int .i64 b.now,.int .i64 b.tick,.int .i64 b.given,.slice a0 b.os.length c0,.slice a1 b.gs.length c1,.slice a2 b.ls.length c2,.slice a3 b.ps.length c3] 48):=⟨_,rfl⟩
 have hz0:w.heap.size+1 < W0.heap.size:=by rw [hW0];simp
 rw [<- hW0] at HB0 hX0 hL0 ⊢;clear hW0;refine (zim _ _ b.os _ (HK.out.os.mono HB0.out)).mono ?_;rintro e w1 ⟨rfl,hb1⟩;have HB1:Hid (Below w.heap.size w w1):=HB0.out.trans (hb1.mono HB0.out.size);have hX1:=za hX0 hz0 hb1;have hL1:=za hL0 (nSl hz0) hb1;have hz1:=nLt hz0 hb1.size;clear hb1 hX0 hL0 hz0 HB0
 by_cases has:Gate.zbd Gate.zax b.os=true
 rotate_left
 ·have has':Gate.zbd Gate.zax b.os=false:=by simpa using has
  have HF:Hid (Gate.zH l b=false):=by unfold Hid Gate.zH;rw [has'];simp
  rw [has'];clear has has';go_wp2_with fail
  go_ret;exact ⟨ze HF.out.symm,HB1.out⟩
 have HG:Hid (Gate.zH l b=b.os.all (Gate.yJ l b)):=by unfold Hid Gate.zH;rw [has,decide_eq_true HLN.out];rfl
 rw [has];clear has;go_wp2_with fail
 refine (zg2 _ _ b.os _ (HK.out.os.mono HB1.out) (by have:=HLN.out;omega)).mono ?_;rintro e w1' ⟨⟨f,rfl,hpm,hpf⟩,hb1⟩;have HB1':Hid (Below w.heap.size w w1'):=HB1.out.trans (hb1.mono HB1.out.size);have hX1':=za hX1 hz1 hb1;have hL1':=za hL1 (nSl hz1) hb1;have hz1':=nLt hz1 hb1.size;have HPM:Hid (zW w1' w1.heap.size f/\∀ p q,(f p q).isSome=b.os.any (Gate.jL p q)):=⟨hpm,hpf⟩
 clear hb1 hX1 hL1 hz1 HB1 hpm hpf;go_wp2_with fail
 go_loopw [24] (fun iv wr=>∃ k:Nat,k<=b.os.length/\iv = .int .i64 k/\Hid ((b.os.take k).all (Gate.yJ l b)=true/\Below w1'.heap.size w1' wr)) (fun iv _=>b.os.length - (intOf iv).toNat)
 case atStart=>exact ⟨0,Nat.zero_le _,rfl,by simp,bRf _ _⟩
 case round =>
  obtain ⟨k,hk,rfl,HQ⟩:=hrel;have hkn:k<=40:=by have:=HLN.out;omega
  by_cases hlt:k < b.os.length
  ·have HBw:Hid (∀ W,Below w1'.heap.size w1' W->Below w.heap.size w W):=fun W hW=>HB1'.out.trans (hW.mono HB1'.out.size)
   obtain ⟨ob,off,v0,v1,q0,q1,rfl,hob,hsm,hl0,hl1,d0,d1,d2,d3,d4,d5,d6⟩:=HK.out.os.load (HBw.out _ HQ.out.2) k hlt;have hltI:(k:Int) < (b.os.length:Int):=by omega
   have hob':ob < wr.heap.size:=nLt hob (HBw.out _ HQ.out.2).size;have hX:=za hX1' hz1' HQ.out.2;have hL:=za hL1' (nSl hz1') HQ.out.2;have hz:w.heap.size+1 < wr.heap.size:=nLt hz1' HQ.out.2.size;have HOB:Hid (qB wr b.os[k] v0 v1):=⟨hsm,hl0,hl1⟩
   have HSn:Hid ((b.os.take (k+1)).all (Gate.yJ l b)=((b.os.take k).all (Gate.yJ l b) && (Gate.yJ l b) b.os[k])):=Gate.qU _ _ _ hlt;have HBo:Hid (∀ ob,Below w1'.heap.size w1' (wr.alloc ob)):=fun ob=>HQ.out.2.alloc HQ.out.2.size _
   have HNo:Hid ((Gate.yJ l b) b.os[k]=false->Gate.zH l b=false):=fun h=>by rw [HG.out];exact Gate.zaC _ _ _ hlt h
   have HYes:Hid ((Gate.yJ l b) b.os[k]=true->(b.os.take (k+1)).all (Gate.yJ l b)=true):=fun h=>by rw [HSn.out,HQ.out.1,h];rfl
   have HF2:Hid (b.os[k].vs.length<=1048576/\b.os[k].hs.length<=1048576):=HW.out.2 k hlt;clear HQ hsm hl0 hl1;go_wp2_with fail
   have hbN:Below wr.heap.size wr (wr.alloc (.cells #[.string b.os[k].kd,.string b.os[k].nm,.string b.os[k].tm,.slice v0 b.os[k].vs.length q0,.bool b.os[k].en,.slice v1 b.os[k].hs.length q1,.int .i64 b.os[k].vr] 119)):=bAl _ _;have hN:=zm wr #[.string b.os[k].kd,.string b.os[k].nm,.string b.os[k].tm,.slice v0 b.os[k].vs.length q0,.bool b.os[k].en,.slice v1 b.os[k].hs.length q1,.int .i64 b.os[k].vr] 119;obtain ⟨w2,hw2⟩:∃ w2,w2=wr.alloc (.cells #[.string b.os[k].kd,.string b.os[k].nm,.string b.os[k].tm,.slice v0 b.os[k].vs.length q0,.bool b.os[k].en,.slice v1 b.os[k].hs.length q1,.int .i64 b.os[k].vr] 119):=⟨_,rfl⟩
   have hn2:wr.heap.size < w2.heap.size:=by rw [hw2];simp
   rw [<- hw2] at hbN hN ⊢;have HB2:Hid (Below w1'.heap.size w1' w2):=by unfold Hid;rw [hw2];exact HBo.out _
   have HO2:Hid (qB w2 b.os[k] v0 v1):=HOB.out.mono hbN;have hX2:=za hX hz hbN;have hL2:=za hL (nSl hz) hbN;have hz2:=nLt hz hbN.size;have hy2:=nSl hz2;clear hw2 d0 d1 d2 d3 d4 d5 d6 hX hL hbN;refine (jh _ _ _ _).mono ?_;rintro e w3 ⟨rfl,rfl⟩
   by_cases t1:Gate.within b.os[k].vr 1 b.now=true
   rotate_left
   ·have HF:Hid (Gate.zH l b=false):=HNo.out (by unfold Gate.yJ;rw [bFi t1];rfl)
    rw [bFi t1];clear t1;go_wp2_with fail
    go_ret;exact ⟨ze HF.out.symm,HBw.out _ HB2.out⟩
   rw [t1];have HT1:Hid (Gate.within b.os[k].vr 1 b.now=true):=t1;clear t1;go_wp2_with fail
   refine (zbU _ _ l.ts b.os[k].tm _ (HL.out.ts.mono (HBw.out _ HB2.out))).mono ?_;rintro e w4 ⟨rfl,hb4⟩;have HB4:Hid (Below w1'.heap.size w1' w4):=HB2.out.trans (hb4.mono HB2.out.size);have hN4:=za hN hn2 hb4;have hX4:=za hX2 hz2 hb4;have hL4:=za hL2 hy2 hb4;have hn4:=nLt hn2 hb4.size;have hz4:=nLt hz2 hb4.size;have hy4:=nLt hy2 hb4.size;have HO4:Hid (qB w4 b.os[k] v0 v1):=HO2.out.mono hb4;clear hb4 hN hX2 hL2 hn2 hz2 hy2
   by_cases t2:Gate.yA l.ts b.os[k].tm=true
   rotate_left
   ·have HF:Hid (Gate.zH l b=false):=HNo.out (by unfold Gate.yJ;rw [HT1.out,bFi t2];rfl)
    rw [bFi t2];clear t2;go_wp2_with fail
    go_ret;exact ⟨ze HF.out.symm,HBw.out _ HB4.out⟩
   rw [t2];have HT2:Hid (Gate.yA l.ts b.os[k].tm=true):=t2;clear t2;go_wp2_with fail
   refine (zlD l la lb lc lca lcb lcc b.os[k] v0 v1 q0 q1 _ (HL.out.mono (HBw.out _ HB4.out)) hml HO4.out HF2.out.1 HF2.out.2 HW.out.1).mono ?_;rintro e w5 ⟨rfl,hb5⟩;have HB5:Hid (Below w1'.heap.size w1' w5):=HB4.out.trans (hb5.mono HB4.out.size);have hN5:=za hN4 hn4 hb5;have hL5:=za hL4 hy4 hb5;have hn5:=nLt hn4 hb5.size;have hy5:=nLt hy4 hb5.size;have HO5:Hid (qB w5 b.os[k] v0 v1):=HO4.out.mono hb5;clear hb5 hN4 hX4 hL4 hn4 hz4 hy4
   by_cases t3:Gate.zaO l b.os[k]=true
   rotate_left
   ·have HF:Hid (Gate.zH l b=false):=HNo.out (by unfold Gate.yJ;rw [HT1.out,HT2.out,bFi t3];rfl)
    rw [bFi t3];clear t3;go_wp2_with fail
    go_ret;exact ⟨ze HF.out.symm,HBw.out _ HB5.out⟩
   have HT3:Hid (Gate.zaO l b.os[k]=true):=t3
   have HC:Hid (b.os[k].vs.length=(Gate.shapeOf l.ss b.os[k].kd).fs.length):=by
    have h:=t3;unfold Gate.zaO at h;simp only [Bool.and_eq_true,decide_eq_true_eq] at h;exact (Gate.zb0 (Gate.jE HW.out.1 h.1)).1
   rw [t3];clear t3;go_wp2_with fail
   refine (zkT l la lb lc lca lcb lcc w1.heap.size f b.os[k] v0 v1 q0 q1 _ (HL.out.mono (HBw.out _ HB5.out)) (HPM.out.1.mono HB5.out) HO5.out HC.out).mono ?_;rintro e w6 ⟨rfl,hb6⟩;have HB6:Hid (Below w1'.heap.size w1' w6):=HB5.out.trans (hb6.mono HB5.out.size);have HLE:Hid (zd5 f (qH (Gate.shapeOf l.ss b.os[k].kd).fs b.os[k].vs (Gate.shapeOf l.ss b.os[k].kd).fs.length)=Gate.zaj l b.os b.os[k]):=zjb HPM.out.2;rw [HLE.out];clear hb6
   by_cases t4:Gate.zaj l b.os b.os[k]=true
   ·have HY:Hid ((b.os.take (k+1)).all (Gate.yJ l b)=true):=HYes.out (by unfold Gate.yJ;rw [HT1.out,HT2.out,HT3.out,t4];rfl)
    rw [t4];clear t4;go_wp2_with fail
    exact ⟨⟨k+1,by omega,by go_num,HY.out,HB6.out⟩,zn hlt⟩
   ·have HF:Hid (Gate.zH l b=false):=HNo.out (by unfold Gate.yJ;rw [HT1.out,HT2.out,HT3.out,bFi t4];rfl)
    rw [bFi t4];clear t4;go_wp2_with fail
    go_ret;exact ⟨ze HF.out.symm,HBw.out _ HB6.out⟩
  ·have e:k=b.os.length:=by omega
   subst e
   have HE:Hid (Gate.zH l b=true):=by
    unfold Hid;rw [HG.out];have h:=HQ.out.1;rw [tOl (Nat.le_refl _)] at h;exact h
   have HBe:Hid (Below w.heap.size w wr):=HB1'.out.trans (HQ.out.2.mono HB1'.out.size);clear hlt hk HQ;go_wp2_with fail
   go_ret;exact ⟨ze HE.out.symm,HBe.out⟩
set_option maxRecDepth 20000 in
theorem zem (a a':Option Addr) (cap cap':Nat) (ss:List Shp) (ms:List Mnd) (w:World) (hw:yI w a ss) (hm:yY w a' ms) (hml:ms.length<=1048576) :
 Calls Tryz.prog 107 #[.slice a ss.length cap,.slice a' ms.length cap'] w fun e w'=>e = .returned (.bool (Gate.yt ss ms))/\Below w.heap.size w w':=by
 have HW:Hid (yI w a ss/\yY w a' ms):=⟨hw,hm⟩
 have hl:=hw.len;unfold maxLen at hl;clear hw hm
 by_cases h12:ms.length<=12
 rotate_left
 ·have HF:Hid (Gate.yt ss ms=false):=by unfold Hid Gate.yt;rw [decide_eq_false h12];simp
  go_enter Tryz.func107,Tryz.ntmps107;go_wp2_with fail
  go_ret;exact ⟨by rw [HF.out];rfl,bRf _ _⟩
 have h12I:(ms.length:Int)<=12:=by omega
 by_cases hok:Gate.zQ ss=true
 rotate_left
 ·have hokf:Gate.zQ ss=false:=by simpa using hok
  have HF:Hid (Gate.yt ss ms=false):=by unfold Hid Gate.yt;rw [hokf];simp
  go_enter Tryz.func107,Tryz.ntmps107;go_wp2_with fail
  have h:=zdm a cap ss w HW.out.1;rw [hokf] at h;refine h.mono ?_;rintro e w1 ⟨rfl,hb1⟩;clear h;go_wp2_with fail
  go_ret;exact ⟨by rw [HF.out];rfl,hb1⟩
 have HOK:Hid (Gate.zQ ss=true):=hok;go_enter Tryz.func107,Tryz.ntmps107;go_wp2_with fail
 have h:=zdm a cap ss w HW.out.1;rw [hok] at h;refine h.mono ?_;rintro e w1 ⟨rfl,hb1⟩;have HB1:Hid (Below w.heap.size w w1):=hb1;clear h hb1 hok;go_wp2_with fail
 refine (zcG _).mono ?_;rintro e w2 ⟨rfl,hw2⟩
 have HB2:Hid (Below w.heap.size w w2/\w2.heap[w1.heap.size]?=some (.map yM 4)/\w1.heap.size < w2.heap.size):=by
  rw [hw2];exact ⟨HB1.out.trans ((bAl _ _).mono HB1.out.size),alloc_at _ _,by simp⟩
 clear hw2;go_wp2_with fail
 go_loopw [25] (fun iv wr=>∃ k:Nat,k<=ms.length/\iv = .int .i64 k/\(ms.take k).all (Gate.jP ss)=true/\Below w2.heap.size w2 wr) (fun iv _=>ms.length - (intOf iv).toNat)
 case atStart=>exact ⟨0,Nat.zero_le _,rfl,rfl,bRf _ _⟩
 case round =>
  obtain ⟨k,hk,rfl,hall,hB⟩:=hrel;have HB:Hid (Below w2.heap.size w2 wr/\Below w.heap.size w wr):=⟨hB,HB2.out.1.trans (hB.mono HB2.out.1.size)⟩
  have HA:Hid ((ms.take k).all (Gate.jP ss)=true):=hall;clear hall hB
  by_cases hlt:k < ms.length
  ·obtain ⟨b,off,rfl,hb,c0,c1,c2,c3,c4,c5⟩:=HW.out.2.load HB.out.2 k hlt
   have hltI:(k:Int) < (ms.length:Int):=by omega
   have hsm:=HW.out.2.small k hlt
   have HTK:Hid ((ms.take (k+1)).all (Gate.jP ss)=Gate.jP ss ms[k]):=by
    unfold Hid;rw [tSe hlt,List.all_append,HA.out];simp
   have HNO:Hid (Gate.jP ss ms[k]=false->Gate.yt ss ms=false):=by
    intro h
    have:ms.all (Gate.jP ss)=false:=by rw [List.all_eq_false];exact ⟨_,List.getElem_mem hlt,by rw [h];simp⟩
    unfold Gate.yt;rw [this];simp
   have hba:=(bRf wr.heap.size wr).alloc (Nat.le_refl _) (.cells #[.string ms[k].kd,.string ms[k].fd,.string ms[k].wh,.string ms[k].wi,.string ms[k].pt,.string ms[k].fr] 125);have HSM:Hid (ms[k].Small):=hsm;clear hsm;go_wp2_with fail
   have h:=qN a cap ss ms[k].kd _ (HW.out.1.mono (HB.out.2.trans (hba.mono HB.out.2.size)))
   by_cases hkk:Gate.zF ss ms[k].kd=true
   rotate_left
   ·have hkf:Gate.zF ss ms[k].kd=false:=by simpa using hkk
    rw [hkf] at h;refine h.mono ?_;rintro e w3 ⟨fa,fcap,rfl,hfl,hb3⟩;have HF:Hid (Gate.yt ss ms=false/\Below w.heap.size w w3):=⟨HNO.out (by unfold Gate.jP;rw [hkf];rfl),HB.out.2.trans ((hba.trans (hb3.mono hba.size)).mono HB.out.2.size)⟩
    clear h hba hfl hb3 c0 c1 c2 c3 c4 c5;go_wp2_with fail
    go_ret;exact ⟨by rw [HF.out.1];rfl,HF.out.2.alloc HF.out.2.size _⟩
   rw [hkk] at h;refine h.mono ?_;rintro e w3 ⟨fa,fcap,rfl,hfl,hb3⟩;have hX3:=za (zm wr _ _) (by simp) hb3;have hz3:wr.heap.size < w3.heap.size:=by have:=hb3.size;simp at this;omega
   have HB3:Hid (Below wr.heap.size wr w3):=hba.trans (hb3.mono hba.size);have hbs:=(bRf w3.heap.size w3).alloc (Nat.le_refl _) (.cells #[.string (Gate.shapeOf ss ms[k].kd).kd,.slice fa (Gate.shapeOf ss ms[k].kd).fs.length fcap] 123);have HB4:Hid (Below wr.heap.size wr (w3.alloc (.cells #[.string (Gate.shapeOf ss ms[k].kd).kd,.slice fa (Gate.shapeOf ss ms[k].kd).fs.length fcap] 123))):=HB3.out.trans (hbs.mono HB3.out.size);have HFL:Hid (zP (w3.alloc (.cells #[.string (Gate.shapeOf ss ms[k].kd).kd,.slice fa (Gate.shapeOf ss ms[k].kd).fs.length fcap] 123)) fa (Gate.shapeOf ss ms[k].kd).fs):=(hfl.mono hb3).mono hbs;have HMA:Hid (Gate.jP ss ms[k]=Gate.za2 (Gate.shapeOf ss ms[k].kd).fs ms[k]):=by unfold Hid Gate.jP;rw [hkk];simp
   have HRM:Hid ((w3.alloc (.cells #[.string (Gate.shapeOf ss ms[k].kd).kd,.slice fa (Gate.shapeOf ss ms[k].kd).fs.length fcap] 123)).heap[w1.heap.size]?=some (.map yM 4)):=by
    have h1:=HB.out.1.size;have h2:=HB2.out.2.2;exact (HB4.out.block w1.heap.size (by omega)).trans ((HB.out.1.block w1.heap.size h2).trans HB2.out.2.1)
   clear h hba hfl hb3 hbs hkk c0 c1 c2 c3 c4 c5;go_wp2_with fail
   have h:=znU w1.heap.size fa fcap (Gate.shapeOf ss ms[k].kd).fs ms[k] _ HRM.out HFL.out HSM.out
   by_cases hmo:Gate.za2 (Gate.shapeOf ss ms[k].kd).fs ms[k]=true
   ·rw [hmo] at h
    refine h.mono ?_;rintro e w5 ⟨rfl,hb5⟩;have HY:Hid ((ms.take (k+1)).all (Gate.jP ss)=true/\Below w2.heap.size w2 w5):=⟨by rw [HTK.out,HMA.out];exact hmo,HB.out.1.trans ((HB4.out.trans (hb5.mono HB4.out.size)).mono HB.out.1.size)⟩
    clear h hb5 hmo hX3;go_wp2_with fail
    exact ⟨⟨k+1,by omega,by go_num,HY.out.1,HY.out.2⟩,zn hlt⟩
   ·have hmf:Gate.za2 (Gate.shapeOf ss ms[k].kd).fs ms[k]=false:=by simpa using hmo
    rw [hmf] at h;refine h.mono ?_;rintro e w5 ⟨rfl,hb5⟩;have HF:Hid (Gate.yt ss ms=false/\Below w.heap.size w w5):=⟨HNO.out (by rw [HMA.out];exact hmf),HB.out.2.trans ((HB4.out.trans (hb5.mono HB4.out.size)).mono HB.out.2.size)⟩
    clear h hb5 hmo hX3;go_wp2_with fail
    go_ret;exact ⟨by rw [HF.out.1];rfl,HF.out.2⟩
  ·have e:k=ms.length:=by omega
   have hall:=HA.out;rw [e,tOl (Nat.le_refl _)] at hall;have HALL:Hid (ms.all (Gate.jP ss)=true):=hall;subst e;clear hall HA;go_wp2_with fail
   have HBw:Hid (Below w.heap.size w wr):=HB.out.2;clear HB
   go_loopw [49] (fun iv wq=>∃ k:Nat,k<=ss.length/\iv = .int .i64 k/\(ss.take k).all (Gate.rowOk ms)=true/\Below w.heap.size w wq) (fun iv _=>ss.length - (intOf iv).toNat)
   case atStart=>exact ⟨0,Nat.zero_le _,rfl,rfl,HBw.out⟩
   case round =>
    obtain ⟨k,hk,rfl,hall,hB⟩:=hrel;have HB:Hid (Below w.heap.size w wr):=hB;have HA:Hid ((ss.take k).all (Gate.rowOk ms)=true):=hall;clear hall hB
    by_cases hlt:k < ss.length
    ·obtain ⟨b,off,rfl,hb,hr⟩:=HW.out.1.rows (by rintro rfl;simp at hlt)
     obtain ⟨fa,fcap,hs0⟩:=hr k hlt;have hs:=hs0.mono hb HB.out;have hck:=hs.kind;have hcl:=hs.list;have hfl:=hs.zdk;have hltI:(k:Int) < (ss.length:Int):=by omega
     have HTK:Hid ((ss.take (k+1)).all (Gate.rowOk ms)=Gate.rowOk ms ss[k]):=by
      unfold Hid;rw [tSe hlt,List.all_append,HA.out];simp
     have HNO:Hid (Gate.rowOk ms ss[k]=false->Gate.yt ss ms=false):=by
      intro h
      have:ss.all (Gate.rowOk ms)=false:=by rw [List.all_eq_false];exact ⟨_,List.getElem_mem hlt,by rw [h];simp⟩
      unfold Gate.yt;rw [this];simp
     have hba:=(bRf wr.heap.size wr).alloc (Nat.le_refl _) (.cells #[.string ss[k].kd,.slice fa ss[k].fs.length fcap] 123);have HFL:Hid (zP (wr.alloc (.cells #[.string ss[k].kd,.slice fa ss[k].fs.length fcap] 123)) fa ss[k].fs):=hfl.mono hba;have HBA:Hid (Below w.heap.size w (wr.alloc (.cells #[.string ss[k].kd,.slice fa ss[k].fs.length fcap] 123))):=HB.out.trans (hba.mono HB.out.size);clear hr hs0 hs hfl hba;go_wp2_with fail
     have h:=zhC ss[k] ms a' fa cap' fcap _ (HW.out.2.mono HBA.out) HFL.out hml (Gate.zft HOK.out k hlt) (Gate.ziY HOK.out HALL.out k hlt)
     by_cases hrk:Gate.rowOk ms ss[k]=true
     ·have hrk':(Gate.zI (Gate.zl ss[k] ms) ss[k].fs.length).1=true:=hrk
      refine h.mono ?_;rintro e w5 ⟨v5,rfl,hb5,_⟩;have HY:Hid ((ss.take (k+1)).all (Gate.rowOk ms)=true/\Below w.heap.size w w5):=⟨by rw [HTK.out];exact hrk,HBA.out.trans (hb5.mono HBA.out.size)⟩
      rw [hrk'];clear h hb5 hrk hrk' hck hcl;go_wp2_with fail
      exact ⟨⟨k+1,by omega,by go_num,HY.out.1,HY.out.2⟩,zn hlt⟩
     ·have hrf:Gate.rowOk ms ss[k]=false:=by simpa using hrk
      have hrk':(Gate.zI (Gate.zl ss[k] ms) ss[k].fs.length).1=false:=hrf;refine h.mono ?_;rintro e w5 ⟨v5,rfl,hb5,_⟩;have HF:Hid (Gate.yt ss ms=false/\Below w.heap.size w w5):=⟨HNO.out hrf,HBA.out.trans (hb5.mono HBA.out.size)⟩
      rw [hrk'];clear h hb5 hrk hrk' hck hcl;go_wp2_with fail
      go_ret;exact ⟨by rw [HF.out.1];rfl,HF.out.2⟩
    ·have e:k=ss.length:=by omega
     have hall:=HA.out;rw [e,tOl (Nat.le_refl _)] at hall;have HF:Hid (Gate.yt ss ms=true):=by unfold Hid Gate.yt;rw [HALL.out,HOK.out,hall,decide_eq_true h12];rfl
     subst e;clear hall HA;go_wp2_with fail
     go_ret;exact ⟨by rw [HF.out];rfl,HB.out⟩
end Go.Proofs.YtghnakljnhnenaaGreat
