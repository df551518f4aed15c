import Derived.Test.YtghnakljnhnenaaGreatM44
set_option maxHeartbeats 4000000
namespace Go.Proofs.YtghnakljnhnenaaGreat
open Go.RowKit Go.Shelf
attribute [local go_sem] Oper.semAt_some
structure zkV (w0:World) (l:Lw) (bk:Bk) (a b c oa:Option Addr) (ca cb cc oc:Nat) (Bl Bb Bp rp:Nat) (fp:ByteArray->ByteArray->Option Int):Prop where
 law:y9 w0 l a b c
 obs:zby w0 oa bk.os
 few:bk.os.length<=1048576
 bl:w0.heap[Bl]?=some (.cells #[.slice a l.ss.length ca,.slice b l.ms.length cb,.slice c l.ts.length cc] 41)
 bb:w0.cell? ⟨Bb,3,none⟩=some (.slice oa bk.os.length oc)
 bbl:Bb < w0.heap.size
 bp:Boxed w0 Bp 139 (.map (some rp))
 mp:zW w0 rp fp
 pl:za7 fp bk.os bk.os.length
 ok:Gate.zH l bk=true
 sh:Gate.zQ l.ss=true
 ln:∀ i (h:i < bk.os.length),bk.os[i].vs.length=(Gate.shapeOf l.ss bk.os[i].kd).fs.length
set_option maxRecDepth 100000 in
theorem zmd (w0:World) (l:Lw) (bk:Bk) (a b c oa:Option Addr) (ca cb cc oc:Nat) (Bl Bb Bp rp:Nat) (fp:ByteArray->ByteArray->Option Int) (hH:zkV w0 l bk a b c oa ca cb cc oc Bl Bb Bp rp fp) (Bk Bf:Nat) (hk:w0.heap.size < Bk) (hf:w0.heap.size < Bf) (m:Nat) :
 ∀ (S:Nat->Bool) (i:Nat) (hi:i < bk.os.length) (w:World),Gate.lacks S bk.os.length < m->Below w0.heap.size w0 w->qK bk.os w0.heap.size S w->Boxed w Bk 140 (.map (some w0.heap.size)) ->
 Boxed w Bf 176 (.func (.func 116) #[] #[.pointer (some ⟨Bk,0,none⟩),.pointer (some ⟨Bp,0,none⟩),.pointer (some ⟨Bl,0,none⟩),.pointer (some ⟨Bb,0,none⟩),.pointer (some ⟨Bf,0,none⟩)]) ->
 Calls Tryz.prog 116 #[qj bk.os[i].kd bk.os[i].nm,.pointer (some ⟨Bk,0,none⟩),.pointer (some ⟨Bp,0,none⟩),.pointer (some ⟨Bl,0,none⟩),.pointer (some ⟨Bb,0,none⟩),.pointer (some ⟨Bf,0,none⟩)] w
  fun e w'=>e = .returned (.tuple #[])/\(∃ S',qK bk.os w0.heap.size S' w'/\Gate.Keeps l bk.os (·=i) S S'/\S' i=true)/\But w0.heap.size w.heap.size w w':=by
 induction m with
 | zero=>intro S i hi w hm;omega
 | succ m IH =>
 intro S i hi w hm hB0 hS bK bF;have HH:Hid (zkV w0 l bk a b c oa ca cb cc oc Bl Bb Bp rp fp/\Gate.lacks S bk.os.length < m+1/\Below w0.heap.size w0 w/\qK bk.os w0.heap.size S w):=⟨hH,hm,hB0,hS⟩
 clear hm hB0 hS hH;unfold qj;refine (callsIn_wide (n:=6)).1 ?_;refine callsIn_of_wp_marks Tryz.func116 rfl trivial ?_ rfl;simp only [Tryz.ntmps116,List.size_toArray,List.length_cons,List.length_nil,Nat.reduceAdd,Nat.reduceSub,Array.replicate_succ,Array.replicate_zero,List.push_toArray,List.append_toArray,List.nil_append,List.cons_append];have cK:=bK.cell;have hKl:=bK.lt
 gi_wp2_with fail
 refine ⟨trivial,?_⟩;obtain ⟨f,hpm,hfS⟩:=HH.out.2.2.2;have hba:Below w.heap.size w (w.alloc (.cells #[.string bk.os[i].kd,.string bk.os[i].nm] 178)):=bAl _ _;obtain ⟨_,_,_,_,_,_,_,_,hsm,_⟩:=HH.out.1.obs.load (bRf _ _) i hi;refine (callsIn_wide.2 (zeZ w0.heap.size f bk.os[i].kd bk.os[i].nm _ (hpm.mono hba) hsm.kd hsm.nm)).mono ?_;rintro e w1 ⟨rfl,hb1⟩;rw [hfS i hi];have cK1:=((hba.trans (hb1.mono hba.size)).cell (p:=⟨Bk,0,none⟩) hKl).trans cK;have hB1:Below w0.heap.size w0 w1:=HH.out.2.2.1.trans ((hba.trans (hb1.mono hba.size)).mono HH.out.2.2.1.size);have HB1:Hid (Below w.heap.size w w1):=hba.trans (hb1.mono hba.size)
 cases hSi:S i with
 | true =>
  gi_wp2
  exact ⟨.tuple #[],by simp [results,Tryz.results116,go_sem],rfl,⟨S,HH.out.2.2.2.mono HB1.out,Gate.Keeps.refl _ _ _ _,hSi⟩,But.of_below HB1.out⟩
 | false =>
  have hv:fp bk.os[i].kd bk.os[i].nm=some (i:Int):=by
   have h1:=HH.out.1.pl.has bk.os[i].kd bk.os[i].nm;rw [List.take_length,List.any_eq_true.2 ⟨bk.os[i],List.getElem_mem hi,by simp [Gate.jL]⟩] at h1;obtain ⟨v,hv⟩:=Option.isSome_iff_exists.1 h1;obtain ⟨j,hj,e,e1,e2⟩:=HH.out.1.pl.at_ _ _ _ hv
   have:=zeX.of HH.out.1.ok j i hj hi e1 e2
   subst this;rw [hv,e]
  have bp1:Boxed w1 Bp 139 (.map (some rp)):=(hB1.block _ HH.out.1.bp.lt).trans HH.out.1.bp;have cp:=bp1.cell;have hlk:=(HH.out.1.mp.mono hB1.drew).look zaL Tryz.underlying139 bk.os[i].kd bk.os[i].nm hsm.kd hsm.nm false;obtain ⟨w2,hup,hf2,hp2⟩:=(hpm.mono HB1.out.drew).upd zaL Tryz.underlying140 bk.os[i].kd bk.os[i].nm hsm.kd hsm.nm (i:Int);have hmx:Tryz.prog.follows .mixedOrders=true:=by kernel_rfl
  unfold qj at hlk hup;rw [hv] at hlk;have ck0:w1.cell? ⟨w.heap.size,0,none⟩=some (.string bk.os[i].kd):=(hb1.cell (p:=⟨w.heap.size,0,none⟩) (by simp)).trans (cell_of_block (World.alloc_heap_new w _));have ck1:w1.cell? ⟨w.heap.size,1,none⟩=some (.string bk.os[i].nm):=(hb1.cell (p:=⟨w.heap.size,1,none⟩) (by simp)).trans (cell_of_block (World.alloc_heap_new w _));have ckb:∀ j,w1.cell? ⟨w.heap.size,j,none⟩=(#[.string bk.os[i].kd,.string bk.os[i].nm]:Array Value)[j]?:=za (zm w _ 178) (by simp) hb1;simp only [Bool.false_eq_true,if_false,Option.getD_some] at hlk;have hzl:w.heap.size < w1.heap.size:=nLt (by simp) hb1.size;have hBpl:Bp < w1.heap.size:=bp1.lt;have hBkl:Bk < w1.heap.size:=nLt hKl HB1.out.size;have HP:Hid (zW w2 w0.heap.size (fun p q=>if p=bk.os[i].kd/\q=bk.os[i].nm then some (i:Int) else f p q)/\zd6 w0.heap.size w1.drew w2/\Below w0.heap.size w0 w1):=⟨hf2,hp2,hB1⟩
  clear hf2 hp2 hb1 hba
  gi_wp2
  refine zk8 (fun a' w'=>∃ u,a'={ tmps:=u,defers:=[] }/\w2=w'/\u=#[.agg #[.string bk.os[i].kd,.string bk.os[i].nm],.pointer (some ⟨Bk,0,none⟩),.pointer (some ⟨Bp,0,none⟩),.pointer (some ⟨Bl,0,none⟩),.pointer (some ⟨Bb,0,none⟩),.pointer (some ⟨Bf,0,none⟩),.pointer (some ⟨w.heap.size,0,none⟩),undef,.map (some w0.heap.size),.agg #[.string bk.os[i].kd,.string bk.os[i].nm],.bool false,.map (some w0.heap.size),.agg #[.string bk.os[i].kd,.string bk.os[i].nm],.map (some rp),.agg #[.string bk.os[i].kd,.string bk.os[i].nm],.int .i64 i,undef,undef,undef,undef,undef,undef,undef,undef,undef,undef,undef,undef,undef,undef,undef,undef,undef]) ?_ ?_
  ·gi_region_with_o fail
   all_goals exact ⟨rfl,_,rfl,rfl,rfl⟩
  rintro a' w' ⟨u,rfl,rfl,rfl⟩;have hB2:Below w0.heap.size w0 w2:=HP.out.2.1.below HP.out.2.2.drew (Nat.le_refl _);have hlt2:∀ {k},k < w0.heap.size->k < w2.heap.size:=fun h=>nLt h hB2.size
  have bl2:w2.heap[Bl]?=some (.cells #[.slice a l.ss.length ca,.slice b l.ms.length cb,.slice c l.ts.length cc] 41):=(hB2.block _ (gES HH.out.1.bl).1).trans HH.out.1.bl;have cl0:w2.cell? ⟨Bl,0,none⟩=some (.slice a l.ss.length ca):=cell_of_block bl2;have cl1:w2.cell? ⟨Bl,1,none⟩=some (.slice b l.ms.length cb):=cell_of_block bl2;have cl2:w2.cell? ⟨Bl,2,none⟩=some (.slice c l.ts.length cc):=cell_of_block bl2;have cb3:w2.cell? ⟨Bb,3,none⟩=some (.slice oa bk.os.length oc):=(hB2.cell (p:=⟨Bb,3,none⟩) HH.out.1.bbl).trans HH.out.1.bb;have cp2:w2.cell? ⟨Bp,0,none⟩=some (.map (some rp)):=(hB2.cell (p:=⟨Bp,0,none⟩) HH.out.1.bp.lt).trans HH.out.1.bp.cell;have hne:w.heap.size ≠ w0.heap.size:=Nat.ne_of_gt (nLt hpm.lt (Nat.le_refl _));have ckk0:w2.cell? ⟨w.heap.size,0,none⟩=some (.string bk.os[i].kd):=(World.cell?_of_block (HP.out.2.1.out _ hne)).trans ck0;have ckk1:w2.cell? ⟨w.heap.size,1,none⟩=some (.string bk.os[i].nm):=(World.cell?_of_block (HP.out.2.1.out _ hne)).trans ck1;have hlk2:=(HH.out.1.mp.mono hB2.drew).look zaL Tryz.underlying139 bk.os[i].kd bk.os[i].nm hsm.kd hsm.nm false;unfold qj at hlk2;rw [hv] at hlk2;simp only [Bool.false_eq_true,if_false,Option.getD_some] at hlk2;obtain ⟨ob,off,va,ha,q0,q1,hoa,hob,_,hva,hha,d0,d1,d2,d3,d4,d5,d6⟩:=HH.out.1.obs.load hB2 i hi;have hob2:=hlt2 hob;have hBl2:=hlt2 (gES HH.out.1.bl).1;have hBb2:=hlt2 HH.out.1.bbl;have hBp2:=hlt2 HH.out.1.bp.lt;have hz2:w.heap.size < w2.heap.size:=by rw [HP.out.2.1.size];exact hzl
  have hiI:(i:Int) < (bk.os.length:Int):=by omega
  have hfw:bk.os.length<=1048576:=HH.out.1.few;rw [hoa] at cb3;have hLk:=zhr l a b c ca cb cc bk.os[i] va ha q0 q1 w2.drew (HH.out.1.law.mono hB2.drew);have HB2:Hid (Below w0.heap.size w0 w2/\zD w2 va bk.os[i].vs):=⟨hB2,hva⟩
  have HSm:Hid (bk.os[i].kd.size<=maxLen/\bk.os[i].nm.size<=maxLen):=⟨hsm.kd,hsm.nm⟩
  have HSm2:Hid (fp bk.os[i].kd bk.os[i].nm=some (i:Int)):=hv;have ckk:∀ j,w2.cell? ⟨w.heap.size,j,none⟩=(#[.string bk.os[i].kd,.string bk.os[i].nm]:Array Value)[j]?:=fun j=>(World.cell?_of_block (HP.out.2.1.out _ hne)).trans (ckb j)
  clear hlk hup hv ck0 ck1 cK1 cp hB2 hlt2 hva hha bp1 cK hlk2 ckk0 ckk1 cl0 cl1 cl2
  gi_wp2_with fail
  refine zl6 (fun a' w'=>∃ u16 u17 u18 u19 u20 u21 u22 u23 u24,a'={ tmps:=#[.agg #[.string bk.os[i].kd,.string bk.os[i].nm],.pointer (some ⟨Bk,0,none⟩),.pointer (some ⟨Bp,0,none⟩),.pointer (some ⟨Bl,0,none⟩),.pointer (some ⟨Bb,0,none⟩),.pointer (some ⟨Bf,0,none⟩),.pointer (some ⟨w.heap.size,0,none⟩),undef,.map (some w0.heap.size),.agg #[.string bk.os[i].kd,.string bk.os[i].nm],.bool false,.map (some w0.heap.size),.agg #[.string bk.os[i].kd,.string bk.os[i].nm],.map (some rp),.agg #[.string bk.os[i].kd,.string bk.os[i].nm],.int .i64 i,u16,u17,u18,u19,u20,u21,u22,u23,u24,undef,undef,undef,undef,undef,undef,undef,undef],defers:=[] }/\∃ Bs Bo fa fcap,u24 = .func (.func 167) #[] #[.pointer (some ⟨Bs,0,none⟩),.pointer (some ⟨Bo,0,none⟩)]/\Bs < w'.heap.size/\Bo < w'.heap.size/\zP w' fa (Gate.shapeOf l.ss bk.os[i].kd).fs /\
   (∀ j,w'.cell? ⟨Bs,j,none⟩=(#[.string (Gate.shapeOf l.ss bk.os[i].kd).kd,.slice fa (Gate.shapeOf l.ss bk.os[i].kd).fs.length fcap]:Array Value)[j]?)/\(∀ j,w'.cell? ⟨Bo,j,none⟩=(#[.string bk.os[i].kd,.string bk.os[i].nm,.string bk.os[i].tm,.slice va bk.os[i].vs.length q0,.bool bk.os[i].en,.slice ha bk.os[i].hs.length q1,.int .i64 bk.os[i].vr]:Array Value)[j]?)/\Below w2.heap.size w2 w') ?_ ?_
  ·refine wpIn_wide.2 ?_
   have hdr:=(bRf w2.heap.size w2).drew;have cL:∀ j,w2.drew.cell? ⟨Bl,j,none⟩=(#[.slice a l.ss.length ca,.slice b l.ms.length cb,.slice c l.ts.length cc]:Array Value)[j]?:=fun j=>(hdr.cell (p:=⟨Bl,j,none⟩) hBl2).trans (zaA bl2 j)
   have cK:∀ j,w2.drew.cell? ⟨w.heap.size,j,none⟩=(#[.string bk.os[i].kd,.string bk.os[i].nm]:Array Value)[j]?:=fun j=>(hdr.cell (p:=⟨w.heap.size,j,none⟩) hz2).trans (ckk j)
   have cB:w2.drew.cell? ⟨Bb,3,none⟩=some (.slice (some ⟨ob,off,none⟩) bk.os.length oc):=(hdr.cell (p:=⟨Bb,3,none⟩) hBb2).trans cb3;have cP:w2.drew.cell? ⟨Bp,0,none⟩=some (.map (some rp)):=(hdr.cell (p:=⟨Bp,0,none⟩) hBp2).trans cp2;have e0:w2.drew.cell? ⟨ob,off+i * 7,none⟩=some (.string bk.os[i].kd):=(hdr.cell (p:=⟨ob,off+i * 7,none⟩) hob2).trans d0;have e1:w2.drew.cell? ⟨ob,off+i * 7+1,none⟩=some (.string bk.os[i].nm):=(hdr.cell (p:=⟨ob,off+i * 7+1,none⟩) hob2).trans d1;have e2:w2.drew.cell? ⟨ob,off+i * 7+2,none⟩=some (.string bk.os[i].tm):=(hdr.cell (p:=⟨ob,off+i * 7+2,none⟩) hob2).trans d2;have e3:w2.drew.cell? ⟨ob,off+i * 7+3,none⟩=some (.slice va bk.os[i].vs.length q0):=(hdr.cell (p:=⟨ob,off+i * 7+3,none⟩) hob2).trans d3;have e4:w2.drew.cell? ⟨ob,off+i * 7+4,none⟩=some (.bool bk.os[i].en):=(hdr.cell (p:=⟨ob,off+i * 7+4,none⟩) hob2).trans d4;have e5:w2.drew.cell? ⟨ob,off+i * 7+5,none⟩=some (.slice ha bk.os[i].hs.length q1):=(hdr.cell (p:=⟨ob,off+i * 7+5,none⟩) hob2).trans d5;have e6:w2.drew.cell? ⟨ob,off+i * 7+6,none⟩=some (.int .i64 bk.os[i].vr):=(hdr.cell (p:=⟨ob,off+i * 7+6,none⟩) hob2).trans d6
   have hHM:∀ W,Below w2.drew.heap.size w2.drew W->((∀ j,W.cell? ⟨Bl,j,none⟩=(#[.slice a l.ss.length ca,.slice b l.ms.length cb,.slice c l.ts.length cc]:Array Value)[j]?)/\W.cell? ⟨Bb,3,none⟩=some (.slice (some ⟨ob,off,none⟩) bk.os.length oc)/\W.cell? ⟨Bp,0,none⟩=some (.map (some rp))/\(∀ j,W.cell? ⟨w.heap.size,j,none⟩=(#[.string bk.os[i].kd,.string bk.os[i].nm]:Array Value)[j]?)/\W.cell? ⟨ob,off+i * 7,none⟩=some (.string bk.os[i].kd)/\W.cell? ⟨ob,off+i * 7+1,none⟩=some (.string bk.os[i].nm)/\W.cell? ⟨ob,off+i * 7+2,none⟩=some (.string bk.os[i].tm)/\W.cell? ⟨ob,off+i * 7+3,none⟩=some (.slice va bk.os[i].vs.length q0)/\W.cell? ⟨ob,off+i * 7+4,none⟩=some (.bool bk.os[i].en)/\W.cell? ⟨ob,off+i * 7+5,none⟩=some (.slice ha bk.os[i].hs.length q1)/\W.cell? ⟨ob,off+i * 7+6,none⟩=some (.int .i64 bk.os[i].vr)/\(Instr.lookup 139 (.map (some rp)) (.agg #[.string bk.os[i].kd,.string bk.os[i].nm]) false).run Tryz.prog W = .ok (.int .i64 i) W):=fun W hW=>⟨za cL hBl2 hW,(hW.cell (p:=⟨Bb,3,none⟩) hBb2).trans cB,(hW.cell (p:=⟨Bp,0,none⟩) hBp2).trans cP,za cK hz2 hW,(hW.cell (p:=⟨ob,off+i * 7,none⟩) hob2).trans e0,(hW.cell (p:=⟨ob,off+i * 7+1,none⟩) hob2).trans e1,(hW.cell (p:=⟨ob,off+i * 7+2,none⟩) hob2).trans e2,(hW.cell (p:=⟨ob,off+i * 7+3,none⟩) hob2).trans e3,(hW.cell (p:=⟨ob,off+i * 7+4,none⟩) hob2).trans e4,(hW.cell (p:=⟨ob,off+i * 7+5,none⟩) hob2).trans e5,(hW.cell (p:=⟨ob,off+i * 7+6,none⟩) hob2).trans e6,by
    have h:=(HH.out.1.mp.mono (HB2.out.1.drew.trans (hW.mono HB2.out.1.size))).look zaL Tryz.underlying139 bk.os[i].kd bk.os[i].nm HSm.out.1 HSm.out.2 false;unfold qj at h;rw [HSm2.out] at h
    simpa only [Bool.false_eq_true,if_false,Option.getD_some] using h⟩
   have H_Now:=hHM _ (bRf _ _);have HHM:Hid (∀ W,Below w2.drew.heap.size w2.drew W->((∀ j,W.cell? ⟨Bl,j,none⟩=(#[.slice a l.ss.length ca,.slice b l.ms.length cb,.slice c l.ts.length cc]:Array Value)[j]?)/\W.cell? ⟨Bb,3,none⟩=some (.slice (some ⟨ob,off,none⟩) bk.os.length oc)/\W.cell? ⟨Bp,0,none⟩=some (.map (some rp))/\(∀ j,W.cell? ⟨w.heap.size,j,none⟩=(#[.string bk.os[i].kd,.string bk.os[i].nm]:Array Value)[j]?)/\W.cell? ⟨ob,off+i * 7,none⟩=some (.string bk.os[i].kd)/\W.cell? ⟨ob,off+i * 7+1,none⟩=some (.string bk.os[i].nm)/\W.cell? ⟨ob,off+i * 7+2,none⟩=some (.string bk.os[i].tm)/\W.cell? ⟨ob,off+i * 7+3,none⟩=some (.slice va bk.os[i].vs.length q0)/\W.cell? ⟨ob,off+i * 7+4,none⟩=some (.bool bk.os[i].en)/\W.cell? ⟨ob,off+i * 7+5,none⟩=some (.slice ha bk.os[i].hs.length q1)/\W.cell? ⟨ob,off+i * 7+6,none⟩=some (.int .i64 bk.os[i].vr)/\(Instr.lookup 139 (.map (some rp)) (.agg #[.string bk.os[i].kd,.string bk.os[i].nm]) false).run Tryz.prog W = .ok (.int .i64 i) W)):=hHM;clear hHM cL cK cB cP e0 e1 e2 e3 e4 e5 e6 d0 d1 d2 d3 d4 d5 d6
   go_region_held3 (fun w'=>(∀ j,w'.cell? ⟨Bl,j,none⟩=(#[.slice a l.ss.length ca,.slice b l.ms.length cb,.slice c l.ts.length cc]:Array Value)[j]?)/\w'.cell? ⟨Bb,3,none⟩=some (.slice (some ⟨ob,off,none⟩) bk.os.length oc)/\w'.cell? ⟨Bp,0,none⟩=some (.map (some rp))/\(∀ j,w'.cell? ⟨w.heap.size,j,none⟩=(#[.string bk.os[i].kd,.string bk.os[i].nm]:Array Value)[j]?)/\w'.cell? ⟨ob,off+i * 7,none⟩=some (.string bk.os[i].kd)/\w'.cell? ⟨ob,off+i * 7+1,none⟩=some (.string bk.os[i].nm)/\w'.cell? ⟨ob,off+i * 7+2,none⟩=some (.string bk.os[i].tm)/\w'.cell? ⟨ob,off+i * 7+3,none⟩=some (.slice va bk.os[i].vs.length q0)/\w'.cell? ⟨ob,off+i * 7+4,none⟩=some (.bool bk.os[i].en)/\w'.cell? ⟨ob,off+i * 7+5,none⟩=some (.slice ha bk.os[i].hs.length q1)/\w'.cell? ⟨ob,off+i * 7+6,none⟩=some (.int .i64 bk.os[i].vr)/\(Instr.lookup 139 (.map (some rp)) (.agg #[.string bk.os[i].kd,.string bk.os[i].nm]) false).run Tryz.prog w' = .ok (.int .i64 i) w') (exact H_Now) (first
    | (go_at_call 118;refine hLk.mono ?_;rintro e W0 ⟨Bs,Bo,fa,fcap,rfl,hBs,hBo,hfl,hXs,hXo,hb⟩;have H_Now:=HHM.out W0 hb))
   exact ⟨_,_,_,_,_,_,_,_,_,rfl,Bs,Bo,fa,fcap,rfl,hBs,hBo,hfl,hXs,hXo,hdr.trans hb⟩
  rintro a' W0 ⟨u16,u17,u18,u19,u20,u21,u22,u23,u24,rfl,Bs,Bo,fa,fcap,rfl,hBs,hBo,hfl,hXs,hXo,hb1⟩;have hr0:w0.heap.size < w.heap.size:=hpm.lt;have hB20:Below w2.heap.size w2 W0:=hb1;have hBw0:Below w0.heap.size w0 W0:=HB2.out.1.trans (hB20.mono HB2.out.1.size);have bK0:Boxed W0 Bk 140 (.map (some w0.heap.size)):=(hB20.block _ (by rw [HP.out.2.1.size];exact hBkl)).trans ((HP.out.2.1.out _ (Nat.ne_of_gt hk)).trans ((HB1.out.drew.block _ hKl).trans bK));have bF0:Boxed W0 Bf 176 (.func (.func 116) #[] #[.pointer (some ⟨Bk,0,none⟩),.pointer (some ⟨Bp,0,none⟩),.pointer (some ⟨Bl,0,none⟩),.pointer (some ⟨Bb,0,none⟩),.pointer (some ⟨Bf,0,none⟩)]):=(hB20.block _ (by rw [HP.out.2.1.size];exact nLt bF.lt HB1.out.size)).trans ((HP.out.2.1.out _ (Nat.ne_of_gt hf)).trans ((HB1.out.drew.block _ bF.lt).trans bF));have hone:=zeX.of HH.out.1.ok;have HM0:Hid (qK bk.os w0.heap.size (Gate.jY S i) W0):=qK.mono ⟨_,HP.out.1,fun j hj=>zpu hone hfS i hi (i:Int) j hj⟩ hB20;have HBut0:Hid (But w0.heap.size w.heap.size w W0):=(But.of_below HB1.out.drew).trans ((HP.out.2.1.but (B:=w.heap.size)).trans (But.of_below (hB20.mono (by rw [HP.out.2.1.size];exact HB1.out.size))));have HLk:Hid (Gate.lacks (Gate.jY S i) bk.os.length < m):=by have h1:=Gate.znM hi hSi;have h2:=HH.out.2.1;show _ < _;omega
  have HST:Hid (zD W0 va bk.os[i].vs):=HB2.out.2.mono hB20;have hrW:w0.heap.size < W0.heap.size:=nLt hr0 HBut0.out.size;have HW:Hid (Below w0.heap.size w0 W0):=hBw0;have hKW:=bK0.lt;have hFW:=bF0.lt;clear hb1 hB20 hBw0 d0 d1 d2 d3 d4 d5 d6 cb3 cp2 ckk ckb bl2 hLk
  gi_wp2_with fail
  refine wpIn_rangeFunc_ownH rfl (by omega) (gf:=167) (lb:=#[.pointer (some ⟨Bs,0,none⟩),.pointer (some ⟨Bo,0,none⟩)]) rfl trivial (enters_of Tryz.func167 (by kernel_rfl) rfl)
   (zlE 5 (by omega) Bs Bo (Gate.shapeOf l.ss bk.os[i].kd).kd (Gate.shapeOf l.ss bk.os[i].kd).fs fa fcap bk.os[i] va ha q0 q1 W0 hBs hBo hXs hXo hfl HST.out (HH.out.1.ln i hi)) CB.trans (fun W l o o' hl h hc hw=>CB.of_below (belowK_b (Nat.le_refl _) W l o o' hl h hc hw)) (bRf _ _) (fun _=>rfl)
   (fun pre W=>∃ S1,qK bk.os w0.heap.size S1 W/\(Gate.Keeps l bk.os (Gate.zfy l bk.os i) (Gate.jY S i) S1/\zbh bk.os S1 (pre.map (·.1)))/\But w0.heap.size W0.heap.size W0 W)
   (fun _ _ _=>False)
   (znp (fun S1=>OwnFrom.and (zli hrW (fun _=>S1)) (OwnFrom.and (ownFrom_pure _ _) (zm9 (Nat.le_refl _) (Nat.le_refl _)))))
   (fun _=>fun _ _ _ _ h _ _=>h)
   ⟨_,HM0.out,⟨Gate.Keeps.refl _ _ _ _,zbh.nil _ _⟩,But.refl _ _ _⟩
   (fun x a' W=>∃ Bx,W.heap[Bx]?=some (.cells #[.int .i64 x.1.pl,.int .i64 x.1.rl,.string x.1.to,.string x.1.nm] 184)/\a'={ tmps:=#[.agg #[.string bk.os[i].kd,.string bk.os[i].nm],.pointer (some ⟨Bk,0,none⟩),.pointer (some ⟨Bp,0,none⟩),.pointer (some ⟨Bl,0,none⟩),.pointer (some ⟨Bb,0,none⟩),.pointer (some ⟨Bf,0,none⟩),.pointer (some ⟨w.heap.size,0,none⟩),.pointer (some ⟨Bx,0,none⟩),.map (some w0.heap.size),.agg #[.string bk.os[i].kd,.string bk.os[i].nm],.bool false,.map (some w0.heap.size),.agg #[.string bk.os[i].kd,.string bk.os[i].nm],.map (some rp),.agg #[.string bk.os[i].kd,.string bk.os[i].nm],.int .i64 i,u16,u17,u18,u19,u20,u21,u22,u23,.func (.func 167) #[] #[.pointer (some ⟨Bs,0,none⟩),.pointer (some ⟨Bo,0,none⟩)],.agg #[.int .i64 x.1.pl,.int .i64 x.1.rl,.string x.1.to,.string x.1.nm],undef,undef,undef,undef,undef,undef,undef],defers:=[] })
   (fun x a' _ X Y row hs hg hr=>by
    obtain ⟨Bx,e1,e2⟩:=hs;refine ⟨Bx,(hg.block Bx (gES e1).1 (fun e=>?_)).trans e1,e2⟩;obtain ⟨_,ob,h1,h2⟩:=hr Bx e.symm;rw [e1] at h1
    cases h1
    cases h2)
   ?assign ?body ?done ?stop
  case assign =>
   rintro l' pre x W K ⟨S1,hp,hq,hB1⟩ hK;unfold Lk.enc
   gi_wp2
   exact hK _ _ ((KeepsOthers.alloc _ _).from _) (CB.of_below ((bRf _ W).alloc hB1.size _)) ⟨S1,hp.mono ((bRf _ W).alloc (Nat.le_refl _) _),hq,hB1.trans (But.of_below ((bRf _ W).alloc hB1.size _))⟩ ⟨W.heap.size,World.alloc_heap_new W _,rfl⟩
  case body =>
   rintro l' pre x a' W hl ⟨rr,hr⟩ ⟨S1,hp,hq,hB1⟩ ⟨Bx,hBx,rfl⟩ hlt;have cX:=zaA hBx;have bF1:=hB1.boxed bF0 hFW (Nat.ne_of_gt hf);have bK1:=hB1.boxed bK0 hKW (Nat.ne_of_gt hk);have cF:=bF1.cell;have HI1:Hid (qK bk.os w0.heap.size S1 W/\(Gate.Keeps l bk.os (Gate.zfy l bk.os i) (Gate.jY S i) S1/\zbh bk.os S1 (pre.map (·.1)))/\But w0.heap.size W0.heap.size W0 W):=⟨hp,hq,hB1⟩
   clear hp hq hB1
   by_cases h2:x.1.rl=2
   ·have hd2:(x.1.rl != 2)=false:=by simp [h2]
    have H2:Hid (x.1.rl=2):=h2;clear h2
    gi_wp2
    exact ⟨KeepsFrom.refl _ _,CB.of_below (bRf _ _),S1,HI1.out.1,⟨HI1.out.2.1.1,by rw [List.map_append];exact HI1.out.2.1.2.snoc (fun _ h=>h) x.1 (fun h=>absurd H2.out h)⟩,HI1.out.2.2⟩
   ·have hd2:(x.1.rl != 2)=true:=by simp [h2]
    obtain ⟨j,hj,e1,e2⟩:=zn5 HH.out.1.ok i hi x.1 x.2;have hLS:Gate.lacks S1 bk.os.length < m:=Nat.lt_of_le_of_lt (Gate.zmx HI1.out.2.1.1.le _) HLk.out;have hcall:=IH S1 j hj W hLS (HW.out.trans (HI1.out.2.2.below hrW)) HI1.out.1 bK1 bF1;unfold qj at hcall;rw [e1,e2] at hcall;have H2:Hid (x.1.rl ≠ 2/\bk.os[j].kd=x.1.to/\bk.os[j].nm=x.1.nm):=⟨h2,e1,e2⟩
    clear h2 e1 e2 bK1 bF1
    gi_wp2_with fail
    refine ⟨trivial,?_⟩;refine (callsIn_wide.2 hcall).mono ?_;rintro e W1 ⟨rfl,⟨S2,hk2,hkp,hS2⟩,hbut⟩
    have HN:Hid (KeepsFrom W0.heap.size W W1/\CB W0.heap.size W W1/\∃ S2,qK bk.os w0.heap.size S2 W1/\(Gate.Keeps l bk.os (Gate.zfy l bk.os i) (Gate.jY S i) S2/\zbh bk.os S2 ((pre ++ [x]).map (·.1)))/\But w0.heap.size W0.heap.size W0 W1):=by
     obtain ⟨f1,hf1,_⟩:=HI1.out.1;obtain ⟨es,ck,hes,_⟩:=hf1.ex;have hbW:=hbut.mono HI1.out.2.2.size;refine ⟨hbut.keeps hrW,hbW.cb hes,S2,hk2,⟨HI1.out.2.1.1.trans (hkp.wider (fun j' e=>by subst e;exact zl2 HH.out.1.sh hi hj x.1 x.2 H2.out.1 H2.out.2.1 H2.out.2.2)),?_⟩,HI1.out.2.2.trans hbW⟩;rw [List.map_append];refine HI1.out.2.1.2.snoc hkp.le x.1 (fun _ j' hj' e1' e2'=>?_)
     have:=hone j' j hj' hj (e1'.trans H2.out.2.1.symm) (e2'.trans H2.out.2.2.symm)
     subst this;exact hS2
    clear hk2 hkp hS2 hbut
    gi_wp2
    exact HN.out
  case done =>
   rintro D ys W hD hys ⟨S1,hp,hq,hB1⟩ hK;have hrD:w0.heap.size ≠ D:=by omega
   have HE:Hid ((∃ S',qK bk.os w0.heap.size S' (W.putObj D (.deferred none))/\Gate.Keeps l bk.os (·=i) S S'/\S' i=true)/\But w0.heap.size w.heap.size w (W.putObj D (.deferred none))):=by
    refine ⟨⟨S1,?_,Gate.Keeps.close hq.1 (zbh.all HH.out.1.sh hi (by rw [<- hys];exact hq.2)),hq.1.has⟩,?_⟩
    ·obtain ⟨f1,hf1,h3⟩:=hp
     exact ⟨f1,hf1.keep (World.putObj_heap_other (fun e=>hrD e)),h3⟩
    ·refine HBut0.out.trans ((hB1.mono HBut0.out.size).trans ⟨rfl,rfl,rfl,by simp,fun k hk _=>World.putObj_heap_other (fun e=>?_)⟩)
     have:=HBut0.out.size
     omega
   clear hp hq hB1 hys
   gi_wp2
   refine ⟨by simp,.inl ⟨_,_,rfl,run_takeDeferred hK,?_⟩⟩;exact ⟨.tuple #[],by simp [results,Tryz.results116,go_sem],rfl,HE.out⟩
  case stop =>
   rintro D cd pre W hD hpre h hK;exact h.elim
end Go.Proofs.YtghnakljnhnenaaGreat
namespace Go.Proofs.YtghnakljnhnenaaGreat
open Go.RowKit
namespace Gate
noncomputable def zeH (l:Lw) (os:List Ob):List Int:=places (greatest l os (endings os))
noncomputable def zaY (l:Lw) (b:Bk):List Int:=if jN l b=true then zeH l b.os else []
theorem zbl (l:Lw) (os:List Ob) (s:List Bool):(greatest l os s).length=s.length:=za8 l os s _
theorem zpD (l:Lw) (b:Bk) (h:b.Few):(zaY l b).length<=1048576:=by
 unfold zaY
 split
 ·have h1:=zcY (greatest l b.os (endings b.os)) (greatest l b.os (endings b.os)).length
  rw [zbl] at h1;have h2:(endings b.os).length=b.os.length:=by simp [endings]
  have h3:=h.os.1;unfold zeH places;rw [zbl];omega
 ·simp
end Gate
set_option maxRecDepth 20000 in
theorem zkg (l:Lw) (la lb lc:Option Addr) (lca lcb lcc:Nat) (b:Bk) (a0 a1 a2 a3:Option Addr) (c0 c1 c2 c3:Nat) (w:World) (hl:y9 w l la lb lc) (hb:y7 w b a0 a1 a2 a3) (hh:zbT w a0 b.os) (hbf:b.Few) (hz:qF b.os<=1048576) :
 Calls Tryz.prog 6 #[.agg (l.cells la lb lc lca lcb lcc),.agg (b.cells a0 a1 a2 a3 c0 c1 c2 c3)] w fun e w'=>∃ v,e = .returned v/\w'.ownsRow w.heap.size 3 1 v (Gate.zaY l b).length (ints (Gate.zaY l b))/\Below w.heap.size w w':=by
 have HK:Hid (y7 w b a0 a1 a2 a3):=hb;have HL:Hid (y9 w l la lb lc):=hl;have HF:Hid (zbT w a0 b.os/\b.Few/\qF b.os<=1048576):=⟨hh,hbf,hz⟩
 clear hb hl hh hbf hz;unfold Lw.cells Bk.cells;go_enter Tryz.func6,Tryz.ntmps6;go_wp2_with fail
 obtain ⟨hL0,hX0⟩:=qw w #[.slice la l.ss.length lca,.slice lb l.ms.length lcb,.slice lc l.ts.length lcc] #[.int .i64 b.now,.int .i64 b.tick,.int .i64 b.given,.slice a0 b.os.length c0,.slice a1 b.gs.length c1,.slice a2 b.ls.length c2,.slice a3 b.ps.length c3] 41 48;have HBi:Hid (Below w.heap.size w ((w.alloc (.cells #[.slice la l.ss.length lca,.slice lb l.ms.length lcb,.slice lc l.ts.length lcc] 41)).alloc (.cells #[.int .i64 b.now,.int .i64 b.tick,.int .i64 b.given,.slice a0 b.os.length c0,.slice a1 b.gs.length c1,.slice a2 b.ls.length c2,.slice a3 b.ps.length c3] 48))):=zA w _ _;obtain ⟨W0,hW0⟩:∃ W0,W0=(w.alloc (.cells #[.slice la l.ss.length lca,.slice lb l.ms.length lcb,.slice lc l.ts.length lcc] 41)).alloc (.cells #[.int .i64 b.now,.int .i64 b.tick,.int .i64 b.given,.slice a0 b.os.length c0,.slice a1 b.gs.length c1,.slice a2 b.ls.length c2,.slice a3 b.ps.length c3] 48):=⟨_,rfl⟩
 have hz0:w.heap.size+1 < W0.heap.size:=by rw [hW0];simp
 rw [<- hW0] at HBi hX0 hL0 ⊢;clear hW0;refine (ziG l la lb lc lca lcb lcc b a0 a1 a2 a3 c0 c1 c2 c3 _ (HL.out.mono HBi.out) (HK.out.mono HBi.out) (HF.out.1.mono HBi.out) HF.out.2.1 HF.out.2.2).mono ?_;rintro e w1 ⟨rfl,hb0⟩;have hX1:=za hX0 hz0 hb0;have hL1:=za hL0 (nSl hz0) hb0;have hz1:=nLt hz0 hb0.size;have hy1:=nSl hz1;have HBi:Hid (Below w.heap.size w w1):=HBi.out.trans (hb0.mono HBi.out.size);clear hb0 hX0 hL0 hz0
 by_cases t:Gate.jN l b=true
 rotate_left
 ·have HN:Hid (Gate.zaY l b=[]):=by unfold Hid Gate.zaY;rw [if_neg t]
  have HR0:Hid ((w1.alloc (.cells #[] 3)).ownsRow w.heap.size 3 1 (.slice (some ⟨w1.heap.size,0,none⟩) 0 0) 0 (ints [])):=⟨rfl,.inr ⟨w1.heap.size,0,#[],rfl,HBi.out.size,World.alloc_heap_new _ _,Nat.le_refl _,by simp [maxLen],rfl,rfl⟩⟩
  rw [bFi t];clear t;go_wp2_with fail
  go_ret;exact ⟨_,rfl,by rw [HN.out];exact HR0.out,HBi.out.alloc HBi.out.size _⟩
 have HM:Hid (Gate.zaY l b=Gate.zeH l b.os):=by unfold Hid Gate.zaY;rw [if_pos t]
 have HO:Hid (b.os.length<=40/\∀ k (h:k < b.os.length),Gate.zx l.ss b.os[k]=true):=Gate.zkb (book_facts t).1 (book_facts t).2;have HEl:Hid ((Gate.endings b.os).length=b.os.length):=by simp [Hid,Gate.endings]
 rw [t];clear t;go_wp2_with fail
 have hX:=za hX1 hz1 (bRf w1.heap.size w1).drew;have hLw:=za hL1 hy1 (bRf w1.heap.size w1).drew;have hz:w.heap.size+1 < w1.drew.heap.size:=hz1;have hy:w.heap.size < w1.drew.heap.size:=hy1;have HBd:Hid (Below w.heap.size w w1.drew):=HBi.out.drew;clear hX1 hL1 hz1 hy1;refine wp_region_held_drew (S:=fun w'=>(∀ j,w'.cell? ⟨w.heap.size,j,none⟩=(#[.slice la l.ss.length lca,.slice lb l.ms.length lcb,.slice lc l.ts.length lcc]:Array Value)[j]?)/\(∀ j,w'.cell? ⟨w.heap.size+1,j,none⟩=(#[.int .i64 b.now,.int .i64 b.tick,.int .i64 b.given,.slice a0 b.os.length c0,.slice a1 b.gs.length c1,.slice a2 b.ls.length c2,.slice a3 b.ps.length c3]:Array Value)[j]?)) (by kernel_rfl) ⟨hLw,hX⟩ (fun H_=>?_);refine tH 0 rfl H_ ?_;refine tH 1 rfl H_ ?_;refine tH 2 rfl H_ ?_;refine cH 3 rfl fun K hK=>?_
 go_simp
 refine (zk6 b a0 a1 a2 a3 c0 c1 c2 c3 _ (HK.out.mono HBd.out) (by have:=HO.out.1;omega)).mono ?_;rintro e w3 ⟨g,gc,rfl,hbl3,hb3⟩;have hX3:=za hX hz hb3;have hL3:=za hLw hy hb3;have hz3:=nLt hz hb3.size;have hy3:=nLt hy hb3.size;have HB3:Hid (Below w.heap.size w w3):=HBd.out.trans (hb3.mono HBd.out.size);have HBl:Hid (zcf w3 (some ⟨g,0,none⟩) (Gate.endings b.os)):=hbl3;clear hb3 hbl3
 (try go_wp2_with fail)
 refine hK.out _ _ ?_ (fun H_=>?_)
 ·exact ⟨hL3,hX3⟩
 clear hK K
 (try simp only [Act.put,sA,s0,sS])
 refine cH 4 rfl fun K hK=>?_
 go_simp
 have hgr:=zjg l la lb lc lca lcb lcc b a0 a1 a2 a3 c0 c1 c2 c3 g 0 gc (Gate.endings b.os) w3 (HL.out.mono HB3.out) (HK.out.mono HB3.out) HBl.out HEl.out HO.out (fun i h=>(HF.out.2.1.os.2 i h).1);rw [HEl.out] at hgr;refine hgr.mono ?_;rintro e w4 ⟨ga,gac,rfl,hbl4,hb4⟩;have hX4:=za hX3 hz3 hb4;have hL4:=za hL3 hy3 hb4;have hz4:=nLt hz3 hb4.size;have hy4:=nLt hy3 hb4.size;have HB4:Hid (Below w.heap.size w w4):=HB3.out.trans (hb4.mono HB3.out.size);have HGl:Hid (zcf w4 ga (Gate.greatest l b.os (Gate.endings b.os))/\(Gate.greatest l b.os (Gate.endings b.os)).length=b.os.length):=⟨hbl4,(Gate.zbl _ _ _).trans HEl.out⟩
 clear hb4 hbl4 hgr
 (try go_wp2_with fail)
 refine hK.out _ _ ?_ (fun H_=>?_)
 ·exact ⟨hL4,hX4⟩
 clear hK K
 (try simp only [Act.put,sA,s0,sS])
 refine cH 5 rfl fun K hK=>?_
 go_simp
 have hpl:=zld ga gac (Gate.greatest l b.os (Gate.endings b.os)) w4 HGl.out.1 (by rw [HGl.out.2];have:=HO.out.1;omega);rw [HGl.out.2] at hpl;refine hpl.mono ?_;rintro e w5 ⟨v,rfl,hv,hb5⟩;have hX5:=za hX4 hz4 hb5;have hL5:=za hL4 hy4 hb5;have hz5:=nLt hz4 hb5.size;have hy5:=nLt hy4 hb5.size;have HV:Hid (w5.ownsRow w.heap.size 3 1 v (Gate.zaY l b).length (ints (Gate.zaY l b))/\Below w.heap.size w w5):=by rw [HM.out];exact ⟨j3 hv HB4.out.size,HB4.out.trans (hb5.mono HB4.out.size)⟩
 clear hb5 hv hpl
 (try go_wp2_with fail)
 refine hK.out _ _ ?_ (fun H_=>?_)
 ·exact ⟨hL5,hX5⟩
 clear hK K
 (try simp only [Act.put,sA,s0,sS])
 refine tH 6 rfl H_ ?_;refine wpAnyH_done (by kernel_rfl) ?_ _;go_wp2_with fail
 go_ret;exact ⟨v,rfl,HV.out⟩
end Go.Proofs.YtghnakljnhnenaaGreat
namespace Go.Proofs.YtghnakljnhnenaaGreat
open Go.RowKit Go.Shelf
structure zlC (f:ByteArray->ByteArray->Option Int) (os:List Ob) (s:List Bool):Prop where
 len:s.length=os.length
 at_:∀ j (h:j < os.length),(f os[j].kd os[j].nm).isSome=s.getD j false
theorem zqi (w:World) (o1 o2 o3 o4:Obj):((((w.alloc o1).alloc o2).alloc o3).alloc o4).heap[w.heap.size]?=some o1/\((((w.alloc o1).alloc o2).alloc o3).alloc o4).heap[w.heap.size+1]?=some o2/\((((w.alloc o1).alloc o2).alloc o3).alloc o4).heap[w.heap.size+1+1]?=some o3/\((((w.alloc o1).alloc o2).alloc o3).alloc o4).heap[w.heap.size+1+1+1]?=some o4:=by
 obtain ⟨h1,h2,h3⟩:=zo9 w o1 o2 o3;have hb:=(bRf _ (((w.alloc o1).alloc o2).alloc o3)).alloc (Nat.le_refl _) o4;refine ⟨(hb.block _ (by simp <;> omega)).trans h1,(hb.block _ (by simp <;> omega)).trans h2,(hb.block _ (by simp)).trans h3,?_⟩
 have:=alloc_at (((w.alloc o1).alloc o2).alloc o3) o4
 simpa using this
set_option maxRecDepth 20000 in
theorem zoS (l:Lw) (la lb lc:Option Addr) (lca lcb lcc:Nat) (b:Bk) (a0 a1 a2 a3:Option Addr) (c0 c1 c2 c3:Nat) (r:Nat) (f:ByteArray->ByteArray->Option Int) (s:List Bool) (w:World) (hl:y9 w l la lb lc) (hb:y7 w b a0 a1 a2 a3) (hM:zW w r f) (hs:zlC f b.os s) (hok:Gate.jN l b=true) :
 Calls Tryz.prog 73 #[.agg #[.slice la l.ss.length lca,.slice lb l.ms.length lcb,.slice lc l.ts.length lcc],.agg #[.int .i64 b.now,.int .i64 b.tick,.int .i64 b.given,.slice a0 b.os.length c0,.slice a1 b.gs.length c1,.slice a2 b.ls.length c2,.slice a3 b.ps.length c3],.map (some r)] w fun e w'=>∃ v,e = .returned v/\w'.ownsRow w.heap.size 3 1 v (Gate.places (Gate.greatest l b.os s)).length (ints (Gate.places (Gate.greatest l b.os s)))/\Below w.heap.size w w':=by
 obtain ⟨i0,hi,hzi0,hz1',hz2⟩:=info_parts Tryz.zfS;have HI0:Hid (Tryz.prog.info? 3=some i0/\i0.zero=some (.int .i64 0)/\i0.size=1/\i0.bytes=8):=⟨hi,hzi0,hz1',hz2⟩
 have HK:Hid (y7 w b a0 a1 a2 a3):=hb;have HL:Hid (y9 w l la lb lc):=hl;have HM:Hid (zW w r f/\zlC f b.os s):=⟨hM,hs⟩
 have hfa:=book_facts hok
 have HO:Hid (b.os.length<=40/\Gate.zH l b=true/\Gate.zQ l.ss=true/\∀ k (h:k < b.os.length),b.os[k].vs.length=(Gate.shapeOf l.ss b.os[k].kd).fs.length):=by
  have hob:=hfa.2;have hmd:=hfa.1;refine ⟨?_,hob,Gate.zeE hmd,fun k h=>?_⟩
  ·unfold Gate.zH at hob
   simp only [Bool.and_eq_true,decide_eq_true_eq] at hob;exact hob.1
  ·unfold Gate.zH at hob
   simp only [Bool.and_eq_true,decide_eq_true_eq] at hob;exact Gate.zk2 hmd (List.all_eq_true.1 hob.2.2 _ (List.getElem_mem h))
 have hmk:∀ w:World,(Instr.makeMap 140 none).run Tryz.prog w = .ok (.map (some w.heap.size)) (w.alloc (.map #[] 0)):=fun w=>by kernel_rfl
 clear hb hl hM hs hok hfa hi hzi0 hz1' hz2;go_enter Tryz.func73,Tryz.ntmps73;go_wp2_with fail
 obtain ⟨hA0,hC0⟩:=yh w (.cells #[.slice la l.ss.length lca,.slice lb l.ms.length lcb,.slice lc l.ts.length lcc] 41) (.cells #[.int .i64 b.now,.int .i64 b.tick,.int .i64 b.given,.slice a0 b.os.length c0,.slice a1 b.gs.length c1,.slice a2 b.ls.length c2,.slice a3 b.ps.length c3] 48);have hB0:=zA w (.cells #[.slice la l.ss.length lca,.slice lb l.ms.length lcb,.slice lc l.ts.length lcc] 41) (.cells #[.int .i64 b.now,.int .i64 b.tick,.int .i64 b.given,.slice a0 b.os.length c0,.slice a1 b.gs.length c1,.slice a2 b.ls.length c2,.slice a3 b.ps.length c3] 48);obtain ⟨W0,hW0⟩:∃ W0,W0=(w.alloc (.cells #[.slice la l.ss.length lca,.slice lb l.ms.length lcb,.slice lc l.ts.length lcc] 41)).alloc (.cells #[.int .i64 b.now,.int .i64 b.tick,.int .i64 b.given,.slice a0 b.os.length c0,.slice a1 b.gs.length c1,.slice a2 b.ls.length c2,.slice a3 b.ps.length c3] 48):=⟨_,rfl⟩
 have hz0:w.heap.size+1 < W0.heap.size:=by rw [hW0];simp
 rw [<- hW0] at hA0 hC0 hB0 ⊢;clear hW0;refine (zej a0 c0 b.os _ (HK.out.os.mono hB0) (by have:=HO.out.1;omega)).mono ?_;rintro e w1 ⟨⟨fp,rfl,hfp,hpl⟩,hb1⟩;have hA1:=(hb1.block _ (by omega)).trans hA0;have hC1:=(hb1.block _ hz0).trans hC0;have hz1:=nLt hz0 hb1.size;have hrp:=hfp.lt;have HB1:Hid (Below w.heap.size w w1):=hB0.trans (hb1.mono hB0.size);have cC1:=zaA hC1;have HP1:Hid (zW w1 W0.heap.size fp/\za7 fp b.os b.os.length/\w1.heap[w.heap.size]?=some (.cells #[.slice la l.ss.length lca,.slice lb l.ms.length lcb,.slice lc l.ts.length lcc] 41)/\w1.heap[w.heap.size+1]?=some (.cells #[.int .i64 b.now,.int .i64 b.tick,.int .i64 b.given,.slice a0 b.os.length c0,.slice a1 b.gs.length c1,.slice a2 b.ls.length c2,.slice a3 b.ps.length c3] 48)):=⟨hfp,hpl,hA1,hC1⟩
 clear hb1 hA0 hC0 hB0 hfp hpl hA1 hC1 hz0;have hC4:∀ j,((((w1.alloc (.cells #[.map (some W0.heap.size)] 139)).alloc (.map #[] 0)).alloc (.cells #[.map (some (w1.heap.size+1))] 140)).alloc (.cells #[(.func (.func 116) #[] #[.pointer (some ⟨w1.heap.size+1+1,0,none⟩),.pointer (some ⟨w1.heap.size,0,none⟩),.pointer (some ⟨w.heap.size,0,none⟩),.pointer (some ⟨w.heap.size+1,0,none⟩),.pointer (some ⟨w1.heap.size+1+1+1,0,none⟩)])] 176)).cell? ⟨w.heap.size+1,j,none⟩=(#[.int .i64 b.now,.int .i64 b.tick,.int .i64 b.given,.slice a0 b.os.length c0,.slice a1 b.gs.length c1,.slice a2 b.ls.length c2,.slice a3 b.ps.length c3]:Array Value)[j]?:=fun j=>((zk1 w1 _ _ _ _).cell (p:=⟨w.heap.size+1,j,none⟩) hz1).trans (cC1 j)
 go_wp2_with fail
 clear hC4;obtain ⟨k1,k2,k3,k4⟩:=zqi w1 (.cells #[.map (some W0.heap.size)] 139) (.map #[] 0) (.cells #[.map (some (w1.heap.size+1))] 140) (.cells #[(.func (.func 116) #[] #[.pointer (some ⟨w1.heap.size+1+1,0,none⟩),.pointer (some ⟨w1.heap.size,0,none⟩),.pointer (some ⟨w.heap.size,0,none⟩),.pointer (some ⟨w.heap.size+1,0,none⟩),.pointer (some ⟨w1.heap.size+1+1+1,0,none⟩)])] 176);have hb0:Below w1.heap.size w1 (w1.alloc (.cells #[.map (some W0.heap.size)] 139)):=bAl _ _;have hKM:=qK.new b.os (w1.alloc (.cells #[.map (some W0.heap.size)] 139));have hb5:=zA ((w1.alloc (.cells #[.map (some W0.heap.size)] 139)).alloc (.map #[] 0)) (.cells #[.map (some (w1.heap.size+1))] 140) (.cells #[(.func (.func 116) #[] #[.pointer (some ⟨w1.heap.size+1+1,0,none⟩),.pointer (some ⟨w1.heap.size,0,none⟩),.pointer (some ⟨w.heap.size,0,none⟩),.pointer (some ⟨w.heap.size+1,0,none⟩),.pointer (some ⟨w1.heap.size+1+1+1,0,none⟩)])] 176);have hKM5:=hKM.mono hb5;obtain ⟨w0,hw0⟩:∃ w0,w0=w1.alloc (.cells #[.map (some W0.heap.size)] 139):=⟨_,rfl⟩
 have hrk:w0.heap.size=w1.heap.size+1:=by rw [hw0];simp
 have HBp:Hid (Boxed w0 w1.heap.size 139 (.map (some W0.heap.size))):=by rw [Hid,hw0];exact World.alloc_heap_new w1 _
 have hb05:Below w0.heap.size w0 (((w0.alloc (.map #[] 0)).alloc (.cells #[.map (some (w1.heap.size+1))] 140)).alloc (.cells #[(.func (.func 116) #[] #[.pointer (some ⟨w1.heap.size+1+1,0,none⟩),.pointer (some ⟨w1.heap.size,0,none⟩),.pointer (some ⟨w.heap.size,0,none⟩),.pointer (some ⟨w.heap.size+1,0,none⟩),.pointer (some ⟨w1.heap.size+1+1+1,0,none⟩)])] 176)):=below3' w0 _ _ _;rw [<- hw0] at hb0 hKM hKM5 hb5 k1 k2 k3 k4 ⊢;obtain ⟨W5,hW5⟩:∃ W5,W5=((w0.alloc (.map #[] 0)).alloc (.cells #[.map (some (w1.heap.size+1))] 140)).alloc (.cells #[(.func (.func 116) #[] #[.pointer (some ⟨w1.heap.size+1+1,0,none⟩),.pointer (some ⟨w1.heap.size,0,none⟩),.pointer (some ⟨w.heap.size,0,none⟩),.pointer (some ⟨w.heap.size+1,0,none⟩),.pointer (some ⟨w1.heap.size+1+1+1,0,none⟩)])] 176):=⟨_,rfl⟩
 rw [<- hW5] at hKM5 hb05 k1 k2 k3 k4 ⊢;have hz5:w1.heap.size+1+1+1 < W5.heap.size:=(gES k4).1;clear hW5 hw0 hb5 hKM
 have HKH:Hid (zkV w0 l b la lb lc a0 lca lcb lcc c0 w.heap.size (w.heap.size+1) w1.heap.size W0.heap.size fp):=by
  have hBw0:=HB1.out.trans (hb0.mono HB1.out.size);exact ⟨HL.out.mono hBw0,HK.out.os.mono hBw0,by have:=HO.out.1;omega,(hb0.block _ (by omega)).trans HP1.out.2.2.1,(hb0.cell (p:=⟨w.heap.size+1,3,none⟩) hz1).trans (cell_of_block HP1.out.2.2.2),by omega,HBp.out,HP1.out.1.mono hb0,HP1.out.2.1,HO.out.2.1,HO.out.2.2.1,HO.out.2.2.2⟩
 have HBw:Hid (Below w.heap.size w w0/\Below w0.heap.size w0 W5):=⟨HB1.out.trans (hb0.mono HB1.out.size),hb05⟩
 have HK5:Hid (qK b.os w0.heap.size (fun _=>false) W5/\Boxed W5 (w1.heap.size+1+1) 140 (.map (some (w1.heap.size+1)))/\Boxed W5 (w1.heap.size+1+1+1) 176 (.func (.func 116) #[] #[.pointer (some ⟨w1.heap.size+1+1,0,none⟩),.pointer (some ⟨w1.heap.size,0,none⟩),.pointer (some ⟨w.heap.size,0,none⟩),.pointer (some ⟨w.heap.size+1,0,none⟩),.pointer (some ⟨w1.heap.size+1+1+1,0,none⟩)])):=⟨hKM5,k3,k4⟩
 have hC5:∀ j,W5.cell? ⟨w.heap.size+1,j,none⟩=(#[.int .i64 b.now,.int .i64 b.tick,.int .i64 b.given,.slice a0 b.os.length c0,.slice a1 b.gs.length c1,.slice a2 b.ls.length c2,.slice a3 b.ps.length c3]:Array Value)[j]?:=fun j=>((hb0.trans (hb05.mono hb0.size)).cell (p:=⟨w.heap.size+1,j,none⟩) hz1).trans (cC1 j)
 clear hb0 hb05 hKM5 k1 k2 k3 k4 cC1 HBp HP1 hmk
 go_loopw [23] (fun iv wr=>∃ (k:Nat) (S:Nat->Bool),k<=b.os.length/\iv = .int .i64 k/\Hid (Gate.za3 l b.os s k S/\qK b.os w0.heap.size S wr/\But w0.heap.size W5.heap.size W5 wr)) (fun iv _=>b.os.length - (intOf iv).toNat)
 case atStart=>exact ⟨0,_,Nat.zero_le _,rfl,Gate.za3.start _ _ _,HK5.out.1,But.refl _ _ _⟩
 case round =>
  obtain ⟨k,S,hk,rfl,HJ⟩:=hrel;have hkn:k<=40:=by have:=HO.out.1;omega
  have hr5:w0.heap.size < W5.heap.size:=by omega
  have HBw0r:Hid (Below w0.heap.size w0 wr):=HBw.out.2.trans (HJ.out.2.2.below hr5);have HBr:Hid (Below w.heap.size w wr):=HBw.out.1.trans (HBw0r.out.mono HBw.out.1.size);have HMr:Hid (zW wr r f):=HM.out.1.mono HBr.out;have HbK:Hid (Boxed wr (w1.heap.size+1+1) 140 (.map (some w0.heap.size))):=by rw [hrk];exact HJ.out.2.2.boxed HK5.out.2.1 (by omega) (by omega)
  have HbF:Hid (Boxed wr (w1.heap.size+1+1+1) 176 (.func (.func 116) #[] #[.pointer (some ⟨w1.heap.size+1+1,0,none⟩),.pointer (some ⟨w1.heap.size,0,none⟩),.pointer (some ⟨w.heap.size,0,none⟩),.pointer (some ⟨w.heap.size+1,0,none⟩),.pointer (some ⟨w1.heap.size+1+1+1,0,none⟩)])):=HJ.out.2.2.boxed HK5.out.2.2 hz5 (by omega);have HNr:Hid (wr.heap.size ≠ w0.heap.size/\w1.heap.size+1+1+1 ≠ w0.heap.size):=by have:=HJ.out.2.2.size;exact ⟨by omega,by omega⟩
  by_cases hlt:k < b.os.length
  ·obtain ⟨ob,off,v0,v1,q0,q1,rfl,hob,hsm,hl0,hl1,d0,d1,d2,d3,d4,d5,d6⟩:=HK.out.os.load HBr.out k hlt
   have hltI:(k:Int) < (b.os.length:Int):=by omega
   have hob':ob < wr.heap.size:=nLt hob HBr.out.size;have HSm:Hid b.os[k].Small:=hsm;clear hsm hl0 hl1
   by_cases hen:s.getD k false=true
   ·have HEn:Hid ((f b.os[k].kd b.os[k].nm).isSome=true):=(HM.out.2.at_ k hlt).trans hen
    by_cases hhs:b.os[k].hs.length=0
    ·have HRt:Hid (¬ Gate.zfw b.os s k):=fun ⟨_,h⟩=>h.elim (fun h=>by rw [hen] at h;cases h) (fun h=>by omega)
     have hh:¬ 0 < b.os[k].hs.length:=by omega
     clear hen hhs;go_wp2_with fail
     refine (ji b.os[k] v0 v1 q0 q1 _).mono ?_;rintro e w3 ⟨rfl,hb3⟩;have hO3:=za (zm wr #[.string b.os[k].kd,.string b.os[k].nm,.string b.os[k].tm,.slice v0 b.os[k].vs.length q0,.bool b.os[k].en,.slice v1 b.os[k].hs.length q1,.int .i64 b.os[k].vr] 119) (by simp) hb3;have hz3:wr.heap.size < w3.heap.size:=nLt (by simp) hb3.size;have HB3:Hid (Below wr.heap.size wr w3):=(bAl _ _).trans (hb3.mono (by simp));clear hb3;go_wp2_with fail
     refine (zf HEn.out (zeZ r f b.os[k].kd b.os[k].nm _ ((HMr.out).mono HB3.out) HSm.out.kd HSm.out.nm)).mono ?_;rintro e w4 ⟨rfl,hb4⟩;have hO4:=za hO3 hz3 hb4;have hz4:=nLt hz3 hb4.size;have HB4:Hid (Below wr.heap.size wr w4):=HB3.out.trans (hb4.mono HB3.out.size);clear hb4 hO3 hz3;go_wp2_with fail
     exact ⟨⟨k+1,S,by omega,by go_num,HJ.out.1.skip HRt.out,HJ.out.2.1.mono HB4.out,HJ.out.2.2.trans (But.of_below (HB4.out.mono HJ.out.2.2.size))⟩,zn hlt⟩
    ·have HRt:Hid (Gate.zfw b.os s k):=⟨hlt,.inr (by omega)⟩
     have hh':0 < b.os[k].hs.length:=by omega
     clear hen hhs;go_wp2_with fail
     refine (ji b.os[k] v0 v1 q0 q1 _).mono ?_;rintro e w3 ⟨rfl,hb3⟩;have hO3:=za (zm wr #[.string b.os[k].kd,.string b.os[k].nm,.string b.os[k].tm,.slice v0 b.os[k].vs.length q0,.bool b.os[k].en,.slice v1 b.os[k].hs.length q1,.int .i64 b.os[k].vr] 119) (by simp) hb3;have hz3:wr.heap.size < w3.heap.size:=nLt (by simp) hb3.size;have HB3:Hid (Below wr.heap.size wr w3):=(bAl _ _).trans (hb3.mono (by simp));clear hb3;go_wp2_with fail
     refine (zf HEn.out (zeZ r f b.os[k].kd b.os[k].nm _ ((HMr.out).mono HB3.out) HSm.out.kd HSm.out.nm)).mono ?_;rintro e w4 ⟨rfl,hb4⟩;have hO4:=za hO3 hz3 hb4;have hz4:=nLt hz3 hb4.size;have HB4:Hid (Below wr.heap.size wr w4):=HB3.out.trans (hb4.mono HB3.out.size);clear hb4 hO3 hz3;go_wp2_with fail
     have hcall:=zmd w0 l b la lb lc _ lca lcb lcc c0 w.heap.size (w.heap.size+1) w1.heap.size W0.heap.size fp HKH.out (w1.heap.size+1+1) (w1.heap.size+1+1+1) (by omega) (by omega) (Gate.lacks S b.os.length+1) S k hlt
     have HCall:Hid (∀ W,Below w4.heap.size w4 W->Calls Tryz.prog 116 #[qj b.os[k].kd b.os[k].nm,.pointer (some ⟨w1.heap.size+1+1,0,none⟩),.pointer (some ⟨w1.heap.size,0,none⟩),.pointer (some ⟨w.heap.size,0,none⟩),.pointer (some ⟨w.heap.size+1,0,none⟩),.pointer (some ⟨w1.heap.size+1+1+1,0,none⟩)] W
      fun e w'=>e = .returned (.tuple #[])/\(∃ S',qK b.os w0.heap.size S' w'/\Gate.Keeps l b.os (·=k) S S'/\S' k=true)/\But w0.heap.size W.heap.size W w'):=fun W hW =>
      hcall W (Nat.lt_succ_self _) (HBw0r.out.trans ((HB4.out.trans (hW.mono HB4.out.size)).mono HBw0r.out.size)) (HJ.out.2.1.mono (HB4.out.trans (hW.mono HB4.out.size))) (((HB4.out.trans (hW.mono HB4.out.size)).block _ HbK.out.lt).trans HbK.out) (((HB4.out.trans (hW.mono HB4.out.size)).block _ HbF.out.lt).trans HbF.out)
     clear hcall;have cF4:w4.drew.cell? ⟨w1.heap.size+1+1+1,0,none⟩=some (.func (.func 116) #[] #[.pointer (some ⟨w1.heap.size+1+1,0,none⟩),.pointer (some ⟨w1.heap.size,0,none⟩),.pointer (some ⟨w.heap.size,0,none⟩),.pointer (some ⟨w.heap.size+1,0,none⟩),.pointer (some ⟨w1.heap.size+1+1+1,0,none⟩)]):=(HB4.out.cell (p:=⟨w1.heap.size+1+1+1,0,none⟩) HbF.out.lt).trans HbF.out.cell;have hO:=za hO4 hz4 (bRf w4.heap.size w4).drew;have hzO:wr.heap.size < w4.drew.heap.size:=hz4;have hzF:w1.heap.size+1+1+1 < w4.drew.heap.size:=nLt HbF.out.lt HB4.out.size;have hB:=(bRf w4.heap.size w4).drew;clear hO4 hz4;unfold qj at HCall
     go_region_held3 (fun w'=>(∀ j,w'.cell? ⟨wr.heap.size,j,none⟩=(#[.string b.os[k].kd,.string b.os[k].nm,.string b.os[k].tm,.slice v0 b.os[k].vs.length q0,.bool b.os[k].en,.slice v1 b.os[k].hs.length q1,.int .i64 b.os[k].vr]:Array Value)[j]?)/\w'.cell? ⟨w1.heap.size+1+1+1,0,none⟩=some (.func (.func 116) #[] #[.pointer (some ⟨w1.heap.size+1+1,0,none⟩),.pointer (some ⟨w1.heap.size,0,none⟩),.pointer (some ⟨w.heap.size,0,none⟩),.pointer (some ⟨w.heap.size+1,0,none⟩),.pointer (some ⟨w1.heap.size+1+1+1,0,none⟩)])) (exact ⟨hO,cF4⟩) (first
      | (go_at_call 119;refine (ji b.os[k] v0 v1 q0 q1 _).mono ?_;rintro e w5 ⟨rfl,hb⟩;have hO:=za hO hzO hb;have cF4:=(hb.cell (p:=⟨w1.heap.size+1+1+1,0,none⟩) hzF).trans cF4;have hB:=hB.trans (hb.mono hB.size);have hzO:=nLt hzO hb.size;have hzF:=nLt hzF hb.size;clear hb)
      | (go_at_call 116;refine (HCall.out _ (by exact hB)).mono ?_;rintro e w6 ⟨rfl,hS6,hbut⟩;have hO:∀ j,w6.cell? ⟨wr.heap.size,j,none⟩=(#[.string b.os[k].kd,.string b.os[k].nm,.string b.os[k].tm,.slice v0 b.os[k].vs.length q0,.bool b.os[k].en,.slice v1 b.os[k].hs.length q1,.int .i64 b.os[k].vr]:Array Value)[j]?:=fun j=>(World.cell?_of_block (hbut.block _ hzO (by exact HNr.out.1))).trans (hO j);have cF4:=(World.cell?_of_block (a:=⟨w1.heap.size+1+1+1,0,none⟩) (hbut.block _ hzF (by exact HNr.out.2))).trans cF4;have HS6:Hid ((∃ S',qK b.os w0.heap.size S' w6/\Gate.Keeps l b.os (·=k) S S'/\S' k=true)/\But w0.heap.size wr.heap.size wr w6):=⟨hS6,(But.of_below (HB4.out.trans (hB.mono HB4.out.size))).trans (hbut.mono (HB4.out.trans (hB.mono HB4.out.size)).size)⟩;clear hS6 hbut))
     obtain ⟨⟨S',hk',hkp,hS'⟩,hbt⟩:=HS6.out;have HNx:Hid (Gate.za3 l b.os s (k+1) S'/\qK b.os w0.heap.size S' w6/\But w0.heap.size W5.heap.size W5 w6):=⟨HJ.out.1.next HRt.out hkp hS',hk',HJ.out.2.2.trans (hbt.mono HJ.out.2.2.size)⟩
     clear hk' hkp hS' hbt;go_wp2_with fail
     exact ⟨⟨k+1,S',by omega,by go_num,HNx.out⟩,zn hlt⟩
   ·have HEn:Hid ((f b.os[k].kd b.os[k].nm).isSome=false):=(HM.out.2.at_ k hlt).trans (by simpa using hen)
    have HRt:Hid (Gate.zfw b.os s k):=⟨hlt,.inl (by simpa using hen)⟩
    clear hen;go_wp2_with fail
    refine (ji b.os[k] v0 v1 q0 q1 _).mono ?_;rintro e w3 ⟨rfl,hb3⟩;have hO3:=za (zm wr #[.string b.os[k].kd,.string b.os[k].nm,.string b.os[k].tm,.slice v0 b.os[k].vs.length q0,.bool b.os[k].en,.slice v1 b.os[k].hs.length q1,.int .i64 b.os[k].vr] 119) (by simp) hb3;have hz3:wr.heap.size < w3.heap.size:=nLt (by simp) hb3.size;have HB3:Hid (Below wr.heap.size wr w3):=(bAl _ _).trans (hb3.mono (by simp));clear hb3;go_wp2_with fail
    refine (zf HEn.out (zeZ r f b.os[k].kd b.os[k].nm _ ((HMr.out).mono HB3.out) HSm.out.kd HSm.out.nm)).mono ?_;rintro e w4 ⟨rfl,hb4⟩;have hO4:=za hO3 hz3 hb4;have hz4:=nLt hz3 hb4.size;have HB4:Hid (Below wr.heap.size wr w4):=HB3.out.trans (hb4.mono HB3.out.size);clear hb4 hO3 hz3;go_wp2_with fail
    have hcall:=zmd w0 l b la lb lc _ lca lcb lcc c0 w.heap.size (w.heap.size+1) w1.heap.size W0.heap.size fp HKH.out (w1.heap.size+1+1) (w1.heap.size+1+1+1) (by omega) (by omega) (Gate.lacks S b.os.length+1) S k hlt
    have HCall:Hid (∀ W,Below w4.heap.size w4 W->Calls Tryz.prog 116 #[qj b.os[k].kd b.os[k].nm,.pointer (some ⟨w1.heap.size+1+1,0,none⟩),.pointer (some ⟨w1.heap.size,0,none⟩),.pointer (some ⟨w.heap.size,0,none⟩),.pointer (some ⟨w.heap.size+1,0,none⟩),.pointer (some ⟨w1.heap.size+1+1+1,0,none⟩)] W
     fun e w'=>e = .returned (.tuple #[])/\(∃ S',qK b.os w0.heap.size S' w'/\Gate.Keeps l b.os (·=k) S S'/\S' k=true)/\But w0.heap.size W.heap.size W w'):=fun W hW =>
     hcall W (Nat.lt_succ_self _) (HBw0r.out.trans ((HB4.out.trans (hW.mono HB4.out.size)).mono HBw0r.out.size)) (HJ.out.2.1.mono (HB4.out.trans (hW.mono HB4.out.size))) (((HB4.out.trans (hW.mono HB4.out.size)).block _ HbK.out.lt).trans HbK.out) (((HB4.out.trans (hW.mono HB4.out.size)).block _ HbF.out.lt).trans HbF.out)
    clear hcall;have cF4:w4.drew.cell? ⟨w1.heap.size+1+1+1,0,none⟩=some (.func (.func 116) #[] #[.pointer (some ⟨w1.heap.size+1+1,0,none⟩),.pointer (some ⟨w1.heap.size,0,none⟩),.pointer (some ⟨w.heap.size,0,none⟩),.pointer (some ⟨w.heap.size+1,0,none⟩),.pointer (some ⟨w1.heap.size+1+1+1,0,none⟩)]):=(HB4.out.cell (p:=⟨w1.heap.size+1+1+1,0,none⟩) HbF.out.lt).trans HbF.out.cell;have hO:=za hO4 hz4 (bRf w4.heap.size w4).drew;have hzO:wr.heap.size < w4.drew.heap.size:=hz4;have hzF:w1.heap.size+1+1+1 < w4.drew.heap.size:=nLt HbF.out.lt HB4.out.size;have hB:=(bRf w4.heap.size w4).drew;clear hO4 hz4;unfold qj at HCall
    go_region_held3 (fun w'=>(∀ j,w'.cell? ⟨wr.heap.size,j,none⟩=(#[.string b.os[k].kd,.string b.os[k].nm,.string b.os[k].tm,.slice v0 b.os[k].vs.length q0,.bool b.os[k].en,.slice v1 b.os[k].hs.length q1,.int .i64 b.os[k].vr]:Array Value)[j]?)/\w'.cell? ⟨w1.heap.size+1+1+1,0,none⟩=some (.func (.func 116) #[] #[.pointer (some ⟨w1.heap.size+1+1,0,none⟩),.pointer (some ⟨w1.heap.size,0,none⟩),.pointer (some ⟨w.heap.size,0,none⟩),.pointer (some ⟨w.heap.size+1,0,none⟩),.pointer (some ⟨w1.heap.size+1+1+1,0,none⟩)])) (exact ⟨hO,cF4⟩) (first
     | (go_at_call 119;refine (ji b.os[k] v0 v1 q0 q1 _).mono ?_;rintro e w5 ⟨rfl,hb⟩;have hO:=za hO hzO hb;have cF4:=(hb.cell (p:=⟨w1.heap.size+1+1+1,0,none⟩) hzF).trans cF4;have hB:=hB.trans (hb.mono hB.size);have hzO:=nLt hzO hb.size;have hzF:=nLt hzF hb.size;clear hb)
     | (go_at_call 116;refine (HCall.out _ (by exact hB)).mono ?_;rintro e w6 ⟨rfl,hS6,hbut⟩;have hO:∀ j,w6.cell? ⟨wr.heap.size,j,none⟩=(#[.string b.os[k].kd,.string b.os[k].nm,.string b.os[k].tm,.slice v0 b.os[k].vs.length q0,.bool b.os[k].en,.slice v1 b.os[k].hs.length q1,.int .i64 b.os[k].vr]:Array Value)[j]?:=fun j=>(World.cell?_of_block (hbut.block _ hzO (by exact HNr.out.1))).trans (hO j);have cF4:=(World.cell?_of_block (a:=⟨w1.heap.size+1+1+1,0,none⟩) (hbut.block _ hzF (by exact HNr.out.2))).trans cF4;have HS6:Hid ((∃ S',qK b.os w0.heap.size S' w6/\Gate.Keeps l b.os (·=k) S S'/\S' k=true)/\But w0.heap.size wr.heap.size wr w6):=⟨hS6,(But.of_below (HB4.out.trans (hB.mono HB4.out.size))).trans (hbut.mono (HB4.out.trans (hB.mono HB4.out.size)).size)⟩;clear hS6 hbut))
    obtain ⟨⟨S',hk',hkp,hS'⟩,hbt⟩:=HS6.out;have HNx:Hid (Gate.za3 l b.os s (k+1) S'/\qK b.os w0.heap.size S' w6/\But w0.heap.size W5.heap.size W5 w6):=⟨HJ.out.1.next HRt.out hkp hS',hk',HJ.out.2.2.trans (hbt.mono HJ.out.2.2.size)⟩
    clear hk' hkp hS' hbt;go_wp2_with fail
    exact ⟨⟨k+1,S',by omega,by go_num,HNx.out⟩,zn hlt⟩
  ·have e:k=b.os.length:=by omega
   subst e;have hC6:∀ j,wr.cell? ⟨w.heap.size+1,j,none⟩=(#[.int .i64 b.now,.int .i64 b.tick,.int .i64 b.given,.slice a0 b.os.length c0,.slice a1 b.gs.length c1,.slice a2 b.ls.length c2,.slice a3 b.ps.length c3]:Array Value)[j]?:=fun j=>(World.cell?_of_block (a:=⟨w.heap.size+1,j,none⟩) (HJ.out.2.2.block (w.heap.size+1) (by omega) (by omega))).trans (hC5 j)
   have hz6:w.heap.size+1 < wr.heap.size:=by have:=HJ.out.2.2.size;omega
   have cK6:=HbK.out.cell;have hzK6:=HbK.out.lt;have HPt:Hid (∀ k (h:k < b.os.length),(Gate.greatest l b.os s).getD k false=!S k):=fun k h=>HJ.out.1.part HM.out.2.len k h
   have HPl:Hid ((Gate.greatest l b.os s).length=b.os.length):=(Gate.zbl _ _ _).trans HM.out.2.len;have HKS:Hid (qK b.os w0.heap.size S wr/\Below w.heap.size w wr):=⟨HJ.out.2.1,HBr.out⟩
   obtain ⟨W6,hW6⟩:∃ W6,W6=wr:=⟨_,rfl⟩
   rw [<- hW6] at hC6 hz6 cK6 hzK6 HKS ⊢;clear hW6 HJ HMr HbF hC5 HBw0r hrk;go_wp2_with fail
   go_loopw [12,46] (fun v0 iv wr=>∃ (k:Nat) (v:Value),v=v0/\k<=b.os.length/\iv = .int .i64 k/\Hid (wr.ownsRow W6.heap.size 3 1 v (Gate.yK (Gate.greatest l b.os s) k).length (ints (Gate.yK (Gate.greatest l b.os s) k))/\Below W6.heap.size W6 wr)) (fun _ iv _=>b.os.length - (intOf iv).toNat)
   case atStart=>exact ⟨0,_,rfl,Nat.zero_le _,rfl,World.ownsRow_nil _ _ _ _,bRf _ _⟩
   case round =>
    obtain ⟨k,v,hv,hk,rfl,HQ⟩:=hrel;subst hv;have hkn:k<=40:=by have:=HO.out.1;omega
    have HBr:Hid (Below w.heap.size w wr):=HKS.out.2.trans (HQ.out.2.mono HKS.out.2.size)
    by_cases hlt:k < b.os.length
    ·obtain ⟨ob,off,v0,v1,q0,q1,rfl,hob,hsm,hl0,hl1,d0,d1,d2,d3,d4,d5,d6⟩:=HK.out.os.load HBr.out k hlt
     have hltI:(k:Int) < (b.os.length:Int):=by omega
     have hob':ob < wr.heap.size:=nLt hob HBr.out.size;have HSm:Hid b.os[k].Small:=hsm;obtain ⟨fk,hfk,hfS⟩:=HKS.out.1;have HFk:Hid (zW wr w0.heap.size fk/\(fk b.os[k].kd b.os[k].nm).isSome=S k):=⟨hfk.mono HQ.out.2,hfS k hlt⟩
     have cKr:=(HQ.out.2.cell (p:=⟨w1.heap.size+1+1,0,none⟩) hzK6).trans cK6;have hzKr:=nLt hzK6 HQ.out.2.size;have HLL:Hid ((Gate.yK (Gate.greatest l b.os s) k).length<=40):=by have:=Gate.zcY (Gate.greatest l b.os s) k;show _<=_;omega
     have hpt:=HPt.out k hlt;have hgl:k < (Gate.greatest l b.os s).length:=by rw [HPl.out];exact hlt
     have hgk:(Gate.greatest l b.os s)[k]=!S k:=by rw [<- hpt];simp [List.getElem?_eq_getElem hgl]
     clear hsm hl0 hl1 hfk hfS hpt;go_wp2_with fail
     have hO:=za (zm wr #[.string b.os[k].kd,.string b.os[k].nm,.string b.os[k].tm,.slice v0 b.os[k].vs.length q0,.bool b.os[k].en,.slice v1 b.os[k].hs.length q1,.int .i64 b.os[k].vr] 119) (by simp) (bRf _ (wr.alloc (.cells #[.string b.os[k].kd,.string b.os[k].nm,.string b.os[k].tm,.slice v0 b.os[k].vs.length q0,.bool b.os[k].en,.slice v1 b.os[k].hs.length q1,.int .i64 b.os[k].vr] 119))).drew;have hBo:Below wr.heap.size wr (wr.alloc (.cells #[.string b.os[k].kd,.string b.os[k].nm,.string b.os[k].tm,.slice v0 b.os[k].vs.length q0,.bool b.os[k].en,.slice v1 b.os[k].hs.length q1,.int .i64 b.os[k].vr] 119)).drew:=(bAl _ _).drew;obtain ⟨W7,hW7⟩:∃ W7,W7=wr.alloc (.cells #[.string b.os[k].kd,.string b.os[k].nm,.string b.os[k].tm,.slice v0 b.os[k].vs.length q0,.bool b.os[k].en,.slice v1 b.os[k].hs.length q1,.int .i64 b.os[k].vr] 119):=⟨_,rfl⟩
     have hzO:wr.heap.size < W7.drew.heap.size:=by rw [hW7];show wr.heap.size < (wr.alloc (.cells #[.string b.os[k].kd,.string b.os[k].nm,.string b.os[k].tm,.slice v0 b.os[k].vs.length q0,.bool b.os[k].en,.slice v1 b.os[k].hs.length q1,.int .i64 b.os[k].vr] 119)).heap.size;simp
     rw [<- hW7] at hO hBo ⊢;clear hW7 d0 d1 d2 d3 d4 d5 d6;have hB:=hBo;have cK:=(hBo.cell (p:=⟨w1.heap.size+1+1,0,none⟩) hzKr).trans cKr;have hzK:w1.heap.size+1+1 < W7.drew.heap.size:=nLt hzKr hBo.size;clear hBo cKr
     cases hSk:S k with
     | true =>
      rw [hSk] at hgk HFk;have HS:Hid (Gate.yK (Gate.greatest l b.os s) (k+1)=Gate.yK (Gate.greatest l b.os s) k):=Gate.zhM hgl hgk;clear hgk hgl hSk cK6 hC6
      go_region_held3 (fun w'=>(∀ j,w'.cell? ⟨wr.heap.size,j,none⟩=(#[.string b.os[k].kd,.string b.os[k].nm,.string b.os[k].tm,.slice v0 b.os[k].vs.length q0,.bool b.os[k].en,.slice v1 b.os[k].hs.length q1,.int .i64 b.os[k].vr]:Array Value)[j]?)/\w'.cell? ⟨w1.heap.size+1+1,0,none⟩=some (.map (some w0.heap.size))) (exact ⟨hO,cK⟩) (first
       | (go_at_call 119;refine (ji b.os[k] v0 v1 q0 q1 _).mono ?_;rintro e w5 ⟨rfl,hb⟩;have hO:=za hO hzO hb;have cK:=(hb.cell (p:=⟨w1.heap.size+1+1,0,none⟩) hzK).trans cK;have hB:=hB.trans (hb.mono hB.size);have hzO:=nLt hzO hb.size;have hzK:=nLt hzK hb.size;clear hb)
       | (go_at_call 117;refine (zf HFk.out.2 (zeZ w0.heap.size fk b.os[k].kd b.os[k].nm _ (by exact HFk.out.1.mono hB) HSm.out.kd HSm.out.nm)).mono ?_;rintro e w6 ⟨rfl,hb⟩;have hO:=za hO hzO hb;have cK:=(hb.cell (p:=⟨w1.heap.size+1+1,0,none⟩) hzK).trans cK;have hB:=hB.trans (hb.mono hB.size);have hzO:=nLt hzO hb.size;have hzK:=nLt hzK hb.size;clear hb))
      go_wp2_with fail
      exact ⟨⟨k+1,_,rfl,by omega,by go_num,by rw [HS.out];exact yO HQ.out.1 hB,HQ.out.2.trans (hB.mono HQ.out.2.size)⟩,zn hlt⟩
     | false =>
      rw [hSk] at hgk HFk;have HS:Hid (Gate.yK (Gate.greatest l b.os s) (k+1)=Gate.yK (Gate.greatest l b.os s) k ++ [(k:Int)]):=Gate.zfE hgl hgk;clear hgk hgl hSk cK6 hC6
      go_region_held3 (fun w'=>(∀ j,w'.cell? ⟨wr.heap.size,j,none⟩=(#[.string b.os[k].kd,.string b.os[k].nm,.string b.os[k].tm,.slice v0 b.os[k].vs.length q0,.bool b.os[k].en,.slice v1 b.os[k].hs.length q1,.int .i64 b.os[k].vr]:Array Value)[j]?)/\w'.cell? ⟨w1.heap.size+1+1,0,none⟩=some (.map (some w0.heap.size))) (exact ⟨hO,cK⟩) (first
       | (go_at_call 119;refine (ji b.os[k] v0 v1 q0 q1 _).mono ?_;rintro e w5 ⟨rfl,hb⟩;have hO:=za hO hzO hb;have cK:=(hb.cell (p:=⟨w1.heap.size+1+1,0,none⟩) hzK).trans cK;have hB:=hB.trans (hb.mono hB.size);have hzO:=nLt hzO hb.size;have hzK:=nLt hzK hb.size;clear hb)
       | (go_at_call 117;refine (zf HFk.out.2 (zeZ w0.heap.size fk b.os[k].kd b.os[k].nm _ (by exact HFk.out.1.mono hB) HSm.out.kd HSm.out.nm)).mono ?_;rintro e w6 ⟨rfl,hb⟩;have hO:=za hO hzO hb;have cK:=(hb.cell (p:=⟨w1.heap.size+1+1,0,none⟩) hzK).trans cK;have hB:=hB.trans (hb.mono hB.size);have hzO:=nLt hzO hb.size;have hzK:=nLt hzK hb.size;clear hb))
      have HQ3:Hid (w6.ownsRow W6.heap.size 3 1 v (Gate.yK (Gate.greatest l b.os s) k).length (ints (Gate.yK (Gate.greatest l b.os s) k))/\Below W6.heap.size W6 w6):=⟨yO HQ.out.1 hB,HQ.out.2.trans (hB.mono HQ.out.2.size)⟩
      go_wp2_with (at_builtin;refine wpList_append_own _ rfl (.tmp 56) (.tmp 58) 35 rfl W6.heap.size 3 i0 (.int .i64 0) 1 8 Tryz.underlying35 HI0.out.1 HI0.out.2.1 HI0.out.2.2.1 HI0.out.2.2.2 rfl (by decide) _ _ _ rfl (HQ3.out.1.alloc _) ⟨w6.heap.size,0,none⟩ 1 1 [.int .i64 (k:Int)] rfl rfl (zca _ _ _) (by intro u hu;simp at hu;subst hu;rfl) (by have:=HLL.out;unfold maxLen;omega) (by have:=HLL.out;omega) (by have:=HQ3.out.2.size;simp;omega) ?_;intro v' w8 hown' hgr _)
      have hgb:∀ g',v.ownBlock=some g'->W6.heap.size<=g':=fun g' hg'=>(HQ3.out.1.lt g' hg').1
      refine ⟨⟨k+1,_,rfl,by omega,by go_num,?_,zaQ HQ3.out.2 HQ3.out.2.size hgr hgb⟩,zn hlt⟩;rw [HS.out,List.length_append];have e1:ints (Gate.yK (Gate.greatest l b.os s) k ++ [(k:Int)])=ints (Gate.yK (Gate.greatest l b.os s) k) ++ [.int .i64 (k:Int)]:=by simp [ints]
      rw [e1];exact hown'
    ·have e:k=b.os.length:=by omega
     subst e
     have HW:Hid (wr.ownsRow w.heap.size 3 1 v (Gate.places (Gate.greatest l b.os s)).length (ints (Gate.places (Gate.greatest l b.os s)))/\Below w.heap.size w wr):=by
      unfold Gate.places;rw [HPl.out];exact ⟨j3 HQ.out.1 HKS.out.2.size,HBr.out⟩
     clear HQ hlt hk hC6;go_wp2_with fail
     go_ret;exact ⟨v,rfl,HW.out⟩
end Go.Proofs.YtghnakljnhnenaaGreat
namespace Go.Proofs.YtghnakljnhnenaaGreat
open Go.RowKit
theorem zoy {f:ByteArray->ByteArray->Option Int} {l:Lw} {b:Bk} (h:zbZ f b.os b.os.length) (hok:Gate.zH l b=true):zlC f b.os (Gate.endings b.os):=by
 refine ⟨by simp [Gate.endings],fun j hj=>?_⟩;rw [h,tOl (Nat.le_refl _)];have e:(Gate.endings b.os).getD j false=b.os[j].en:=by simp [Gate.endings,hj]
 rw [e,Bool.eq_iff_iff,List.any_eq_true]
 constructor
 ·rintro ⟨o,ho,h2⟩
  obtain ⟨i,hi,rfl⟩:=List.mem_iff_getElem.1 ho;unfold Gate.jL at h2;simp only [Bool.and_eq_true,decide_eq_true_eq] at h2
  have:=zeX.of hok i j hi hj h2.2.1 h2.2.2
  subst this;exact h2.1
 ·intro h2
  exact ⟨b.os[j],List.getElem_mem hj,by simp [h2,Gate.jL]⟩
theorem zoL (l:Lw) (la lb lc:Option Addr) (lca lcb lcc:Nat) (b:Bk) (a0 a1 a2 a3:Option Addr) (c0 c1 c2 c3:Nat) (w:World) (hl:y9 w l la lb lc) (hb:y7 w b a0 a1 a2 a3) (hok:Gate.jN l b=true) :
 Calls Tryz.prog 36 #[.agg #[.slice la l.ss.length lca,.slice lb l.ms.length lcb,.slice lc l.ts.length lcc],.agg #[.int .i64 b.now,.int .i64 b.tick,.int .i64 b.given,.slice a0 b.os.length c0,.slice a1 b.gs.length c1,.slice a2 b.ls.length c2,.slice a3 b.ps.length c3]] w fun e w'=>∃ v,e = .returned v/\w'.ownsRow w.heap.size 3 1 v (Gate.zeH l b.os).length (ints (Gate.zeH l b.os))/\Below w.heap.size w w':=by
 have HK:Hid (y7 w b a0 a1 a2 a3):=hb;have HL:Hid (y9 w l la lb lc):=hl;have HO:Hid (Gate.jN l b=true/\Gate.zH l b=true):=⟨hok,(book_facts hok).2⟩
 have HN:Hid (b.os.length<=1048576):=by
  have h:=HO.out.2;unfold Gate.zH at h;simp only [Bool.and_eq_true,decide_eq_true_eq] at h
  show _<=_
  omega
 clear hb hl hok;go_enter Tryz.func36,Tryz.ntmps36;go_wp2_with fail
 obtain ⟨hL0,hX0⟩:=qw w #[.slice la l.ss.length lca,.slice lb l.ms.length lcb,.slice lc l.ts.length lcc] #[.int .i64 b.now,.int .i64 b.tick,.int .i64 b.given,.slice a0 b.os.length c0,.slice a1 b.gs.length c1,.slice a2 b.ls.length c2,.slice a3 b.ps.length c3] 41 48;have hB0:=zA w (.cells #[.slice la l.ss.length lca,.slice lb l.ms.length lcb,.slice lc l.ts.length lcc] 41) (.cells #[.int .i64 b.now,.int .i64 b.tick,.int .i64 b.given,.slice a0 b.os.length c0,.slice a1 b.gs.length c1,.slice a2 b.ls.length c2,.slice a3 b.ps.length c3] 48);obtain ⟨W0,hW0⟩:∃ W0,W0=(w.alloc (.cells #[.slice la l.ss.length lca,.slice lb l.ms.length lcb,.slice lc l.ts.length lcc] 41)).alloc (.cells #[.int .i64 b.now,.int .i64 b.tick,.int .i64 b.given,.slice a0 b.os.length c0,.slice a1 b.gs.length c1,.slice a2 b.ls.length c2,.slice a3 b.ps.length c3] 48):=⟨_,rfl⟩
 have hz0:w.heap.size+1 < W0.heap.size:=by rw [hW0];simp
 rw [<- hW0] at hL0 hX0 hB0 ⊢;clear hW0;have hL:=za hL0 (nSl hz0) (bRf W0.heap.size W0).drew;have hX:=za hX0 hz0 (bRf W0.heap.size W0).drew;have hz:w.heap.size+1 < W0.drew.heap.size:=hz0;have hB:=hB0.drew;clear hL0 hX0 hz0 hB0
 go_region_held3 (fun w'=>(∀ j,w'.cell? ⟨w.heap.size,j,none⟩=(#[.slice la l.ss.length lca,.slice lb l.ms.length lcb,.slice lc l.ts.length lcc]:Array Value)[j]?)/\∀ j,w'.cell? ⟨w.heap.size+1,j,none⟩=(#[.int .i64 b.now,.int .i64 b.tick,.int .i64 b.given,.slice a0 b.os.length c0,.slice a1 b.gs.length c1,.slice a2 b.ls.length c2,.slice a3 b.ps.length c3]:Array Value)[j]?) (exact ⟨hL,hX⟩) (first
  | (go_at_call 74;refine (zkd b a0 a1 a2 a3 c0 c1 c2 c3 _ (by exact HK.out.mono hB) HN.out).mono ?_;rintro e w1 ⟨⟨r,f,rfl,hr,hf,hef⟩,hb⟩;have hL:=za hL (nSl hz) hb;have hX:=za hX hz hb;have hB:=hB.trans (hb.mono hB.size);have hz:=nLt hz hb.size;clear hb)
  | (go_at_call 73;refine (zoS l la lb lc lca lcb lcc b a0 a1 a2 a3 c0 c1 c2 c3 r f (Gate.endings b.os) _ (by exact HL.out.mono hB) (by exact HK.out.mono hB) (by exact hf) (zoy hef HO.out.2) HO.out.1).mono ?_;rintro e w2 ⟨v,rfl,hv,hb⟩;have HV:Hid (w2.ownsRow w.heap.size 3 1 v (Gate.zeH l b.os).length (ints (Gate.zeH l b.os))/\Below w.heap.size w w2):=⟨j3 hv hB.size,hB.trans (hb.mono hB.size)⟩;have hL:=za hL (nSl hz) hb;have hX:=za hX hz hb;clear hb hv))
 go_wp2_with fail
 go_ret;exact ⟨v,rfl,HV.out⟩
set_option maxRecDepth 20000 in
theorem zfe (l:Lw) (la lb lc:Option Addr) (lca lcb lcc:Nat) (b:Bk) (a0 a1 a2 a3:Option Addr) (c0 c1 c2 c3:Nat) (w:World) (hl:y9 w l la lb lc) (hb:y7 w b a0 a1 a2 a3) (hlf:l.Few) (hbf:b.Few) (hz:qF b.os<=1048576) :
 Calls Tryz.prog 9 #[.agg (l.cells la lb lc lca lcb lcc),.agg (b.cells a0 a1 a2 a3 c0 c1 c2 c3)] w fun e w'=>∃ v,e = .returned v/\w'.ownsRow w.heap.size 3 1 v (Gate.zaY l b).length (ints (Gate.zaY l b))/\Below w.heap.size w w':=by
 have HK:Hid (y7 w b a0 a1 a2 a3):=hb;have HL:Hid (y9 w l la lb lc):=hl;have HF:Hid (l.Few/\b.Few/\qF b.os<=1048576):=⟨hlf,hbf,hz⟩
 clear hb hl hlf hbf hz;unfold Lw.cells Bk.cells;go_enter Tryz.func9,Tryz.ntmps9;go_wp2_with fail
 obtain ⟨hL0,hX0⟩:=qw w #[.slice la l.ss.length lca,.slice lb l.ms.length lcb,.slice lc l.ts.length lcc] #[.int .i64 b.now,.int .i64 b.tick,.int .i64 b.given,.slice a0 b.os.length c0,.slice a1 b.gs.length c1,.slice a2 b.ls.length c2,.slice a3 b.ps.length c3] 41 48;have HBi:Hid (Below w.heap.size w ((w.alloc (.cells #[.slice la l.ss.length lca,.slice lb l.ms.length lcb,.slice lc l.ts.length lcc] 41)).alloc (.cells #[.int .i64 b.now,.int .i64 b.tick,.int .i64 b.given,.slice a0 b.os.length c0,.slice a1 b.gs.length c1,.slice a2 b.ls.length c2,.slice a3 b.ps.length c3] 48))):=zA w _ _;obtain ⟨W0,hW0⟩:∃ W0,W0=(w.alloc (.cells #[.slice la l.ss.length lca,.slice lb l.ms.length lcb,.slice lc l.ts.length lcc] 41)).alloc (.cells #[.int .i64 b.now,.int .i64 b.tick,.int .i64 b.given,.slice a0 b.os.length c0,.slice a1 b.gs.length c1,.slice a2 b.ls.length c2,.slice a3 b.ps.length c3] 48):=⟨_,rfl⟩
 have hz0:w.heap.size+1 < W0.heap.size:=by rw [hW0];simp
 rw [<- hW0] at HBi hX0 hL0 ⊢;clear hW0;refine (ziN l la lb lc lca lcb lcc b a0 a1 a2 a3 c0 c1 c2 c3 _ (HL.out.mono HBi.out) (HK.out.mono HBi.out) HF.out.1 HF.out.2.1 HF.out.2.2).mono ?_;rintro e w1 ⟨rfl,hb0⟩;have hX1:=za hX0 hz0 hb0;have hL1:=za hL0 (nSl hz0) hb0;have hz1:=nLt hz0 hb0.size;have hy1:=nSl hz1;have HBi:Hid (Below w.heap.size w w1):=HBi.out.trans (hb0.mono HBi.out.size);clear hb0 hX0 hL0 hz0
 by_cases t:Gate.jN l b=true
 rotate_left
 ·have HN:Hid (Gate.zaY l b=[]):=by unfold Hid Gate.zaY;rw [if_neg t]
  rw [bFi t];clear t;go_wp2_with fail
  go_ret;exact ⟨_,rfl,by rw [HN.out];exact World.ownsRow_nil _ _ _ _,HBi.out⟩
 have HM:Hid (Gate.zaY l b=Gate.zeH l b.os):=by unfold Hid Gate.zaY;rw [if_pos t]
 have HT:Hid (Gate.jN l b=true):=t;rw [t];clear t;go_wp2_with fail
 refine (zoL l la lb lc lca lcb lcc b a0 a1 a2 a3 c0 c1 c2 c3 _ (HL.out.mono HBi.out) (HK.out.mono HBi.out) HT.out).mono ?_;rintro e w2 ⟨v,rfl,hv,hb1⟩;have HV:Hid (w2.ownsRow w.heap.size 3 1 v (Gate.zaY l b).length (ints (Gate.zaY l b))/\Below w.heap.size w w2):=by rw [HM.out];exact ⟨j3 hv HBi.out.size,HBi.out.trans (hb1.mono HBi.out.size)⟩
 clear hv hb1;go_wp2_with fail
 go_ret;exact ⟨v,rfl,HV.out⟩
end Go.Proofs.YtghnakljnhnenaaGreat
