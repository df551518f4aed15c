import Derived.Test.YtjnpjkigofldlaaGreatM48
set_option maxRecDepth 100000
set_option maxHeartbeats 4000000
namespace Go.Proofs.YtjnpjkigofldlaaGreat
open Go.RowKit Go.Shelf
attribute [local go_sem] Oper.semAt_some
structure zou (w0:World)(l:Lw)(bk:Bk)(a b c oa:OA)(ca cb cc oc:Nat)(Bl Bb Bp rp:Nat)(fp:BA->BA->Option Int):Prop where
 law:qp w0 l a b c
 obs:zby w0 oa bk.os
 few:bk.os.length<=1048576
 bl:w0.heap[Bl]?=some (.cells (lC l a b c ca cb cc) 47)
 bb:w0.cell? (aD Bb 3)=some (.l oa bk.os.length oc)
 bbl:Bb<w0.heap.size
 bp:Boxed w0 Bp 142 (.map (some rp))
 mp:zH w0 rp fp
 pl:zbR fp bk.os bk.os.length
 ok:zcZ l bk.os
theorem ztg (w0:World)(l:Lw)(bk:Bk)(a b c oa:OA)(ca cb cc oc:Nat)(Bl Bb Bp rp:Nat)(fp:BA->BA->Option Int)(hH:zou w0 l bk a b c oa ca cb cc oc Bl Bb Bp rp fp)(Bk Bf:Nat)(hk:w0.heap.size<Bk)(hf:w0.heap.size<Bf)(m:Nat) :
 ∀(S:Nat->Bool) (i:Nat) (hi:i<bk.os.length) (w:World),lacks S bk.os.length<m->Bw w0 w->zad bk.os w0.heap.size S w->Boxed w Bk 143 (.map (some w0.heap.size)) ->
 Boxed w Bf 202 (.func (.func 145) #[] #[.pointer (some (aD Bk 0)),.pointer (some (aD Bp 0)),.pointer (some (aD Bl 0)),.pointer (some (aD Bb 0)),.pointer (some (aD Bf 0))]) ->
 Calls Tryz.prog 145 #[y8 bk.os[i].kd bk.os[i].nm,.pointer (some (aD Bk 0)),.pointer (some (aD Bp 0)),.pointer (some (aD Bl 0)),.pointer (some (aD Bb 0)),.pointer (some (aD Bf 0))] w
  fun e w'=>e=.returned (.tuple #[])/\(∃S',zad bk.os w0.heap.size S' w'/\Keeps l bk.os (·=i) S S'/\S' i=true)/\But w0.heap.size w.heap.size w w':=by
 induction m with
 | zero=>intro S i hi w hm;omega
 | succ m IH=>
 intro S i hi w hm hB0 hS bK bF;have HH:Hid (zou w0 l bk a b c oa ca cb cc oc Bl Bb Bp rp fp/\lacks S bk.os.length<m+1/\Bw w0 w/\zad bk.os w0.heap.size S w):=⟨hH,hm,hB0,hS⟩
 clear hm hB0 hS hH;unfold y8;refine(callsIn_wide (n:=6)).1 ?_;refine callsIn_of_wp_marks Tryz.func145 rfl trivial ?_ rfl;simp only[Tryz.ntmps145,List.size_toArray,List.length_cons,List.length_nil,Nat.reduceAdd,Nat.reduceSub,Array.replicate_succ,Array.replicate_zero,List.push_toArray,List.append_toArray,List.nil_append,List.cons_append];have cK:=bK.cell;have hKl:=bK.lt
 gi_wp2_with fail
 refine⟨trivial,?_⟩;obtain⟨f,hpm,hfS⟩:=HH.o.2.2.2;have hba:Bw w (w.alloc (.cells #[.s bk.os[i].kd,.s bk.os[i].nm] 152)):=bAl _ _;obtain⟨_,_,_,_,_,_,_,_,hsm,_⟩:=HH.o.1.obs.load (bRf _ _) i hi;refine(callsIn_wide.2 (zeD w0.heap.size f bk.os[i].kd bk.os[i].nm _ (hpm.mono hba) hsm.kd hsm.nm)).mono ?_;rintro e w1⟨rfl,hb1⟩;rw[hfS i hi];have cK1:=((hba.trans (hb1.mono hba.size)).cell (p:=(aD Bk 0)) hKl).trans cK;have hB1:Bw w0 w1:=HH.o.2.2.1.trans ((hba.trans (hb1.mono hba.size)).mono HH.o.2.2.1.size);have HB1:Hid (Bw w w1):=hba.trans (hb1.mono hba.size)
 cases hSi:S i with
 | true=>
  gi_wp2
  exact⟨.tuple #[],by simp[results,Tryz.results145,go_sem],rfl,⟨S,HH.o.2.2.2.mono HB1.o,Keeps.refl _ _ _ _,hSi⟩,But.of_below HB1.o⟩
 | false=>
  have hv:fp bk.os[i].kd bk.os[i].nm=some (i:Int):=by
   have h1:=HH.o.1.pl.has bk.os[i].kd bk.os[i].nm;rw[List.take_length,List.any_eq_true.2 ⟨bk.os[i],List.getElem_mem hi,by simp[jC]⟩]at h1;obtain⟨v,hv⟩:=Option.isSome_iff_exists.1 h1;obtain⟨j,hj,e,e1,e2⟩:=HH.o.1.pl.at_ _ _ _ hv
   have:=HH.o.1.ok.one j i hj hi e1 e2
   subst this;rw[hv,e]
  have bp1:Boxed w1 Bp 142 (.map (some rp)):=(hB1.block _ HH.o.1.bp.lt).trans HH.o.1.bp;have cp:=bp1.cell;have hlk:=(HH.o.1.mp.mono hB1.drew).look zaw Tryz.underlying142 bk.os[i].kd bk.os[i].nm hsm.kd hsm.nm false;obtain⟨w2,hup,hf2,hp2⟩:=(hpm.mono HB1.o.drew).upd zaw Tryz.underlying143 bk.os[i].kd bk.os[i].nm hsm.kd hsm.nm (i:Int);have hmx:Tryz.prog.follows .mixedOrders=true:=by kernel_rfl
  unfold y8 at hlk hup;rw[hv]at hlk;have ck0:w1.cell? (aD w.heap.size 0)=some (.s bk.os[i].kd):=(hb1.cell (p:=(aD w.heap.size 0)) (by simp)).trans (cell_of_block (World.alloc_heap_new w _));have ck1:w1.cell? (aD w.heap.size 1)=some (.s bk.os[i].nm):=(hb1.cell (p:=(aD w.heap.size 1)) (by simp)).trans (cell_of_block (World.alloc_heap_new w _));have ckb:∀j,w1.cell? (aD w.heap.size j)=(#[.s bk.os[i].kd,.s bk.os[i].nm]:AV)[j]?:=za (zI w _ 152) (by simp) hb1;simp only[Bool.false_eq_true,if_false,Option.getD_some]at hlk;have hzl:w.heap.size<w1.heap.size:=nLt (by simp) hb1.size;have hBpl:Bp<w1.heap.size:=bp1.lt;have hBkl:Bk<w1.heap.size:=nLt hKl HB1.o.size;have HP:Hid (zH w2 w0.heap.size (fun p q=>if p=bk.os[i].kd/\q=bk.os[i].nm then some (i:Int) else f p q)/\zeA w0.heap.size w1.drew w2/\Bw w0 w1):=⟨hf2,hp2,hB1⟩
  clear hf2 hp2 hb1 hba
  gi_wp2
  refine znG (fun a' w'=>∃u,a'={ tmps:=u,defers:=[] }/\w2=w'/\u=#[.agg #[.s bk.os[i].kd,.s bk.os[i].nm],.pointer (some (aD Bk 0)),.pointer (some (aD Bp 0)),.pointer (some (aD Bl 0)),.pointer (some (aD Bb 0)),.pointer (some (aD Bf 0)),.pointer (some (aD w.heap.size 0)),undef,.map (some w0.heap.size),.agg #[.s bk.os[i].kd,.s bk.os[i].nm],.bool false,.map (some w0.heap.size),.agg #[.s bk.os[i].kd,.s bk.os[i].nm],.map (some rp),.agg #[.s bk.os[i].kd,.s bk.os[i].nm],.i i,undef,undef,undef,undef,undef,undef,undef,undef,undef,undef,undef,undef,undef,undef,undef,undef,undef]) ?_ ?_
  ·gi_region_with_o fail
   all_goals exact⟨rfl,_,rfl,rfl,rfl⟩
  rintro a' w'⟨u,rfl,rfl,rfl⟩;have hB2:Bw w0 w2:=HP.o.2.1.below HP.o.2.2.drew (Nat.le_refl _);have hlt2:∀ {k},k<w0.heap.size->k<w2.heap.size:=fun h=>nLt h hB2.size
  have bl2:w2.heap[Bl]?=some (.cells (lC l a b c ca cb cc) 47):=(hB2.block _ (gES HH.o.1.bl).1).trans HH.o.1.bl;have cl0:w2.cell? (aD Bl 0)=some (.l a l.ss.length ca):=cell_of_block bl2;have cl1:w2.cell? (aD Bl 1)=some (.l b l.ms.length cb):=cell_of_block bl2;have cl2:w2.cell? (aD Bl 2)=some (.l c l.ts.length cc):=cell_of_block bl2;have cb3:=(hB2.cell (p:=(aD Bb 3)) HH.o.1.bbl).trans HH.o.1.bb;have cp2:=(hB2.cell (p:=(aD Bp 0)) HH.o.1.bp.lt).trans HH.o.1.bp.cell;have hne:=Nat.ne_of_gt (nLt hpm.lt (Nat.le_refl _));have ckk0:=(World.cell?_of_block (HP.o.2.1.out _ hne)).trans ck0;have ckk1:=(World.cell?_of_block (HP.o.2.1.out _ hne)).trans ck1;have hlk2:=(HH.o.1.mp.mono hB2.drew).look zaw Tryz.underlying142 bk.os[i].kd bk.os[i].nm hsm.kd hsm.nm false;unfold y8 at hlk2;rw[hv]at hlk2;simp only[Bool.false_eq_true,if_false,Option.getD_some]at hlk2;obtain⟨ob,off,va,ha,q0,q1,hoa,hob,_,hva,hha,d0,d1,d2,d3,d4,d5,d6⟩:=HH.o.1.obs.load hB2 i hi;have hob2:=hlt2 hob;have hBl2:=hlt2 (gES HH.o.1.bl).1;have hBb2:=hlt2 HH.o.1.bbl;have hBp2:=hlt2 HH.o.1.bp.lt;have hz2:w.heap.size<w2.heap.size:=by rw[HP.o.2.1.size];exact hzl
  have hiI:(i:Int)<(bk.os.length:Int):=by omega
  have hfw:=HH.o.1.few;rw[hoa]at cb3;have hLk:=zfr l a b c ca cb cc bk.os[i] va ha q0 q1 w2.drew (HH.o.1.law.mono hB2.drew);have HB2:=yB hB2 hva;have HSm:=yB hsm.kd hsm.nm;have HSm2:=hid hv;have ckk:∀j,w2.cell? (aD w.heap.size j)=(#[.s bk.os[i].kd,.s bk.os[i].nm]:AV)[j]?:=fun j=>(World.cell?_of_block (HP.o.2.1.out _ hne)).trans (ckb j)
  clear hlk hup hv ck0 ck1 cK1 cp hB2 hlt2 hva hha bp1 cK hlk2 ckk0 ckk1 cl0 cl1 cl2
  gi_wp2_with fail
  refine zpg (fun a' w'=>∃u16 u17 u18 u19 u20 u21 u22 u23 u24,a'={ tmps:=#[.agg #[.s bk.os[i].kd,.s bk.os[i].nm],.pointer (some (aD Bk 0)),.pointer (some (aD Bp 0)),.pointer (some (aD Bl 0)),.pointer (some (aD Bb 0)),.pointer (some (aD Bf 0)),.pointer (some (aD w.heap.size 0)),undef,.map (some w0.heap.size),.agg #[.s bk.os[i].kd,.s bk.os[i].nm],.bool false,.map (some w0.heap.size),.agg #[.s bk.os[i].kd,.s bk.os[i].nm],.map (some rp),.agg #[.s bk.os[i].kd,.s bk.os[i].nm],.i i,u16,u17,u18,u19,u20,u21,u22,u23,u24,undef,undef,undef,undef,undef,undef,undef,undef],defers:=[] }/\∃Bs Bo fa fcap,u24=.func (.func 197) #[] #[.pointer (some (aD Bs 0)),.pointer (some (aD Bo 0))]/\Bs<w'.heap.size/\Bo<w'.heap.size/\yw w' fa (shapeOf l.ss bk.os[i].kd).fs /\
   (∀j,w'.cell? (aD Bs j)=(#[.s (shapeOf l.ss bk.os[i].kd).kd,.l fa (shapeOf l.ss bk.os[i].kd).fs.length fcap]:AV)[j]?)/\(∀j,w'.cell? (aD Bo j)=(oC bk.os[i] va ha q0 q1)[j]?)/\Bw w2 w') ?_ ?_
  ·refine wpIn_wide.2 ?_
   have hdr:=(bRf w2.heap.size w2).drew;have cL:∀j,w2.drew.cell? (aD Bl j)=(lC l a b c ca cb cc)[j]?:=fun j=>(hdr.cell (p:=(aD Bl j)) hBl2).trans (yP bl2 j)
   have cK:∀j,w2.drew.cell? (aD w.heap.size j)=(#[.s bk.os[i].kd,.s bk.os[i].nm]:AV)[j]?:=fun j=>(hdr.cell (p:=(aD w.heap.size j)) hz2).trans (ckk j)
   have cB:=(hdr.cell (p:=(aD Bb 3)) hBb2).trans cb3;have cP:=(hdr.cell (p:=(aD Bp 0)) hBp2).trans cp2;have e0:=(hdr.cell (p:=(aD ob (off+i*7))) hob2).trans d0;have e1:=(hdr.cell (p:=(aD ob (off+i*7+1))) hob2).trans d1;have e2:=(hdr.cell (p:=(aD ob (off+i*7+2))) hob2).trans d2;have e3:=(hdr.cell (p:=(aD ob (off+i*7+3))) hob2).trans d3;have e4:=(hdr.cell (p:=(aD ob (off+i*7+4))) hob2).trans d4;have e5:=(hdr.cell (p:=(aD ob (off+i*7+5))) hob2).trans d5;have e6:=(hdr.cell (p:=(aD ob (off+i*7+6))) hob2).trans d6
   have hHM:∀W,Below w2.drew.heap.size w2.drew W->((∀j,W.cell? (aD Bl j)=(lC l a b c ca cb cc)[j]?)/\W.cell? (aD Bb 3)=some (.l (some (aD ob off)) bk.os.length oc)/\W.cell? (aD Bp 0)=some (.map (some rp))/\(∀j,W.cell? (aD w.heap.size j)=(#[.s bk.os[i].kd,.s bk.os[i].nm]:AV)[j]?)/\W.cell? (aD ob (off+i*7))=some (.s bk.os[i].kd)/\W.cell? (aD ob (off+i*7+1))=some (.s bk.os[i].nm)/\W.cell? (aD ob (off+i*7+2))=some (.s bk.os[i].tm)/\W.cell? (aD ob (off+i*7+3))=some (.l va bk.os[i].vs.length q0)/\W.cell? (aD ob (off+i*7+4))=some (.bool bk.os[i].en)/\W.cell? (aD ob (off+i*7+5))=some (.l ha bk.os[i].hs.length q1)/\W.cell? (aD ob (off+i*7+6))=some (.i bk.os[i].vr)/\(Instr.lookup 142 (.map (some rp)) (.agg #[.s bk.os[i].kd,.s bk.os[i].nm]) false).run Tryz.prog W=.ok (.i i) W):=fun W hW=>⟨za cL hBl2 hW,(hW.cell (p:=(aD Bb 3)) hBb2).trans cB,(hW.cell (p:=(aD Bp 0)) hBp2).trans cP,za cK hz2 hW,(hW.cell (p:=(aD ob (off+i*7))) hob2).trans e0,(hW.cell (p:=(aD ob (off+i*7+1))) hob2).trans e1,(hW.cell (p:=(aD ob (off+i*7+2))) hob2).trans e2,(hW.cell (p:=(aD ob (off+i*7+3))) hob2).trans e3,(hW.cell (p:=(aD ob (off+i*7+4))) hob2).trans e4,(hW.cell (p:=(aD ob (off+i*7+5))) hob2).trans e5,(hW.cell (p:=(aD ob (off+i*7+6))) hob2).trans e6,by
    have h:=(HH.o.1.mp.mono (HB2.o.1.drew.trans (hW.mono HB2.o.1.size))).look zaw Tryz.underlying142 bk.os[i].kd bk.os[i].nm HSm.o.1 HSm.o.2 false;unfold y8 at h;rw[HSm2.o]at h
    simpa only[Bool.false_eq_true,if_false,Option.getD_some] using h⟩
   have H_Now:=hHM _ (bRf _ _);have HHM:=hid hHM;clear hHM cL cK cB cP e0 e1 e2 e3 e4 e5 e6 d0 d1 d2 d3 d4 d5 d6
   go_region_held3 (fun w'=>(∀j,w'.cell? (aD Bl j)=(lC l a b c ca cb cc)[j]?)/\w'.cell? (aD Bb 3)=some (.l (some (aD ob off)) bk.os.length oc)/\w'.cell? (aD Bp 0)=some (.map (some rp))/\(∀j,w'.cell? (aD w.heap.size j)=(#[.s bk.os[i].kd,.s bk.os[i].nm]:AV)[j]?)/\w'.cell? (aD ob (off+i*7))=some (.s bk.os[i].kd)/\w'.cell? (aD ob (off+i*7+1))=some (.s bk.os[i].nm)/\w'.cell? (aD ob (off+i*7+2))=some (.s bk.os[i].tm)/\w'.cell? (aD ob (off+i*7+3))=some (.l va bk.os[i].vs.length q0)/\w'.cell? (aD ob (off+i*7+4))=some (.bool bk.os[i].en)/\w'.cell? (aD ob (off+i*7+5))=some (.l ha bk.os[i].hs.length q1)/\w'.cell? (aD ob (off+i*7+6))=some (.i bk.os[i].vr)/\(Instr.lookup 142 (.map (some rp)) (.agg #[.s bk.os[i].kd,.s bk.os[i].nm]) false).run Tryz.prog w'=.ok (.i i) w') (exact H_Now) (first
    | (go_at_call 143;refine hLk.mono ?_;rintro e W0⟨Bs,Bo,fa,fcap,rfl,hBs,hBo,hfl,hXs,hXo,hb⟩;have H_Now:=HHM.o W0 hb))
   exact⟨_,_,_,_,_,_,_,_,_,rfl,Bs,Bo,fa,fcap,rfl,hBs,hBo,hfl,hXs,hXo,hdr.trans hb⟩
  rintro a' W0⟨u16,u17,u18,u19,u20,u21,u22,u23,u24,rfl,Bs,Bo,fa,fcap,rfl,hBs,hBo,hfl,hXs,hXo,hb1⟩;have hr0:=hpm.lt;have hB20:=hb1;have hBw0:=HB2.o.1.trans (hB20.mono HB2.o.1.size);have bK0:Boxed W0 Bk 143 (.map (some w0.heap.size)):=(hB20.block _ (by rw[HP.o.2.1.size];exact hBkl)).trans ((HP.o.2.1.out _ (Nat.ne_of_gt hk)).trans ((HB1.o.drew.block _ hKl).trans bK));have bF0:Boxed W0 Bf 202 (.func (.func 145) #[] #[.pointer (some (aD Bk 0)),.pointer (some (aD Bp 0)),.pointer (some (aD Bl 0)),.pointer (some (aD Bb 0)),.pointer (some (aD Bf 0))]):=(hB20.block _ (by rw[HP.o.2.1.size];exact nLt bF.lt HB1.o.size)).trans ((HP.o.2.1.out _ (Nat.ne_of_gt hf)).trans ((HB1.o.drew.block _ bF.lt).trans bF));have hone:=HH.o.1.ok.one;have HM0:=hid (zad.mono ⟨_,HP.o.1,fun j hj=>zta hone hfS i hi (i:Int) j hj⟩ hB20);have HBut0:Hid (But w0.heap.size w.heap.size w W0):=(But.of_below HB1.o.drew).trans ((HP.o.2.1.but (B:=w.heap.size)).trans (But.of_below (hB20.mono (by rw[HP.o.2.1.size];exact HB1.o.size))));have HLk:Hid (lacks (zak S i) bk.os.length<m):=by have h1:=zql hi hSi;have h2:=HH.o.2.1;show _<_;omega
  have HST:=hid (HB2.o.2.mono hB20);have hrW:=nLt hr0 HBut0.o.size;have HW:=hid hBw0;have hKW:=bK0.lt;have hFW:=bF0.lt;clear hb1 hB20 hBw0 d0 d1 d2 d3 d4 d5 d6 cb3 cp2 ckk ckb bl2 hLk
  gi_wp2_with fail
  refine wpIn_rangeFunc_ownH rfl (by omega) (gf:=197) (lb:=#[.pointer (some (aD Bs 0)),.pointer (some (aD Bo 0))]) rfl trivial (enters_of Tryz.func197 (by kernel_rfl) rfl)
   (zop 5 (by omega) Bs Bo (shapeOf l.ss bk.os[i].kd).kd (shapeOf l.ss bk.os[i].kd).fs fa fcap bk.os[i] va ha q0 q1 W0 hBs hBo hXs hXo hfl HST.o (HH.o.1.ok.cnt i hi)) CB.trans (fun W l o o' hl h hc hw=>CB.of_below (belowK_b (Nat.le_refl _) W l o o' hl h hc hw)) (bRf _ _) (fun _=>rfl)
   (fun pre W=>∃S1,zad bk.os w0.heap.size S1 W/\(Keeps l bk.os (zhX l bk.os i) (zak S i) S1/\zbV bk.os S1 (pre.map (·.1)))/\But w0.heap.size W0.heap.size W0 W)
   (fun _ _ _=>False)
   (zqH (fun S1=>OwnFrom.and (znA hrW (fun _=>S1)) (OwnFrom.and (ownFrom_pure _ _) (zoI (Nat.le_refl _) (Nat.le_refl _)))))
   (fun _=>fun _ _ _ _ h _ _=>h)
   ⟨_,HM0.o,⟨Keeps.refl _ _ _ _,zbV.nil _ _⟩,But.refl _ _ _⟩
   (fun x a' W=>∃Bx,W.heap[Bx]?=some (.cells #[.i x.1.pl,.i x.1.rl,.s x.1.to,.s x.1.nm] 200)/\a'={ tmps:=#[.agg #[.s bk.os[i].kd,.s bk.os[i].nm],.pointer (some (aD Bk 0)),.pointer (some (aD Bp 0)),.pointer (some (aD Bl 0)),.pointer (some (aD Bb 0)),.pointer (some (aD Bf 0)),.pointer (some (aD w.heap.size 0)),.pointer (some (aD Bx 0)),.map (some w0.heap.size),.agg #[.s bk.os[i].kd,.s bk.os[i].nm],.bool false,.map (some w0.heap.size),.agg #[.s bk.os[i].kd,.s bk.os[i].nm],.map (some rp),.agg #[.s bk.os[i].kd,.s bk.os[i].nm],.i i,u16,u17,u18,u19,u20,u21,u22,u23,.func (.func 197) #[] #[.pointer (some (aD Bs 0)),.pointer (some (aD Bo 0))],.agg #[.i x.1.pl,.i x.1.rl,.s x.1.to,.s x.1.nm],undef,undef,undef,undef,undef,undef,undef],defers:=[] })
   (fun x a' _ X Y row hs hg hr=>by
    obtain⟨Bx,e1,e2⟩:=hs;refine⟨Bx,(hg.block Bx (gES e1).1 (fun e=>?_)).trans e1,e2⟩;obtain⟨_,ob,h1,h2⟩:=hr Bx e.symm;rw[e1]at h1
    cases h1
    cases h2)
   ?assign ?body ?done ?stop
  case assign=>
   rintro l' pre x W K⟨S1,hp,hq,hB1⟩ hK;unfold Lk.enc
   gi_wp2
   exact hK _ _ ((KeepsOthers.alloc _ _).from _) (CB.of_below ((bRf _ W).alloc hB1.size _)) ⟨S1,hp.mono ((bRf _ W).alloc (Nat.le_refl _) _),hq,hB1.trans (But.of_below ((bRf _ W).alloc hB1.size _))⟩ ⟨W.heap.size,World.alloc_heap_new W _,rfl⟩
  case body=>
   rintro l' pre x a' W hl⟨rr,hr⟩ ⟨S1,hp,hq,hB1⟩ ⟨Bx,hBx,rfl⟩ hlt;have cX:=yP hBx;have bF1:=hB1.boxed bF0 hFW (Nat.ne_of_gt hf);have bK1:=hB1.boxed bK0 hKW (Nat.ne_of_gt hk);have cF:=bF1.cell;have HI1:=zao hp hq hB1;clear hp hq hB1
   by_cases h2:x.1.rl=2
   ·have hd2:(x.1.rl != 2)=false:=by simp[h2]
    have H2:=hid h2;clear h2
    gi_wp2
    exact⟨KeepsFrom.refl _ _,CB.of_below (bRf _ _),S1,HI1.o.1,⟨HI1.o.2.1.1,by rw[List.map_append];exact HI1.o.2.1.2.snoc (fun _ h=>h) x.1 (fun h=>absurd H2.o h)⟩,HI1.o.2.2⟩
   ·have hd2:(x.1.rl != 2)=true:=by simp[h2]
    obtain⟨j,hj,e1,e2⟩:=HH.o.1.ok.name i hi x.1 x.2;have hLS:=Nat.lt_of_le_of_lt (zpE HI1.o.2.1.1.le _) HLk.o;have hcall:=IH S1 j hj W hLS (HW.o.trans (HI1.o.2.2.below hrW)) HI1.o.1 bK1 bF1;unfold y8 at hcall;rw[e1,e2]at hcall;have H2:=zao h2 e1 e2;clear h2 e1 e2 bK1 bF1
    gi_wp2_with fail
    refine⟨trivial,?_⟩;refine(callsIn_wide.2 hcall).mono ?_;rintro e W1⟨rfl,⟨S2,hk2,hkp,hS2⟩,hbut⟩
    have HN:Hid (KeepsFrom W0.heap.size W W1/\CB W0.heap.size W W1/\∃S2,zad bk.os w0.heap.size S2 W1/\(Keeps l bk.os (zhX l bk.os i) (zak S i) S2/\zbV bk.os S2 ((pre++[x]).map (·.1)))/\But w0.heap.size W0.heap.size W0 W1):=by
     obtain⟨f1,hf1,_⟩:=HI1.o.1;obtain⟨es,ck,hes,_⟩:=hf1.ex;have hbW:=hbut.mono HI1.o.2.2.size;refine⟨hbut.keeps hrW,hbW.cb hes,S2,hk2,⟨HI1.o.2.1.1.trans (hkp.wider (fun j' e=>by subst e;exact zpO HH.o.1.ok.sh hi hj x.1 x.2 H2.o.1 H2.o.2.1 H2.o.2.2)),?_⟩,HI1.o.2.2.trans hbW⟩;rw[List.map_append];refine HI1.o.2.1.2.snoc hkp.le x.1 (fun _ j' hj' e1' e2'=>?_)
     have:=hone j' j hj' hj (e1'.trans H2.o.2.1.symm) (e2'.trans H2.o.2.2.symm)
     subst this;exact hS2
    clear hk2 hkp hS2 hbut
    gi_wp2
    exact HN.o
  case done=>
   rintro D ys W hD hys⟨S1,hp,hq,hB1⟩ hK;have hrD:w0.heap.size≠D:=by omega
   have HE:Hid ((∃S',zad bk.os w0.heap.size S' (W.putObj D (.deferred none))/\Keeps l bk.os (·=i) S S'/\S' i=true)/\But w0.heap.size w.heap.size w (W.putObj D (.deferred none))):=by
    refine⟨⟨S1,?_,Keeps.close hq.1 (zbV.all HH.o.1.ok.sh hi (by rw[<- hys];exact hq.2)),hq.1.has⟩,?_⟩
    ·obtain⟨f1,hf1,h3⟩:=hp
     exact⟨f1,hf1.keep (World.putObj_heap_other (fun e=>hrD e)),h3⟩
    ·refine HBut0.o.trans ((hB1.mono HBut0.o.size).trans ⟨rfl,rfl,rfl,by simp,fun k hk _=>World.putObj_heap_other (fun e=>?_)⟩)
     have:=HBut0.o.size
     omega
   clear hp hq hB1 hys
   gi_wp2
   refine⟨by simp,.inl ⟨_,_,rfl,run_takeDeferred hK,?_⟩⟩;exact⟨.tuple #[],by simp[results,Tryz.results145,go_sem],rfl,HE.o⟩
  case stop=>
   rintro D cd pre W hD hpre h hK;exact h.elim
end Go.Proofs.YtjnpjkigofldlaaGreat
namespace Go.Proofs.YtjnpjkigofldlaaGreat
open Go.RowKit Go.Shelf
structure zrL (f:BA->BA->Option Int)(os:List Ob)(s:List Bool):Prop where
 len:s.length=os.length
 at_:∀j (h:j<os.length),(f os[j].kd os[j].nm).isSome=s.getD j false
theorem zun (w:World)(o1 o2 o3 o4:Obj):((((w.alloc o1).alloc o2).alloc o3).alloc o4).heap[w.heap.size]?=some o1/\((((w.alloc o1).alloc o2).alloc o3).alloc o4).heap[w.heap.size+1]?=some o2/\((((w.alloc o1).alloc o2).alloc o3).alloc o4).heap[w.heap.size+1+1]?=some o3/\((((w.alloc o1).alloc o2).alloc o3).alloc o4).heap[w.heap.size+1+1+1]?=some o4:=by
 obtain⟨h1,h2,h3⟩:=zmi w o1 o2 o3;have hb:=(bRf _ (((w.alloc o1).alloc o2).alloc o3)).alloc (Nat.le_refl _) o4;refine⟨(hb.block _ (by simp <;> omega)).trans h1,(hb.block _ (by simp <;> omega)).trans h2,(hb.block _ (by simp)).trans h3,?_⟩
 have:=alloc_at (((w.alloc o1).alloc o2).alloc o3) o4
 simpa using this
theorem zsE (l:Lw)(la lb lc:OA)(lca lcb lcc:Nat)(b:Bk)(a0 a1 a2 a3:OA)(c0 c1 c2 c3:Nat)(r:Nat)(f:BA->BA->Option Int)(s:List Bool)(w:World)(hl:qp w l la lb lc)(hb:qj w b a0 a1 a2 a3)(hM:zH w r f)(hs:zrL f b.os s)(hfa:zcZ l b.os) :
 Calls Tryz.prog 85 #[.agg (lC l la lb lc lca lcb lcc),.agg (bC b a0 a1 a2 a3 c0 c1 c2 c3),.map (some r)] w fun e w'=>∃v,e=.returned v/\w'.ownsRow w.heap.size 3 1 v (places (greatest l b.os s)).length (ints (places (greatest l b.os s)))/\Bw w w':=by
 obtain⟨i0,hi,hzi0,hz1',hz2⟩:=info_parts Tryz.zdo;have HI0:=j3 hi hzi0 hz1' hz2;have HK:=hid hb;have HL:=hid hl;have HM:=yB hM hs;have HO:=yB hfa.few hfa;have hmk:∀w:World,(Instr.makeMap 143 none).run Tryz.prog w=.ok (.map (some w.heap.size)) (w.alloc (.map #[] 0)):=fun w=>by kernel_rfl
 clear hb hl hM hs hfa hi hzi0 hz1' hz2;go_in;go_wp2_with fail
 obtain⟨hA0,hC0⟩:=zK w (.cells (lC l la lb lc lca lcb lcc) 47) (.cells (bC b a0 a1 a2 a3 c0 c1 c2 c3) 40);have hB0:=zo w (.cells (lC l la lb lc lca lcb lcc) 47) (.cells (bC b a0 a1 a2 a3 c0 c1 c2 c3) 40);obtain⟨W0,hW0⟩:=xN ((w.alloc (.cells (lC l la lb lc lca lcb lcc) 47)).alloc (.cells (bC b a0 a1 a2 a3 c0 c1 c2 c3) 40));have hz0:w.heap.size+1<W0.heap.size:=by rw[hW0];simp
 rw[<- hW0]at hA0 hC0 hB0 ⊢;clear hW0;refine(zeZ a0 c0 b.os _ (HK.o.os.mono hB0) (by have:=HO.o.1;omega)).mono ?_;rintro e w1⟨⟨fp,rfl,hfp,hpl⟩,hb1⟩;have hA1:=(hb1.block _ (by omega)).trans hA0;have hC1:=(hb1.block _ hz0).trans hC0;have hz1:=nLt hz0 hb1.size;have hrp:=hfp.lt;have HB1:Hid (Bw w w1):=hB0.trans (hb1.mono hB0.size);have cC1:=yP hC1;have HP1:Hid (zH w1 W0.heap.size fp/\zbR fp b.os b.os.length/\w1.heap[w.heap.size]?=some (.cells (lC l la lb lc lca lcb lcc) 47)/\w1.heap[w.heap.size+1]?=some (.cells (bC b a0 a1 a2 a3 c0 c1 c2 c3) 40)):=⟨hfp,hpl,hA1,hC1⟩
 clear hb1 hA0 hC0 hB0 hfp hpl hA1 hC1 hz0;have hC4:∀j,((((w1.alloc (.cells #[.map (some W0.heap.size)] 142)).alloc (.map #[] 0)).alloc (.cells #[.map (some (w1.heap.size+1))] 143)).alloc (.cells #[(.func (.func 145) #[] #[.pointer (some (aD (w1.heap.size+1+1) 0)),.pointer (some (aD w1.heap.size 0)),.pointer (some (aD w.heap.size 0)),.pointer (some (aD (w.heap.size+1) 0)),.pointer (some (aD (w1.heap.size+1+1+1) 0))])] 202)).cell? (aD (w.heap.size+1) j)=(bC b a0 a1 a2 a3 c0 c1 c2 c3)[j]?:=fun j=>((znP w1 _ _ _ _).cell (p:=(aD (w.heap.size+1) j)) hz1).trans (cC1 j)
 go_wp2_with fail
 clear hC4;obtain⟨k1,k2,k3,k4⟩:=zun w1 (.cells #[.map (some W0.heap.size)] 142) (.map #[] 0) (.cells #[.map (some (w1.heap.size+1))] 143) (.cells #[(.func (.func 145) #[] #[.pointer (some (aD (w1.heap.size+1+1) 0)),.pointer (some (aD w1.heap.size 0)),.pointer (some (aD w.heap.size 0)),.pointer (some (aD (w.heap.size+1) 0)),.pointer (some (aD (w1.heap.size+1+1+1) 0))])] 202);have hb0:Bw w1 (w1.alloc (.cells #[.map (some W0.heap.size)] 142)):=bAl _ _;have hKM:=zad.new b.os (w1.alloc (.cells #[.map (some W0.heap.size)] 142));have hb5:=zo ((w1.alloc (.cells #[.map (some W0.heap.size)] 142)).alloc (.map #[] 0)) (.cells #[.map (some (w1.heap.size+1))] 143) (.cells #[(.func (.func 145) #[] #[.pointer (some (aD (w1.heap.size+1+1) 0)),.pointer (some (aD w1.heap.size 0)),.pointer (some (aD w.heap.size 0)),.pointer (some (aD (w.heap.size+1) 0)),.pointer (some (aD (w1.heap.size+1+1+1) 0))])] 202);have hKM5:=hKM.mono hb5;obtain⟨w0,hw0⟩:=xN (w1.alloc (.cells #[.map (some W0.heap.size)] 142));have hrk:w0.heap.size=w1.heap.size+1:=by rw[hw0];simp
 have HBp:Hid (Boxed w0 w1.heap.size 142 (.map (some W0.heap.size))):=by rw[Hid,hw0];exact World.alloc_heap_new w1 _
 have hb05:Bw w0 (((w0.alloc (.map #[] 0)).alloc (.cells #[.map (some (w1.heap.size+1))] 143)).alloc (.cells #[(.func (.func 145) #[] #[.pointer (some (aD (w1.heap.size+1+1) 0)),.pointer (some (aD w1.heap.size 0)),.pointer (some (aD w.heap.size 0)),.pointer (some (aD (w.heap.size+1) 0)),.pointer (some (aD (w1.heap.size+1+1+1) 0))])] 202)):=below3' w0 _ _ _;rw[<- hw0]at hb0 hKM hKM5 hb5 k1 k2 k3 k4 ⊢;obtain⟨W5,hW5⟩:=xN (((w0.alloc (.map #[] 0)).alloc (.cells #[.map (some (w1.heap.size+1))] 143)).alloc (.cells #[(.func (.func 145) #[] #[.pointer (some (aD (w1.heap.size+1+1) 0)),.pointer (some (aD w1.heap.size 0)),.pointer (some (aD w.heap.size 0)),.pointer (some (aD (w.heap.size+1) 0)),.pointer (some (aD (w1.heap.size+1+1+1) 0))])] 202));rw[<- hW5]at hKM5 hb05 k1 k2 k3 k4 ⊢;have hz5:=(gES k4).1;clear hW5 hw0 hb5 hKM
 have HKH:Hid (zou w0 l b la lb lc a0 lca lcb lcc c0 w.heap.size (w.heap.size+1) w1.heap.size W0.heap.size fp):=by
  have hBw0:=HB1.o.trans (hb0.mono HB1.o.size);exact⟨HL.o.mono hBw0,HK.o.os.mono hBw0,by have:=HO.o.1;omega,(hb0.block _ (by omega)).trans HP1.o.2.2.1,(hb0.cell (p:=(aD (w.heap.size+1) 3)) hz1).trans (cell_of_block HP1.o.2.2.2),by omega,HBp.o,HP1.o.1.mono hb0,HP1.o.2.1,HO.o.2⟩
 have HBw:=yB (HB1.o.trans (hb0.mono HB1.o.size)) hb05;have HK5:=zao hKM5 k3 k4;have hC5:∀j,W5.cell? (aD (w.heap.size+1) j)=(bC b a0 a1 a2 a3 c0 c1 c2 c3)[j]?:=fun j=>((hb0.trans (hb05.mono hb0.size)).cell (p:=(aD (w.heap.size+1) j)) hz1).trans (cC1 j)
 clear hb0 hb05 hKM5 k1 k2 k3 k4 cC1 HBp HP1 hmk
 go_loopw [23] (fun iv wr=>∃(k:Nat) (S:Nat->Bool),k<=b.os.length/\iv=.i k/\Hid (zbH l b.os s k S/\zad b.os w0.heap.size S wr/\But w0.heap.size W5.heap.size W5 wr)) (fun iv _=>b.os.length-(intOf iv).toNat)
 case atStart=>exact⟨0,_,Nat.zero_le _,rfl,zbH.start _ _ _,HK5.o.1,But.refl _ _ _⟩
 case round=>
  obtain⟨k,S,hk,rfl,HJ⟩:=hrel;have hkn:k<=40:=by have:=HO.o.1;omega
  have hr5:w0.heap.size<W5.heap.size:=by omega
  have HBw0r:=hid (HBw.o.2.trans (HJ.o.2.2.below hr5));have HBr:=hid (HBw.o.1.trans (HBw0r.o.mono HBw.o.1.size));have HMr:=hid (HM.o.1.mono HBr.o);have HbK:Hid (Boxed wr (w1.heap.size+1+1) 143 (.map (some w0.heap.size))):=by rw[hrk];exact HJ.o.2.2.boxed HK5.o.2.1 (by omega) (by omega)
  have HbF:Hid (Boxed wr (w1.heap.size+1+1+1) 202 (.func (.func 145) #[] #[.pointer (some (aD (w1.heap.size+1+1) 0)),.pointer (some (aD w1.heap.size 0)),.pointer (some (aD w.heap.size 0)),.pointer (some (aD (w.heap.size+1) 0)),.pointer (some (aD (w1.heap.size+1+1+1) 0))])):=HJ.o.2.2.boxed HK5.o.2.2 hz5 (by omega);have HNr:Hid (wr.heap.size≠w0.heap.size/\w1.heap.size+1+1+1≠w0.heap.size):=by have:=HJ.o.2.2.size;exact⟨by omega,by omega⟩
  by_cases hlt:k<b.os.length
  ·obtain⟨ob,off,v0,v1,q0,q1,rfl,hob,hsm,hl0,hl1,d0,d1,d2,d3,d4,d5,d6⟩:=HK.o.os.load HBr.o k hlt
   have hltI:(k:Int)<(b.os.length:Int):=by omega
   have hob':=nLt hob HBr.o.size;obtain⟨o,ho⟩:=xN (b.os[k]);rw[<- ho]at d0 d1 d2 d3 d4 d5 d6 hsm;obtain⟨en,hen⟩:=xN (s.getD k false);obtain⟨rt,hrt⟩:=xN ((!en||decide (0<o.hs.length)));have HSm:=zao hsm ((congrArg (fun o=>(f o.kd o.nm).isSome) ho).trans ((HM.o.2.at_ k hlt).trans hen.symm)) hrt
   have HRt:Hid (rt=true↔zix b.os s k):=by
    unfold Hid;rw[hrt,ho,hen];simp only[Bool.or_eq_true,Bool.not_eq_true',decide_eq_true_eq];exact⟨fun h=>⟨hlt,h⟩,fun⟨_,h⟩=>h⟩
   have HO':=hid ho;obtain⟨W2,hW2,kO,hba,hz2⟩:=zpa wr (.cells (oC o v0 v1 q0 q1) 116);clear hsm hl0 hl1 ho hen hrt
   go_upto_region 8 with fail
   replace hz2:wr.heap.size<W2.heap.size:=by omega
   rw[<- hW2];clear hW2 d0 d1 d2 d3 d4 d5 d6;have HB2:=yB hba kO;have HS:Hid (∀W,Bw W2 W->(∀j,W.cell? (aD wr.heap.size j)=(oC o v0 v1 q0 q1)[j]?)/\W.cell? (aD (w1.heap.size+1+1+1) 0)=some (.func (.func 145) #[] #[.pointer (some (aD (w1.heap.size+1+1) 0)),.pointer (some (aD w1.heap.size 0)),.pointer (some (aD w.heap.size 0)),.pointer (some (aD (w.heap.size+1) 0)),.pointer (some (aD (w1.heap.size+1+1+1) 0))])):=fun W hW=>⟨fun j=>cell_of_block ((hW.block _ hz2).trans HB2.o.2),((HB2.o.1.trans (hW.mono HB2.o.1.size)).cell (p:=(aD (w1.heap.size+1+1+1) 0)) HbF.o.lt).trans HbF.o.cell⟩
   clear hba kO;refine zca (fun A A' w'=>∃u27 u28 u29 u30 u31 u32 u33 u34 u35 u36,A'=(((((((((((A.put (some 27) u27).put (some 28) u28).put (some 29) u29).put (some 30) u30).put (some 31) u31).put (some 32) u32).put (some 33) u33).put (some 34) u34).put (some 35) u35).put (some 36) u36).put (some 37) (.bool rt))/\Bw W2 w') ?_ ?_
   ·have cO:=(HS.o W2 (bRf _ _)).1
    go_wp2_with fail
    refine(jr o v0 v1 q0 q1 W2).mono ?_;rintro e w3⟨rfl,hb3⟩;have HB3:=hid hb3;clear hb3 cO;go_wp2_with fail
    refine(zw HSm.o.2.1 (zeD r f o.kd o.nm w3 (HMr.o.mono (HB2.o.1.trans (HB3.o.mono HB2.o.1.size))) HSm.o.1.kd HSm.o.1.nm)).mono ?_;rintro e w4⟨rfl,hb4⟩;have HB4:=hid (HB3.o.trans (hb4.mono HB3.o.size));have cO:=(HS.o w4 HB4.o).1;have hz4:=nLt hz2 HB4.o.size;clear hb4
    cases hen:en with
    | false=>
     have HR:Hid (rt=true):=by rw[Hid,HSm.o.2.2,hen];rfl
     go_wp2_with fail
     exact⟨HR.o,HB4.o⟩
    | true=>
     have HR:Hid (decide (0<o.hs.length)=rt):=by rw[Hid,HSm.o.2.2,hen];rfl
     go_wp2_with fail
     exact⟨HR.o,HB4.o⟩
   ·rintro A' w4⟨u27,u28,u29,u30,u31,u32,u33,u34,u35,u36,rfl,hb4⟩
    have HB4:=yB hb4 (HB2.o.1.trans (hb4.mono HB2.o.1.size));clear hb4
    (try simp only[Act.put,sA,s0,sS])
    cases hr:rt with
    | false=>
     have HRn:Hid (¬zix b.os s k):=fun h=>by rw[HRt.o.2 h]at hr;cases hr
     go_wp2
     exact⟨⟨k+1,S,by omega,by go_num,HJ.o.1.skip HRn.o,HJ.o.2.1.mono HB4.o.2,HJ.o.2.2.trans (But.of_below (HB4.o.2.mono HJ.o.2.2.size))⟩,zi hlt⟩
    | true=>
     have HRy:=hid (HRt.o.1 hr);have hcall:=ztg w0 l b la lb lc _ lca lcb lcc c0 w.heap.size (w.heap.size+1) w1.heap.size W0.heap.size fp HKH.o (w1.heap.size+1+1) (w1.heap.size+1+1+1) (by omega) (by omega) (lacks S b.os.length+1) S k hlt;rw[<- HO'.out]at hcall;unfold y8 at hcall;have HCall:=hid hcall;clear hcall hr
     go_upto_region 9 with fail
     have hB:=(bRf w4.heap.size w4).drew;have hS:=HS.o _ (HB4.o.1.trans (hB.mono HB4.o.1.size))
     go_region_held3 (fun W=>(∀j,W.cell? (aD wr.heap.size j)=(oC o v0 v1 q0 q1)[j]?)/\W.cell? (aD (w1.heap.size+1+1+1) 0)=some (.func (.func 145) #[] #[.pointer (some (aD (w1.heap.size+1+1) 0)),.pointer (some (aD w1.heap.size 0)),.pointer (some (aD w.heap.size 0)),.pointer (some (aD (w.heap.size+1) 0)),.pointer (some (aD (w1.heap.size+1+1+1) 0))])) (exact hS) (first
      | (go_at_call 91;refine(jr o v0 v1 q0 q1 _).mono ?_;rintro e w5⟨rfl,hb⟩;have hB:=hB.trans (hb.mono hB.size);have hS:=HS.o w5 (HB4.o.1.trans (hB.mono HB4.o.1.size));clear hb)
      | (go_at_call 145;have hBr:=HB4.o.2.trans (hB.mono HB4.o.2.size);refine(HCall.o _ (Nat.lt_succ_self _) (HBw0r.o.trans (hBr.mono HBw0r.o.size)) (HJ.o.2.1.mono hBr) ((hBr.block _ HbK.o.lt).trans HbK.o) ((hBr.block _ HbF.o.lt).trans HbF.o)).mono ?_;rintro e w6⟨rfl,hS6,hbut⟩;have hS:(∀j,w6.cell? (aD wr.heap.size j)=(oC o v0 v1 q0 q1)[j]?)/\w6.cell? (aD (w1.heap.size+1+1+1) 0)=some (.func (.func 145) #[] #[.pointer (some (aD (w1.heap.size+1+1) 0)),.pointer (some (aD w1.heap.size 0)),.pointer (some (aD w.heap.size 0)),.pointer (some (aD (w.heap.size+1) 0)),.pointer (some (aD (w1.heap.size+1+1+1) 0))]):=⟨fun j=>(World.cell?_of_block (a:=(aD wr.heap.size j)) (hbut.block _ (nLt hz2 (HB4.o.1.trans (hB.mono HB4.o.1.size)).size) HNr.o.1)).trans (hS.1 j),(World.cell?_of_block (a:=(aD (w1.heap.size+1+1+1) 0)) (hbut.block _ (nLt HbF.o.lt hBr.size) HNr.o.2)).trans hS.2⟩;have HS6:=yB hS6 ((But.of_below hBr).trans (hbut.mono hBr.size));clear hS6 hbut))
     obtain⟨⟨S',hk',hkp,hS'⟩,hbt⟩:=HS6.o;have HNx:=zao (HJ.o.1.next HRy.o hkp hS') hk' (HJ.o.2.2.trans (hbt.mono HJ.o.2.2.size));clear hk' hkp hS' hbt;go_wp2
     exact⟨⟨k+1,S',by omega,by go_num,HNx.o⟩,zi hlt⟩
  ·have e:k=b.os.length:=by omega
   subst e;have hC6:∀j,wr.cell? (aD (w.heap.size+1) j)=(bC b a0 a1 a2 a3 c0 c1 c2 c3)[j]?:=fun j=>(World.cell?_of_block (a:=(aD (w.heap.size+1) j)) (HJ.o.2.2.block (w.heap.size+1) (by omega) (by omega))).trans (hC5 j)
   have hz6:w.heap.size+1<wr.heap.size:=by have:=HJ.o.2.2.size;omega
   have cK6:=HbK.o.cell;have hzK6:=HbK.o.lt;have HPt:Hid (∀k (h:k<b.os.length),(greatest l b.os s).getD k false=!S k):=fun k h=>HJ.o.1.part HM.o.2.len k h
   have HPl:Hid ((greatest l b.os s).length=b.os.length):=(ze8 _ _ _).trans HM.o.2.len;have HKS:Hid (zad b.os w0.heap.size S wr/\Bw w wr):=⟨HJ.o.2.1,HBr.o⟩
   obtain⟨W6,hW6⟩:=xN (wr);rw[<- hW6]at hC6 hz6 cK6 hzK6 HKS ⊢;clear hW6 HJ HMr HbF hC5 HBw0r hrk;go_wp2
   go_loopw [12,46] (fun v0 iv wr=>∃(k:Nat) (v:Value),v=v0/\k<=b.os.length/\iv=.i k/\Hid (wr.ownsRow W6.heap.size 3 1 v (yE (greatest l b.os s) k).length (ints (yE (greatest l b.os s) k))/\Bw W6 wr)) (fun _ iv _=>b.os.length-(intOf iv).toNat)
   case atStart=>exact⟨0,_,rfl,Nat.zero_le _,rfl,World.ownsRow_nil _ _ _ _,bRf _ _⟩
   case round=>
    obtain⟨k,v,hv,hk,rfl,HQ⟩:=hrel;subst hv;have hkn:k<=40:=by have:=HO.o.1;omega
    have HBr:Hid (Bw w wr):=HKS.o.2.trans (HQ.o.2.mono HKS.o.2.size)
    by_cases hlt:k<b.os.length
    ·obtain⟨ob,off,v0,v1,q0,q1,rfl,hob,hsm,hl0,hl1,d0,d1,d2,d3,d4,d5,d6⟩:=HK.o.os.load HBr.o k hlt
     have hltI:(k:Int)<(b.os.length:Int):=by omega
     have hob':ob<wr.heap.size:=nLt hob HBr.o.size;have HSm:Hid b.os[k].Small:=hsm;obtain⟨fk,hfk,hfS⟩:=HKS.o.1;have HFk:Hid (zH wr w0.heap.size fk/\(fk b.os[k].kd b.os[k].nm).isSome=S k):=⟨hfk.mono HQ.o.2,hfS k hlt⟩
     have cKr:=(HQ.o.2.cell (p:=(aD (w1.heap.size+1+1) 0)) hzK6).trans cK6;have hzKr:=nLt hzK6 HQ.o.2.size;have HLL:Hid ((yE (greatest l b.os s) k).length<=40):=by have:=zdA (greatest l b.os s) k;show _<=_;omega
     have hpt:=HPt.o k hlt;have hgl:k<(greatest l b.os s).length:=by rw[HPl.o];exact hlt
     have hgk:(greatest l b.os s)[k]=!S k:=by rw[<- hpt];simp[List.getElem?_eq_getElem hgl]
     clear hsm hl0 hl1 hfk hfS hpt;go_wp2_with fail
     have hO:=za (zI wr (oC b.os[k] v0 v1 q0 q1) 116) (by simp) (bRf _ (wr.alloc (.cells (oC b.os[k] v0 v1 q0 q1) 116))).drew;have hBo:Bw wr (wr.alloc (.cells (oC b.os[k] v0 v1 q0 q1) 116)).drew:=(bAl _ _).drew;obtain⟨W7,hW7⟩:=xN (wr.alloc (.cells (oC b.os[k] v0 v1 q0 q1) 116));have hzO:wr.heap.size<W7.drew.heap.size:=by rw[hW7];show wr.heap.size<(wr.alloc (.cells (oC b.os[k] v0 v1 q0 q1) 116)).heap.size;simp
     rw[<- hW7]at hO hBo ⊢;clear hW7 d0 d1 d2 d3 d4 d5 d6;have hB:=hBo;have cK:=(hBo.cell (p:=(aD (w1.heap.size+1+1) 0)) hzKr).trans cKr;have hzK:=nLt hzKr hBo.size;clear hBo cKr
     cases hSk:S k with
     | true=>
      rw[hSk]at hgk HFk;have HS:=hid (zfp hgl hgk);clear hgk hgl hSk cK6 hC6
      go_region_held3 (fun w'=>(∀j,w'.cell? (aD wr.heap.size j)=(oC b.os[k] v0 v1 q0 q1)[j]?)/\w'.cell? (aD (w1.heap.size+1+1) 0)=some (.map (some w0.heap.size))) (exact⟨hO,cK⟩) (first
       | (go_at_call 91;refine(jr b.os[k] v0 v1 q0 q1 _).mono ?_;rintro e w5⟨rfl,hb⟩;have hO:=za hO hzO hb;have cK:=(hb.cell (p:=(aD (w1.heap.size+1+1) 0)) hzK).trans cK;have hB:=hB.trans (hb.mono hB.size);have hzO:=nLt hzO hb.size;have hzK:=nLt hzK hb.size;clear hb)
       | (go_at_call 95;refine(zw HFk.o.2 (zeD w0.heap.size fk b.os[k].kd b.os[k].nm _ (by exact HFk.o.1.mono hB) HSm.o.kd HSm.o.nm)).mono ?_;rintro e w6⟨rfl,hb⟩;have hO:=za hO hzO hb;have cK:=(hb.cell (p:=(aD (w1.heap.size+1+1) 0)) hzK).trans cK;have hB:=hB.trans (hb.mono hB.size);have hzO:=nLt hzO hb.size;have hzK:=nLt hzK hb.size;clear hb))
      go_wp2
      exact⟨⟨k+1,_,rfl,by omega,by go_num,by rw[HS.o];exact yc HQ.o.1 hB,HQ.o.2.trans (hB.mono HQ.o.2.size)⟩,zi hlt⟩
     | false=>
      rw[hSk]at hgk HFk;have HS:=hid (zeH hgl hgk);clear hgk hgl hSk cK6 hC6
      go_region_held3 (fun w'=>(∀j,w'.cell? (aD wr.heap.size j)=(oC b.os[k] v0 v1 q0 q1)[j]?)/\w'.cell? (aD (w1.heap.size+1+1) 0)=some (.map (some w0.heap.size))) (exact⟨hO,cK⟩) (first
       | (go_at_call 91;refine(jr b.os[k] v0 v1 q0 q1 _).mono ?_;rintro e w5⟨rfl,hb⟩;have hO:=za hO hzO hb;have cK:=(hb.cell (p:=(aD (w1.heap.size+1+1) 0)) hzK).trans cK;have hB:=hB.trans (hb.mono hB.size);have hzO:=nLt hzO hb.size;have hzK:=nLt hzK hb.size;clear hb)
       | (go_at_call 95;refine(zw HFk.o.2 (zeD w0.heap.size fk b.os[k].kd b.os[k].nm _ (by exact HFk.o.1.mono hB) HSm.o.kd HSm.o.nm)).mono ?_;rintro e w6⟨rfl,hb⟩;have hO:=za hO hzO hb;have cK:=(hb.cell (p:=(aD (w1.heap.size+1+1) 0)) hzK).trans cK;have hB:=hB.trans (hb.mono hB.size);have hzO:=nLt hzO hb.size;have hzK:=nLt hzK hb.size;clear hb))
      have HQ3:=yB (yc HQ.o.1 hB) (HQ.o.2.trans (hB.mono HQ.o.2.size))
      go_wp2_with (at_builtin;refine wpList_append_own _ rfl (.tmp 56) (.tmp 58) 71 rfl W6.heap.size 3 i0 (.i 0) 1 8 Tryz.underlying71 HI0.o.1 HI0.o.2.1 HI0.o.2.2.1 HI0.o.2.2.2 rfl (by decide) _ _ _ rfl (HQ3.o.1.alloc _) (aD w6.heap.size 0) 1 1 [.i (k:Int)] rfl rfl (zbA _ _ _) (by intro u hu;simp at hu;subst hu;rfl) (by have:=HLL.o;unfold maxLen;omega) (by have:=HLL.o;omega) (by have:=HQ3.o.2.size;simp;omega) ?_;intro v' w8 hown' hgr _)
      have hgb:∀g',v.ownBlock=some g'->W6.heap.size<=g':=fun g' hg'=>(HQ3.o.1.lt g' hg').1
      refine⟨⟨k+1,_,rfl,by omega,by go_num,?_,zar HQ3.o.2 HQ3.o.2.size hgr hgb⟩,zi hlt⟩;rw[HS.o,List.length_append];have e1:ints (yE (greatest l b.os s) k++[(k:Int)])=ints (yE (greatest l b.os s) k)++[.i (k:Int)]:=by simp[ints]
      rw[e1];exact hown'
    ·have e:k=b.os.length:=by omega
     subst e
     have HW:Hid (wr.ownsRow w.heap.size 3 1 v (places (greatest l b.os s)).length (ints (places (greatest l b.os s)))/\Bw w wr):=by
      unfold places;rw[HPl.o];exact⟨jU HQ.o.1 HKS.o.2.size,HBr.o⟩
     clear HQ hlt hk hC6;go_wp2
     go_ret;exact⟨v,rfl,HW.o⟩
end Go.Proofs.YtjnpjkigofldlaaGreat
namespace Go.Proofs.YtjnpjkigofldlaaGreat
open Go.RowKit
variable {b:Bk}{l:Lw}{os os':List Ob}{e0 e1 e2 e3 g hi k lo n x:Nat}{w:World}{d0 d1 d2 d3:OA}
theorem zsb {f:BA->BA->Option Int}(h:zbj f b.os b.os.length)(hok:zdx b.os):zrL f b.os (endings b.os):=by
 refine⟨by simp[endings],fun j hj=>?_⟩;rw[h,tOl (Nat.le_refl _)];have e:(endings b.os).getD j false=b.os[j].en:=by simp[endings,hj]
 rw[e,Bool.eq_iff_iff,List.any_eq_true]
 constructor
 ·rintro⟨o,ho,h2⟩
  obtain⟨i,hi,rfl⟩:=List.mem_iff_getElem.1 ho;unfold jC at h2;simp only[Bool.and_eq_true,decide_eq_true_eq]at h2
  have:=hok i j hi hj h2.2.1 h2.2.2
  subst this;exact h2.1
 ·intro h2
  exact⟨b.os[j],List.getElem_mem hj,by simp[h2,jC]⟩
theorem zcZ.of (h:yj l.ss l.ms=true/\zM l b=true):zcZ l b.os:=
 ⟨(zdM h.1 h.2).1,zdx.of h.2,zqo h.2,zfL h.1,(zdM h.1 h.2).2⟩
theorem zm5 (l:Lw)(la lb lc:OA)(lca lcb lcc:Nat)(b:Bk)(a0 a1 a2 a3:OA)(c0 c1 c2 c3:Nat)(w:World)(hl:qp w l la lb lc)(hb:qj w b a0 a1 a2 a3)(hok:zcZ l b.os) :
 Calls Tryz.prog 34 #[.agg (lC l la lb lc lca lcb lcc),.agg (bC b a0 a1 a2 a3 c0 c1 c2 c3)] w fun e w'=>∃v,e=.returned v/\w'.ownsRow w.heap.size 3 1 v (zdH l b.os).length (ints (zdH l b.os))/\Bw w w':=by
 have HK:Hid (qj w b a0 a1 a2 a3):=hb;have HL:Hid (qp w l la lb lc):=hl;have HO:=hid hok;have HN:Hid (b.os.length<=1048576):=Nat.le_trans hok.few (by decide);clear hb hl hok;go_in;go_wp2_with fail
 obtain⟨hL0,hX0⟩:=qB w (lC l la lb lc lca lcb lcc) (bC b a0 a1 a2 a3 c0 c1 c2 c3) 47 40;have hB0:=zo w (.cells (lC l la lb lc lca lcb lcc) 47) (.cells (bC b a0 a1 a2 a3 c0 c1 c2 c3) 40);obtain⟨W0,hW0⟩:=xN ((w.alloc (.cells (lC l la lb lc lca lcb lcc) 47)).alloc (.cells (bC b a0 a1 a2 a3 c0 c1 c2 c3) 40));have hz0:w.heap.size+1<W0.heap.size:=by rw[hW0];simp
 rw[<- hW0]at hL0 hX0 hB0 ⊢;clear hW0;have hL:=za hL0 (nSl hz0) (bRf W0.heap.size W0).drew;have hX:=za hX0 hz0 (bRf W0.heap.size W0).drew;have hz:w.heap.size+1<W0.drew.heap.size:=hz0;have hB:=hB0.drew;clear hL0 hX0 hz0 hB0
 go_region_held3 (fun w'=>(∀j,w'.cell? (aD w.heap.size j)=(lC l la lb lc lca lcb lcc)[j]?)/\∀j,w'.cell? (aD (w.heap.size+1) j)=(bC b a0 a1 a2 a3 c0 c1 c2 c3)[j]?) (exact⟨hL,hX⟩) (first
  | (go_at_call 83;refine(zge b a0 a1 a2 a3 c0 c1 c2 c3 _ (by exact HK.o.mono hB) HN.o).mono ?_;rintro e w1⟨⟨r,f,rfl,hr,hf,hef⟩,hb⟩;have hL:=za hL (nSl hz) hb;have hX:=za hX hz hb;have hB:=hB.trans (hb.mono hB.size);have hz:=nLt hz hb.size;clear hb)
  | (go_at_call 85;refine(zsE l la lb lc lca lcb lcc b a0 a1 a2 a3 c0 c1 c2 c3 r f (endings b.os) _ (by exact HL.o.mono hB) (by exact HK.o.mono hB) (by exact hf) (zsb hef HO.o.one) HO.o).mono ?_;rintro e w2⟨v,rfl,hv,hb⟩;have HV:Hid (w2.ownsRow w.heap.size 3 1 v (zdH l b.os).length (ints (zdH l b.os))/\Bw w w2):=⟨jU hv hB.size,hB.trans (hb.mono hB.size)⟩;have hL:=za hL (nSl hz) hb;have hX:=za hX hz hb;clear hb hv))
 go_wp2
 go_ret;exact⟨v,rfl,HV.o⟩
def upTo (ms:List Int)(now:Int)(os:List Ob):Nat->List Ob
 | 0=>os
 | k+1=>(upTo ms now os k).modify (ms.getD k 0).toNat fun o=>{ o with en:=true,vr:=now+(k+1:Nat) }
noncomputable def zd3 (l:Lw)(b:Bk):List Ob:=upTo (marks l b.os) b.now b.os (marks l b.os).length
noncomputable def zru (l:Lw)(b:Bk):Int:=b.now+(marks l b.os).length
noncomputable def goS (l:Lw)(os:List Ob):List Bool:=greatest l os (endings os)
def ze0 (l:Lw)(o:Ob)(g:Lg):Lg:=if under l.ts 4 o.tm g.tm=true then { g with fr:=wrap64 (g.fr+qm l.ss o g.rs) } else g
def lets (l:Lw)(os:List Ob)(ps:List Int)(ls:List Lg):List Lg:=ps.foldl (fun ls p=>ls.map (ze0 l (jo os p.toNat))) ls
def zcF (os:List Ob)(ps:List Int)(p q:BA):Bool:=ps.any fun i=>jC p q (jo os i.toNat)
def yA (s:List Bool):Nat->List Nat
 | 0=>[]
 | k+1=>yA s k++if s.getD k false=true then [] else [k]
def ql (G:BA->BA->Bool)(x:Lk):Bool:=decide (x.rl=2)&&G x.to x.nm
noncomputable def zS (G:BA->BA->Bool)(xs:List Lk)(vs:List BA):List BA:=vs.mapIdx fun k v=>if (xs.any fun x=>decide (x.pl=(k:Int))&&ql G x)=true then ByteArray.empty else v
noncomputable def lks (l:Lw)(o:Ob):List Lk:=yt (shapeOf l.ss o.kd).fs o.vs (shapeOf l.ss o.kd).fs.length
noncomputable def leans (l:Lw)(G:BA->BA->Bool)(o:Ob):Bool:=(lks l o).any (ql G)
noncomputable def zae (l:Lw)(G:BA->BA->Bool)(n:Int)(o:Ob):Ob × Int:=if leans l G o=true then ({ o with vs:=zS G (lks l o) o.vs,vr:=n+1 },n+1) else (o,n)
noncomputable def fixes (l:Lw)(G:BA->BA->Bool)(xs:List Ob)(n:Int):List Ob × Int:=xs.foldl (fun s o=>(s.1++[(zae l G s.2 o).1],(zae l G s.2 o).2)) ([],n)
noncomputable def qx (os:List Ob)(s:List Bool)(k:Nat):List Ob:=(yA s k).map (jo os)
noncomputable def za7 (l:Lw)(b:Bk):Bk:=
 { b with os:=(fixes l (zcF (zd3 l b) (places (goS l (zd3 l b)))) (qx (zd3 l b) (goS l (zd3 l b)) b.os.length) (zru l b)).1,now:=(fixes l (zcF (zd3 l b) (places (goS l (zd3 l b)))) (qx (zd3 l b) (goS l (zd3 l b)) b.os.length) (zru l b)).2,ls:=lets l (zd3 l b) (places (goS l (zd3 l b))) b.ls }
noncomputable def zcx (l:Lw)(b:Bk):Bk × Int:=
 if qG l b=true then (if marks l b.os=[]/\zdH l b.os=[] then (b,2) else if 1000000<(za7 l b).now then (b,3) else (za7 l b,0)) else (zc6,1)
theorem zeb (ms:List Int)(now:Int)(os:List Ob):∀k,(upTo ms now os k).length=os.length
 | 0=>rfl
 | k+1=>by show(List.modify _ _ _).length=_;rw[List.length_modify,zeb ms now os k]
def Alike (os os':List Ob):Prop:=os'.length=os.length/\∀i (h:i<os.length) (h':i<os'.length),∃e v,os'[i]={ os[i] with en:=e,vr:=v }
theorem zeE (ms:List Int)(now:Int)(os:List Ob):∀k,Alike os (upTo ms now os k)
 | 0=>⟨rfl,fun i h _=>⟨os[i].en,os[i].vr,rfl⟩⟩
 | k+1=>by
  obtain⟨h1,h2⟩:=zeE ms now os k;refine⟨zeb _ _ _ _,fun i h h'=>?_⟩;obtain⟨e,v,h3⟩:=h2 i h (by omega);simp only[upTo];rw[List.getElem_modify]
  split
  ·exact⟨_,_,by rw[h3]⟩
  ·exact⟨_,_,h3⟩
theorem Alike.ok (h:Alike os os')(ho:zcZ l os):zcZ l os':=by
 have hl:=h.1
 have hg:∀i (hi:i<os'.length),∃hi':i<os.length,os'[i].kd=os[i].kd/\os'[i].nm=os[i].nm/\os'[i].vs=os[i].vs:=fun i hi=>by
  obtain⟨e,v,h3⟩:=h.2 i (by omega) hi;exact⟨by omega,by rw[h3],by rw[h3],by rw[h3]⟩
 refine⟨by have:=ho.few;omega,fun i j hi hj e1 e2=>?_,fun i hi x hx=>?_,ho.sh,fun i hi=>?_⟩
 ·obtain⟨hi',a1,a2,_⟩:=hg i hi
  obtain⟨hj',b1,b2,_⟩:=hg j hj;rw[a1,b1]at e1;rw[a2,b2]at e2;exact ho.one i j hi' hj' e1 e2
 ·obtain⟨hi',a1,_,a3⟩:=hg i hi
  rw[a1,a3]at hx;obtain⟨j,hj,e1,e2⟩:=ho.name i hi' x hx;obtain⟨_,b1,b2,_⟩:=hg j (by omega);exact⟨j,by omega,b1.trans e1,b2.trans e2⟩
 ·obtain⟨hi',a1,_,a3⟩:=hg i hi
  have:=ho.whole i hi'
  unfold zq at this ⊢;rw[a1,a3];exact this
theorem Alike.small (h:Alike os os')(hs:zbJ os):zbJ os':=⟨fun i hi=>by
 obtain⟨e,v,h3⟩:=h.2 i (by have:=h.1;omega) hi;obtain⟨s1,s2,s3⟩:=hs.small i (by have:=h.1;omega);rw[h3];exact⟨⟨s1.kd,s1.nm,s1.tm⟩,s2,s3⟩⟩
theorem Alike.few (h:Alike os os')(hf:∀i (h:i<os.length),os[i].vs.length<=1048576/\os[i].hs.length<=1048576):∀i (h:i<os'.length),os'[i].vs.length<=1048576/\os'[i].hs.length<=1048576:=fun i hi=>by
 obtain⟨e,v,h3⟩:=h.2 i (by have:=h.1;omega) hi;rw[h3];exact hf i (by have:=h.1;omega)
theorem zli {l:Lw}{os:List Ob}:∀k,k<=os.length->∀p∈yN l os k,∃j:Nat,p=j/\j<os.length
 | 0,_,p,hp=>by cases hp
 | k+1,hk,p,hp=>by
  rcases List.mem_append.1 hp with hp|hp
  ·exact zli k (by omega) p hp
  ·unfold zbW at hp
   rw[dif_pos (by omega)]at hp
   split at hp
   ·simp only[List.mem_singleton]at hp
    exact⟨k,hp,by omega⟩
   ·cases hp
theorem zoz (h:k<(marks l os).length):∃j:Nat,(marks l os)[k]=j/\j<os.length:=zli _ (Nat.le_refl _) _ (List.getElem_mem h)
theorem zei {s:List Bool}:∀k,∀p∈yE s k,∃j:Nat,p=j/\j<k/\s.getD j false=true
 | 0,p,hp=>by cases hp
 | k+1,p,hp=>by
  rcases List.mem_append.1 hp with hp|hp
  ·obtain⟨j,h1,h2,h3⟩:=zei k p hp
   exact⟨j,h1,by omega,h3⟩
  ·unfold zbS at hp
   split at hp
   ·rename_i hs
    simp only[List.mem_singleton]at hp;exact⟨k,hp,by omega,hs⟩
   ·cases hp
theorem zgW (l:Lw)(os:List Ob):(goS l os).length=os.length:=by unfold goS;rw[ze8];simp[endings]
theorem zr7 (h:k<(places (goS l os)).length):∃j:Nat,(places (goS l os))[k]=j/\j<os.length:=by
 obtain⟨j,h1,h2,_⟩:=zei _ _ (List.getElem_mem h);rw[zgW]at h2;exact⟨j,h1,h2⟩
theorem zsq {now:Int}{j:Nat}(h:k<(marks l os).length)(hj:(marks l os)[k]=j)(hl:j<(upTo (marks l os) now os k).length):upTo (marks l os) now os (k+1)=(upTo (marks l os) now os k).set j { (upTo (marks l os) now os k)[j] with en:=true,vr:=now+(k+1:Nat) }:=by
 show List.modify _ _ _=_
 rw[List.getD_eq_getElem?_getD,List.getElem?_eq_getElem h,Option.getD_some,hj,Int.toNat_natCast];refine List.ext_getElem (by simp) (fun i h1 h2=>?_);rw[List.getElem_modify,List.getElem_set]
 split
 ·rename_i e
  subst e
  rfl
 ·rfl
theorem zmV (l:Lw)(os:List Ob)(ps:List Int)(p:Int)(ls:List Lg):lets l os (ps++[p]) ls=(lets l os ps ls).map (ze0 l (jo os p.toNat)):=by unfold lets;rw[List.foldl_append];rfl
theorem zgC (l:Lw)(G:BA->BA->Bool)(xs:List Ob)(o:Ob)(n:Int):fixes l G (xs++[o]) n=((fixes l G xs n).1++[(zae l G (fixes l G xs n).2 o).1],(zae l G (fixes l G xs n).2 o).2):=by unfold fixes;rw[List.foldl_append];rfl
theorem zd7 {s:List Bool}:∀ {k i:Nat},i∈yA s k->i<k/\s.getD i false=false
 | 0,_,h=>by cases h
 | k+1,i,h=>by
  rcases List.mem_append.1 h with h|h
  ·have:=zd7 h;exact⟨by omega,this.2⟩
  ·split at h
   ·cases h
   ·simp only[List.mem_singleton]at h
    subst h;exact⟨by omega,by rename_i h2;simpa using h2⟩
theorem zkb {s:List Bool}:∀k,(yA s k).Pairwise (· < ·)
 | 0=>List.Pairwise.nil
 | k+1=>by
  show(yA s k++_).Pairwise _
  rw[List.pairwise_append];refine⟨zkb k,by split <;> simp,fun a ha b hb=>?_⟩
  split at hb
  ·cases hb
  ·simp only[List.mem_singleton]at hb
   have:=(zd7 ha).1
   omega
theorem zec {s:List Bool}:∀k,(yA s k).length<=k
 | 0=>Nat.le_refl _
 | k+1=>by
  show(yA s k++_).length<=_
  have:=zec (s:=s) k
  rw[List.length_append];split <;> simp <;> omega
theorem zdS (l:Lw)(G:BA->BA->Bool)(n:Int)(xs:List Ob):(fixes l G xs n).1.length=xs.length:=by
 have h:∀(xs:List Ob) (s:List Ob × Int),(xs.foldl (fun s o=>(s.1++[(zae l G s.2 o).1],(zae l G s.2 o).2)) s).1.length=s.1.length+xs.length:=by
  intro xs
  induction xs with
  | nil=>intro s;rfl
  | cons x xs ih=>intro s;rw[List.foldl_cons,ih];simp;omega
 have h2:=h xs ([],n);rw[List.length_nil,Nat.zero_add]at h2;exact h2
theorem Left.one (w:World)(g o:Nat)(v:Value):Left (fun q=>q=g) w (w.setCell (aD g o) v):=(Left.refl (fun q=>q=g) w).set (S:=fun q=>q=g) rfl o v
theorem jD.cell {own:Nat->Lb}{f:Nat->Ob}(h:jD lo w own (some (aD g 0)) n f)(i j:Nat)(hi:i<n)(hj:j<7)(v:Value)(y:Ob)(hvs:y.vs=(f i).vs)(hhs:y.hs=(f i).hs)(hy:∀a0 a1 c0 c1 k,k<7->(oC y a0 a1 c0 c1)[k]?=if k=j then some v else (oC (f i) a0 a1 c0 c1)[k]?) :
 jD lo (w.setCell (aD g (i*7+j)) v) own (some (aD g 0)) n (fun k=>if k=i then y else f k):=by
 refine⟨fun hn=>?_⟩;obtain⟨b,C,ha,hlo,hb,hC,hs,hr⟩:=h.rows hn
 cases ha
 refine⟨g,_,rfl,hlo,hb,zh hC _,by simpa using hs,fun k hk=>?_⟩;obtain⟨a0,a1,c0,c1,hx⟩:=hr k hk;have hL:Left (fun q=>q=g) w (w.setCell (aD g (i*7+j)) v):=Left.one _ _ _ _;have n0:∀a,a0=some a->¬a.block=g:=fun a ha e=>by have h1:=hx.o0 a ha;rw[e,hb]at h1;simp at h1
 have n1:∀a,a1=some a->¬a.block=g:=fun a ha e=>by have h1:=hx.o1 a ha;rw[e,hb]at h1;simp at h1
 by_cases e:k=i
 ·subst e
  rw[if_pos rfl];refine⟨a0,a1,c0,c1,fun t ht=>?_,by rw[hvs];exact hx.l0.left hL n0,hx.o0,by rw[hhs];exact hx.l1.left hL n1,hx.o1⟩;have h1:=hy a0 a1 c0 c1 t ht;have h2:=hx.cell t ht
  show(C.setIfInBounds (k*7+j) v)[k*7+t]?=(oC y a0 a1 c0 c1)[t]?
  rw[h1]
  by_cases et:t=j
  ·subst et
   rw[if_pos rfl,Array.getElem?_setIfInBounds_self_of_lt (by omega)]
  ·rw[if_neg et,Array.getElem?_setIfInBounds_ne (by omega)]
   exact h2
 ·rw[if_neg e]
  refine⟨a0,a1,c0,c1,fun t ht=>?_,hx.l0.left hL n0,hx.o0,hx.l1.left hL n1,hx.o1⟩
  show(C.setIfInBounds (i*7+j) v)[k*7+t]?=_
  rw[Array.getElem?_setIfInBounds_ne (by omega)];exact hx.cell t ht
theorem jD.val {own:Nat->Lb}{f:Nat->Ob}(h:jD lo w own (some (aD g 0)) n f)(i:Nat)(hi:i<n)(gv m c:Nat)(hv:w.cell? (aD g (i*7+3))=some (.l (some (aD gv 0)) m c))(k:Nat)(s:BA) :
 jD lo (w.setCell (aD gv k) (.s s)) own (some (aD g 0)) n (fun q=>if q=i then { f i with vs:=(f i).vs.set k s } else f q)/\own gv=(0,i,1):=by
 obtain⟨b,C,ha,hlo,hb,hC,hs,hr⟩:=h.rows (by omega)
 cases ha
 obtain⟨p0,p1,q0,q1,hp⟩:=hr i hi
 have e0:p0=some (aD gv 0):=by
  have h1:=hp.cell 3 (by omega);rw[cell_of_block hC]at hv
  replace h1:=hv.symm.trans h1
  simp at h1
  exact h1.1.symm
 subst e0;have hgv:=hp.o0 _ rfl;refine⟨⟨fun hn=>?_⟩,hgv⟩;have hL:Left (fun q=>q=gv) w (w.setCell (aD gv k) (.s s)):=Left.one _ _ _ _;refine⟨g,C,rfl,hlo,hb,(hL.out g (gES hC).1 (fun e=>by rw[e,hgv]at hb;simp at hb)).trans hC,hs,fun q hq=>?_⟩
 by_cases e:q=i
 ·subst e
  rw[if_pos rfl];exact⟨_,p1,q0,q1,fun t ht=>by rw[List.length_set];exact hp.cell t ht,hp.l0.set k s,hp.o0,hp.l1.left hL (fun a ha e=>by have h1:=hp.o1 a ha;rw[e,hgv]at h1;simp at h1),hp.o1⟩
 ·rw[if_neg e]
  obtain⟨a0,a1,c0,c1,hx⟩:=hr q hq;exact⟨a0,a1,c0,c1,hx.cell,hx.l0.left hL (fun a ha e2=>by have h1:=hx.o0 a ha;rw[e2,hgv]at h1;simp at h1;exact e h1.symm),hx.o0,hx.l1.left hL (fun a ha e2=>by have h1:=hx.o1 a ha;rw[e2,hgv]at h1;simp at h1),hx.o1⟩
theorem zaR.cell {own:Nat->Lb}{f:Nat->Lg}(h:zaR lo w own (some (aD g 0)) n f)(i:Nat)(hi:i<n)(v:Int) :
 zaR lo (w.setCell (aD g (i*4+3)) (.i v)) own (some (aD g 0)) n (fun k=>if k=i then { f i with fr:=v } else f k):=by
 refine⟨fun hn=>?_⟩;obtain⟨b,C,ha,hlo,hb,hC,hs,hr⟩:=h.rows hn
 cases ha
 refine⟨g,_,rfl,hlo,hb,zh hC _,by simpa using hs,fun k hk=>⟨fun t ht=>?_⟩⟩;have hx:=(hr k hk).cell t ht
 show(C.setIfInBounds (i*4+3) _)[k*4+t]?=_
 by_cases e:k=i
 ·subst e
  rw[if_pos rfl]
  by_cases et:t=3
  ·subst et
   rw[Array.getElem?_setIfInBounds_self_of_lt (by omega)];rfl
  ·rw[Array.getElem?_setIfInBounds_ne (by omega)]
   refine hx.trans ?_
   have:t=0 \/ t=1 \/ t=2:=by omega
   rcases this with rfl|rfl|rfl <;> rfl
 ·rw[if_neg e,Array.getElem?_setIfInBounds_ne (by omega)]
  exact hx
def zga (own:Nat->Lb)(ix:List Nat)(k:Nat):Lb:=if (own k).1=0/\(own k).2.2≠0 then (if (own k).2.1∈ix then (0,ix.findIdx (fun q=>decide (q=(own k).2.1)),(own k).2.2) else (9,0,0)) else own k
theorem zmx {own:Nat->Lb}{ix:List Nat}(h:(own k).1≠0):zga own ix k=own k:=if_neg fun h2=>h h2.1
theorem zpN {own:Nat->Lb}{ix:List Nat}(hn:ix.Nodup){r p:Nat}(hr:r<ix.length)(hp:p≠0)(h:own k=(0,ix[r],p)):zga own ix k=(0,r,p):=by
 unfold zga;rw[h,if_pos ⟨rfl,hp⟩,if_pos (List.getElem_mem hr)]
 have e:ix.findIdx (fun q=>decide (q=ix[r]))=r:=by
  rw[List.findIdx_eq hr];refine⟨by simp,fun j hj=>?_⟩;have h2:ix[j]≠ix[r]:=(List.pairwise_iff_getElem.1 hn) j r (by omega) hr hj
  simp[h2]
 simp only[e]
theorem jD.pick {W:World}{own:Nat->Lb}{f:Nat->Ob}{C C':AV}(h:jD lo w own (some (aD g 0)) n f)(hn:0<n)(hC:w.heap[g]?=some (.cells C 116))(hC':W.heap[g]?=some (.cells C' 116))(hs:C'.size=C.size)(ix:List Nat)(hd:ix.Nodup)(hix:∀i∈ix,i<n)(hl:ix.length<=n)(hL:Left (fun q=>q=g) w W)(hr:∀r (h:r<ix.length) t,t<7->C'[r*7+t]?=C[ix[r]*7+t]?) :
 jD lo W (zga own ix) (some (aD g 0)) ix.length (fun r=>f (ix.getD r 0)):=by
 refine⟨fun _=>?_⟩;obtain⟨b,C0,ha,hlo,hb,hC0,hsz,hx⟩:=h.rows hn
 cases ha
 rw[hC]at hC0
 cases hC0
 refine⟨g,C',rfl,hlo,by unfold zga;rw[hb];rfl,hC',by omega,fun r hrl=>?_⟩;obtain⟨a0,a1,c0,c1,hp⟩:=hx ix[r] (hix _ (List.getElem_mem hrl));have n0:∀a,a0=some a->¬a.block=g:=fun a ha e=>by have h1:=hp.o0 a ha;rw[e,hb]at h1;simp at h1
 have n1:∀a,a1=some a->¬a.block=g:=fun a ha e=>by have h1:=hp.o1 a ha;rw[e,hb]at h1;simp at h1
 have e:ix.getD r 0=ix[r]:=by simp[hrl]
 rw[e];exact⟨a0,a1,c0,c1,fun t ht=>(hr r hrl t ht).trans (hp.cell t ht),hp.l0.left hL n0,fun a ha=>zpN hd hrl (by decide) (hp.o0 a ha),hp.l1.left hL n1,fun a ha=>zpN hd hrl (by decide) (hp.o1 a ha)⟩
structure BkB (lo hi x:Nat)(w:World)(own:Nat->Lb)(b:Bk)(d0 d1 d2 d3:OA)(e0 e1 e2 e3:Nat):Prop where
 box:w.heap[x]?=some (.cells (bC b d0 d1 d2 d3 e0 e1 e2 e3) 40)
 bk:BkL lo hi w own b d0 d1 d2 d3
 out:(own x).1=9
theorem BkB.left {S:Nat->Prop}{w':World}{own:Nat->Lb}(h:BkB lo hi x w own b d0 d1 d2 d3 e0 e1 e2 e3)(hl:Left S w w')(hS:∀k,(own k).1<4->¬S k)(hx:¬S x):BkB lo hi x w' own b d0 d1 d2 d3 e0 e1 e2 e3:=
 ⟨(hl.out x (gES h.box).1 hx).trans h.box,BkF.left h.bk hl hS,h.out⟩
theorem BkB.mono {w':World}{own:Nat->Lb}(h:BkB lo hi x w own b d0 d1 d2 d3 e0 e1 e2 e3)(hb:Bw w w'):BkB lo hi x w' own b d0 d1 d2 d3 e0 e1 e2 e3:=h.left (Left.of_below (fun _=>False) hb) (fun _ _ h=>h) id
theorem BkB.lt {own:Nat->Lb}(h:BkB lo hi x w own b d0 d1 d2 d3 e0 e1 e2 e3):x<w.heap.size:=(gES h.box).1
theorem zkW {i:Nat}{y:Ob}(hi:i<os.length)(hk:k<os.length):jo (os.set i y) k=if k=i then y else jo os k:=by
 rw[qW (by simpa using hk),List.getElem_set]
 by_cases e:k=i
 ·subst e;rw[if_pos rfl,if_pos rfl]
 ·rw[if_neg (fun h=>e h.symm),if_neg e,qW hk]
theorem BkB.now {own:Nat->Lb}(h:BkB lo hi x w own b d0 d1 d2 d3 e0 e1 e2 e3)(n:Int):BkB lo hi x (w.setCell (aD x 0) (.i n)) own { b with now:=n } d0 d1 d2 d3 e0 e1 e2 e3:=by
 have hL:Left (fun q=>q=x) w (w.setCell (aD x 0) (.i n)):=Left.one _ _ _ _;exact⟨zh h.box _,BkF.left h.bk hL (fun k hk e=>by have:=h.out;rw[<- e]at this;omega),h.out⟩
theorem BkB.cell {own:Nat->Lb}(h:BkB lo hi x w own b (some (aD g 0)) d1 d2 d3 e0 e1 e2 e3)(i j:Nat)(hil:i<b.os.length)(hj:j<7)(v:Value)(y:Ob)(hvs:y.vs=b.os[i].vs)(hhs:y.hs=b.os[i].hs)(hy:∀a0 a1 c0 c1 k,k<7->(oC y a0 a1 c0 c1)[k]?=if k=j then some v else (oC b.os[i] a0 a1 c0 c1)[k]?) :
 BkB lo hi x (w.setCell (aD g (i*7+j)) v) own { b with os:=b.os.set i y } (some (aD g 0)) d1 d2 d3 e0 e1 e2 e3:=by
 obtain⟨b',C,ha,hlo,hg,_⟩:=h.bk.os.rows (by omega)
 cases ha
 have hL:Left (fun q=>q=g) w (w.setCell (aD g (i*7+j)) v):=Left.one _ _ _ _;have hn:∀k,(own k).1≠0->¬k=g:=fun k hk e=>by rw[e,hg]at hk;exact hk rfl
 refine⟨?_,⟨?_,h.bk.gs.left hL (fun k hk=>hn k (by omega)),h.bk.ls.left hL (fun k hk=>hn k (by omega)),h.bk.ps.left hL (fun k hk=>hn k (by omega)),h.bk.out,h.bk.le,Nat.le_trans h.bk.hi hL.size⟩,h.out⟩
 ·have h1:=(hL.out x h.lt (hn x (by have:=h.out;omega))).trans h.box
  rw[h1];simp[bC]
 ·have h1:=h.bk.os.cell i j hil hj v y (by rw[qW hil];exact hvs) (by rw[qW hil];exact hhs) (by rw[qW hil];exact hy)
  show jD lo _ own _ (b.os.set i y).length _
  rw[List.length_set];exact h1.same (fun k hk=>zkW hil hk)
theorem BkB.val {own:Nat->Lb}(h:BkB lo hi x w own b (some (aD g 0)) d1 d2 d3 e0 e1 e2 e3)(i:Nat)(hil:i<b.os.length)(gv m c:Nat)(hv:w.cell? (aD g (i*7+3))=some (.l (some (aD gv 0)) m c))(k:Nat)(s:BA) :
 BkB lo hi x (w.setCell (aD gv k) (.s s)) own { b with os:=b.os.set i { b.os[i] with vs:=b.os[i].vs.set k s } } (some (aD g 0)) d1 d2 d3 e0 e1 e2 e3/\own gv=(0,i,1):=by
 have h1:=h.bk.os.val i hil gv m c hv k s;have hL:Left (fun q=>q=gv) w (w.setCell (aD gv k) (.s s)):=Left.one _ _ _ _;have hn:∀k,(own k).1≠0->¬k=gv:=fun k hk e=>by rw[e,h1.2]at hk;exact hk rfl
 refine⟨⟨?_,⟨?_,h.bk.gs.left hL (fun k hk=>hn k (by omega)),h.bk.ls.left hL (fun k hk=>hn k (by omega)),h.bk.ps.left hL (fun k hk=>hn k (by omega)),h.bk.out,h.bk.le,Nat.le_trans h.bk.hi hL.size⟩,h.out⟩,h1.2⟩
 ·have h1:=(hL.out x h.lt (hn x (by have:=h.out;omega))).trans h.box
  rw[h1];simp[bC]
 ·show jD lo _ own _ (b.os.set i _).length _
  rw[List.length_set];refine h1.1.same (fun k hk=>?_);rw[zkW hil hk,qW hil]
end Go.Proofs.YtjnpjkigofldlaaGreat
