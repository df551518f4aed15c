import Derived.Test.YtnapmdofidgliaaGreatM52
set_option maxHeartbeats 8000000
namespace Go.Proofs.YtnapmdofidgliaaGreat
open Go.RowKit Go.Shelf
structure zms (f:ByteArray->ByteArray->Option Int)(os:List Ob)(s:List Bool):Prop where
 len:s.length=os.length
 at_:∀j (h:j<os.length),(f os[j].kd os[j].nm).isSome=s.getD j false
theorem zqP (w:World)(o1 o2 o3 o4:Obj):((((w.alloc o1).alloc o2).alloc o3).alloc o4).heap[w.heap.size]?=some o1/\((((w.alloc o1).alloc o2).alloc o3).alloc o4).heap[w.heap.size+1]?=some o2/\((((w.alloc o1).alloc o2).alloc o3).alloc o4).heap[w.heap.size+1+1]?=some o3/\((((w.alloc o1).alloc o2).alloc o3).alloc o4).heap[w.heap.size+1+1+1]?=some o4:=by
 obtain⟨h1,h2,h3⟩:=zpC w o1 o2 o3;have hb:=(bRf _ (((w.alloc o1).alloc o2).alloc o3)).alloc (Nat.le_refl _) o4;refine⟨(hb.block _ (by simp <;> omega)).trans h1,(hb.block _ (by simp <;> omega)).trans h2,(hb.block _ (by simp)).trans h3,?_⟩
 have:=alloc_at (((w.alloc o1).alloc o2).alloc o3) o4
 simpa using this
set_option maxRecDepth 20000 in
theorem zpB (l:Lw)(la lb lc:Option Addr)(lca lcb lcc:Nat)(b:Bk)(a0 a1 a2 a3:Option Addr)(c0 c1 c2 c3:Nat)(r:Nat)(f:ByteArray->ByteArray->Option Int)(s:List Bool)(w:World)(hl:jh w l la lb lc)(hb:jk w b a0 a1 a2 a3)(hM:yA w r f)(hs:zms f b.os s)(hok:jM l b=true) :
 Calls Tryz.prog 37 #[.agg #[.slice la l.ss.length lca,.slice lb l.ms.length lcb,.slice lc l.ts.length lcc],.agg #[.int .i64 b.now,.int .i64 b.tick,.int .i64 b.given,.slice a0 b.os.length c0,.slice a1 b.gs.length c1,.slice a2 b.ls.length c2,.slice a3 b.ps.length c3],.map (some r)] w fun e w'=>∃v,e=.returned v/\w'.ownsRow w.heap.size 3 1 v (places (greatest l b.os s)).length (ints (places (greatest l b.os s)))/\Below w.heap.size w w':=by
 obtain⟨i0,hi,hzi0,hz1',hz2⟩:=info_parts Tryz.zfu;have HI0:=zkC hi hzi0 hz1' hz2;have HK:=hid hb;have HL:=hid hl;have HM:=jC hM hs;have hfa:=book_facts hok
 have HO:Hid (b.os.length<=40/\zI l b=true/\zN l.ss=true/\∀k (h:k<b.os.length),b.os[k].vs.length=(shapeOf l.ss b.os[k].kd).fs.length):=by
  have hob:=hfa.2;have hmd:=hfa.1;refine⟨?_,hob,zbW hmd,fun k h=>?_⟩
  ·unfold zI at hob
   simp only[Bool.and_eq_true,decide_eq_true_eq]at hob;exact hob.1
  ·unfold zI at hob
   simp only[Bool.and_eq_true,decide_eq_true_eq]at hob;exact zgw hmd (List.all_eq_true.1 hob.2.2 _ (List.getElem_mem h))
 have hmk:∀w:World,(Instr.makeMap 79 none).run Tryz.prog w=.ok (.map (some w.heap.size)) (w.alloc (.map #[] 0)):=fun w=>by kernel_rfl
 clear hb hl hM hs hok hfa hi hzi0 hz1' hz2;go_enter Tryz.func37,Tryz.ntmps37;go_wp2_with fail
 obtain⟨hA0,hC0⟩:=zT w (.cells #[.slice la l.ss.length lca,.slice lb l.ms.length lcb,.slice lc l.ts.length lcc] 41) (.cells #[.int .i64 b.now,.int .i64 b.tick,.int .i64 b.given,.slice a0 b.os.length c0,.slice a1 b.gs.length c1,.slice a2 b.ls.length c2,.slice a3 b.ps.length c3] 48);have hB0:=zw w (.cells #[.slice la l.ss.length lca,.slice lb l.ms.length lcb,.slice lc l.ts.length lcc] 41) (.cells #[.int .i64 b.now,.int .i64 b.tick,.int .i64 b.given,.slice a0 b.os.length c0,.slice a1 b.gs.length c1,.slice a2 b.ls.length c2,.slice a3 b.ps.length c3] 48);obtain⟨W0,hW0⟩:∃W0,W0=(w.alloc (.cells #[.slice la l.ss.length lca,.slice lb l.ms.length lcb,.slice lc l.ts.length lcc] 41)).alloc (.cells #[.int .i64 b.now,.int .i64 b.tick,.int .i64 b.given,.slice a0 b.os.length c0,.slice a1 b.gs.length c1,.slice a2 b.ls.length c2,.slice a3 b.ps.length c3] 48):=⟨_,rfl⟩
 have hz0:w.heap.size+1<W0.heap.size:=by rw[hW0];simp
 rw[<- hW0]at hA0 hC0 hB0 ⊢;clear hW0;refine(zeF a0 c0 b.os _ (HK.out.os.mono hB0) (by have:=HO.out.1;omega)).mono ?_;rintro e w1⟨⟨fp,rfl,hfp,hpl⟩,hb1⟩;have hA1:=(hb1.block _ (by omega)).trans hA0;have hC1:=(hb1.block _ hz0).trans hC0;have hz1:=nLt hz0 hb1.size;have hrp:=hfp.lt;have HB1:Hid (Below w.heap.size w w1):=hB0.trans (hb1.mono hB0.size);have cC1:=zaj hC1;have HP1:Hid (yA w1 W0.heap.size fp/\zbK fp b.os b.os.length/\w1.heap[w.heap.size]?=some (.cells #[.slice la l.ss.length lca,.slice lb l.ms.length lcb,.slice lc l.ts.length lcc] 41)/\w1.heap[w.heap.size+1]?=some (.cells #[.int .i64 b.now,.int .i64 b.tick,.int .i64 b.given,.slice a0 b.os.length c0,.slice a1 b.gs.length c1,.slice a2 b.ls.length c2,.slice a3 b.ps.length c3] 48)):=⟨hfp,hpl,hA1,hC1⟩
 clear hb1 hA0 hC0 hB0 hfp hpl hA1 hC1 hz0;have hC4:∀j,((((w1.alloc (.cells #[.map (some W0.heap.size)] 78)).alloc (.map #[] 0)).alloc (.cells #[.map (some (w1.heap.size+1))] 79)).alloc (.cells #[(.func (.func 77) #[] #[.pointer (some ⟨w1.heap.size+1+1,0,none⟩),.pointer (some ⟨w1.heap.size,0,none⟩),.pointer (some ⟨w.heap.size,0,none⟩),.pointer (some ⟨w.heap.size+1,0,none⟩),.pointer (some ⟨w1.heap.size+1+1+1,0,none⟩)])] 147)).cell? ⟨w.heap.size+1,j,none⟩=(#[.int .i64 b.now,.int .i64 b.tick,.int .i64 b.given,.slice a0 b.os.length c0,.slice a1 b.gs.length c1,.slice a2 b.ls.length c2,.slice a3 b.ps.length c3]:Array Value)[j]?:=fun j=>((zl8 w1 _ _ _ _).cell (p:=⟨w.heap.size+1,j,none⟩) hz1).trans (cC1 j)
 go_wp2_with fail
 clear hC4;obtain⟨k1,k2,k3,k4⟩:=zqP w1 (.cells #[.map (some W0.heap.size)] 78) (.map #[] 0) (.cells #[.map (some (w1.heap.size+1))] 79) (.cells #[(.func (.func 77) #[] #[.pointer (some ⟨w1.heap.size+1+1,0,none⟩),.pointer (some ⟨w1.heap.size,0,none⟩),.pointer (some ⟨w.heap.size,0,none⟩),.pointer (some ⟨w.heap.size+1,0,none⟩),.pointer (some ⟨w1.heap.size+1+1+1,0,none⟩)])] 147);have hb0:Below w1.heap.size w1 (w1.alloc (.cells #[.map (some W0.heap.size)] 78)):=bAl _ _;have hKM:=yR.new b.os (w1.alloc (.cells #[.map (some W0.heap.size)] 78));have hb5:=zw ((w1.alloc (.cells #[.map (some W0.heap.size)] 78)).alloc (.map #[] 0)) (.cells #[.map (some (w1.heap.size+1))] 79) (.cells #[(.func (.func 77) #[] #[.pointer (some ⟨w1.heap.size+1+1,0,none⟩),.pointer (some ⟨w1.heap.size,0,none⟩),.pointer (some ⟨w.heap.size,0,none⟩),.pointer (some ⟨w.heap.size+1,0,none⟩),.pointer (some ⟨w1.heap.size+1+1+1,0,none⟩)])] 147);have hKM5:=hKM.mono hb5;obtain⟨w0,hw0⟩:∃w0,w0=w1.alloc (.cells #[.map (some W0.heap.size)] 78):=⟨_,rfl⟩
 have hrk:w0.heap.size=w1.heap.size+1:=by rw[hw0];simp
 have HBp:Hid (Boxed w0 w1.heap.size 78 (.map (some W0.heap.size))):=by rw[Hid,hw0];exact World.alloc_heap_new w1 _
 have hb05:Below w0.heap.size w0 (((w0.alloc (.map #[] 0)).alloc (.cells #[.map (some (w1.heap.size+1))] 79)).alloc (.cells #[(.func (.func 77) #[] #[.pointer (some ⟨w1.heap.size+1+1,0,none⟩),.pointer (some ⟨w1.heap.size,0,none⟩),.pointer (some ⟨w.heap.size,0,none⟩),.pointer (some ⟨w.heap.size+1,0,none⟩),.pointer (some ⟨w1.heap.size+1+1+1,0,none⟩)])] 147)):=below3' w0 _ _ _;rw[<- hw0]at hb0 hKM hKM5 hb5 k1 k2 k3 k4 ⊢;obtain⟨W5,hW5⟩:∃W5,W5=((w0.alloc (.map #[] 0)).alloc (.cells #[.map (some (w1.heap.size+1))] 79)).alloc (.cells #[(.func (.func 77) #[] #[.pointer (some ⟨w1.heap.size+1+1,0,none⟩),.pointer (some ⟨w1.heap.size,0,none⟩),.pointer (some ⟨w.heap.size,0,none⟩),.pointer (some ⟨w.heap.size+1,0,none⟩),.pointer (some ⟨w1.heap.size+1+1+1,0,none⟩)])] 147):=⟨_,rfl⟩
 rw[<- hW5]at hKM5 hb05 k1 k2 k3 k4 ⊢;have hz5:=(gES k4).1;clear hW5 hw0 hb5 hKM
 have HKH:Hid (zmm w0 l b la lb lc a0 lca lcb lcc c0 w.heap.size (w.heap.size+1) w1.heap.size W0.heap.size fp):=by
  have hBw0:=HB1.out.trans (hb0.mono HB1.out.size);exact⟨HL.out.mono hBw0,HK.out.os.mono hBw0,by have:=HO.out.1;omega,(hb0.block _ (by omega)).trans HP1.out.2.2.1,(hb0.cell (p:=⟨w.heap.size+1,3,none⟩) hz1).trans (cell_of_block HP1.out.2.2.2),by omega,HBp.out,HP1.out.1.mono hb0,HP1.out.2.1,HO.out.2.1,HO.out.2.2.1,HO.out.2.2.2⟩
 have HBw:=jC (HB1.out.trans (hb0.mono HB1.out.size)) hb05;have HK5:=zc6 hKM5 k3 k4;have hC5:∀j,W5.cell? ⟨w.heap.size+1,j,none⟩=(#[.int .i64 b.now,.int .i64 b.tick,.int .i64 b.given,.slice a0 b.os.length c0,.slice a1 b.gs.length c1,.slice a2 b.ls.length c2,.slice a3 b.ps.length c3]:Array Value)[j]?:=fun j=>((hb0.trans (hb05.mono hb0.size)).cell (p:=⟨w.heap.size+1,j,none⟩) hz1).trans (cC1 j)
 clear hb0 hb05 hKM5 k1 k2 k3 k4 cC1 HBp HP1 hmk
 go_loopw [23] (fun iv wr=>∃(k:Nat) (S:Nat->Bool),k<=b.os.length/\iv=.int .i64 k/\Hid (zbs l b.os s k S/\yR b.os w0.heap.size S wr/\But w0.heap.size W5.heap.size W5 wr)) (fun iv _=>b.os.length-(intOf iv).toNat)
 case atStart=>exact⟨0,_,Nat.zero_le _,rfl,zbs.start _ _ _,HK5.out.1,But.refl _ _ _⟩
 case round=>
  obtain⟨k,S,hk,rfl,HJ⟩:=hrel;have hkn:k<=40:=by have:=HO.out.1;omega
  have hr5:w0.heap.size<W5.heap.size:=by omega
  have HBw0r:=hid (HBw.out.2.trans (HJ.out.2.2.below hr5));have HBr:=hid (HBw.out.1.trans (HBw0r.out.mono HBw.out.1.size));have HMr:=hid (HM.out.1.mono HBr.out);have HbK:Hid (Boxed wr (w1.heap.size+1+1) 79 (.map (some w0.heap.size))):=by rw[hrk];exact HJ.out.2.2.boxed HK5.out.2.1 (by omega) (by omega)
  have HbF:Hid (Boxed wr (w1.heap.size+1+1+1) 147 (.func (.func 77) #[] #[.pointer (some ⟨w1.heap.size+1+1,0,none⟩),.pointer (some ⟨w1.heap.size,0,none⟩),.pointer (some ⟨w.heap.size,0,none⟩),.pointer (some ⟨w.heap.size+1,0,none⟩),.pointer (some ⟨w1.heap.size+1+1+1,0,none⟩)])):=HJ.out.2.2.boxed HK5.out.2.2 hz5 (by omega);have HNr:Hid (wr.heap.size≠w0.heap.size/\w1.heap.size+1+1+1≠w0.heap.size):=by have:=HJ.out.2.2.size;exact⟨by omega,by omega⟩
  by_cases hlt:k<b.os.length
  ·obtain⟨ob,off,v0,v1,q0,q1,rfl,hob,hsm,hl0,hl1,d0,d1,d2,d3,d4,d5,d6⟩:=HK.out.os.load HBr.out k hlt
   have hltI:(k:Int)<(b.os.length:Int):=by omega
   have hob':=nLt hob HBr.out.size;have HSm:=hid hsm;clear hsm hl0 hl1
   by_cases hen:s.getD k false=true
   ·have HEn:=hid ((HM.out.2.at_ k hlt).trans hen)
    by_cases hhs:b.os[k].hs.length=0
    ·have HRt:Hid (¬zf5 b.os s k):=fun⟨_,h⟩=>h.elim (fun h=>by rw[hen]at h;cases h) (fun h=>by omega)
     have hh:¬0<b.os[k].hs.length:=by omega
     clear hen hhs;go_wp2_with fail
     refine(ji b.os[k] v0 v1 q0 q1 _).mono ?_;rintro e w3⟨rfl,hb3⟩;have hO3:=za (zl wr #[.string b.os[k].kd,.string b.os[k].nm,.string b.os[k].tm,.slice v0 b.os[k].vs.length q0,.bool b.os[k].en,.slice v1 b.os[k].hs.length q1,.int .i64 b.os[k].vr] 123) (by simp) hb3;have hz3:wr.heap.size<w3.heap.size:=nLt (by simp) hb3.size;have HB3:Hid (Below wr.heap.size wr w3):=(bAl _ _).trans (hb3.mono (by simp));clear hb3;go_wp2_with fail
     refine(zf HEn.out (zdX r f b.os[k].kd b.os[k].nm _ ((HMr.out).mono HB3.out) HSm.out.kd HSm.out.nm)).mono ?_;rintro e w4⟨rfl,hb4⟩;have hO4:=za hO3 hz3 hb4;have hz4:=nLt hz3 hb4.size;have HB4:=hid (HB3.out.trans (hb4.mono HB3.out.size));clear hb4 hO3 hz3;go_wp2_with fail
     exact⟨⟨k+1,S,by omega,by go_num,HJ.out.1.skip HRt.out,HJ.out.2.1.mono HB4.out,HJ.out.2.2.trans (But.of_below (HB4.out.mono HJ.out.2.2.size))⟩,zm hlt⟩
    ·have HRt:Hid (zf5 b.os s k):=⟨hlt,.inr (by omega)⟩
     have hh':0<b.os[k].hs.length:=by omega
     clear hen hhs;go_wp2_with fail
     refine(ji b.os[k] v0 v1 q0 q1 _).mono ?_;rintro e w3⟨rfl,hb3⟩;have hO3:=za (zl wr #[.string b.os[k].kd,.string b.os[k].nm,.string b.os[k].tm,.slice v0 b.os[k].vs.length q0,.bool b.os[k].en,.slice v1 b.os[k].hs.length q1,.int .i64 b.os[k].vr] 123) (by simp) hb3;have hz3:wr.heap.size<w3.heap.size:=nLt (by simp) hb3.size;have HB3:Hid (Below wr.heap.size wr w3):=(bAl _ _).trans (hb3.mono (by simp));clear hb3;go_wp2_with fail
     refine(zf HEn.out (zdX r f b.os[k].kd b.os[k].nm _ ((HMr.out).mono HB3.out) HSm.out.kd HSm.out.nm)).mono ?_;rintro e w4⟨rfl,hb4⟩;have hO4:=za hO3 hz3 hb4;have hz4:=nLt hz3 hb4.size;have HB4:=hid (HB3.out.trans (hb4.mono HB3.out.size));clear hb4 hO3 hz3;go_wp2_with fail
     have hcall:=zn1 w0 l b la lb lc _ lca lcb lcc c0 w.heap.size (w.heap.size+1) w1.heap.size W0.heap.size fp HKH.out (w1.heap.size+1+1) (w1.heap.size+1+1+1) (by omega) (by omega) (lacks S b.os.length+1) S k hlt
     have HCall:Hid (∀W,Below w4.heap.size w4 W->Calls Tryz.prog 77 #[yw b.os[k].kd b.os[k].nm,.pointer (some ⟨w1.heap.size+1+1,0,none⟩),.pointer (some ⟨w1.heap.size,0,none⟩),.pointer (some ⟨w.heap.size,0,none⟩),.pointer (some ⟨w.heap.size+1,0,none⟩),.pointer (some ⟨w1.heap.size+1+1+1,0,none⟩)] W
      fun e w'=>e=.returned (.tuple #[])/\(∃S',yR b.os w0.heap.size S' w'/\Keeps l b.os (·=k) S S'/\S' k=true)/\But w0.heap.size W.heap.size W w'):=fun W hW=>
      hcall W (Nat.lt_succ_self _) (HBw0r.out.trans ((HB4.out.trans (hW.mono HB4.out.size)).mono HBw0r.out.size)) (HJ.out.2.1.mono (HB4.out.trans (hW.mono HB4.out.size))) (((HB4.out.trans (hW.mono HB4.out.size)).block _ HbK.out.lt).trans HbK.out) (((HB4.out.trans (hW.mono HB4.out.size)).block _ HbF.out.lt).trans HbF.out)
     clear hcall;have cF4:=(HB4.out.cell (p:=⟨w1.heap.size+1+1+1,0,none⟩) HbF.out.lt).trans HbF.out.cell;have hO:=za hO4 hz4 (bRf w4.heap.size w4).drew;have hzO:=hz4;have hzF:=nLt HbF.out.lt HB4.out.size;have hB:=(bRf w4.heap.size w4).drew;clear hO4 hz4;unfold yw at HCall
     go_region_held3 (fun w'=>(∀j,w'.cell? ⟨wr.heap.size,j,none⟩=(#[.string b.os[k].kd,.string b.os[k].nm,.string b.os[k].tm,.slice v0 b.os[k].vs.length q0,.bool b.os[k].en,.slice v1 b.os[k].hs.length q1,.int .i64 b.os[k].vr]:Array Value)[j]?)/\w'.cell? ⟨w1.heap.size+1+1+1,0,none⟩=some (.func (.func 77) #[] #[.pointer (some ⟨w1.heap.size+1+1,0,none⟩),.pointer (some ⟨w1.heap.size,0,none⟩),.pointer (some ⟨w.heap.size,0,none⟩),.pointer (some ⟨w.heap.size+1,0,none⟩),.pointer (some ⟨w1.heap.size+1+1+1,0,none⟩)])) (exact⟨hO,cF4⟩) (first
      | (go_at_call 80;refine(ji b.os[k] v0 v1 q0 q1 _).mono ?_;rintro e w5⟨rfl,hb⟩;have hO:=za hO hzO hb;have cF4:=(hb.cell (p:=⟨w1.heap.size+1+1+1,0,none⟩) hzF).trans cF4;have hB:=hB.trans (hb.mono hB.size);have hzO:=nLt hzO hb.size;have hzF:=nLt hzF hb.size;clear hb)
      | (go_at_call 77;refine(HCall.out _ (by exact hB)).mono ?_;rintro e w6⟨rfl,hS6,hbut⟩;have hO:∀j,w6.cell? ⟨wr.heap.size,j,none⟩=(#[.string b.os[k].kd,.string b.os[k].nm,.string b.os[k].tm,.slice v0 b.os[k].vs.length q0,.bool b.os[k].en,.slice v1 b.os[k].hs.length q1,.int .i64 b.os[k].vr]:Array Value)[j]?:=fun j=>(World.cell?_of_block (hbut.block _ hzO (by exact HNr.out.1))).trans (hO j);have cF4:=(World.cell?_of_block (a:=⟨w1.heap.size+1+1+1,0,none⟩) (hbut.block _ hzF (by exact HNr.out.2))).trans cF4;have HS6:Hid ((∃S',yR b.os w0.heap.size S' w6/\Keeps l b.os (·=k) S S'/\S' k=true)/\But w0.heap.size wr.heap.size wr w6):=⟨hS6,(But.of_below (HB4.out.trans (hB.mono HB4.out.size))).trans (hbut.mono (HB4.out.trans (hB.mono HB4.out.size)).size)⟩;clear hS6 hbut))
     obtain⟨⟨S',hk',hkp,hS'⟩,hbt⟩:=HS6.out;have HNx:=zc6 (HJ.out.1.next HRt.out hkp hS') hk' (HJ.out.2.2.trans (hbt.mono HJ.out.2.2.size));clear hk' hkp hS' hbt;go_wp2_with fail
     exact⟨⟨k+1,S',by omega,by go_num,HNx.out⟩,zm hlt⟩
   ·have HEn:Hid ((f b.os[k].kd b.os[k].nm).isSome=false):=(HM.out.2.at_ k hlt).trans (by simpa using hen)
    have HRt:Hid (zf5 b.os s k):=⟨hlt,.inl (by simpa using hen)⟩
    clear hen;go_wp2_with fail
    refine(ji b.os[k] v0 v1 q0 q1 _).mono ?_;rintro e w3⟨rfl,hb3⟩;have hO3:=za (zl wr #[.string b.os[k].kd,.string b.os[k].nm,.string b.os[k].tm,.slice v0 b.os[k].vs.length q0,.bool b.os[k].en,.slice v1 b.os[k].hs.length q1,.int .i64 b.os[k].vr] 123) (by simp) hb3;have hz3:wr.heap.size<w3.heap.size:=nLt (by simp) hb3.size;have HB3:Hid (Below wr.heap.size wr w3):=(bAl _ _).trans (hb3.mono (by simp));clear hb3;go_wp2_with fail
    refine(zf HEn.out (zdX r f b.os[k].kd b.os[k].nm _ ((HMr.out).mono HB3.out) HSm.out.kd HSm.out.nm)).mono ?_;rintro e w4⟨rfl,hb4⟩;have hO4:=za hO3 hz3 hb4;have hz4:=nLt hz3 hb4.size;have HB4:=hid (HB3.out.trans (hb4.mono HB3.out.size));clear hb4 hO3 hz3;go_wp2_with fail
    have hcall:=zn1 w0 l b la lb lc _ lca lcb lcc c0 w.heap.size (w.heap.size+1) w1.heap.size W0.heap.size fp HKH.out (w1.heap.size+1+1) (w1.heap.size+1+1+1) (by omega) (by omega) (lacks S b.os.length+1) S k hlt
    have HCall:Hid (∀W,Below w4.heap.size w4 W->Calls Tryz.prog 77 #[yw b.os[k].kd b.os[k].nm,.pointer (some ⟨w1.heap.size+1+1,0,none⟩),.pointer (some ⟨w1.heap.size,0,none⟩),.pointer (some ⟨w.heap.size,0,none⟩),.pointer (some ⟨w.heap.size+1,0,none⟩),.pointer (some ⟨w1.heap.size+1+1+1,0,none⟩)] W
     fun e w'=>e=.returned (.tuple #[])/\(∃S',yR b.os w0.heap.size S' w'/\Keeps l b.os (·=k) S S'/\S' k=true)/\But w0.heap.size W.heap.size W w'):=fun W hW=>
     hcall W (Nat.lt_succ_self _) (HBw0r.out.trans ((HB4.out.trans (hW.mono HB4.out.size)).mono HBw0r.out.size)) (HJ.out.2.1.mono (HB4.out.trans (hW.mono HB4.out.size))) (((HB4.out.trans (hW.mono HB4.out.size)).block _ HbK.out.lt).trans HbK.out) (((HB4.out.trans (hW.mono HB4.out.size)).block _ HbF.out.lt).trans HbF.out)
    clear hcall;have cF4:=(HB4.out.cell (p:=⟨w1.heap.size+1+1+1,0,none⟩) HbF.out.lt).trans HbF.out.cell;have hO:=za hO4 hz4 (bRf w4.heap.size w4).drew;have hzO:=hz4;have hzF:=nLt HbF.out.lt HB4.out.size;have hB:=(bRf w4.heap.size w4).drew;clear hO4 hz4;unfold yw at HCall
    go_region_held3 (fun w'=>(∀j,w'.cell? ⟨wr.heap.size,j,none⟩=(#[.string b.os[k].kd,.string b.os[k].nm,.string b.os[k].tm,.slice v0 b.os[k].vs.length q0,.bool b.os[k].en,.slice v1 b.os[k].hs.length q1,.int .i64 b.os[k].vr]:Array Value)[j]?)/\w'.cell? ⟨w1.heap.size+1+1+1,0,none⟩=some (.func (.func 77) #[] #[.pointer (some ⟨w1.heap.size+1+1,0,none⟩),.pointer (some ⟨w1.heap.size,0,none⟩),.pointer (some ⟨w.heap.size,0,none⟩),.pointer (some ⟨w.heap.size+1,0,none⟩),.pointer (some ⟨w1.heap.size+1+1+1,0,none⟩)])) (exact⟨hO,cF4⟩) (first
     | (go_at_call 80;refine(ji b.os[k] v0 v1 q0 q1 _).mono ?_;rintro e w5⟨rfl,hb⟩;have hO:=za hO hzO hb;have cF4:=(hb.cell (p:=⟨w1.heap.size+1+1+1,0,none⟩) hzF).trans cF4;have hB:=hB.trans (hb.mono hB.size);have hzO:=nLt hzO hb.size;have hzF:=nLt hzF hb.size;clear hb)
     | (go_at_call 77;refine(HCall.out _ (by exact hB)).mono ?_;rintro e w6⟨rfl,hS6,hbut⟩;have hO:∀j,w6.cell? ⟨wr.heap.size,j,none⟩=(#[.string b.os[k].kd,.string b.os[k].nm,.string b.os[k].tm,.slice v0 b.os[k].vs.length q0,.bool b.os[k].en,.slice v1 b.os[k].hs.length q1,.int .i64 b.os[k].vr]:Array Value)[j]?:=fun j=>(World.cell?_of_block (hbut.block _ hzO (by exact HNr.out.1))).trans (hO j);have cF4:=(World.cell?_of_block (a:=⟨w1.heap.size+1+1+1,0,none⟩) (hbut.block _ hzF (by exact HNr.out.2))).trans cF4;have HS6:Hid ((∃S',yR b.os w0.heap.size S' w6/\Keeps l b.os (·=k) S S'/\S' k=true)/\But w0.heap.size wr.heap.size wr w6):=⟨hS6,(But.of_below (HB4.out.trans (hB.mono HB4.out.size))).trans (hbut.mono (HB4.out.trans (hB.mono HB4.out.size)).size)⟩;clear hS6 hbut))
    obtain⟨⟨S',hk',hkp,hS'⟩,hbt⟩:=HS6.out;have HNx:Hid (zbs l b.os s (k+1) S'/\yR b.os w0.heap.size S' w6/\But w0.heap.size W5.heap.size W5 w6):=⟨HJ.out.1.next HRt.out hkp hS',hk',HJ.out.2.2.trans (hbt.mono HJ.out.2.2.size)⟩
    clear hk' hkp hS' hbt;go_wp2_with fail
    exact⟨⟨k+1,S',by omega,by go_num,HNx.out⟩,zm hlt⟩
  ·have e:k=b.os.length:=by omega
   subst e;have hC6:∀j,wr.cell? ⟨w.heap.size+1,j,none⟩=(#[.int .i64 b.now,.int .i64 b.tick,.int .i64 b.given,.slice a0 b.os.length c0,.slice a1 b.gs.length c1,.slice a2 b.ls.length c2,.slice a3 b.ps.length c3]:Array Value)[j]?:=fun j=>(World.cell?_of_block (a:=⟨w.heap.size+1,j,none⟩) (HJ.out.2.2.block (w.heap.size+1) (by omega) (by omega))).trans (hC5 j)
   have hz6:w.heap.size+1<wr.heap.size:=by have:=HJ.out.2.2.size;omega
   have cK6:=HbK.out.cell;have hzK6:=HbK.out.lt;have HPt:Hid (∀k (h:k<b.os.length),(greatest l b.os s).getD k false=!S k):=fun k h=>HJ.out.1.part HM.out.2.len k h
   have HPl:Hid ((greatest l b.os s).length=b.os.length):=(zbl _ _ _).trans HM.out.2.len;have HKS:Hid (yR b.os w0.heap.size S wr/\Below w.heap.size w wr):=⟨HJ.out.2.1,HBr.out⟩
   obtain⟨W6,hW6⟩:∃W6,W6=wr:=⟨_,rfl⟩
   rw[<- hW6]at hC6 hz6 cK6 hzK6 HKS ⊢;clear hW6 HJ HMr HbF hC5 HBw0r hrk;go_wp2_with fail
   go_loopw [12,46] (fun v0 iv wr=>∃(k:Nat) (v:Value),v=v0/\k<=b.os.length/\iv=.int .i64 k/\Hid (wr.ownsRow W6.heap.size 3 1 v (qK (greatest l b.os s) k).length (ints (qK (greatest l b.os s) k))/\Below W6.heap.size W6 wr)) (fun _ iv _=>b.os.length-(intOf iv).toNat)
   case atStart=>exact⟨0,_,rfl,Nat.zero_le _,rfl,World.ownsRow_nil _ _ _ _,bRf _ _⟩
   case round=>
    obtain⟨k,v,hv,hk,rfl,HQ⟩:=hrel;subst hv;have hkn:k<=40:=by have:=HO.out.1;omega
    have HBr:Hid (Below w.heap.size w wr):=HKS.out.2.trans (HQ.out.2.mono HKS.out.2.size)
    by_cases hlt:k<b.os.length
    ·obtain⟨ob,off,v0,v1,q0,q1,rfl,hob,hsm,hl0,hl1,d0,d1,d2,d3,d4,d5,d6⟩:=HK.out.os.load HBr.out k hlt
     have hltI:(k:Int)<(b.os.length:Int):=by omega
     have hob':ob<wr.heap.size:=nLt hob HBr.out.size;have HSm:Hid b.os[k].Small:=hsm;obtain⟨fk,hfk,hfS⟩:=HKS.out.1;have HFk:Hid (yA wr w0.heap.size fk/\(fk b.os[k].kd b.os[k].nm).isSome=S k):=⟨hfk.mono HQ.out.2,hfS k hlt⟩
     have cKr:=(HQ.out.2.cell (p:=⟨w1.heap.size+1+1,0,none⟩) hzK6).trans cK6;have hzKr:=nLt hzK6 HQ.out.2.size;have HLL:Hid ((qK (greatest l b.os s) k).length<=40):=by have:=zdh (greatest l b.os s) k;show _<=_;omega
     have hpt:=HPt.out k hlt;have hgl:k<(greatest l b.os s).length:=by rw[HPl.out];exact hlt
     have hgk:(greatest l b.os s)[k]=!S k:=by rw[<- hpt];simp[List.getElem?_eq_getElem hgl]
     clear hsm hl0 hl1 hfk hfS hpt;go_wp2_with fail
     have hO:=za (zl wr #[.string b.os[k].kd,.string b.os[k].nm,.string b.os[k].tm,.slice v0 b.os[k].vs.length q0,.bool b.os[k].en,.slice v1 b.os[k].hs.length q1,.int .i64 b.os[k].vr] 123) (by simp) (bRf _ (wr.alloc (.cells #[.string b.os[k].kd,.string b.os[k].nm,.string b.os[k].tm,.slice v0 b.os[k].vs.length q0,.bool b.os[k].en,.slice v1 b.os[k].hs.length q1,.int .i64 b.os[k].vr] 123))).drew;have hBo:Below wr.heap.size wr (wr.alloc (.cells #[.string b.os[k].kd,.string b.os[k].nm,.string b.os[k].tm,.slice v0 b.os[k].vs.length q0,.bool b.os[k].en,.slice v1 b.os[k].hs.length q1,.int .i64 b.os[k].vr] 123)).drew:=(bAl _ _).drew;obtain⟨W7,hW7⟩:∃W7,W7=wr.alloc (.cells #[.string b.os[k].kd,.string b.os[k].nm,.string b.os[k].tm,.slice v0 b.os[k].vs.length q0,.bool b.os[k].en,.slice v1 b.os[k].hs.length q1,.int .i64 b.os[k].vr] 123):=⟨_,rfl⟩
     have hzO:wr.heap.size<W7.drew.heap.size:=by rw[hW7];show wr.heap.size<(wr.alloc (.cells #[.string b.os[k].kd,.string b.os[k].nm,.string b.os[k].tm,.slice v0 b.os[k].vs.length q0,.bool b.os[k].en,.slice v1 b.os[k].hs.length q1,.int .i64 b.os[k].vr] 123)).heap.size;simp
     rw[<- hW7]at hO hBo ⊢;clear hW7 d0 d1 d2 d3 d4 d5 d6;have hB:=hBo;have cK:=(hBo.cell (p:=⟨w1.heap.size+1+1,0,none⟩) hzKr).trans cKr;have hzK:=nLt hzKr hBo.size;clear hBo cKr
     cases hSk:S k with
     | true=>
      rw[hSk]at hgk HFk;have HS:=hid (zh6 hgl hgk);clear hgk hgl hSk cK6 hC6
      go_region_held3 (fun w'=>(∀j,w'.cell? ⟨wr.heap.size,j,none⟩=(#[.string b.os[k].kd,.string b.os[k].nm,.string b.os[k].tm,.slice v0 b.os[k].vs.length q0,.bool b.os[k].en,.slice v1 b.os[k].hs.length q1,.int .i64 b.os[k].vr]:Array Value)[j]?)/\w'.cell? ⟨w1.heap.size+1+1,0,none⟩=some (.map (some w0.heap.size))) (exact⟨hO,cK⟩) (first
       | (go_at_call 80;refine(ji b.os[k] v0 v1 q0 q1 _).mono ?_;rintro e w5⟨rfl,hb⟩;have hO:=za hO hzO hb;have cK:=(hb.cell (p:=⟨w1.heap.size+1+1,0,none⟩) hzK).trans cK;have hB:=hB.trans (hb.mono hB.size);have hzO:=nLt hzO hb.size;have hzK:=nLt hzK hb.size;clear hb)
       | (go_at_call 78;refine(zf HFk.out.2 (zdX w0.heap.size fk b.os[k].kd b.os[k].nm _ (by exact HFk.out.1.mono hB) HSm.out.kd HSm.out.nm)).mono ?_;rintro e w6⟨rfl,hb⟩;have hO:=za hO hzO hb;have cK:=(hb.cell (p:=⟨w1.heap.size+1+1,0,none⟩) hzK).trans cK;have hB:=hB.trans (hb.mono hB.size);have hzO:=nLt hzO hb.size;have hzK:=nLt hzK hb.size;clear hb))
      go_wp2_with fail
      exact⟨⟨k+1,_,rfl,by omega,by go_num,by rw[HS.out];exact yF HQ.out.1 hB,HQ.out.2.trans (hB.mono HQ.out.2.size)⟩,zm hlt⟩
     | false=>
      rw[hSk]at hgk HFk;have HS:=hid (zgC hgl hgk);clear hgk hgl hSk cK6 hC6
      go_region_held3 (fun w'=>(∀j,w'.cell? ⟨wr.heap.size,j,none⟩=(#[.string b.os[k].kd,.string b.os[k].nm,.string b.os[k].tm,.slice v0 b.os[k].vs.length q0,.bool b.os[k].en,.slice v1 b.os[k].hs.length q1,.int .i64 b.os[k].vr]:Array Value)[j]?)/\w'.cell? ⟨w1.heap.size+1+1,0,none⟩=some (.map (some w0.heap.size))) (exact⟨hO,cK⟩) (first
       | (go_at_call 80;refine(ji b.os[k] v0 v1 q0 q1 _).mono ?_;rintro e w5⟨rfl,hb⟩;have hO:=za hO hzO hb;have cK:=(hb.cell (p:=⟨w1.heap.size+1+1,0,none⟩) hzK).trans cK;have hB:=hB.trans (hb.mono hB.size);have hzO:=nLt hzO hb.size;have hzK:=nLt hzK hb.size;clear hb)
       | (go_at_call 78;refine(zf HFk.out.2 (zdX w0.heap.size fk b.os[k].kd b.os[k].nm _ (by exact HFk.out.1.mono hB) HSm.out.kd HSm.out.nm)).mono ?_;rintro e w6⟨rfl,hb⟩;have hO:=za hO hzO hb;have cK:=(hb.cell (p:=⟨w1.heap.size+1+1,0,none⟩) hzK).trans cK;have hB:=hB.trans (hb.mono hB.size);have hzO:=nLt hzO hb.size;have hzK:=nLt hzK hb.size;clear hb))
      have HQ3:=jC (yF HQ.out.1 hB) (HQ.out.2.trans (hB.mono HQ.out.2.size))
      go_wp2_with (at_builtin;refine wpList_append_own _ rfl (.tmp 56) (.tmp 58) 35 rfl W6.heap.size 3 i0 (.int .i64 0) 1 8 Tryz.underlying35 HI0.out.1 HI0.out.2.1 HI0.out.2.2.1 HI0.out.2.2.2 rfl (by decide) _ _ _ rfl (HQ3.out.1.alloc _) ⟨w6.heap.size,0,none⟩ 1 1 [.int .i64 (k:Int)] rfl rfl (zci _ _ _) (by intro u hu;simp at hu;subst hu;rfl) (by have:=HLL.out;unfold maxLen;omega) (by have:=HLL.out;omega) (by have:=HQ3.out.2.size;simp;omega) ?_;intro v' w8 hown' hgr _)
      have hgb:∀g',v.ownBlock=some g'->W6.heap.size<=g':=fun g' hg'=>(HQ3.out.1.lt g' hg').1
      refine⟨⟨k+1,_,rfl,by omega,by go_num,?_,zaQ HQ3.out.2 HQ3.out.2.size hgr hgb⟩,zm hlt⟩;rw[HS.out,List.length_append];have e1:ints (qK (greatest l b.os s) k++[(k:Int)])=ints (qK (greatest l b.os s) k)++[.int .i64 (k:Int)]:=by simp[ints]
      rw[e1];exact hown'
    ·have e:k=b.os.length:=by omega
     subst e
     have HW:Hid (wr.ownsRow w.heap.size 3 1 v (places (greatest l b.os s)).length (ints (places (greatest l b.os s)))/\Below w.heap.size w wr):=by
      unfold places;rw[HPl.out];exact⟨zaq HQ.out.1 HKS.out.2.size,HBr.out⟩
     clear HQ hlt hk hC6;go_wp2_with fail
     go_ret;exact⟨v,rfl,HW.out⟩
end Go.Proofs.YtnapmdofidgliaaGreat
namespace Go.Proofs.YtnapmdofidgliaaGreat
open Go.RowKit Go.Shelf
structure zlk (w0:World)(l:Lw)(bk:Bk)(oa:Option Addr)(oc:Nat)(Bb Bw rw:Nat)(g:ByteArray->ByteArray->List Int):Prop where
 obs:zbV w0 oa bk.os
 few:bk.os.length<=1048576
 bb:w0.cell? ⟨Bb,3,none⟩=some (.slice oa bk.os.length oc)
 bbl:Bb<w0.heap.size
 bw:Boxed w0 Bw 157 (.map (some rw))
 grp:qU (rw+1) (fun _=>False) rw g w0
 own:zch l bk.os bk.os.length g
 one:zdZ bk.os
set_option maxRecDepth 100000 in
theorem zoA (w0:World)(l:Lw)(bk:Bk)(oa:Option Addr)(oc:Nat)(Bb Bw rw:Nat)(g:ByteArray->ByteArray->List Int)(hH:zlk w0 l bk oa oc Bb Bw rw g)(Bk Bf:Nat)(hk:w0.heap.size<Bk)(hf:w0.heap.size<Bf)(m:Nat) :
 ∀(S:Nat->Bool) (i:Nat) (_:i<bk.os.length) (w:World),lacks S bk.os.length<m->Below w0.heap.size w0 w->yR bk.os w0.heap.size S w->Boxed w Bk 79 (.map (some w0.heap.size)) ->
 Boxed w Bf 159 (.func (.func 82) #[] #[.pointer (some ⟨Bb,0,none⟩),.pointer (some ⟨Bk,0,none⟩),.pointer (some ⟨Bw,0,none⟩),.pointer (some ⟨Bf,0,none⟩)]) ->
 Calls Tryz.prog 82 #[.int .i64 (i:Int),.pointer (some ⟨Bb,0,none⟩),.pointer (some ⟨Bk,0,none⟩),.pointer (some ⟨Bw,0,none⟩),.pointer (some ⟨Bf,0,none⟩)] w
  fun e w'=>e=.returned (.tuple #[])/\(∃S',yR bk.os w0.heap.size S' w'/\za3 (zbr l bk.os) (·=i) S S'/\S' i=true)/\But w0.heap.size w.heap.size w w':=by
 induction m with
 | zero=>intro S i hi w hm;omega
 | succ m IH=>
 intro S i hi w hm hB0 hS bK bF;have HH:=zkC hH hm hB0 hS;have hfw:=hH.few;have hiI:(i:Int)<(bk.os.length:Int):=by omega
 obtain⟨ob,off,va,ha,q0,q1,hoa,hob,hsm,hva,hha,d0,d1,d2,d3,d4,d5,d6⟩:=hH.obs.load hB0 i hi;have cb3:=(hB0.cell (p:=⟨Bb,3,none⟩) hH.bbl).trans hH.bb;rw[hoa]at cb3;have hkey:=ji bk.os[i] va ha q0 q1 w;have HSm:=jC hsm.kd hsm.nm;have hobw:=nLt hob hB0.size;have hBbw:=nLt hH.bbl hB0.size;clear hm hB0 hS hH hva hha hsm;unfold yw at hkey;go_enter Tryz.func82,Tryz.ntmps82;go_wp2_with fail
 refine hkey.mono ?_;rintro e w1⟨rfl,hb1⟩;clear hkey d0 d1 d2 d3 d4 d5 d6 cb3;have cK:=bK.cell;have hKl:=bK.lt;have cK1:=(hb1.cell (p:=⟨Bk,0,none⟩) hKl).trans cK;have hKl1:=nLt hKl hb1.size;have HB1:Hid (Below w.heap.size w w1):=hb1;clear hb1;go_wp2_with fail
 obtain⟨f,hpm,hfS⟩:=HH.out.2.2.2;have hba:Below w1.heap.size w1 (w1.alloc (.cells #[.string bk.os[i].kd,.string bk.os[i].nm] 149)):=bAl _ _;have hbw:=HB1.out.trans (hba.mono HB1.out.size);have hhas:=zdX w0.heap.size f bk.os[i].kd bk.os[i].nm _ (hpm.mono hbw) HSm.out.1 HSm.out.2;unfold yw at hhas;refine hhas.mono ?_;rintro e w2⟨rfl,hb2⟩;rw[hfS i hi];have HB2:=hid (hbw.trans (hb2.mono hbw.size));have ck:=za (zl w1 #[.string bk.os[i].kd,.string bk.os[i].nm] 149) (by simp) hb2;have cK2:=((hba.trans (hb2.mono hba.size)).cell (p:=⟨Bk,0,none⟩) hKl1).trans cK1;have hKl2:=nLt hKl1 (hba.trans (hb2.mono hba.size)).size;have hz2:w1.heap.size<w2.heap.size:=nLt (by simp) hb2.size;have hr0:=hpm.lt;have HW1:=hid HB1.out.size;clear hhas hba hbw hb2 cK cK1 hKl hKl1 HB1
 cases hSi:S i with
 | true=>
  go_wp2_with fail
  refine bodyPost_ret (results_none rfl _ _ _) rfl ?_;exact⟨rfl,⟨S,HH.out.2.2.2.mono HB2.out,za3.refl _ _ _,hSi⟩,But.of_below HB2.out⟩
 | false=>
  obtain⟨w3,hup,hf3,hp3⟩:=(hpm.mono HB2.out).upd zab Tryz.underlying79 bk.os[i].kd bk.os[i].nm HSm.out.1 HSm.out.2 (i:Int);have hB3:Below w0.heap.size w0 w3:=hp3.below (HH.out.2.2.1.trans (HB2.out.mono HH.out.2.2.1.size)) (Nat.le_refl _);have hgl:(g bk.os[i].kd bk.os[i].nm).length<=6*bk.os.length:=HH.out.1.own.few _ _;obtain⟨ga,gcap,hlk0,hga⟩:=HH.out.1.grp.look zab Tryz.underlying157 bk.os[i].kd bk.os[i].nm HSm.out.1 HSm.out.2 (by unfold maxLen;omega);have hlk:=hlk0 w3 (hB3.block _ HH.out.1.grp.lt);unfold yw at hup hlk;have bw3:=(hB3.cell (p:=⟨Bw,0,none⟩) HH.out.1.bw.lt).trans HH.out.1.bw.cell;have hne:w1.heap.size≠w0.heap.size:=by have:=HW1.out;omega
  have ck3:∀j,w3.cell? ⟨w1.heap.size,j,none⟩=(#[.string bk.os[i].kd,.string bk.os[i].nm]:Array Value)[j]?:=fun j=>(World.cell?_of_block (hp3.out _ hne)).trans (ck j)
  have HN:=jC hga hB3;have HM0:Hid (yR bk.os w0.heap.size (qM S i) w3):=⟨_,hf3,fun j hj=>znE HH.out.1.one hfS i hi (i:Int) j hj⟩
  have HBut:=hid ((But.of_below HB2.out).trans hp3.but);have bK3:=HBut.out.boxed bK bK.lt (Nat.ne_of_gt hk);have bF3:=HBut.out.boxed bF bF.lt (Nat.ne_of_gt hf);have HLk:Hid (lacks (qM S i) bk.os.length<m):=by have h1:=zjn hi hSi;have h2:=HH.out.2.1;show _<_;omega
  have hr3:=nLt hr0 HBut.out.size;have HK3:=jC bK3 bF3;obtain⟨gl,hgle⟩:∃gl,gl=g bk.os[i].kd bk.os[i].nm:=⟨_,rfl⟩
  rw[<- hgle]at hlk hgl HN;have HGL:=hid hgle;have hglI:(gl.length:Int)<=6291456:=by omega
  clear hlk0 hga hB3 hf3 hp3 bK3 bF3 hgle;go_wp2_with fail
  go_loopw [25] (fun iv wr=>∃k:Nat,k<=gl.length/\iv=.int .i64 k/\Hid (∃S1,yR bk.os w0.heap.size S1 wr/\za3 (zbr l bk.os) (zbr l bk.os i) (qM S i) S1/\(∀(j q:Nat),j<k->gl[j]?=some (q:Int)->S1 q=true)/\But w0.heap.size w3.heap.size w3 wr)) (fun iv _=>gl.length-(intOf iv).toNat)
  case atStart=>exact⟨0,Nat.zero_le _,rfl,_,HM0.out,za3.refl _ _ _,fun j q h=>by omega,But.refl _ _ _⟩
  case round=>
   obtain⟨k,hkk,rfl,HX⟩:=hrel;obtain⟨S1,hM1,hG1,hA1,hB1⟩:=HX.out;have hBr:=HN.out.2.trans (hB1.below hr3)
   by_cases hlt:k<gl.length
   ·obtain⟨gb,goff,hgae,hgb,hgc⟩:=HN.out.1.load hBr k hlt
    have hltI:(k:Int)<(gl.length:Int):=by omega
    have hgbr:=nLt hgb hBr.size;obtain⟨q,hq,hqe,hql⟩:=HH.out.1.own.sound _ _ gl[k] (by rw[<- HGL.out];exact List.getElem_mem hlt);have hqo:=(znA i q hi).1 hql;rw[hqe]at hgc;have bK4:=hB1.boxed HK3.out.1 HK3.out.1.lt (Nat.ne_of_gt hk);have bF4:=hB1.boxed HK3.out.2 HK3.out.2.lt (Nat.ne_of_gt hf);have cF:=bF4.cell;have hFl:=bF4.lt;have hcall:=IH S1 q hq wr (Nat.lt_of_le_of_lt (zji hG1.le _) HLk.out) hBr hM1 bK4 bF4;subst hgae;have HI:=zpx hG1 hA1 hB1 hqo hqe;clear hM1 hG1 hA1 hB1 hBr bK4 bF4 HX hqo hqe hql;go_wp2_with fail
    refine hcall.mono ?_;rintro e W4⟨rfl,⟨S2,hM2,hG2,hS2⟩,hbut⟩
    have HR:Hid (∃S1,yR bk.os w0.heap.size S1 W4/\za3 (zbr l bk.os) (zbr l bk.os i) (qM S i) S1/\(∀(j q:Nat),j<k+1->gl[j]?=some (q:Int)->S1 q=true)/\But w0.heap.size w3.heap.size w3 W4):=by
     refine⟨S2,hM2,HI.out.1.trans (hG2.wider fun j' e=>by subst e;exact HI.out.2.2.2.1),fun j' q' hj' hq'=>?_,HI.out.2.2.1.trans (hbut.mono HI.out.2.2.1.size)⟩
     by_cases e:j'=k
     ·subst e
      rw[List.getElem?_eq_getElem hlt,HI.out.2.2.2.2]at hq'
      have:q'=q:=by have:=Option.some.inj hq';omega
      subst this;exact hS2
     ·exact hG2.le _ (HI.out.2.1 j' q' (by omega) hq')
    clear hM2 hG2 hS2 hbut;go_wp2_with fail
    exact⟨⟨k+1,by omega,by go_num,HR.out⟩,zm hlt⟩
   ·have e:k=gl.length:=by omega
    subst e
    have HR:Hid ((∃S',yR bk.os w0.heap.size S' wr/\za3 (zbr l bk.os) (·=i) S S'/\S' i=true)/\But w0.heap.size w.heap.size w wr):=by
     refine⟨⟨S1,hM1,za3.close hG1 (fun j hj=>?_),hG1.has⟩,HBut.out.trans (hB1.mono HBut.out.size)⟩;have hl9:=(znA i j hi).2 hj;have hm9:=HH.out.1.own.whole j _ _ hl9.1 hl9;rw[<- HGL.out]at hm9;obtain⟨x,hx,hxe⟩:=List.mem_iff_getElem.1 hm9;exact hA1 x j hx (by rw[List.getElem?_eq_getElem hx,hxe])
    clear hM1 hG1 hA1 hB1 HX;go_wp2_with fail
    go_end0
    exact⟨rfl,HR.out⟩
end Go.Proofs.YtnapmdofidgliaaGreat
