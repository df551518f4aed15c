import Derived.Test.YtbfgkhgmnfghgaaGreatM51
import Derived.Defers
set_option maxHeartbeats 8000000
namespace Go.Proofs.YtbfgkhgmnfghgaaGreat
open Go.RowKit
theorem zpd (pc pw pb:Nat)(u:FrameMode)(w:World)(hc:w.cell? (aD pc 0)=some (.i 0)) :
 CallsD Tryz.prog 88 #[.pointer (some (aD pc 0)),.pointer (some (aD pw 0)),.pointer (some (aD pb 0))] u w fun e u' w'=>u'=u/\e=.returned (.tuple #[])/\w'=w:=by
 go_enter_d Tryz.func88,Tryz.ntmps88
 go_wp2
 go_end0
 exact⟨rfl,rfl⟩
theorem zjW (pc pw pb x:Nat)(code:Int)(a:OA)(n c:Nat)(y:Value)(u:FrameMode)(w:World)(h0:(code != 0)=true)(hc:w.cell? (aD pc 0)=some (.i code))(hw:w.cell? (aD pw 0)=some (.l a n c))(hb:w.cell? (aD pb 0)=some (.pointer (some (aD x 0))))(hx:w.cell? (aD x 6)=some y)(hf:w.frozen? (aD x 6)=false) :
 CallsD Tryz.prog 88 #[.pointer (some (aD pc 0)),.pointer (some (aD pw 0)),.pointer (some (aD pb 0))] u w fun e u' w'=>u'=u/\e=.returned (.tuple #[])/\w'=w.setCell (aD x 6) (.l a n c):=by
 go_enter_d Tryz.func88,Tryz.ntmps88
 go_wp2
 go_end0
 exact⟨rfl,rfl⟩
theorem zhI {P:Program}{fn:Func}{R:Ending->World->Prop}{tmps:AV}{w:World}{v:Value}(hr:(results fn tmps).run P w=.ok v w)(hR:R (.returned v) w):bodyPostD P fn R .ret ⟨tmps,[]⟩ w:=⟨v,hr,hR⟩
structure zrZ (tick:Int)(ls:List Lg)(ps:List Pu):Prop where
 lm:∀g∈ls,g.Small
 ll:ls.length<=10
 lr:rising qG ls
 lf:∀g∈ls,0<=g.fr/\g.fr<=1000000000
 pm:∀i (h:i<ps.length),ps[i].Small
 pl:ps.length<=24
 pr:rising yg ps
 pa:∀p∈ps,1<=p.am/\p.am<=1000000
 tk:0<=tick/\tick<=1000000
structure zpB (lo x:Nat)(own:Nat->Lb)(now tick given:Int)(v0 v1:Value)(a2:OA)(c2:Nat)(a3:OA)(c3:Nat)(ls:List Lg)(ps:List Pu)(w w':World)(r:(List Lg × List Pu) × Int):Prop where
 no:r.2≠0->r.1=(ls,ps)/\w'.heap[x]?=some (.cells #[.i now,.i tick,.i given,v0,v1,.l a2 ls.length c2,.l a3 ps.length c3] 40)/\Left (fun q=>q=x) w w'
 yes:r.2=0->∃v,w'.heap[x]?=some (.cells #[.i now,.i tick,.i given,v0,v1,.l a2 ls.length c2,v] 40)/\w'.ownsRow w.heap.size 70 5 v r.1.2.length (r.1.2.flatMap Pu.row)/\zdl lo w' own (.l a2 ls.length c2) r.1.1/\Left (fun q=>q=x \/ (own q).1=2) w w'
set_option maxRecDepth 20000 in
theorem zrw (lo x:Nat)(own:Nat->Lb)(now tick given:Int)(v0 v1:Value)(a2:OA)(c2:Nat)(a3:OA)(c3:Nat)(ls:List Lg)(ps:List Pu)(dr tm rs:BA)(am:Int)(w:World)
 (hx:w.heap[x]?=some (.cells #[.i now,.i tick,.i given,v0,v1,.l a2 ls.length c2,.l a3 ps.length c3] 40))
 (hl:zdl lo w own (.l a2 ls.length c2) ls) (hp:zcq lo w own (.l a3 ps.length c3) ps) (hxo:(own x).1≠2) (ho:zrZ tick ls ps) (hd:dr.size<=maxLen) :
 Calls Tryz.prog 38 #[.pointer (some (aD x 0)),.s dr,qC tm rs,.i am] w fun e w'=>e=.returned (.i (jL tick ls ps dr tm rs am).2)/\zpB lo x own now tick given v0 v1 a2 c2 a3 c3 ls ps w w' (jL tick ls ps dr tm rs am):=by
 have hmf:∀(fn:Fn) (first cap:AV) (w:World),(Instr.makeFunc fn first cap).run Tryz.prog w=.ok (.func fn first cap) w:=fun _ _ _ _=>rfl
 have HX:=hid hx;have HL:=yU hl hp;have HO:=za6 ho hd hxo;have hxw:=(gES hx).1;unfold qC;have k0:=zny w (.cells #[.pointer (some (aD x 0))] 146) (.cells #[.s tm,.s rs] 82) (.cells #[.i 0] 3);have hB0:=below3' w (.cells #[.pointer (some (aD x 0))] 146) (.cells #[.s tm,.s rs] 82) (.cells #[.i 0] 3);obtain⟨W0,hW0⟩:=nm (((w.alloc (.cells #[.pointer (some (aD x 0))] 146)).alloc (.cells #[.s tm,.s rs] 82)).alloc (.cells #[.i 0] 3));have hz0:W0.heap.size=w.heap.size+1+1+1:=by rw[hW0];simp
 clear hx hl hp hxo ho hd
 go_enter_defers Tryz.func38,Tryz.ntmps38
 go_wp2_with fail
 rw[<- hW0]at k0 hB0 ⊢;clear hW0;have kX:=(hB0.block x hxw).trans HX.o;have HB0:=hid hB0;have HSS:Hid (∀W,Bw W0 W->(∀j,W.cell? (aD x j)=(#[.i now,.i tick,.i given,v0,v1,.l a2 ls.length c2,.l a3 ps.length c3]:AV)[j]?)/\(∀j,W.cell? (aD w.heap.size j)=(#[.pointer (some (aD x 0))]:AV)[j]?)/\∀j,W.cell? (aD (w.heap.size+1) j)=(#[.s tm,.s rs]:AV)[j]?):=fun W hW=>⟨fun j=>(hW.cell (p:=(aD x j)) (by show x<_;omega)).trans (cell_of_block kX),fun j=>(hW.cell (p:=(aD w.heap.size j)) (by show w.heap.size<_;omega)).trans (cell_of_block k0.1),fun j=>(hW.cell (p:=(aD (w.heap.size+1) j)) (by show w.heap.size+1<_;omega)).trans (cell_of_block k0.2.1)⟩
 have HLA:Hid (∀W,Bw w W->zbu W a2 ls):=fun W hW=>by
  obtain⟨a',c',he,hp⟩:=HL.o.1.lie
  cases he
  exact(hp.at (fun i hi=>HO.o.1.lm _ (List.getElem_mem hi)) (by have:=HO.o.1.ll;unfold maxLen;omega)).mono hW
 have HKK:=yU kX k0;have hBd:Bw W0 W0.drew:=(bRf _ _).drew;have hS:=HSS.o W0.drew hBd;clear kX k0 hB0
 go_region_held3 (fun w'=>(∀j,w'.cell? (aD x j)=(#[.i now,.i tick,.i given,v0,v1,.l a2 ls.length c2,.l a3 ps.length c3]:AV)[j]?)/\(∀j,w'.cell? (aD w.heap.size j)=(#[.pointer (some (aD x 0))]:AV)[j]?)/\∀j,w'.cell? (aD (w.heap.size+1) j)=(#[.s tm,.s rs]:AV)[j]?) (exact hS) (first
  | (go_at_call 85;refine(zeO a2 c2 ls tm rs _ (HLA.o _ (HB0.o.trans (hBd.mono HB0.o.size))) (by have:=HO.o.1.ll;omega) HO.o.1.lr).mono ?_;rintro e w2⟨⟨k,rfl,hk⟩,hb2⟩;have hBd:=hBd.trans (hb2.mono hBd.size);have hS:=HSS.o w2 hBd;clear hb2))
 have HB2:=yU hBd (HB0.o.trans (hBd.mono HB0.o.size));have hz2:=hBd.size;have kX2:=(hBd.block x (by omega)).trans HKK.o.1;have kB2:=(hBd.block w.heap.size (by omega)).trans HKK.o.2.1;have kF2:=(hBd.block (w.heap.size+1) (by omega)).trans HKK.o.2.2.1;have kC2:=(hBd.block (w.heap.size+1+1) (by omega)).trans HKK.o.2.2.2;have HR2:=yU (HL.o.1.left (Left.of_below (fun _=>False) HB2.o.2) (fun _ _ h=>h)) (HL.o.2.left (Left.of_below (fun _=>False) HB2.o.2) (fun _ _ h=>h));have HK:=hid hk;have cC:=fun j=>cell_of_block (o:=j) kC2
 have fC:=fun j=>zf (o:=j) kC2
 have hzC:w.heap.size+1+1<w2.heap.size:=by omega
 clear hS hBd hk HSS HB0;have hname:∀W,Calls Tryz.prog 86 #[.s dr] W fun e w'=>e=.returned (.bool (zx dr))/\w'=W:=fun W=>zH dr W HO.o.2.1
 have hin:∀W,Calls Tryz.prog 87 #[.i am,.i 1,.i 1000000] W fun e w'=>e=.returned (.bool (within am 1 1000000))/\w'=W:=fun W=>qV am 1 1000000 W
 have HN:=yU hname hin;clear hname hin
 have HNO:Hid (jL tick ls ps dr tm rs am=((ls,ps),2)->zpB lo x own now tick given v0 v1 a2 c2 a3 c3 ls ps w (w2.setCell (aD (w.heap.size+1+1) 0) (.i 2)) (jL tick ls ps dr tm rs am)):=fun e=>by
  rw[e];refine⟨fun _=>⟨rfl,(Below.heap_setCell _ _ _ _ (by show x≠w.heap.size+1+1;omega)).trans kX2,?_⟩,fun h=>by cases h⟩;exact Left.of_below _ (HB2.o.2.setCell (show w.heap.size<=w.heap.size+1+1 by omega) _)
 by_cases h1:zx dr=true
 rotate_left
 ·have h1':zx dr=false:=bFi h1
  have HE:Hid (jL tick ls ps dr tm rs am=((ls,ps),2)):=zb5 (Or.inl h1');clear h1
  go_wp2_with (first|(go_at_call 86;refine(HN.o.1 _).mono ?_;rintro e w'⟨rfl,hw⟩;rw[hw,h1'];clear hw w'))
  exact zhI (v:=.i 2) (by simp[results,Tryz.results38,go_sem,cC]) ⟨by rw[HE.o],HNO.o HE.o⟩
 by_cases h2:yN ls tm rs=true
 rotate_left
 ·have h2':yN ls tm rs=false:=bFi h2
  have HE:Hid (jL tick ls ps dr tm rs am=((ls,ps),2)):=zb5 (Or.inr (Or.inl h2'));rw[h2'];clear h2 h2'
  go_wp2_with (first|(go_at_call 86;refine(HN.o.1 _).mono ?_;rintro e w'⟨rfl,hw⟩;rw[hw,h1];clear hw w'))
  exact zhI (v:=.i 2) (by simp[results,Tryz.results38,go_sem,cC]) ⟨by rw[HE.o],HNO.o HE.o⟩
 by_cases h3:within am 1 1000000=true
 rotate_left
 ·have h3':within am 1 1000000=false:=bFi h3
  have HE:Hid (jL tick ls ps dr tm rs am=((ls,ps),2)):=zb5 (Or.inr (Or.inr h3'));rw[h2];clear h2 h3
  go_wp2_with (first|(go_at_call 86;refine(HN.o.1 _).mono ?_;rintro e w'⟨rfl,hw⟩;rw[hw,h1];clear hw w')|(go_at_call 87;refine(HN.o.2 _).mono ?_;rintro e w'⟨rfl,hw⟩;rw[hw,h3'];clear hw w'))
  exact zhI (v:=.i 2) (by simp[results,Tryz.results38,go_sem,cC]) ⟨by rw[HE.o],HNO.o HE.o⟩
 have cX:=fun j=>cell_of_block (o:=j) kX2
 have cB:=fun j=>cell_of_block (o:=j) kB2
 rw[h2];have hzX:x<w2.heap.size:=by omega
 have hzB:w.heap.size<w2.heap.size:=by omega
 go_wp2_with (first|(go_at_call 86;refine(HN.o.1 _).mono ?_;rintro e w'⟨rfl,hw⟩;rw[hw,h1];clear hw w')|(go_at_call 87;refine(HN.o.2 _).mono ?_;rintro e w'⟨rfl,hw⟩;rw[hw,h3];clear hw w'))
 have kW3:=alloc_at w2 (.cells #[.l a3 ps.length c3] 38);have hB3:=(bRf w2.heap.size w2).alloc (Nat.le_refl _) (.cells #[.l a3 ps.length c3] 38);obtain⟨W3,hW3⟩:=nm (w2.alloc (.cells #[.l a3 ps.length c3] 38));have hz3:W3.heap.size=w2.heap.size+1:=by rw[hW3];simp
 rw[<- hW3]at kW3 hB3 ⊢;obtain⟨y,hy⟩:=nm (w2.heap.size);rw[<- hy]at kW3 hz3 ⊢;have kX3:=(hB3.block x hzX).trans kX2;have kB3:=(hB3.block w.heap.size hzB).trans kB2;have kF3:=(hB3.block (w.heap.size+1) (by omega)).trans kF2;have kC3:=(hB3.block (w.heap.size+1+1) hzC).trans kC2;have HB3:=hid (HB2.o.2.trans (hB3.mono (by omega)));have HR3:=yU (HR2.o.1.left (Left.of_below (fun _=>False) hB3) (fun _ _ h=>h)) (HR2.o.2.left (Left.of_below (fun _=>False) hB3) (fun _ _ h=>h));have HXY:Hid (x<y/\w.heap.size+1+1<y/\x<w.heap.size):=⟨by omega,by omega,hxw⟩
 have HH:=za6 h1 h2 h3;have HAM:Hid (1<=am/\am<=1000000):=by unfold within at h3;unfold Hid;simpa using h3
 have hy1:w.heap.size+1+1<y:=by omega
 clear hy;have hwt:IntKind.i64.wrap (tick+10)=tick+10:=by have:=HO.o.1.tk;rw[IntKind.wrap_i64];omega
 have HSW:Hid (∀W,Left (fun q=>q=x) W3 W->(∃v,W.heap[x]?=some (.cells #[.i now,.i tick,.i given,v0,v1,.l a2 ls.length c2,v] 40))->W.cell? (aD x 1)=some (.i tick)/\(∀j,W.cell? (aD w.heap.size j)=(#[.pointer (some (aD x 0))]:AV)[j]?)/\∀j,W.cell? (aD (w.heap.size+1) j)=(#[.s tm,.s rs]:AV)[j]?):=fun W hW ⟨v,hv⟩=>⟨cell_of_block hv,fun j=>by rw[cell_of_block ((hW.out w.heap.size (by omega) (by omega)).trans kB3)],fun j=>by rw[cell_of_block ((hW.out (w.heap.size+1) (by omega) (by omega)).trans kF3)]⟩
 have hS:=HSW.o W3 (Left.refl _ _) ⟨_,kX3⟩;have HK3:=za6 kX3 kC3 kW3;have HKB3:=hid kB3;clear hW3 hB3 cX cB cC fC h1 h2 h3 kX2 kB2 kF2 kC2 kX3 kC3 kW3 kB3 kF3 hzX hzB hzC HN HNO;refine zbX (fun A A' w'=>∃u39 u40 u41 u42 u43 u44 u45 u46 u47 u48 u49 u50 u51 u52 u53 u54 va vc,A'=((((((((((((((((A.put (some 39) u39).put (some 40) u40).put (some 41) u41).put (some 42) u42).put (some 43) u43).put (some 44) u44).put (some 45) u45).put (some 46) u46).put (some 47) u47).put (some 48) u48).put (some 49) u49).put (some 50) u50).put (some 51) u51).put (some 52) u52).put (some 53) u53).put (some 54) u54)/\w'.heap[x]?=some (.cells #[.i now,.i tick,.i given,v0,v1,.l a2 ls.length c2,.l va (fill ps dr tm rs am (tick+10)).length vc] 40)/\w'.ownsRow W3.heap.size 70 5 (.l va (fill ps dr tm rs am (tick+10)).length vc) (fill ps dr tm rs am (tick+10)).length ((fill ps dr tm rs am (tick+10)).flatMap Pu.row)/\Left (fun q=>q=x) W3 w') ?_ ?_
 ·refine wp_region_held_drew (S:=fun w'=>w'.cell? (aD x 1)=some (.i tick)/\(∀j,w'.cell? (aD w.heap.size j)=(#[.pointer (some (aD x 0))]:AV)[j]?)/\∀j,w'.cell? (aD (w.heap.size+1) j)=(#[.s tm,.s rs]:AV)[j]?) (by kernel_rfl) hS (fun H_=>?_)
  refine tG 0 ?_ (hQ:=fun _ _ _ h=>by cases h.1);refine tG 1 ?_ (hQ:=fun _ _ _ h=>by cases h.1);refine tG 2 ?_ (hQ:=fun _ _ _ h=>by cases h.1);refine tG 3 ?_ (hQ:=fun _ _ _ h=>by cases h.1);refine tG 5 ?_ (hQ:=fun _ _ _ h=>by cases h.1);refine tG 6 ?_ (hQ:=fun _ _ _ h=>by cases h.1);refine tG 7 ?_ (hQ:=fun _ _ _ h=>by cases h.1);refine tG 8 ?_ (hQ:=fun _ _ _ h=>by cases h.1);refine tG 9 ?_ (hQ:=fun _ _ _ h=>by cases h.1);refine tG 10 ?_ (hQ:=fun _ _ _ h=>by cases h.1);refine tG 11 ?_ (hQ:=fun _ _ _ h=>by cases h.1);refine tG 12 ?_ (hQ:=fun _ _ _ h=>by cases h.1);have cX6:W3.drew.cell? (aD x 6)=some (.l a3 ps.length c3):=cell_of_block HK3.o.1;have hxz:x<W3.drew.heap.size:=by have:=HXY.o;show x<W3.heap.size;omega
  refine cH 4 rfl fun K hK=>?_
  go_simp
  refine hK.out _ _ hS (fun H_=>?_);clear hK K
  (try simp only[Act.put,sA,s0,sS])
  refine cH 13 rfl fun K hK=>?_
  go_simp
  refine(zia lo own a3 c3 ps dr tm rs am (tick+10) W3.drew (HR3.o.2.left (Left.of_below (fun _=>False) (bRf _ _).drew) (fun _ _ h=>h)) (by have:=HO.o.1.pl;omega) HO.o.1.pr HO.o.1.pm HO.o.1.pa HAM.o).mono ?_;rintro e w5⟨v,rfl,ho5,hb5⟩;obtain⟨va,vc,rfl⟩:=jc ho5;have hb5':Bw W3 w5:=(bRf _ _).drew.trans hb5;have hxz3:x<W3.heap.size:=by have:=HXY.o;omega
  have kX5:=(hb5'.block x hxz3).trans HK3.o.1;have hS5:=HSW.o w5 (Left.of_below _ hb5') ⟨_,kX5⟩;refine hK.out _ _ hS5 (fun H_=>?_);clear hK K
  (try simp only[Act.put,sA,s0,sS])
  refine tG 14 ?_ (hQ:=fun _ _ _ h=>by cases h.1);refine tG 15 ?_ (hQ:=fun _ _ _ h=>by cases h.1);have cX5:=cell_of_block (o:=6) kX5;have fX5:=zf (o:=6) kX5;have hxz5:x<w5.heap.size:=by have:=hb5'.size;omega
  have kX6:=zi (o:=6) kX5 (.l va (fill ps dr tm rs am (tick+10)).length vc);have hL6:=(Left.of_below (fun q=>q=x) hb5').set (b:=x) rfl 6 (.l va (fill ps dr tm rs am (tick+10)).length vc);have ho6:=qx (w':=w5.setCell (aD x 6) (.l va (fill ps dr tm rs am (tick+10)).length vc)) ho5 (fun q hq=>Below.heap_setCell _ _ _ _ (by show q≠x;have h8:=(ho5.lt q hq).1;have h9:W3.heap.size<=q:=h8;omega));refine cH 16 rfl fun K hK=>?_
  go_simp
  refine hK.out _ _ (HSW.o _ hL6 ⟨_,kX6⟩) (fun H_=>?_);clear hK K
  (try simp only[Act.put,sA,s0,sS])
  refine wpAnyH_done (by kernel_rfl) ?_ _;exact⟨rfl,_,_,_,_,_,_,_,_,_,_,_,_,_,_,_,_,va,vc,rfl,kX6,ho6,hL6⟩
 ·rintro A' w6⟨u39,u40,u41,u42,u43,u44,u45,u46,u47,u48,u49,u50,u51,u52,u53,u54,va,vc,rfl,kX6,ho6,hL6⟩
  (try simp only[Act.put,sA,s0,sS])
  obtain⟨hkl,hke⟩:=(HK.o.found HO.o.1.lr).1 HH.o.2.1;have e1:=HK.o.idx HO.o.1.lr HH.o.2.1;have HR6:=hid (HR3.o.1.left hL6 (fun q h8 h9=>HO.o.2.2 (by rw[<- h9];exact h8)));obtain⟨g,C,rfl,hgl,hgb,hCz,hCc⟩:=zds HR6.o.1 (by omega);have hgo:=HR6.o.2 g rfl;have hgx:g≠x:=by rintro rfl;exact HO.o.2.2 (by rw[hgo])
  have hcF:w6.cell? (aD g (k*4+3))=some (.i ls[k].fr):=by rw[cell_of_block hgb,hCc _ (by omega),zaZ Lg.row 4 (fun _=>rfl) ls k hkl 3 (by omega)];rfl
  have fzF:=zf (o:=k*4+3) hgb;have hz6:=hL6.size;have kB6:=(hL6.out w.heap.size (by omega) (by have:=HXY.o;show ¬w.heap.size=x;omega)).trans HKB3.o;have kC6:=(hL6.out (w.heap.size+1+1) (by omega) (by have:=HXY.o;show ¬w.heap.size+1+1=x;omega)).trans HK3.o.2.1;have kW6:=(hL6.out y (by omega) (by have:=HXY.o;show ¬y=x;omega)).trans HK3.o.2.2;have cX6:=fun j=>cell_of_block (o:=j) kX6
  have cB6:=fun j=>cell_of_block (o:=j) kB6
  have cC6:=fun j=>cell_of_block (o:=j) kC6
  have fC6:=fun j=>zf (o:=j) kC6
  have hxz6:x<w6.heap.size:=by have:=HXY.o;omega
  have hgz6:g<w6.heap.size:=(gES hgb).1;have hbz6:w.heap.size<w6.heap.size:=by omega
  have hcz6:w.heap.size+1+1<w6.heap.size:=by omega
  have hkI:(k:Int)<(ls.length:Int):=by omega
  have HGN:Hid (w.heap.size+1+1≠g):=by have h8:=(HL.o.1.1.lt g rfl).2;show _≠_;omega
  by_cases hf:ls[k].fr<am
  ·have HE:Hid (jL tick ls ps dr tm rs am=((ls,ps),3)):=by
    unfold Hid jL;rw[dif_pos ⟨by rw[HH.o.1,HH.o.2.2];rfl,by rw[e1];exact hkl⟩];simp only[e1];rw[if_pos hf]
   have kC7:=zi (o:=0) kC6 (.i 3);have kX7:=(Below.heap_setCell w6 (aD (w.heap.size+1+1) 0) (.i 3) x (by show x≠w.heap.size+1+1;have:=HXY.o;omega)).trans kX6;have kB7:=(Below.heap_setCell w6 (aD (w.heap.size+1+1) 0) (.i 3) w.heap.size (by show w.heap.size≠w.heap.size+1+1;omega)).trans kB6;have kW7:=(Below.heap_setCell w6 (aD (w.heap.size+1+1) 0) (.i 3) y (by show y≠w.heap.size+1+1;have:=HXY.o;omega)).trans kW6;have hL7:Left (fun q=>q=x \/ q=w.heap.size+1+1) W3 (w6.setCell (aD (w.heap.size+1+1) 0) (.i 3)):=Left.set (b:=w.heap.size+1+1) (S:=fun q=>q=x \/ q=w.heap.size+1+1) (hL6.wide (fun _ h=>Or.inl h)) (Or.inr rfl) 0 _;have HL7:=yU kX7 hL7;go_wp2_with fail
   obtain⟨W7,hW7⟩:=nm (w6.setCell (aD (w.heap.size+1+1) 0) (.i 3));rw[<- hW7]at kC7 kX7 kB7 kW7 HL7 ⊢;clear hW7;refine leaves_cons (f:=88) (args:=#[.pointer (some (aD (w.heap.size+1+1) 0)),.pointer (some (aD y 0)),.pointer (some (aD w.heap.size 0))]) (by simp) (by simp[go_sem]) ?_;refine(zjW (w.heap.size+1+1) y w.heap.size x 3 a3 ps.length c3 (.l va (fill ps dr tm rs am (tick+10)).length vc) .returning W7 rfl (cell_of_block kC7) (cell_of_block kW7) (cell_of_block kB7) (cell_of_block kX7) (zf kX7)).mono ?_;rintro e u' w'⟨rfl,rfl,rfl⟩;have cc:=cell_of_block (o:=0) ((Below.heap_setCell W7 (aD x 6) (.l a3 ps.length c3) (w.heap.size+1+1) (by show w.heap.size+1+1≠x;have:=HXY.o;omega)).trans kC7);refine⟨.i 3,(by simp[results,Tryz.results38,go_sem,cc]),by rw[HE.o],?_⟩;rw[HE.o];refine⟨fun _=>⟨rfl,zi (o:=6) HL7.o.1 (.l a3 ps.length c3),?_⟩,fun h=>by cases h⟩;have hL8:=HL7.o.2.set (b:=x) (Or.inl rfl) 6 (.l a3 ps.length c3);exact⟨hL8.os.trans HB3.o.os,hL8.tape.trans HB3.o.tape,hL8.output.trans HB3.o.output,Nat.le_trans HB3.o.size hL8.size,fun q hq hn=>(hL8.out q (by have:=HB3.o.size;omega) (by intro h;rcases h with h|h;exact hn h;omega)).trans (HB3.o.block q hq)⟩
  have hf':decide (ls[k].fr<am)=false:=decide_eq_false hf
  by_cases hq:24<(fill ps dr tm rs am (tick+10)).length
  ·have HE:Hid (jL tick ls ps dr tm rs am=((ls,ps),4)):=by
    unfold Hid jL;rw[dif_pos ⟨by rw[HH.o.1,HH.o.2.2];rfl,by rw[e1];exact hkl⟩];simp only[e1];rw[if_neg hf,if_pos hq]
   have hqI:(24:Int)<((fill ps dr tm rs am (tick+10)).length:Int):=by omega
   clear hf;have kC7:=zi (o:=0) kC6 (.i 4);have kX7:=(Below.heap_setCell w6 (aD (w.heap.size+1+1) 0) (.i 4) x (by show x≠w.heap.size+1+1;have:=HXY.o;omega)).trans kX6;have kB7:=(Below.heap_setCell w6 (aD (w.heap.size+1+1) 0) (.i 4) w.heap.size (by show w.heap.size≠w.heap.size+1+1;omega)).trans kB6;have kW7:=(Below.heap_setCell w6 (aD (w.heap.size+1+1) 0) (.i 4) y (by show y≠w.heap.size+1+1;have:=HXY.o;omega)).trans kW6;have hL7:Left (fun q=>q=x \/ q=w.heap.size+1+1) W3 (w6.setCell (aD (w.heap.size+1+1) 0) (.i 4)):=Left.set (b:=w.heap.size+1+1) (S:=fun q=>q=x \/ q=w.heap.size+1+1) (hL6.wide (fun _ h=>Or.inl h)) (Or.inr rfl) 0 _;have HL7:=yU kX7 hL7;go_wp2_with fail
   obtain⟨W7,hW7⟩:=nm (w6.setCell (aD (w.heap.size+1+1) 0) (.i 4));rw[<- hW7]at kC7 kX7 kB7 kW7 HL7 ⊢;clear hW7;refine leaves_cons (f:=88) (args:=#[.pointer (some (aD (w.heap.size+1+1) 0)),.pointer (some (aD y 0)),.pointer (some (aD w.heap.size 0))]) (by simp) (by simp[go_sem]) ?_;refine(zjW (w.heap.size+1+1) y w.heap.size x 4 a3 ps.length c3 (.l va (fill ps dr tm rs am (tick+10)).length vc) .returning W7 rfl (cell_of_block kC7) (cell_of_block kW7) (cell_of_block kB7) (cell_of_block kX7) (zf kX7)).mono ?_;rintro e u' w'⟨rfl,rfl,rfl⟩;have cc:=cell_of_block (o:=0) ((Below.heap_setCell W7 (aD x 6) (.l a3 ps.length c3) (w.heap.size+1+1) (by show w.heap.size+1+1≠x;have:=HXY.o;omega)).trans kC7);refine⟨.i 4,(by simp[results,Tryz.results38,go_sem,cc]),by rw[HE.o],?_⟩;rw[HE.o];refine⟨fun _=>⟨rfl,zi (o:=6) HL7.o.1 (.l a3 ps.length c3),?_⟩,fun h=>by cases h⟩;have hL8:=HL7.o.2.set (b:=x) (Or.inl rfl) 6 (.l a3 ps.length c3);exact⟨hL8.os.trans HB3.o.os,hL8.tape.trans HB3.o.tape,hL8.output.trans HB3.o.output,Nat.le_trans HB3.o.size hL8.size,fun q hq hn=>(hL8.out q (by have:=HB3.o.size;omega) (by intro h;rcases h with h|h;exact hn h;omega)).trans (HB3.o.block q hq)⟩
  ·have HE:Hid (jL tick ls ps dr tm rs am=((ls.set k ⟨ls[k].tm,ls[k].rs,ls[k].mo,ls[k].fr-am⟩,fill ps dr tm rs am (tick+10)),0)):=by
    unfold Hid jL;rw[dif_pos ⟨by rw[HH.o.1,HH.o.2.2];rfl,by rw[e1];exact hkl⟩];simp only[e1];rw[if_neg hf,if_neg hq]
   have hqI:decide ((24:Int)<((fill ps dr tm rs am (tick+10)).length:Int))=false:=by simp;omega
   have hwf:wrap64 (ls[k].fr-am)=ls[k].fr-am:=by have h8:=HO.o.1.lf _ (List.getElem_mem hkl);have h9:=HAM.o;exact zA _ ⟨by omega,by omega⟩
   have hrow:=zjt HR6.o.1 (k*4+3) (.i (ls[k].fr-am));rw[<- ze0 Lg.row 4 (fun _=>rfl) ls k hkl 3 (.i (ls[k].fr-am)) ⟨ls[k].tm,ls[k].rs,ls[k].mo,ls[k].fr-am⟩ (by omega) rfl]at hrow;have kC7:=zi (o:=0) ((Below.heap_setCell w6 (aD g (k*4+3)) (.i (ls[k].fr-am)) (w.heap.size+1+1) (by show w.heap.size+1+1≠g;exact HGN.o)).trans kC6) (.i 0);have kX7:=(Below.heap_setCell (w6.setCell (aD g (k*4+3)) (.i (ls[k].fr-am))) (aD (w.heap.size+1+1) 0) (.i 0) x (by show x≠w.heap.size+1+1;have:=HXY.o;omega)).trans ((Below.heap_setCell w6 (aD g (k*4+3)) (.i (ls[k].fr-am)) x (by show x≠g;exact hgx.symm)).trans kX6);have hL7:Left (fun q=>q=x \/ q=g \/ q=w.heap.size+1+1) W3 ((w6.setCell (aD g (k*4+3)) (.i (ls[k].fr-am))).setCell (aD (w.heap.size+1+1) 0) (.i 0)):=Left.set (S:=fun q=>q=x \/ q=g \/ q=w.heap.size+1+1) (b:=w.heap.size+1+1) (Left.set (S:=fun q=>q=x \/ q=g \/ q=w.heap.size+1+1) (b:=g) (hL6.wide (fun _ h=>Or.inl h)) (Or.inr (Or.inl rfl)) _ _) (Or.inr (Or.inr rfl)) 0 _
   have ho7:=qx (w':=(w6.setCell (aD g (k*4+3)) (.i (ls[k].fr-am))).setCell (aD (w.heap.size+1+1) 0) (.i 0)) ho6 (fun q hq=>by
    have h8:=(ho6.lt q hq).1;have h9:=(HL.o.1.1.lt g rfl).2;exact(Below.heap_setCell _ _ _ _ (by show q≠w.heap.size+1+1;omega)).trans (Below.heap_setCell _ _ _ _ (by show q≠g;omega)))
   have hr7:=qx (w':=(w6.setCell (aD g (k*4+3)) (.i (ls[k].fr-am))).setCell (aD (w.heap.size+1+1) 0) (.i 0)) hrow (fun q hq=>Below.heap_setCell _ _ _ _ (by
    obtain rfl:g=q:=by simpa[Value.ownBlock] using hq
    exact HGN.o.symm))
   have HF7:=zbT kX7 hL7 ho7 hr7;clear hf hq kX7 hL7 ho7 hr7 hrow;go_wp2_with fail
   obtain⟨W7,hW7⟩:=nm ((w6.setCell (aD g (k*4+3)) (.i (ls[k].fr-am))).setCell (aD (w.heap.size+1+1) 0) (.i 0));rw[<- hW7]at kC7 HF7 ⊢;clear hW7;refine leaves_cons (f:=88) (args:=#[.pointer (some (aD (w.heap.size+1+1) 0)),.pointer (some (aD y 0)),.pointer (some (aD w.heap.size 0))]) (by simp) (by simp[go_sem]) ?_;refine(zpd (w.heap.size+1+1) y w.heap.size .returning W7 (cell_of_block kC7)).mono ?_;rintro e u' w'⟨rfl,rfl,hw'⟩;rw[hw'];have cc:=cell_of_block (o:=0) kC7;refine⟨.i 0,(by simp[results,Tryz.results38,go_sem,cc]),by rw[HE.o],?_⟩;rw[HE.o];refine⟨fun h=>absurd rfl h,fun _=>⟨_,HF7.o.1,zb9 HF7.o.2.2.1 (by have:=HB3.o.size;omega),⟨by rw[List.length_set];exact HF7.o.2.2.2,HR6.o.2⟩,?_⟩⟩;have hL8:=HF7.o.2.1
   exact⟨hL8.os.trans HB3.o.os,hL8.tape.trans HB3.o.tape,hL8.output.trans HB3.o.output,Nat.le_trans HB3.o.size hL8.size,fun q hq hn=>(hL8.out q (by have:=HB3.o.size;omega) (by
    intro h
    rcases h with h|h|h
    ·exact hn (Or.inl h)
    ·exact hn (Or.inr (by rw[h,hgo]))
    ·omega)).trans (HB3.o.block q hq)⟩
set_option maxRecDepth 20000 in
theorem zg4 (l:Lw)(la lb lc:OA)(lca lcb lcc:Nat)(b:Bk)(a0 a1 a2 a3:OA)(c0 c1 c2 c3:Nat)(dr tm rs:BA)(am:Int)(w:World)(hl:jA w l la lb lc)(hb:jk w b a0 a1 a2 a3)(hlf:l.Few)(hbf:b.Few)(hz:qO b.os<=1048576)(hd:dr.size<=maxLen) :
 Calls Tryz.prog 9 #[.agg (l.cells la lb lc lca lcb lcc),.agg (b.cells a0 a1 a2 a3 c0 c1 c2 c3),.s dr,.s tm,.s rs,.i am] w fun e w'=>zkr w.heap.size w' e (draw l b dr tm rs am)/\Bw w w':=by
 have HK:=hid hb;have HL:=hid hl;have HF:=za6 hlf hbf hz;have HD:=hid hd;clear hb hl hlf hbf hz hd;unfold Lw.cells Bk.cells;have k0:=zny w (.cells #[.l la l.ss.length lca,.l lb l.ms.length lcb,.l lc l.ts.length lcc] 47) (.cells (bC b a0 a1 a2 a3 c0 c1 c2 c3) 40) (.cells bZ 40);have hB0:=below3' w (.cells #[.l la l.ss.length lca,.l lb l.ms.length lcb,.l lc l.ts.length lcc] 47) (.cells (bC b a0 a1 a2 a3 c0 c1 c2 c3) 40) (.cells bZ 40);obtain⟨W0,hW0⟩:=nm (((w.alloc (.cells #[.l la l.ss.length lca,.l lb l.ms.length lcb,.l lc l.ts.length lcc] 47)).alloc (.cells (bC b a0 a1 a2 a3 c0 c1 c2 c3) 40)).alloc (.cells bZ 40));have hz0:W0.heap.size=w.heap.size+1+1+1:=by rw[hW0];simp
 go_enter Tryz.func9,Tryz.ntmps9;go_wp2_with fail
 rw[<- hW0]at k0 hB0 ⊢;clear hW0;refine(zjN l la lb lc lca lcb lcc b a0 a1 a2 a3 c0 c1 c2 c3 W0 (HL.o.mono hB0) (HK.o.mono hB0) HF.o.1 HF.o.2.1 HF.o.2.2).mono ?_;rintro e w1⟨rfl,hb1⟩;have hz1:=hb1.size;have HB1:=hid (hB0.trans (hb1.mono hB0.size));have kB:=(hb1.block (w.heap.size+1) (by omega)).trans k0.2.1;have kR:=(hb1.block (w.heap.size+1+1) (by omega)).trans k0.2.2;have cB:=fun j=>cell_of_block (o:=j) kB
 have cR:=fun j=>cell_of_block (o:=j) kR
 have fR:=fun j=>zf (o:=j) kR
 have hzB:w.heap.size+1<w1.heap.size:=by omega
 have hzR:w.heap.size+1+1<w1.heap.size:=by omega
 have HKB:=yU kB kR;clear hb1 k0 hB0 kB kR
 by_cases hok:jG l b=true
 rotate_left
 ·have hno:jG l b=false:=bFi hok
  have HR:Hid (draw l b dr tm rs am=(zaR,1)):=by unfold Hid draw;rw[hno];rfl
  rw[hno];go_wp2_with fail
  refine bodyPost_ret (v:=.tuple #[.agg #[.i 0,.i 0,.i 0,.l none 0 0,.l none 0 0,.l none 0 0,.l none 0 0],.i 1]) (by simp[results,Tryz.results9,go_sem,cR]) rfl ?_;refine⟨⟨w1.heap.size,fun _=>(9,0,0),none,none,none,none,0,0,0,0,by rw[HR.o];rfl,?_⟩,?_⟩
  ·rw[HR.o]
   exact⟨⟨fun h=>absurd h (by simp[zaR])⟩,⟨fun h=>absurd h (by simp[zaR])⟩,⟨fun h=>absurd h (by simp[zaR])⟩,⟨fun h=>absurd h (by simp[zaR])⟩,fun _ _=>rfl,HB1.o.size,by simp[World.setCell]⟩
  ·have h1:w.heap.size<=w.heap.size+1+1:=by omega
   iterate 7 refine Below.setCell ?_ h1 _
   exact HB1.o
 have HT:=yU (zpI hok) (ziz hok);rw[hok];go_wp2_with fail
 refine(zmi b a0 a1 a2 a3 c0 c1 c2 c3 w1 (HK.o.mono HB1.o) HF.o.2.1).mono ?_;rintro e w2⟨own,d0,d1,d2,d3,e0,e1,e2,e3,rfl,hbk,⟨hlr,hpr⟩,hb2⟩;have hz2:=hb2.size;have HB2:=hid hb2;have HN2:=za6 hbk hlr hpr;clear hpr hlr;have kR2:=(hb2.block (w.heap.size+1+1) hzR).trans HKB.o.2;have kB2:=(hb2.block (w.heap.size+1) hzB).trans HKB.o.1;have hba:=(bRf w2.heap.size w2).alloc (Nat.le_refl _) (.cells (bC b d0 d1 d2 d3 e0 e1 e2 e3) 40);have kX:=alloc_at w2 (.cells (bC b d0 d1 d2 d3 e0 e1 e2 e3) 40);clear hb2 hbk cB cR fR;go_wp2_with fail
 obtain⟨W3,hW3⟩:=nm (w2.alloc (.cells (bC b d0 d1 d2 d3 e0 e1 e2 e3) 40));rw[<- hW3]at hba kX ⊢;have hz3:W3.heap.size=w2.heap.size+1:=by rw[hW3];simp
 clear hW3;have HN3:=za6 (BkF.mono HN2.o.1 hba) (HN2.o.2.1.left (Left.of_below (fun _=>False) hba) (fun _ _ h=>h)) (HN2.o.2.2.left (Left.of_below (fun _=>False) hba) (fun _ _ h=>h));have HB3:=hid ((HB1.o.trans (HB2.o.mono HB1.o.size)).trans (hba.mono (by omega)));have kR3:=(hba.block _ (by omega)).trans kR2;obtain⟨x,hx⟩:=nm (w2.heap.size);rw[<- hx]at kX HN3 hz3 ⊢;have hxw:w1.heap.size<=x:=by omega
 have hx9:=HN3.o.1.out x (Or.inr (Nat.le_refl _));have hR9:=HN3.o.1.out (w.heap.size+1+1) (Or.inl (by omega));have hxz:x<W3.heap.size:=by omega
 have hzR3:w.heap.size+1+1<W3.heap.size:=by omega
 clear kR2 kB2 hba HN2 hx;refine(zrw (w1.heap.size+1+1) x own b.now b.tick b.given (.l d0 b.os.length e0) (.l d1 b.gs.length e1) d2 e2 d3 e3 b.ls b.ps dr tm rs am W3 kX HN3.o.2.1 HN3.o.2.2 (by omega) ⟨fun g hg=>by obtain⟨i,hi,rfl⟩:=List.mem_iff_getElem.1 hg;exact HK.o.ls.small i hi,HT.o.1.len,HT.o.1.rise,fun g hg=>by have:=HT.o.1.fr.fr g hg;omega,HK.o.ps.small,HT.o.1.plen,HT.o.2,HT.o.1.am,HT.o.1.tick⟩ HD.o).mono ?_;have HR:Hid (draw l b dr tm rs am=zeC b dr tm rs am):=by unfold Hid draw;rw[if_pos hok]
 obtain⟨r,hr⟩:=nm (jL b.tick b.ls b.ps dr tm rs am);have HRR:Hid (zeC b dr tm rs am=({ b with ls:=r.1.1,ps:=r.1.2 },r.2)):=by unfold Hid zeC;rw[hr]
 rw[<- hr];rintro e w4⟨rfl,hdr⟩;clear hr
 by_cases hc:r.2=0
 rotate_left
 ·obtain⟨e1,kX4,hL4⟩:=hdr.no hc
  have kR4:=(hL4.out _ hzR3 (by show ¬_=x;omega)).trans kR3;have hz4:=hL4.size;have HL4:=yU e1 hL4;have cX:=fun j=>cell_of_block (o:=j) kX4
  have cR:=fun j=>cell_of_block (o:=j) kR4
  have fR:=fun j=>zf (o:=j) kR4
  have hxz4:x<w4.heap.size:=by omega
  have hzR4:w.heap.size+1+1<w4.heap.size:=by omega
  have hxne:x≠w.heap.size+1+1:=by omega
  clear hdr e1 hL4 kX kR3 kX4 kR4;go_wp2_with fail
  refine bodyPost_ret (v:=.tuple #[.agg #[.i b.now,.i b.tick,.i b.given,.l d0 b.os.length e0,.l d1 b.gs.length e1,.l d2 b.ls.length e2,.l d3 b.ps.length e3],.i r.2]) (by simp[results,Tryz.results9,go_sem,cR]) rfl ?_;have hLs:∀(W:World) (o:Nat) (v:Value),Left (fun k=>k=x \/ k=w.heap.size+1+1) W3 W->Left (fun k=>k=x \/ k=w.heap.size+1+1) W3 (W.setCell (aD (w.heap.size+1+1) o) v):=fun W o v h=>h.set (Or.inr rfl) o v
  have hE:draw l b dr tm rs am=(b,r.2):=by rw[HR.o,HRR.o,HL4.o.1]
  refine⟨⟨x,own,d0,d1,d2,d3,e0,e1,e2,e3,by rw[hE];rfl,?_⟩,?_⟩
  ·rw[hE]
   refine BkF.low (BkF.left (S:=fun k=>k=x \/ k=w.heap.size+1+1) HN3.o.1 ?_ (fun k hk h2=>by rcases h2 with rfl|rfl <;> omega)) (by omega)
   iterate 7 refine hLs _ _ _ ?_
   exact HL4.o.2.wide (fun _ h=>Or.inl h)
  ·have h1:w.heap.size<=w.heap.size+1+1:=by omega
   iterate 7 refine Below.setCell ?_ h1 _
   exact HB3.o.trans (HL4.o.2.below (fun k hk h3=>by omega) (by omega))
 ·obtain⟨v,kX4,hrow,hlr4,hL4⟩:=hdr.yes hc
  obtain⟨va,vc,rfl⟩:=jc hrow;have kR4:=(hL4.out _ hzR3 (by show ¬(_=x \/ _);omega)).trans kR3;have hz4:=hL4.size;have HL4:=za6 hrow hlr4 hL4;have cX:=fun j=>cell_of_block (o:=j) kX4
  have cR:=fun j=>cell_of_block (o:=j) kR4
  have fR:=fun j=>zf (o:=j) kR4
  have hxz4:x<w4.heap.size:=by omega
  have hzR4:w.heap.size+1+1<w4.heap.size:=by omega
  have hxne:x≠w.heap.size+1+1:=by omega
  rw[hc];clear hdr hrow hlr4 hL4 kX kR3 kX4 kR4;go_wp2_with fail
  refine bodyPost_ret (v:=.tuple #[.agg #[.i b.now,.i b.tick,.i b.given,.l d0 b.os.length e0,.l d1 b.gs.length e1,.l d2 b.ls.length e2,.l va r.1.2.length vc],.i 0]) (by simp[results,Tryz.results9,go_sem,cR]) rfl ?_;obtain⟨own',ho'⟩:∃own':Nat->Lb,own'=fun k=>if k<W3.heap.size then own k else if k<w4.heap.size then (3,0,0) else (9,0,0):=⟨_,rfl⟩
  have hoo:∀k,(own k).1≠9->own' k=own k:=fun k hk=>by
   rw[ho'];refine if_pos (Nat.lt_of_not_le fun h=>hk (HN3.o.1.out k (Or.inr (by omega))))
  have hP5:zcq (w1.heap.size+1+1) w4 own' (.l va r.1.2.length vc) r.1.2:=⟨zb9 HL4.o.1 (by have:=HN3.o.1.le;omega),fun z hz=>by
   have h8:=HL4.o.1.lt z hz;rw[ho']
   show(if _ then _ else _:Lb)=_
   rw[if_neg (by omega),if_pos h8.2]⟩
  obtain⟨a',c',he,hps⟩:=hP5.lie;simp only[Value.slice.injEq]at he;obtain⟨rfl,_,rfl⟩:=he;obtain⟨a'',c'',he,hls⟩:=HL4.o.2.1.lie;simp only[Value.slice.injEq]at he;obtain⟨rfl,hll,rfl⟩:=he;have hle:=HN3.o.1.le;have hE:draw l b dr tm rs am=({ b with ls:=r.1.1,ps:=r.1.2 },0):=by rw[HR.o,HRR.o,hc]
  have hN:BkL (w1.heap.size+1+1) w4.heap.size w4 own' { b with ls:=r.1.1,ps:=r.1.2 } d0 d1 d2 va:=by
   refine⟨(HN3.o.1.os.left HL4.o.2.2 (fun k h1 h2=>by rcases h2 with rfl|h2 <;> omega)).own (fun k _ h=>hoo k (by omega)),(HN3.o.1.gs.left HL4.o.2.2 (fun k h1 h2=>by rcases h2 with rfl|h2 <;> omega)).own (fun k _ h=>hoo k (by omega)),hls.own (fun k _ h=>hoo k (by omega)),hps,fun k hk=>?_,by omega,Nat.le_refl _⟩;rw[ho']
   show(if _ then _ else _:Lb).1=_
   rcases hk with hk|hk
   ·rw[if_pos (by omega)];exact HN3.o.1.out k (Or.inl hk)
   ·rw[if_neg (by omega),if_neg (by omega)]
  have hLs:∀(W:World) (o:Nat) (v:Value),Left (fun k=>k=w.heap.size+1+1) w4 W->Left (fun k=>k=w.heap.size+1+1) w4 (W.setCell (aD (w.heap.size+1+1) o) v):=fun W o v h=>h.set rfl o v
  refine⟨⟨w4.heap.size,own',d0,d1,d2,va,e0,e1,e2,vc,?_,?_⟩,?_⟩
  ·rw[hE]
   unfold Bk.cells;simp only[<- hll]
  ·rw[hE]
   refine BkF.low (BkF.left (S:=fun k=>k=w.heap.size+1+1) hN ?_ (fun k hk h2=>by have:=hN.out k (Or.inl (by omega));omega)) (by omega)
   iterate 7 refine hLs _ _ _ ?_
   exact Left.refl _ _
  ·have h1:w.heap.size<=w.heap.size+1+1:=by omega
   iterate 7 refine Below.setCell ?_ h1 _
   exact HB3.o.trans (HL4.o.2.2.below (fun k hk h3=>by have:=HN3.o.1.out k (Or.inl (by omega));omega) (by omega))
end Go.Proofs.YtbfgkhgmnfghgaaGreat
