import Derived.Test.YtjnpjkigofldlaaGreatM52
import Derived.Test.YtjnpjkigofldlaaGreatM50
import Derived.Test.YtjnpjkigofldlaaGreatM51
set_option maxRecDepth 20000
set_option maxHeartbeats 8000000
namespace Go.Proofs.YtjnpjkigofldlaaGreat
open Go.RowKit
variable {b:Bk}{l:Lw}{k:Nat}
theorem BkB.zuh {lo hi x:Nat}{w:World}{own:Nat->Lb}{d0 d1 d2 d3:OA}{e0 e1 e2 e3:Nat}(h:BkB lo hi x w own b d0 d1 d2 d3 e0 e1 e2 e3):∀k,k<lo->(own k).1=9:=fun k hk=>h.bk.out k (Or.inl hk)
theorem zpS {ms:List Int}{j:Nat}(hms:ms=marks l b.os)(h:k<ms.length)(hj:ms[k]=j)(hl:j<(upTo ms b.now b.os k).length)(hl':j<((upTo ms b.now b.os k).set j { (upTo ms b.now b.os k)[j] with en:=true }).length) :
 ({ b with now:=b.now+((k+1:Nat):Int),os:=upTo ms b.now b.os (k+1) }:Bk)={ b with now:=b.now+(k:Int)+1,os:=((upTo ms b.now b.os k).set j { (upTo ms b.now b.os k)[j] with en:=true }).set j { ((upTo ms b.now b.os k).set j { (upTo ms b.now b.os k)[j] with en:=true })[j] with vr:=b.now+(k:Int)+1 } }:=by
 subst hms;have e:b.now+((k+1:Nat):Int)=b.now+(k:Int)+1:=by push_cast;omega
 rw[zsq h hj hl,List.set_set,List.getElem_set_self,e]
theorem BkB.ob {lo hi x:Nat}{w:World}{own:Nat->Lb}{d0 d1 d2 d3:OA}{e0 e1 e2 e3:Nat}(h:BkB lo hi x w own b d0 d1 d2 d3 e0 e1 e2 e3)(i:Nat)(hi:i<b.os.length)(hs:zbJ b.os) :
 ∃g va ha q0 q1,d0=some (aD g 0)/\own g=(0,0,0)/\g<w.heap.size/\(∀t,t<7->w.cell? (aD g (i*7+t))=(oC b.os[i] va ha q0 q1)[t]?)/\∀(S:Nat->Prop) W,Left S w W->(∀k,S k->(own k).1≠0)->qY W b.os[i] va ha:=by
 obtain⟨g,C,ha,_,hgo,hC,_,hr⟩:=h.bk.os.rows (by omega);obtain⟨v0,v1,q0,q1,hE⟩:=hr i hi;rw[qW hi]at hE;obtain⟨s0,s1,s2⟩:=hs.small i hi;refine⟨g,v0,v1,q0,q1,ha,hgo,(gES hC).1,fun t ht=>(cell_of_block hC).trans (hE.cell t ht),fun S W hL hS=>⟨s0,(hE.l0.left hL (fun q hq hk=>hS _ hk (by rw[hE.o0 q hq]))).at s1.1 s1.2,(hE.l1.left hL (fun q hq hk=>hS _ hk (by rw[hE.o1 q hq]))).at s2.1 s2.2⟩⟩
theorem ztW {G:BA->BA->Bool}(h:k<b.os.length)(hl:leans l G b.os[k]=true)(h':k<((zaB l G b.os b.now k).set k { b.os[k] with vs:=zS G (lks l b.os[k]) b.os[k].vs }).length) :
 ({ b with now:=(fixes l G (b.os.take (k+1)) b.now).2,os:=zaB l G b.os b.now (k+1) }:Bk)={ b with now:=(fixes l G (b.os.take k) b.now).2+1,os:=((zaB l G b.os b.now k).set k { b.os[k] with vs:=zS G (lks l b.os[k]) b.os[k].vs }).set k { ((zaB l G b.os b.now k).set k { b.os[k] with vs:=zS G (lks l b.os[k]) b.os[k].vs })[k] with vr:=(fixes l G (b.os.take k) b.now).2+1 } }:=by
 rw[zkC h,zmw h,zmQ hl,List.set_set,List.getElem_set_self]
theorem zt8 {G:BA->BA->Bool}(h:k<b.os.length)(hl:leans l G b.os[k]=false) :
 ({ b with now:=(fixes l G (b.os.take (k+1)) b.now).2,os:=zaB l G b.os b.now (k+1) }:Bk)={ b with now:=(fixes l G (b.os.take k) b.now).2,os:=(zaB l G b.os b.now k).set k { b.os[k] with vs:=zS G (lks l b.os[k]) b.os[k].vs } }:=by
 rw[zkC h,zmw h,zpy hl,zqb hl]
theorem zsv (l:Lw)(la lb lc:OA)(lca lcb lcc:Nat)(b:Bk)(a0 a1 a2 a3:OA)(c0 c1 c2 c3:Nat)(w:World)(hl:qp w l la lb lc)(hb:qj w b a0 a1 a2 a3)(hbf:b.Few)(hok:qG l b=true)(hne:0<b.os.length) :
 Calls Tryz.prog 36 #[.agg (lC l la lb lc lca lcb lcc),.agg (bC b a0 a1 a2 a3 c0 c1 c2 c3)] w fun e w'=>(∃hi own d0 d1 d2 d3 e0 e1 e2 e3,e=.returned (.agg (bC (za7 l b) d0 d1 d2 d3 e0 e1 e2 e3))/\BkL w.heap.size hi w' own (za7 l b) d0 d1 d2 d3)/\Bw w w':=by
 have HK:=zao hl hb hbf;have HF:=zao (book_facts hok) (zcZ.of (book_facts hok)) (zrw hok)
 have HNW:Hid (0<=b.now/\b.now<=1000000):=by
  unfold qG zaz at hok;simp only[Bool.and_eq_true]at hok;exact zls hok.2.1
 have hmk:∀w:World,(Instr.makeMap 143 none).run Tryz.prog w=.ok (.map (some w.heap.size)) (w.alloc (.map #[] 0)):=fun w=>by kernel_rfl
 clear hl hb hbf hok;obtain⟨W0,hW0,k0,hB0,hz0⟩:=zsc w (.cells (lC l la lb lc lca lcb lcc) 47) (.cells (bC b a0 a1 a2 a3 c0 c1 c2 c3) 40) (.cells bZ 40);go_in;go_wp2_with fail
 rw[<- hW0];clear hW0;refine(zhS b a0 a1 a2 a3 c0 c1 c2 c3 W0 (HK.o.2.1.mono hB0) HK.o.2.2).mono ?_;rintro e w1⟨own,d0,d1,d2,d3,e0,e1,e2,e3,rfl,hbk,_,hb1,hcap⟩;obtain⟨W1,hW1,kX,hba,hz1⟩:=zpa w1 (.cells (bC b d0 d1 d2 d3 e0 e1 e2 e3) 40);have HCP:=hid hcap;clear hcap
 go_upto_region 2 with fail
 rw[<- hW1];clear hW1;have hb01:=hb1.trans (hba.mono hb1.size);have HX1:Hid (BkB (W0.heap.size+1+1) w1.heap.size w1.heap.size W1 own b d0 d1 d2 d3 e0 e1 e2 e3):=⟨kX,BkL.mono hbk hba,hbk.out _ (Or.inr (Nat.le_refl _))⟩
 obtain⟨x,hx⟩:=xN (w1.heap.size);have hxz:W0.heap.size<=x:=by rw[hx];exact hb1.size
 rw[<- hx]at HX1 hz1 ⊢;have hK1:=fun W (hW:Bw W0 W)=>And.intro ((hW.block w.heap.size (by omega)).trans k0.1) (And.intro ((hW.block (w.heap.size+1) (by omega)).trans k0.2.1) (hW.block (w.heap.size+1+1) (by omega) |>.trans k0.2.2))
 have HK1:=hid hK1;have HB0:=hid hB0;have HB01:=hid hb01;have HZ:=yB hz0 hz1;clear hK1 hB0 hb01 hb1 hba kX hbk k0 hx;obtain⟨kL,kB,_⟩:=HK1.o W1 HB01.o;have cL:=fun j=>cell_of_block (o:=j) kL
 have cB:=fun j=>cell_of_block (o:=j) kB
 have hzL:w.heap.size<W1.heap.size:=by omega
 have hzB:w.heap.size+1<W1.heap.size:=by omega
 clear kL kB hz0 hz1;go_wp2_with fail
 refine(zkz l la lb lc lca lcb lcc b a0 a1 a2 a3 c0 c1 c2 c3 W1 (HK.o.1.mono (HB0.o.trans (HB01.o.mono HB0.o.size))) (HK.o.2.1.mono (HB0.o.trans (HB01.o.mono HB0.o.size))) HF.o.1.1 HF.o.1.2).mono ?_;rintro e w2⟨v,rfl,hv,hb2⟩;obtain⟨ma,mc,rfl,hm⟩:=z8.zbC hv;have HB02:=hid (HB01.o.trans (hb2.mono HB01.o.size));have HX2:=zao (HX1.o.mono hb2) hm hb2.size;clear hv hm hb2 cL cB;go_wp2_with fail
 obtain⟨ms,hms⟩:=xN (marks l b.os);have HMS:=hid hms;rw[<- hms]at HX2 ⊢;clear hms
 go_loopw [19] (fun iv wr=>∃k:Nat,k<=ms.length/\iv=.i k/\Hid (BkB (W0.heap.size+1+1) (x) x wr own { b with now:=b.now+k,os:=upTo ms b.now b.os k } d0 d1 d2 d3 e0 e1 e2 e3/\Left (fun q=>q=x \/ (own q).1=0) w2 wr)) (fun iv _=>ms.length-(intOf iv).toNat)
 case atStart=>exact⟨0,Nat.zero_le _,rfl,by
  have e:({ b with now:=b.now+((0:Nat):Int),os:=upTo ms b.now b.os 0 }:Bk)=b:=by simp[upTo]
  rw[e];exact HX2.o.1,Left.refl _ _⟩
 case round=>
  obtain⟨k,hk,rfl,HQ⟩:=hrel;have hml:ms.length<=40:=by have h1:=zoP l b.os;rw[<- HMS.o]at h1;have:=HF.o.2.1.few;omega
  by_cases hlt:k<ms.length
  ·obtain⟨j,hj,hjl⟩:∃j:Nat,ms[k]=(j:Int)/\j<b.os.length:=by have h:=HMS.o;subst h;exact zoz hlt
   have h9:∀q,x<=q->(own q).1=9:=fun q hq=>HX1.o.bk.out q (Or.inr hq)
   obtain⟨mb,moff,e9,hmb,hmc⟩:=((HX2.o.2.1.left HQ.o.2 (fun g hg e=>by have h1:=HX2.o.2.1.ge g hg;have h2:=HZ.o.2;have h3:=h9 g.block (by omega);omega)).at (by unfold maxLen;omega)).cells (by intro h;rw[h]at hlt;simp at hlt);subst e9;have cM:=hmc k hlt;rw[hj]at cM;obtain⟨g,C,rfl,hlo,hgo,hC,hs,hr⟩:=HQ.o.1.bk.os.rows (by show 0<(upTo _ _ _ _).length;rw[zeb];omega);have hl1:=zeb ms b.now b.os k;have hjl1:j<(upTo ms b.now b.os k).length:=by omega
   have cX:wr.cell? (aD x 3)=some (.l (some (aD g 0)) b.os.length e0):=by
    have h1:=cell_of_block (o:=3) HQ.o.1.box;rw[h1,<- hl1];rfl
   obtain⟨v0,v1,q0,q1,hE⟩:=hr j (by show j<(upTo _ _ _ _).length;omega);have c4:wr.cell? (aD g (j*7+4))=some (.bool (jo (upTo ms b.now b.os k) j).en):=(cell_of_block hC).trans (hE.cell 4 (by omega));have f4:wr.frozen? (aD g (j*7+4))=false:=zf hC;have hgr:=(gES hC).1;have hxr:=HQ.o.1.lt;have hltI:(k:Int)<(ms.length:Int):=by omega
   have hjI:(j:Int)<(b.os.length:Int):=by omega
   have HB1:=hid (HQ.o.1.cell j 4 hjl1 (by omega) (.bool true) { (upTo ms b.now b.os k)[j] with en:=true } rfl rfl (fun a0 a1 c0 c1 k hk=>by
    by_cases e:k=4
    ·subst e;rfl
    ·rw[if_neg e]
     have:k=0 \/ k=1 \/ k=2 \/ k=3 \/ k=5 \/ k=6:=by omega
     rcases this with rfl|rfl|rfl|rfl|rfl|rfl <;> rfl))
   have HGO:=yB hgo hj;clear hE hr hs hC hmc hgo hlo hj
   go_upto_region 6 with fail
   refine jG (fun W=>BkB (W0.heap.size+1+1) x x W own _ (some (aD g 0)) d1 d2 d3 e0 e1 e2 e3/\Left (fun q=>q=x \/ (own q).1=0) w2 W) ⟨HB1.o,HQ.o.2.set (Or.inr (by rw[HGO.o.1])) _ _⟩ ?_;rintro W3⟨hB3,hL3⟩;have HL3:=hid hL3;clear hL3 cX cM c4 f4 hgr hxr hmb;go_wp2_with fail
   refine(zmO _ _ x g own _ d1 d2 d3 e0 e1 e2 e3 j W3 hB3 (by show j<(List.set _ _ _).length;rw[List.length_set];exact hjl1) (by have:=HNW.o;show 0<=b.now+(k:Int)/\b.now+(k:Int)<=2000000;omega)).mono ?_;rintro e w4⟨rfl,hB4,hL4⟩
   have HE:Hid (BkB (W0.heap.size+1+1) x x w4 own { b with now:=b.now+((k+1:Nat):Int),os:=upTo ms b.now b.os (k+1) } (some (aD g 0)) d1 d2 d3 e0 e1 e2 e3/\Left (fun q=>q=x \/ (own q).1=0) w2 w4):=by
    refine⟨?_,HL3.o.trans hL4⟩;rw[zpS HMS.o hlt HGO.o.2 hjl1 (by rw[List.length_set];exact hjl1)];exact hB4
   clear hB3 hB4 hL4;go_wp2
   exact⟨⟨k+1,by omega,by go_num,HE.o⟩,zi hlt⟩
  ·obtain rfl:k=ms.length:=by omega
   have h9:∀q,q<W0.heap.size+1+1->(own q).1=9:=HX1.o.zuh;obtain⟨W4,rfl⟩:=xN (wr);have HB04:Hid (Bw W0 W4):=HB02.o.trans (HQ.o.2.below (fun q hq e=>e.elim (fun e=>by omega) (fun e=>by have:=h9 q (by omega);omega)) HB02.o.size);obtain⟨b1,hb1⟩:∃b1:Bk,b1={ b with now:=zru l b,os:=zd3 l b }:=⟨_,rfl⟩
   have hX4:BkB (W0.heap.size+1+1) x x W4 own b1 d0 d1 d2 d3 e0 e1 e2 e3:=by
    have h1:=HQ.o.1;rw[HMS.o]at h1;rw[hb1];exact h1
   have hal:Alike b.os b1.os:=by rw[hb1];exact zeE _ _ _ _
   have hO1:zcZ l b1.os:=hal.ok HF.o.2.1
   have hsm1:b1.Small:=by
    have h1:=HK.o.2.1.small;have h2:=hal.1;have h3:=h1.lo;exact⟨hal.small h1.os,by omega,by rw[hb1];exact h1.gs,by rw[hb1];exact h1.lg,by rw[hb1];exact h1.ls,by rw[hb1];exact h1.ll,by rw[hb1];exact h1.ps,by rw[hb1];exact h1.lp⟩
   have hfw1:=hal.few HK.o.2.2.os.2;have hln1:b1.ls.length<=10:=by rw[hb1];exact HF.o.2.2.len
   have HO1:=zkq hO1 hsm1 hfw1 hal.1 hb1;have HX4:=hid hX4;have hM:=(zH.new W4).mono ((bRf _ _).alloc (Nat.le_refl _) (.cells #[.map (some W4.heap.size)] 143));have hbb:=zo W4 (.map #[] 0) (.cells #[.map (some W4.heap.size)] 143);have kG:=(zK W4 (.map #[] 0) (.cells #[.map (some W4.heap.size)] 143)).2;have hz5:((W4.alloc (.map #[] 0)).alloc (.cells #[.map (some W4.heap.size)] 143)).heap.size=W4.heap.size+1+1:=by simp
   clear hb1 hal hO1 hsm1 hfw1 hX4 HQ hlt hk
   go_upto_region 9 with fail
   refine jG (fun W=>BkB (W0.heap.size+1+1) x x W own b1 d0 d1 d2 d3 e0 e1 e2 e3/\zH W W4.heap.size (fun _ _=>none)/\W.heap[W4.heap.size+1]?=some (.cells #[.map (some W4.heap.size)] 143)/\Bw W4 W/\W.heap.size=W4.heap.size+1+1) ⟨HX4.o.mono hbb,hM,kG,hbb,hz5⟩ ?_;rintro W5⟨hB5,hM5,kG5,hb5,hz5⟩;clear hM hbb kG hz5 hmk;have HB05:=hid (HB04.o.trans (hb5.mono HB04.o.size));have HX5:=zkq hB5 hM5 kG5 hb5 (show W4.heap.size+1+1<=W5.heap.size by have:=(gES kG5).1;omega);obtain⟨kL,_,_⟩:=HK1.o W5 HB05.o;have cL:=fun j=>cell_of_block (o:=j) kL
   have cX:=fun j=>cell_of_block (o:=j) hB5.box
   have hzL:w.heap.size<W5.heap.size:=by have:=HB05.o.size;have:=HZ.o;omega
   have hzX:=hB5.lt;clear hB5 hM5 kG5 hb5 kL;go_wp2_with fail
   refine(zm5 l la lb lc lca lcb lcc b1 d0 d1 d2 d3 e0 e1 e2 e3 W5 (HK.o.1.mono (HB0.o.trans (HB05.o.mono HB0.o.size))) (BkL.at HX5.o.1.bk HO1.o.2.1) HO1.o.1).mono ?_;rintro e w6⟨v,rfl,hv,hb6⟩;obtain⟨pa,pc,rfl,hp⟩:=z8.zbC hv;have HB06:=hid (HB05.o.trans (hb6.mono HB05.o.size));have HX6:=zkq (HX5.o.1.mono hb6) (HX5.o.2.1.mono hb6) ((hb6.block _ (gES HX5.o.2.2.1).1).trans HX5.o.2.2.1) hp hb6.size;clear hv hp hb6 cL cX;go_wp2_with fail
   obtain⟨ps,hps⟩:=xN (zdH l b1.os);have HPS:Hid (ps=places (goS l b1.os)):=hps;rw[<- hps]at HX6 ⊢
   have hpl:ps.length<=40:=by
    rw[hps];have h1:=zdA (goS l b1.os) (goS l b1.os).length;have h2:=zgW l b1.os;have h3:=HO1.o.1.few
    show(yE (goS l b1.os) (goS l b1.os).length).length<=40
    omega
   clear hps
   go_loopw [36] (fun iv wr=>∃(k:Nat) (f:BA->BA->Option Int),k<=ps.length/\iv=.i k/\Hid (BkB (W0.heap.size+1+1) x x wr own { b1 with ls:=lets l b1.os (ps.take k) b1.ls } d0 d1 d2 d3 e0 e1 e2 e3/\zH wr W4.heap.size f/\(∀p q,(f p q).isSome=zcF b1.os (ps.take k) p q)/\Left (fun q=>q=W4.heap.size \/ (own q).1=2) w6 wr)) (fun iv _=>ps.length-(intOf iv).toNat)
   case atStart=>exact⟨0,_,Nat.zero_le _,rfl,HX6.o.1,HX6.o.2.1,fun p q=>rfl,Left.refl _ _⟩
   case round=>
    obtain⟨k,f,hk,rfl,HQ⟩:=hrel;have hx4:x<W4.heap.size:=HX4.o.lt;have h99:∀q,x<=q->(own q).1=9:=fun q hq=>HX1.o.bk.out q (Or.inr hq)
    have HBr:Hid (Bw W0 wr):=HB06.o.trans (HQ.o.2.2.2.below (fun q hq e=>e.elim (fun e=>by omega) (fun e=>by have:=h9 q (by omega);omega)) HB06.o.size);have kG:wr.heap[W4.heap.size+1]?=some (.cells #[.map (some W4.heap.size)] 143):=(HQ.o.2.2.2.out _ (gES HX6.o.2.2.1).1 (fun e=>e.elim (fun e=>by omega) (fun e=>by have:=h99 (W4.heap.size+1) (by omega);omega))).trans HX6.o.2.2.1
    by_cases hlt:k<ps.length
    ·obtain⟨j,hj,hjl⟩:∃j:Nat,ps[k]=(j:Int)/\j<b1.os.length:=by have h:=HPS.o;subst h;exact zr7 hlt
     obtain⟨mb,moff,e9,hmb,hmc⟩:=((HX6.o.2.2.2.1.left HQ.o.2.2.2 (fun g hg e=>by have h1:=HX6.o.2.2.2.1.ge g hg;have h2:=HX5.o.2.2.2.2;have h3:=h99 g.block (by omega);rcases e with e|e <;> omega)).at (by unfold maxLen;omega)).cells (by intro h;rw[h]at hlt;simp at hlt);subst e9;have cM:=hmc k hlt;rw[hj]at cM;obtain⟨g,va,ha,q0,q1,rfl,hgo,hgr,hcell0,hOb0⟩:=HQ.o.1.ob j hjl HO1.o.2.1.os;have cX:wr.cell? (aD x 3)=some (.l (some (aD g 0)) b1.os.length e0):=cell_of_block (o:=3) HQ.o.1.box;obtain⟨o,ho⟩:=xN (b1.os[j]);have hcell:∀t,t<7->wr.cell? (aD g (j*7+t))=(oC o va ha q0 q1)[t]?:=by rw[ho];exact hcell0
     have hOb:∀(S:Nat->Prop) W,Left S wr W->(∀k,S k->(own k).1≠0)->qY W o va ha:=by rw[ho];exact hOb0
     clear hcell0 hOb0;have p0:wr.cell? (aD g (j*7))=some (.s o.kd):=hcell 0 (by omega);have p1:wr.cell? (aD g (j*7+1))=some (.s o.nm):=hcell 1 (by omega);have p2:wr.cell? (aD g (j*7+2))=some (.s o.tm):=hcell 2 (by omega);have p3:wr.cell? (aD g (j*7+3))=some (.l va o.vs.length q0):=hcell 3 (by omega);have p4:wr.cell? (aD g (j*7+4))=some (.bool o.en):=hcell 4 (by omega);have p5:wr.cell? (aD g (j*7+5))=some (.l ha o.hs.length q1):=hcell 5 (by omega);have p6:wr.cell? (aD g (j*7+6))=some (.i o.vr):=hcell 6 (by omega);have HO:=j3 hOb ho hj hgo;have hxr:=HQ.o.1.lt;have hltI:(k:Int)<(ps.length:Int):=by omega
     have hjI:(j:Int)<(b1.os.length:Int):=by omega
     obtain⟨W7,hW7,kO,hba,hz7⟩:=zpa wr (.cells (oC o va ha q0 q1) 116);clear hOb ho hj hgo hcell hmc
     go_upto_region 13 with fail
     rw[<- hW7];clear hW7 p0 p1 p2 p3 p4 p5 p6 cX cM;have hzG:W4.heap.size+1<wr.heap.size:=(gES kG).1;have HS:Hid (∀W,Bw W7 W->W.cell? (aD (W4.heap.size+1) 0)=some (.map (some W4.heap.size))/\∀t,W.cell? (aD wr.heap.size t)=(oC o va ha q0 q1)[t]?):=fun W hW=>⟨((hba.trans (hW.mono hba.size)).cell (p:=(aD (W4.heap.size+1) 0)) hzG).trans (cell_of_block kG),fun t=>cell_of_block ((hW.block _ (by omega)).trans kO)⟩
     have HBa:=yB hba kO;clear hba kO;have hBd:=(bRf W7.heap.size W7).drew;have hS:=HS.o _ hBd;refine wp_region_held_drew (S:=fun W=>W.cell? (aD (W4.heap.size+1) 0)=some (.map (some W4.heap.size))/\∀t,W.cell? (aD wr.heap.size t)=(oC o va ha q0 q1)[t]?) (by kernel_rfl) hS (fun H_=>?_);refine tG 0 ?_;refine tG 1 ?_;refine tG 3 ?_;refine cH 2 rfl fun K hK=>?_
     go_simp
     refine(jr o va ha q0 q1 _).mono ?_;rintro e w8⟨rfl,hb8⟩;have hB8:=hBd.trans (hb8.mono hBd.size);have hS8:=HS.o w8 hB8;have hr8:=HBa.o.1.trans (hB8.mono HBa.o.1.size);have hf8:=HQ.o.2.1.mono hr8;have hsmo:o.Small:=by have:=(HO1.o.2.1.os.small j hjl).1;rw[HO.o.2.1];exact this
     obtain⟨w9,hup,hf9,hp9⟩:=hf8.upd zaw Tryz.underlying143 o.kd o.nm hsmo.kd hsmo.nm (j:Int)
     (try go_wp2_with fail)
     refine hK.out _ _ hS8 (fun H_=>?_);clear hK K hS hBd hb8
     (try simp only[Act.put,sA,s0,sS])
     have hS9:w9.cell? (aD (W4.heap.size+1) 0)=some (.map (some W4.heap.size))/\∀t,w9.cell? (aD wr.heap.size t)=(oC o va ha q0 q1)[t]?:=⟨(World.cell?_of_block (a:=(aD (W4.heap.size+1) 0)) (hp9.out _ (by show W4.heap.size+1≠W4.heap.size;omega))).trans hS8.1,fun t=>(World.cell?_of_block (a:=(aD wr.heap.size t)) (hp9.out _ (by show wr.heap.size≠W4.heap.size;omega))).trans (hS8.2 t)⟩
     have HP9:Hid (zH w9 W4.heap.size (fun p q=>if p=o.kd/\q=o.nm then some (j:Int) else f p q)/\Left (fun q=>q=W4.heap.size) wr w9):=⟨hf9,(Left.of_below _ hr8).trans ⟨hp9.os,hp9.tape,hp9.output,Nat.le_of_eq hp9.size.symm,fun q _ hq=>hp9.out q hq⟩⟩
     unfold y8 at hup;clear hf9 hp9 hf8 hr8;refine cH 4 rfl fun K hK=>?_
     unfold y8
     go_simp
     refine hK.out _ _ hS9 (fun H_=>?_);clear hK K hup
     (try simp only[Act.put,sA,s0,sS])
     refine wpAnyH_done (by kernel_rfl) ?_ _;clear H_;have hr9:=HP9.o.2.size;have HB9:Hid (Bw W0 w9):=HBr.o.trans (HP9.o.2.below (fun q hq e=>by omega) HBr.o.size);have HX9:Hid (BkB (W0.heap.size+1+1) x x w9 own { b1 with ls:=lets l b1.os (ps.take k) b1.ls } (some (aD g 0)) d1 d2 d3 e0 e1 e2 e3):=HQ.o.1.left HP9.o.2 (fun q hq e=>by have:=h99 q (by omega);omega) (by omega);obtain⟨kL,_,_⟩:=HK1.o w9 HB9.o;have cL:=fun j=>cell_of_block (o:=j) kL
     have hzL9:w.heap.size<w9.heap.size:=by have:=HB9.o.size;have:=HZ.o;omega
     have hzO9:wr.heap.size<w9.heap.size:=by have:=hB8.size;have h1:=(zc7 (hS9.2 0)).choose_spec.choose_spec.choose_spec;exact(gES h1).1
     have cO:=hS9.2
     have HLO:Hid (∀W,Left (fun q=>(own q).1=2) w9 W->qp W l la lb lc/\qY W o va ha):=fun W hW=>by
      have h1:=HB9.o.trans (hW.below (B:=W0.heap.size) (fun q hq e=>by have:=h9 q (by omega);omega) HB9.o.size);exact⟨HK.o.1.mono (HB0.o.trans (h1.mono HB0.o.size)),HO.o.1 (fun q=>q=W4.heap.size \/ (own q).1=2) W ((HP9.o.2.wide (fun q hq=>Or.inl hq)).trans (hW.wide (fun q hq=>Or.inr hq))) (fun q hq=>hq.elim (fun hq=>by have:=h99 q (by omega);omega) (fun hq=>by omega))⟩
     clear hS9 hS8 hB8 kL hsmo;go_wp2_with fail
     refine(zqr _ _ x own _ _ d1 d2 d3 e0 e1 e2 e3 l la lb lc lca lcb lcc o va ha q0 q1 w9 HX9.o HLO.o (by have:=(HO1.o.2.2.1 j hjl).1;rw[HO.o.2.1];exact this) (by show(lets _ _ _ _).length<=10;rw[zd0];exact hln1)).mono ?_;rintro e w10⟨rfl,hB10,hL10⟩
     have HE:Hid (BkB (W0.heap.size+1+1) x x w10 own { b1 with ls:=lets l b1.os (ps.take (k+1)) b1.ls } (some (aD g 0)) d1 d2 d3 e0 e1 e2 e3/\zH w10 W4.heap.size (fun p q=>if p=o.kd/\q=o.nm then some (j:Int) else f p q)/\(∀p q,((fun p q=>if p=o.kd/\q=o.nm then some (j:Int) else f p q) p q).isSome=zcF b1.os (ps.take (k+1)) p q)/\Left (fun q=>q=W4.heap.size \/ (own q).1=2) w6 w10):=by
      have e1:jo b1.os (ps[k]).toNat=o:=by rw[HO.o.2.2.1,Int.toNat_natCast,qW hjl,HO.o.2.1]
      refine⟨?_,HP9.o.1.keep (hL10.out _ HP9.o.1.lt (fun e=>by have:=h99 W4.heap.size (by omega);omega)),fun p q=>?_,HQ.o.2.2.2.trans ((HP9.o.2.wide (fun q hq=>Or.inl hq)).trans (hL10.wide (fun q hq=>Or.inr hq)))⟩
      ·rw[tSe hlt,zmV,e1]
       exact hB10
      ·rw[tSe hlt,zpb,e1,<- HQ.o.2.2.1 p q]
       unfold jC
       by_cases hpq:p=o.kd/\q=o.nm
       ·obtain⟨rfl,rfl⟩:=hpq
        simp
       ·show(if p=o.kd/\q=o.nm then some (j:Int) else f p q).isSome=_
        rw[if_neg hpq]
        have:(decide (o.kd=p)&&decide (o.nm=q))=false:=by
         rw[Bool.eq_false_iff];intro h;simp only[Bool.and_eq_true,decide_eq_true_eq]at h;exact hpq ⟨h.1.symm,h.2.symm⟩
        rw[this,Bool.or_false]
     clear hB10 hL10 cL cO;go_wp2
     exact⟨⟨k+1,_,by omega,by go_num,HE.o⟩,zi hlt⟩
    ·obtain rfl:k=ps.length:=by omega
     obtain⟨W6,rfl⟩:=xN (wr);obtain⟨g,C,rfl,_,hgo,_,_,_⟩:=HQ.o.1.bk.os.rows (by show 0<b1.os.length;have:=HO1.o.2.2.2.1;omega);have cX:=fun j=>cell_of_block (o:=j) HQ.o.1.box
     have hzX6:=HQ.o.1.lt;have cG:=cell_of_block (o:=0) kG;obtain⟨ls1,hls1⟩:=xN (lets l b1.os (ps.take ps.length) b1.ls);obtain⟨s,hs⟩:=xN (goS l b1.os);have hGG:∀p q,(f p q).isSome=zcF b1.os ps p q:=fun p q=>by have:=HQ.o.2.2.1 p q;rw[tOl (Nat.le_refl _)]at this;exact this
     have hdel:=znB (W0.heap.size+1+1) g b1.os.length e0 own (jo b1.os) (W4.heap.size+1) W4.heap.size f s W6 HQ.o.1.bk.os (by have:=HO1.o.2.2.2.1;omega) (fun i hi=>by rw[qW hi];exact(HO1.o.2.1.os.small i hi).1) HO1.o.1.few (by have:=HO1.o.2.2.2.1;have:=HCP.o;omega) cG (by intro e;have:=h99 (W4.heap.size+1) (by omega);rw[e,hgo]at this;simp at this) HQ.o.2.1 (fun i hi=>by rw[hGG,qW hi,HPS.o,hs];exact zmX HO1.o.1.one i hi);have HG:=j3 hGG hls1 hs hgo;have hxg:x≠g:=by rintro rfl;have:=HX1.o.out;rw[hgo]at this;cases this
     clear hGG hls1 hs;go_wp2_with fail
     refine hdel.mono ?_;rintro e w7⟨rfl,hos7,hL7⟩;clear hdel;obtain⟨ix,hix⟩:=xN (yA s b1.os.length);rw[<- hix]at hos7 ⊢;have kX7:=(hL7.out x hzX6 hxg).trans HQ.o.1.box;have cX7:=fun j=>cell_of_block (o:=j) kX7
     have fX7:=fun j=>zf (o:=j) kX7
     have hzX7:x<w7.heap.size:=(gES kX7).1;have HS7:=zkq hos7 hL7 hix hgo kX7;clear hos7 hL7 hix hgo kX7 cX cG
     go_upto_region 17 with fail
     obtain⟨b2,hb2⟩:∃b2:Bk,b2={ b1 with ls:=ls1,os:=qx b1.os s b1.os.length }:=⟨_,rfl⟩
     obtain⟨own2,ho2⟩:=xN (zga own ix);have h92:∀q,(own q).1=9->(own2 q).1=9:=fun q hq=>by rw[ho2,zmx (by omega)];exact hq
     have hlen2:b2.os.length=ix.length:=by rw[hb2,HS7.o.2.2.1];exact zev _ _ _
     have HB2:=zao hb2 h92 hlen2
     have hb2l:b2.os.length<=40:=by
      have h3:=zec (s:=s) b1.os.length;have h4:=HO1.o.1.few;rw[hlen2,HS7.o.2.2.1];omega
     refine jG (fun W=>BkB (W0.heap.size+1+1) x x W own2 b2 (some (aD g 0)) d1 d2 d3 e0 e1 e2 e3/\zH W W4.heap.size f/\Bw W0 W/\W.heap[W4.heap.size+1]?=some (.cells #[.map (some W4.heap.size)] 143)) ?_ ?_
     ·obtain⟨hos7,hL7,hix,hgo,kX7⟩:=HS7.o
      have hL8:Left (fun q=>q=g \/ q=x) W6 (w7.setCell (aD x 3) (.l (some (aD g 0)) ix.length e0)):=Left.set (S:=fun q=>q=g \/ q=x) (b:=x) (hL7.wide (fun q hq=>Or.inl hq)) (Or.inr rfl) _ _
      have hng:∀q,(own q).1≠0->(own q).1≠9->¬(q=g \/ q=x):=fun q h1 h2 h3=>by
       rcases h3 with rfl|rfl
       ·rw[hgo]at h1;exact h1 rfl
       ·exact h2 HX1.o.out
      have hbk:=HQ.o.1.bk;have hrl:∀c,c≠0->∀q,q<(w7.setCell (aD x 3) (.l (some (aD g 0)) ix.length e0)).heap.size->(own q).1=c->own2 q=own q:=fun c hc q _ hq=>by rw[ho2];exact zmx (by omega)
      have hn9:∀q,(own q).1=9->q≠x->¬(q=g \/ q=x):=fun q h8 hx h3=>h3.elim (fun e=>by rw[e,hgo]at h8;cases h8) hx
      refine⟨⟨?_,⟨?_,?_,?_,?_,fun q hq=>h92 q (hbk.out q hq),hbk.le,Nat.le_trans hbk.hi hL8.size⟩,h92 x HX1.o.out⟩,HQ.o.2.1.keep (hL8.out _ HQ.o.2.1.lt (hn9 _ (h99 _ (by omega)) (by omega))),HBr.o.trans (hL8.below (fun q hq=>hn9 q (h9 q (by omega)) (by omega)) HBr.o.size),(hL8.out _ (gES kG).1 (hn9 _ (h99 _ (by omega)) (by omega))).trans kG⟩
      ·rw[zh kX7 _]
       simp only[bC,hlen2];rw[hb2,HG.o.2.1]
       rfl
      ·have h1:=(hos7.left ((Left.refl (fun q=>q=x) w7).set rfl 3 (.l (some (aD g 0)) ix.length e0)) (fun q hq e=>by rw[e,<- ho2,h92 x HX1.o.out]at hq;omega)).same (f':=jo b2.os) (fun q hq=>?_)
       ·rw[hlen2,ho2];exact h1
       ·have h2:q<b2.os.length:=by omega
        rw[qW h2];subst hb2;rw[hix];exact zmF _ _ _ _ h2
      ·rw[hb2];exact(hbk.gs.left hL8 (fun q hq=>hng q (by omega) (by omega))).own (hrl 1 (by omega))
      ·rw[hb2,HG.o.2.1];exact(hbk.ls.left hL8 (fun q hq=>hng q (by omega) (by omega))).own (hrl 2 (by omega))
      ·rw[hb2];exact(hbk.ps.left hL8 (fun q hq=>hng q (by omega) (by omega))).own (hrl 3 (by omega))
     rintro W8⟨hB8,hM8,hB08,kG8⟩;have cX8:=fun j=>cell_of_block (o:=j) hB8.box
     have hzX8:=hB8.lt;have HS8:=j3 hB8 hM8 hB08 kG8;clear hB8 hM8 hB08 kG8 cX7 fX7 hb2 ho2 h92 hlen2;go_wp2
     go_loopw [61] (fun iv wr=>∃k:Nat,k<=b2.os.length/\iv=.i k/\Hid (BkB (W0.heap.size+1+1) x x wr own2 { b2 with now:=(fixes l (fun p q=>(f p q).isSome) (b2.os.take k) b2.now).2,os:=zaB l (fun p q=>(f p q).isSome) b2.os b2.now k } (some (aD g 0)) d1 d2 d3 e0 e1 e2 e3/\Left (fun q=>q=x \/ (own2 q).1=0) W8 wr)) (fun iv _=>b2.os.length-(intOf iv).toNat)
     case atStart=>exact⟨0,Nat.zero_le _,rfl,by rw[zq0];exact HS8.o.1,Left.refl _ _⟩
     case round=>
      clear cX8 hzX8 HQ HBr kG;obtain⟨k,hk,rfl,HQ⟩:=hrel;have hn9:∀q,(own q).1=9->q≠x->¬(q=x \/ (own2 q).1=0):=fun q h8 hx h3=>h3.elim hx (fun e=>by have:=HB2.o.2.1 q h8;omega)
      have HBr:Hid (Bw W0 wr):=HS8.o.2.2.1.trans (HQ.o.2.below (fun q hq=>hn9 q (h9 q (by omega)) (by omega)) HS8.o.2.2.1.size);have kG:wr.heap[W4.heap.size+1]?=some (.cells #[.map (some W4.heap.size)] 143):=(HQ.o.2.out _ (gES HS8.o.2.2.2).1 (hn9 _ (h99 _ (by omega)) (by omega))).trans HS8.o.2.2.2;have HMr:Hid (zH wr W4.heap.size f):=HS8.o.2.1.keep (HQ.o.2.out _ HS8.o.2.1.lt (hn9 _ (h99 _ (by omega)) (by omega)));obtain⟨kL,_,kR⟩:=HK1.o wr HBr.o;have hnow:=zmL l (fun p q=>(f p q).isSome) b2.now (b2.os.take k);have hzr:=HBr.o.size;have hz0:=HZ.o.1
      by_cases hlt:k<b2.os.length
      ·have cL:=fun j=>cell_of_block (o:=j) kL
       have cG:=cell_of_block (o:=0) kG;have hzG:=(gES kG).1;have hzL2:w.heap.size<wr.heap.size:=by omega
       have hltI:(k:Int)<(b2.os.length:Int):=by omega
       obtain⟨o,ho⟩:=xN (b2.os[k])
       have hof:(o.vs.length<=maxLen/\∀s∈o.vs,s.size<=maxLen)/\o.vs.length=(shapeOf l.ss o.kd).fs.length:=by
        have h1:=HB2.o.1
        have h2:∃i,∃hi:i<b1.os.length,o=b1.os[i]:=by
         subst h1;rw[ho];exact zr6 k hlt
        obtain⟨i,hi,rfl⟩:=h2;exact⟨(HO1.o.2.1.os.small i hi).2.1,HO1.o.1.cnt i hi⟩
       have hlf:k<(zaB l (fun p q=>(f p q).isSome) b2.os b2.now k).length:=by rw[zsl];exact hlt
       have hcall:=zk2 w (W0.heap.size+1+1) x x g own2 _ d1 d2 d3 e0 e1 e2 e3 l la lb lc lca lcb lcc k W4.heap.size o f wr HQ.o.1 hlf (by rw[ho];exact zsR hlt hlf) HK.o.1 (HB0.o.trans (HBr.o.mono HB0.o.size)) (by omega) HMr.o (HB2.o.2.1 _ (h99 _ (by omega))) hof.1 hof.2;have HO:=hid ho;clear hof ho kL kR kG;go_wp2_with fail
       refine hcall.mono ?_;rintro e w9⟨rfl,hB9,hL9⟩;clear hcall cL cG;have hL9x:=HQ.o.2.trans (hL9.wide (fun q hq=>Or.inr hq))
       cases hln:leans l (fun p q=>(f p q).isSome) o with
       | false=>
        have HE:Hid (BkB (W0.heap.size+1+1) x x w9 own2 { b2 with now:=(fixes l (fun p q=>(f p q).isSome) (b2.os.take (k+1)) b2.now).2,os:=zaB l (fun p q=>(f p q).isSome) b2.os b2.now (k+1) } (some (aD g 0)) d1 d2 d3 e0 e1 e2 e3/\Left (fun q=>q=x \/ (own2 q).1=0) W8 w9):=by
         refine⟨?_,hL9x⟩;rw[HO.o]at hln hB9;rw[zt8 hlt hln];exact hB9
        clear hB9 hL9 hL9x;go_wp2
        exact⟨⟨k+1,by omega,by go_num,HE.o⟩,zi hlt⟩
       | true=>
        have hlf2:k<((zaB l (fun p q=>(f p q).isSome) b2.os b2.now k).set k { o with vs:=zS (fun p q=>(f p q).isSome) (lks l o) o.vs }).length:=by rw[List.length_set];exact hlf
        have h2n:0<=b2.now/\b2.now<=1000040:=by
         have e1:b2.now=b.now+(ms.length:Int):=by
          rw[HB2.o.1]
          show b1.now=_
          rw[HO1.o.2.2.2.2,HMS.o]
          rfl
         have:=HNW.o
         omega
        have h2l:(b2.os.take k).length<=40:=by rw[List.length_take];omega
        have hst:=zmO _ _ x g own2 _ d1 d2 d3 e0 e1 e2 e3 k w9 hB9 hlf2 (by show 0<=(fixes _ _ _ _).2/\(fixes _ _ _ _).2<=2000000;omega);clear h2n h2l;go_wp2_with fail
        refine hst.mono ?_;rintro e w10⟨rfl,hB10,hL10⟩
        have HE:Hid (BkB (W0.heap.size+1+1) x x w10 own2 { b2 with now:=(fixes l (fun p q=>(f p q).isSome) (b2.os.take (k+1)) b2.now).2,os:=zaB l (fun p q=>(f p q).isSome) b2.os b2.now (k+1) } (some (aD g 0)) d1 d2 d3 e0 e1 e2 e3/\Left (fun q=>q=x \/ (own2 q).1=0) W8 w10):=by
         refine⟨?_,hL9x.trans hL10⟩;have h1:=HO.o;subst h1;rw[ztW hlt hln hlf2];exact hB10
        clear hB9 hL9 hL9x hB10 hL10 hst;go_wp2
        exact⟨⟨k+1,by omega,by go_num,HE.o⟩,zi hlt⟩
      ·obtain rfl:k=b2.os.length:=by omega
       have HSW:Hid (za7 l b={ b2 with now:=(fixes l (fun p q=>(f p q).isSome) (b2.os.take b2.os.length) b2.now).2,os:=zaB l (fun p q=>(f p q).isSome) b2.os b2.now b2.os.length }):=by
        have e1:(fun p q=>(f p q).isSome)=zcF b1.os ps:=by funext p q;exact HG.o.1 p q
        unfold Hid;rw[e1,zr0,tOl (Nat.le_refl _),HPS.o];have h1:=HB2.o.1;rw[HG.o.2.1,HG.o.2.2.1,tOl (Nat.le_refl _),HPS.o]at h1;have h2:=HO1.o.2.2.2.1;have h3:=HO1.o.2.2.2.2;subst h1;unfold za7;subst h3
        simp only at h2 ⊢
        rw[h2]
       obtain⟨b3,hb3⟩:∃b3:Bk,b3={ b2 with now:=(fixes l (fun p q=>(f p q).isSome) (b2.os.take b2.os.length) b2.now).2,os:=zaB l (fun p q=>(f p q).isSome) b2.os b2.now b2.os.length }:=⟨_,rfl⟩
       have hXE:=HQ.o.1;rw[<- hb3]at HSW hXE;have cXE:=fun j=>cell_of_block (o:=j) hXE.box
       have hzXE:=hXE.lt;have cR:=fun j=>cell_of_block (o:=j) kR
       have fR:=fun j=>zf (o:=j) kR
       have hzR:w.heap.size+1+1<wr.heap.size:=by omega
       have HE:Hid (∀v0 v1 v2 v3 v4 v5 v6,BkL w.heap.size x (zb2 wr (w.heap.size+1+1) v0 v1 v2 v3 v4 v5 v6) own2 b3 (some (aD g 0)) d1 d2 d3/\Bw w (zb2 wr (w.heap.size+1+1) v0 v1 v2 v3 v4 v5 v6)):=fun v0 v1 v2 v3 v4 v5 v6=>⟨BkF.low (hXE.bk.zb2 _ (by omega) v0 v1 v2 v3 v4 v5 v6) (by omega),qI (HB0.o.trans (HBr.o.mono HB0.o.size)) _ (by omega) v0 v1 v2 v3 v4 v5 v6⟩
       clear hXE hb3 kL kR kG hnow HQ;go_wp2
       refine bodyPost_ret (v:=.agg (bC b3 (some (aD g 0)) d1 d2 d3 e0 e1 e2 e3)) (by simp[results,Tryz.results36,go_sem,cR]) rfl ?_;refine⟨⟨x,own2,_,d1,d2,d3,e0,e1,e2,e3,by rw[HSW.o],?_⟩,?_⟩
       ·rw[HSW.o];exact(HE.o _ _ _ _ _ _ _).1
       ·exact(HE.o _ _ _ _ _ _ _).2
end Go.Proofs.YtjnpjkigofldlaaGreat
