import Derived.Test.YtecncindgjdbiaaGreatM42
set_option maxHeartbeats 8000000
namespace Go.Proofs.YtecncindgjdbiaaGreat
open Go.RowKit
def zbo (l:Lw)(o:Ob):List BA:=zhO l.ss l.ms (zgg l.ss o)
theorem zcy {l:Lw}{o:Ob}(h:qV l.ss l.ms o=true):(zbo l o).length=o.vs.length:=by
 unfold zbo;rw[<- zos h];exact jG _ _ _
set_option maxRecDepth 20000 in
theorem zkP (l:Lw)(a b c:OA)(ca cb cc:Nat)(o:Ob)(va ha:OA)(cap cap':Nat)(w:World)(hL:jr w l a b c)(hml:l.ms.length<=1048576)(ho:jT w o va ha)(hl:o.vs.length<=1048576)(hl':o.hs.length<=1048576)(hmd:qV l.ss l.ms o=true) :
 Calls Tryz.prog 209 #[.agg #[.l a l.ss.length ca,.l b l.ms.length cb,.l c l.ts.length cc],.agg #[.s o.kd,.s o.nm,.s o.tm,.l va o.vs.length cap,.bool o.en,.l ha o.hs.length cap',.i o.vr]] w
  fun e w'=>∃e0 dap e1 dap',e=.returned (.agg #[.s o.kd,.s o.nm,.s o.tm,.l e0 o.vs.length dap,.bool o.en,.l e1 o.hs.length dap',.i o.vr])/\zn w.heap.size w' e0 (zbo l o)/\Bw w w':=by
 have HH:=zcR hL ho ho.vals.len;have HFA:=hid (zc1 hmd);clear hL ho hmd;go_enter Tryz.func209,Tryz.ntmps209;go_wp2_with fail
 have hb2:=jB w (.cells #[.l a l.ss.length ca,.l b l.ms.length cb,.l c l.ts.length cc] 47) (.cells (oC o va ha cap cap') 123) (.cells oZ 123);refine(qJ _ _ l.ss o.kd _ (HH.o.1.ss.mono hb2)).mono ?_;rintro e w1⟨fa,fcap,rfl,hfl0,hb1⟩;have HFL:=hid (hfl0.mono hb1);have hX0:∀j,w1.cell? (aD w.heap.size j)=(#[.l a l.ss.length ca,.l b l.ms.length cb,.l c l.ts.length cc]:AV)[j]?:=fun j=>cell_of_block ((hb1.block w.heap.size (by simp;omega)).trans (zcd _ _ _ _))
 have hX1:∀j,w1.cell? (aD (w.heap.size+1) j)=((oC o va ha cap cap'):AV)[j]?:=fun j=>cell_of_block ((hb1.block (w.heap.size+1) (by simp)).trans (zf2 _ _ _ _))
 have HR1:Hid (w1.heap[w.heap.size+1+1]?=some (.cells oZ 123)):=(hb1.block (w.heap.size+1+1) (by simp)).trans (zck _ _ _ _);have hz2:w.heap.size+1+1<w1.heap.size:=by have:=hb1.size;simp at this;omega
 have hz1:w.heap.size+1<w1.heap.size:=by omega
 have hz0:w.heap.size<w1.heap.size:=by omega
 have hB1:Bw w w1:=hb2.trans (hb1.mono (by simp;omega));clear hb1 hfl0 hb2;go_wp2_with fail
 have hbs:=(bRf w1.heap.size w1).alloc (Nat.le_refl _) (.cells #[.s (shapeOf l.ss o.kd).kd,.l fa (shapeOf l.ss o.kd).fs.length fcap] 134);have hRW:=(hbs.block _ hz2).trans HR1.o;have hzW:=nLt hz2 hbs.size;have hBW:=hB1.trans (hbs.mono hB1.size);have hFW:=HFL.o.mono hbs;clear hbs;obtain⟨W2,hW2⟩:=nm ((w1.alloc (.cells #[.s (shapeOf l.ss o.kd).kd,.l fa (shapeOf l.ss o.kd).fs.length fcap] 134)));have hS2:∀j,W2.drew.cell? (aD w1.heap.size j)=(#[.s (shapeOf l.ss o.kd).kd,.l fa (shapeOf l.ss o.kd).fs.length fcap]:AV)[j]?:=by rw[hW2];exact zl w1 _ _
 have hS1:∀j,W2.drew.cell? (aD (w.heap.size+1) j)=((oC o va ha cap cap'):AV)[j]?:=by rw[hW2];exact za hX1 hz1 (bAl _ _).drew
 have hS0:∀j,W2.drew.cell? (aD w.heap.size j)=(#[.l a l.ss.length ca,.l b l.ms.length cb,.l c l.ts.length cc]:AV)[j]?:=by rw[hW2];exact za hX0 hz0 (bAl _ _).drew
 have hzs:w1.heap.size<W2.drew.heap.size:=by rw[hW2];show w1.heap.size<(w1.alloc (.cells #[.s (shapeOf l.ss o.kd).kd,.l fa (shapeOf l.ss o.kd).fs.length fcap] 134)).heap.size;simp
 rw[<- hW2]at hRW hzW hBW hFW ⊢;clear hW2 hX1 hX0;have hb:=(bRf W2.heap.size W2).drew;have hlW:W2.heap.size=W2.drew.heap.size:=rfl;have hzo:w.heap.size+1<W2.drew.heap.size:=by omega
 have hzl:w.heap.size<W2.drew.heap.size:=by omega
 go_region_held3 (fun w'=>(∀j,w'.cell? (aD w.heap.size j)=(#[.l a l.ss.length ca,.l b l.ms.length cb,.l c l.ts.length cc]:AV)[j]?)/\(∀j,w'.cell? (aD (w.heap.size+1) j)=(#[.s o.kd,.s o.nm,.s o.tm,.l va o.vs.length cap,.bool o.en,.l ha o.hs.length cap',.i o.vr]:AV)[j]?)/\∀j,w'.cell? (aD w1.heap.size j)=(#[.s (shapeOf l.ss o.kd).kd,.l fa (shapeOf l.ss o.kd).fs.length fcap]:AV)[j]?) (first|exact⟨fun j=>by rw[hS0],fun j=>by rw[hS1],fun j=>by rw[hS2]⟩|exact⟨fun j=>by rw[hS5],fun j=>by rw[hS3],fun j=>by rw[hS4]⟩) (first
  | (go_at_call 227;refine(zn7 o (shapeOf l.ss o.kd).kd (shapeOf l.ss o.kd).fs _ va ha _ cap cap' _ (by exact hFW.mono hb) (by exact HH.o.2.1.mono (hBW.trans (hb.mono hBW.size))) hl hl' HFA.o.1).mono ?_;rintro e w5⟨a5,dap5,a5',dap5',m5,rfl,ht5,hm5,hsm5,ht5',hb5⟩;have hS0:=za hS0 hzl hb5;have hS1:=za hS1 hzo hb5;have hS2:=za hS2 hzs hb5;have hb:=hb.trans (hb5.mono hb.size);have hO5:zF w5 a5 (zah (shapeOf l.ss o.kd).fs o.vs):=ht5.at (by rw[qP HFA.o.1];exact HH.o.2.2) (zge hFW.smalls HH.o.2.1.vals.small HFA.o.1);have hO5':zF w5 a5' o.hs:=ht5'.at HH.o.2.1.holds.len HH.o.2.1.holds.small;have hA5:=ht5.zrl;have hA5':=ht5'.zrl;clear ht5 hm5 hsm5 ht5' hb5)
  | (go_at_call 226;refine(zp0 o (zah (shapeOf l.ss o.kd).fs o.vs) (qP HFA.o.1) (shapeOf l.ss o.kd) l.ms _ _ _ _ _ _ _ _ _ (by exact hFW.mono hb) (by exact HH.o.1.ms.mono (hBW.trans (hb.mono hBW.size))) HH.o.2.1.small (by exact hO5) (by exact hO5') hA5 hA5' hl hl' HFA.o.1 hml HFA.o.2.1 HFA.o.2.2.1 HFA.o.2.2.2).mono ?_;rintro e w6⟨e0,dap,e1,dap',m,rfl,ht,hm,hsm,ht',hb6⟩;have hR6:w6.heap[w.heap.size+1+1]?=some (.cells #[.s ByteArray.empty,.s ByteArray.empty,.s ByteArray.empty,.l none 0 0,.bool false,.l none 0 0,.i 0] 123):=((hb.trans (hb6.mono hb.size)).block (w.heap.size+1+1) hzW).trans hRW;have hS0:=fun j=>(hb6.cell (p:=(aD w.heap.size j)) (nLt hzl hb.size)).trans (hS0 j);have hS1:=fun j=>(hb6.cell (p:=(aD (w.heap.size+1) j)) (nLt hzo hb.size)).trans (hS1 j);have hS2:=fun j=>(hb6.cell (p:=(aD w1.heap.size j)) (nLt hzs hb.size)).trans (hS2 j);have hS5:=fun j=>(zbS (g:=w.heap.size+1+1) (by omega:w.heap.size≠w.heap.size+1+1) (v0:=.s o.kd) (v1:=.s o.nm) (v2:=.s o.tm) (v3:=.l e0 o.vs.length dap) (v4:=.bool o.en) (v5:=.l e1 o.hs.length dap') (v6:=.i o.vr)).trans (hS0 j);have hS3:=fun j=>(zbS (g:=w.heap.size+1+1) (by omega:w.heap.size+1≠w.heap.size+1+1) (v0:=.s o.kd) (v1:=.s o.nm) (v2:=.s o.tm) (v3:=.l e0 o.vs.length dap) (v4:=.bool o.en) (v5:=.l e1 o.hs.length dap') (v6:=.i o.vr)).trans (hS1 j);have hS4:=fun j=>(zbS (g:=w.heap.size+1+1) (by omega:w1.heap.size≠w.heap.size+1+1) (v0:=.s o.kd) (v1:=.s o.nm) (v2:=.s o.tm) (v3:=.l e0 o.vs.length dap) (v4:=.bool o.en) (v5:=.l e1 o.hs.length dap') (v6:=.i o.vr)).trans (hS2 j);have hRc:=zat hR6;have hRf:=zbd hR6;have hsz5:=hb.size;have hb:=hb.trans (hb6.mono hb.size);clear hb6))
 go_wp2_with fail
 refine bodyPost_ret (v:=(.agg #[.s o.kd,.s o.nm,.s o.tm,.l e0 o.vs.length dap,.bool o.en,.l e1 o.hs.length dap',.i o.vr])) (by simp[results,Tryz.results209,go_sem,hRc]) rfl ?_;have hB:=hBW.trans (hb.mono hBW.size);have h2:=hzW;exact⟨e0,dap,e1,dap',rfl,(jF (ht.low (lo':=w.heap.size+1+1+1) (by omega)) _ (by omega) _ _ _ _ _ _ _).low (by omega),j3 hB _ (by omega) _ _ _ _ _ _ _⟩
theorem zoA {ss:List Shp}{v:BA}(h:zJ ss v=true):(shapeOf ss v).kd=v:=by
 unfold zJ at h;rw[List.any_eq_true]at h;obtain⟨x,hx,he⟩:=h;unfold shapeOf
 cases hf:ss.find? (fun s=>decide (s.kd=v)) with
 | none=>rw[List.find?_eq_none]at hf;exact absurd he (hf x hx)
 | some y=>simpa using List.find?_some hf
theorem zaI {ss:List Shp}{ms:List Mnd}{o:Ob}(hm:yA ss ms=true):qV ss ms o=zB ss o:=by
 unfold qV zB;rw[hm,Bool.and_true]
structure zq6 (ss:List Shp)(ms:List Mnd)(o:Ob)(pl:List Nat):Prop where
 names:yh (shapeOf ss o.kd) ms (shapeOf ss o.kd).fs.length=pl.map (za1 (shapeOf ss o.kd))
 zpN:zkO (zm (shapeOf ss o.kd) ms) (shapeOf ss o.kd).fs.length pl
 place:∀q (h:q<(shapeOf ss o.kd).fs.length),zR (shapeOf ss o.kd).fs (shapeOf ss o.kd).fs[q].nm=(q:Int)
 kd:(shapeOf ss o.kd).kd=o.kd
 few:(shapeOf ss o.kd).fs.length<=6
 reads:∀q,q<(shapeOf ss o.kd).fs.length->∀x∈yx (shapeOf ss o.kd) ms q,0<=x/\x<(shapeOf ss o.kd).fs.length
 len:o.vs.length=(shapeOf ss o.kd).fs.length
 mends:ms.length<=12
 res:zhO ss ms o=zY (decided (shapeOf ss o.kd) ms) pl o.vs
theorem rowOf {ss:List Shp}{ms:List Mnd}{o:Ob}(hm:yA ss ms=true)(hc:zB ss o=true):zq6 ss ms o (greedy (zm (shapeOf ss o.kd) ms) (shapeOf ss o.kd).fs.length (shapeOf ss o.kd).fs.length):=by
 have hmd:qV ss ms o=true:=by rw[zaI hm];exact hc
 obtain⟨hl,h6,hr,hw⟩:=zc1 hmd;unfold zB at hc;simp only[Bool.and_eq_true]at hc;obtain⟨i,hi,e⟩:=ze3 hc.1;have hkd:=zoA hc.1;unfold yA at hm;simp only[Bool.and_eq_true,decide_eq_true_eq]at hm;obtain⟨⟨⟨h12,hs⟩,ha⟩,_⟩:=hm
 have hrd:∀p,p<(shapeOf ss o.kd).fs.length->∀q∈zm (shapeOf ss o.kd) ms p,q<(shapeOf ss o.kd).fs.length:=by
  intro p hp q hq;unfold zm at hq;obtain⟨x,hx,rfl⟩:=List.mem_map.1 hq
  have:=hr p hp x hx
  omega
 have htw:=zen hrd hw
 have htg:zkO (zm (shapeOf ss o.kd) ms) (shapeOf ss o.kd).fs.length (greedy (zm (shapeOf ss o.kd) ms) (shapeOf ss o.kd).fs.length (shapeOf ss o.kd).fs.length):=
  (zcc _ _ _).zpN (zh6 htw.zlH _ (Nat.le_refl _))
 refine⟨?_,htg,?_,hkd,h6,hr,hl,h12,?_⟩
 ·rw[e];exact zd6 hs ha i hi _
 ·rw[e]
  intro q hq;refine zef ss[i].fs _ q hq ?_ rfl;unfold hasName;rw[List.any_eq_false];intro x hx;obtain⟨j,hj,rfl⟩:=List.mem_iff_getElem.1 hx;have hjq:j<q:=by simp at hj;omega
  simp only[List.getElem_take,decide_eq_true_eq];exact zeI hs i hi j q hjq hq
 ·exact znn htw htg (zkM _ _) o.vs hl
theorem zmf {α:Type}(D:Nat->List α->α)(pl:List Nat)(vs:List α)(k:Nat)(h:k<pl.length):zY D (pl.take (k+1)) vs=(zY D (pl.take k) vs).set pl[k] (D pl[k] (zY D (pl.take k) vs)):=by
 unfold zY;rw[tSe h,List.foldl_append];rfl
theorem zqb {lo:Nat}{w:World}{g:Nat}{us:List BA}(h:zn lo w (some (aD g 0)) us)(p:Nat)(hp:p<us.length):w.cell? (aD g p)=some (.s us[p]):=by
 rcases h with⟨h0,_⟩|⟨g',C,hg,_,hh,hc⟩
 ·cases h0
 ·cases hg;rw[cell_of_block hh,hc p hp]
theorem zqs {lo:Nat}{w:World}{g p:Nat}{us:List BA}(h:zn lo w (some (aD g 0)) us)(_hp:p<us.length):w.frozen? (aD g p)=false:=by
 rcases h with⟨h0,_⟩|⟨g',C,hg,_,hh,hc⟩
 ·cases h0
 ·cases hg;exact zh hh
theorem zqG {w:World}{lo:Nat}{v:Value}{row:List BA}(h:w.ownsRow lo 9 1 v row.length (row.map Value.string)):∃ra rcap,v=.l ra row.length rcap/\(row≠[]->∃rb,ra=some (aD rb 0)/\lo<=rb/\rb<w.heap.size/\∀i (h:i<row.length),w.cell? (aD rb i)=some (.s row[i])):=by
 obtain⟨_,⟨h0,h1⟩|⟨g,cp,cur,h0,h1⟩⟩:=id h
 ·have e:=List.length_eq_zero_iff.1 h1
  subst e;exact⟨none,0,by rw[h0];rfl,fun hn=>absurd rfl hn⟩
 ·subst h0
  refine⟨some (aD g 0),cp,rfl,fun _=>⟨g,rfl,(h.lt g rfl).1,(h.lt g rfl).2,fun i hi=>?_⟩⟩;rw[h.cellAt i (by omega)]
  simp[hi]
theorem zki (s:Shp)(ms:List Mnd)(o:Ob)(vs:List BA)(n:Nat)(hn:vs.length=n)(p:Nat)(fa ma va ha:OA)(fcap mcap vcap hcap:Nat)(w:World)(hf:yc w fa s.fs)(hm:qL w ma ms)(hv:zF w va vs)(hc:vs.length=s.fs.length)(hp:p<s.fs.length)(hix:zR s.fs s.fs[p].nm=(p:Int))(hkd:o.kd=s.kd)(hrd:∀x∈yx s ms p,0<=x/\x<s.fs.length) :
 Calls Tryz.prog 189 #[.l fa s.fs.length fcap,.l ma ms.length mcap,.agg #[.s o.kd,.s o.nm,.s o.tm,.l va n vcap,.bool o.en,.l ha o.hs.length hcap,.i o.vr],.s s.fs[p].nm] w fun e w'=>e=.returned (.s (decided s ms p vs))/\Bw w w':=by
 subst hn;exact zkE s ms o vs p fa ma va ha fcap mcap vcap hcap w hf hm hv hc hp hix hkd hrd
set_option maxRecDepth 20000 in
theorem zl1 (a0 ma:OA)(cap0 mcap:Nat)(ss:List Shp)(ms:List Mnd)(o:Ob)(b off b' off' cap cap':Nat)(w:World)(hw:yR w a0 ss)(hm:qL w ma ms)(ho:jT w o (some (aD b off)) (some (aD b' off')))(hl:o.vs.length<=1048576)(hl':o.hs.length<=1048576)(hok:yA ss ms=true) :
 Calls Tryz.prog 148 #[.l a0 ss.length cap0,.l ma ms.length mcap,.agg #[.s o.kd,.s o.nm,.s o.tm,.l (some (aD b off)) o.vs.length cap,.bool o.en,.l (some (aD b' off')) o.hs.length cap',.i o.vr]] w (zgK o (zcD ss ms o) w):=by
 have hsl:=hw.len;unfold maxLen at hsl;have HW:=qw hw hm;clear hw hm
 by_cases hc:zB ss o=true
 rotate_left
 ·have HC:Hid (zB ss o=false):=by simpa[Hid] using hc
  have HRES:Hid (zcD ss ms o=o.vs):=by unfold Hid zcD;rw[if_neg (by rw[zaI hok];exact hc)]
  have HH:=hid ho;clear hc ho;go_enter Tryz.func148,Tryz.ntmps148;go_wp2_with fail
  refine(zem o b off b' off' cap cap' _ (HH.o.mono (zw w (.cells #[.s o.kd,.s o.nm,.s o.tm,.l (some (aD b off)) o.vs.length cap,.bool o.en,.l (some (aD b' off')) o.hs.length cap',.i o.vr] 123) (.cells #[.s ByteArray.empty,.s ByteArray.empty,.s ByteArray.empty,.l none 0 0,.bool false,.l none 0 0,.i 0] 123))) hl hl').mono ?_;rintro e w1⟨a,dap,a',dap',m,rfl,ht,hm,hsm,ht',hb1⟩;have HO1:Hid (w1.heap[w.heap.size]?=some (.cells (oC o (some (aD b off)) (some (aD b' off')) cap cap') 123)):=(hb1.block w.heap.size (by simp;omega)).trans (zT _ _ _).1;have HR1:Hid (w1.heap[w.heap.size+1]?=some (.cells oZ 123)):=(hb1.block (w.heap.size+1) (by simp)).trans (zT _ _ _).2;have hX1:∀j,w1.cell? (aD w.heap.size j)=((oC o (some (aD b off)) (some (aD b' off')) cap cap'):AV)[j]?:=fun j=>cell_of_block HO1.o
  have hz1:w.heap.size+1<w1.heap.size:=by have:=hb1.size;simp at this;omega
  have hz0:w.heap.size<w1.heap.size:=by omega
  have hB1:Bw w w1:=(zw _ _ _).trans (hb1.mono (by simp;omega))
  have HT:Hid (zn (w.heap.size+1+1) w1 a o.vs/\(∀g,a=some g->g.block<m)/\w.heap.size+1+1<=m/\zn m w1 a' o.hs):=by
   simp only[World.size_alloc]at ht hsm;exact⟨ht,hm,hsm,ht'⟩
  clear ht hm hsm ht' hb1;go_wp2_with fail
  have hbs:=(bRf w1.heap.size w1).alloc (Nat.le_refl _) (.cells (oC o a a' dap dap') 123);have hBs:=hB1.trans (hbs.mono hB1.size);refine(zdg a0 cap0 ss o _ _ cap cap' _ (HW.o.1.mono hBs) (HH.o.mono hBs) HC.o).mono ?_;rintro e w2⟨v,rfl,hb2⟩;have hba:=hbs.trans (hb2.mono hbs.size);have hR2:=(hba.block _ hz1).trans HR1.o;have hU2:∀j,w2.cell? (aD w1.heap.size j)=((oC o a a' dap dap'):AV)[j]?:=za (zl w1 _ _) (by simp) hb2;have hRc:∀j,w2.cell? (aD (w.heap.size+1) j)=(oZ:AV)[j]?:=fun j=>cell_of_block hR2
  have hRf:∀j,w2.frozen? (aD (w.heap.size+1) j)=false:=fun j=>zh hR2
  have HX:=zcR (HT.o.1.mono hba) (HT.o.2.2.2.mono hba) (hB1.trans (hba.mono hB1.size));clear hbs hBs hb2 hba hR2 hX1;go_wp2_with fail
  refine bodyPost_ret (v:=(.agg #[.s o.kd,.s o.nm,.s o.tm,.l a o.vs.length dap,.bool o.en,.l a' o.hs.length dap',.i o.vr])) (by simp[results,Tryz.results148,go_sem,hRc]) rfl ?_;obtain⟨ht,ht',hB⟩:=HX.o;rw[HRES.o];exact⟨a,dap,a',dap',m,rfl,(jF ht _ (by omega) _ _ _ _ _ _ _).low (by omega),HT.o.2.1,by have:=HT.o.2.2.1;omega,jF ht' _ (by have:=HT.o.2.2.1;omega) _ _ _ _ _ _ _,j3 hB _ (by omega) _ _ _ _ _ _ _⟩
 have HC:=hid hc;have HRO:=hid (rowOf hok hc);have HRES:Hid (zcD ss ms o=zhO ss ms o):=by unfold Hid zcD;rw[if_pos (by rw[zaI hok];exact hc)]
 have HK:Hid (zJ ss o.kd=true):=by unfold zB at hc;simp only[Bool.and_eq_true]at hc;exact hc.1
 have HH:=hid ho;clear hc ho;go_enter Tryz.func148,Tryz.ntmps148;go_wp2_with fail
 refine(zem o b off b' off' cap cap' _ (HH.o.mono (zw w (.cells #[.s o.kd,.s o.nm,.s o.tm,.l (some (aD b off)) o.vs.length cap,.bool o.en,.l (some (aD b' off')) o.hs.length cap',.i o.vr] 123) (.cells #[.s ByteArray.empty,.s ByteArray.empty,.s ByteArray.empty,.l none 0 0,.bool false,.l none 0 0,.i 0] 123))) hl hl').mono ?_;rintro e w1⟨a,dap,a',dap',m,rfl,ht,hm,hsm,ht',hb1⟩;have HO1:Hid (w1.heap[w.heap.size]?=some (.cells (oC o (some (aD b off)) (some (aD b' off')) cap cap') 123)):=(hb1.block w.heap.size (by simp;omega)).trans (zT _ _ _).1;have HR1:Hid (w1.heap[w.heap.size+1]?=some (.cells oZ 123)):=(hb1.block (w.heap.size+1) (by simp)).trans (zT _ _ _).2;have hX1:∀j,w1.cell? (aD w.heap.size j)=((oC o (some (aD b off)) (some (aD b' off')) cap cap'):AV)[j]?:=fun j=>cell_of_block HO1.o
 have hz1:w.heap.size+1<w1.heap.size:=by have:=hb1.size;simp at this;omega
 have hz0:w.heap.size<w1.heap.size:=by omega
 have hB1:Bw w w1:=(zw _ _ _).trans (hb1.mono (by simp;omega))
 have HT:Hid (zn (w.heap.size+1+1) w1 a o.vs/\(∀g,a=some g->g.block<m)/\w.heap.size+1+1<=m/\zn m w1 a' o.hs):=by
  simp only[World.size_alloc]at ht hsm;exact⟨ht,hm,hsm,ht'⟩
 clear ht hm hsm ht' hb1;go_wp2_with fail
 have hbs:=(bRf w1.heap.size w1).alloc (Nat.le_refl _) (.cells (oC o a a' dap dap') 123);have hBs:=hB1.trans (hbs.mono hB1.size);refine(zfw a0 cap0 ss o _ _ cap cap' w _ HW.o.1 hBs HC.o).mono ?_;rintro e w2⟨fa,fcap,rfl,hf,hb2⟩;have HFA:=hid hf;have hba:=hbs.trans (hb2.mono hbs.size);have HR2:=hid ((hba.block _ hz1).trans HR1.o);have HO2:=hid ((hba.block _ hz0).trans HO1.o);have HU2:Hid (w2.heap[w1.heap.size]?=some (.cells (oC o a a' dap dap') 123)):=(hb2.block _ (by simp)).trans (alloc_at _ _);have HX2:=zcR (HT.o.1.mono hba) (HT.o.2.2.2.mono hba) (hB1.trans (hba.mono hB1.size));have hz2:=(gES HU2.o).1;have hX2:∀j,w2.cell? (aD w.heap.size j)=((oC o (some (aD b off)) (some (aD b' off')) cap cap'):AV)[j]?:=fun j=>cell_of_block HO2.o
 have hzo2:w.heap.size<w2.heap.size:=by omega
 clear hbs hBs hb2 hba hX1 hf;go_wp2_with fail
 refine(jV _ _ _ _ _ (HW.o.1.mono HX2.o.2.2) HK.o).mono ?_;rintro e w3⟨ix,hix,rfl,hsh,rfl⟩;have HSh:=hid hsh;clear hsh;obtain⟨sb,soff,rfl,hsb0,hsr⟩:=HW.o.1.rows (by rintro rfl;simp at hix);obtain⟨fa2,fcap2,hs0⟩:=hsr ix hix;have hs:=hs0.mono hsb0 HX2.o.2.2;have hck:=hs.kind;have hcl:=hs.list;have HF2:=hid hs0.zdB;have hixI:(ix:Int)<(ss.length:Int):=by omega
 have hsbw:=nLt hsb0 HX2.o.2.2.size;clear hsr hs hs0;go_wp2_with fail
 refine(zld fa2 ma fcap2 mcap ss[ix] ms _ (HF2.o.mono HX2.o.2.2) (HW.o.2.mono HX2.o.2.2) HRO.o.mends (by have:=HRO.o.few;rw[HSh.o]at this;exact this)).mono ?_;rintro e w4⟨v,rfl,hrow,hb4⟩;rw[<- HSh.o,HRO.o.names]at hrow;obtain⟨ra,rcap,rfl,hrw⟩:=zqG (by rw[List.length_map];rw[List.length_map]at hrow;exact hrow);rw[List.length_map];have HRO2:=HRO.o;have HX4:Hid (zn (w.heap.size+1+1) w4 a o.vs/\zn m w4 a' o.hs/\Bw w w4):=⟨HX2.o.1.mono hb4,HX2.o.2.1.mono hb4,HX2.o.2.2.trans (hb4.mono HX2.o.2.2.size)⟩
 have HR4:Hid (w4.heap[w.heap.size+1]?=some (.cells oZ 123)):=(hb4.block _ (by omega)).trans HR2.o;have HU4:Hid (w4.heap[w1.heap.size]?=some (.cells (oC o a a' dap dap') 123)):=(hb4.block _ hz2).trans HU2.o;have HZ4:Hid (w3.heap.size<=w4.heap.size):=hb4.size;clear hb4 hX2 hck hcl HSh HF2 HRO hixI hrow
 revert HRO2 HFA hrw
 generalize greedy (zm (shapeOf ss o.kd) ms) (shapeOf ss o.kd).fs.length (shapeOf ss o.kd).fs.length=pl
 intro HFA hrw hro;have HRW:Hid (zq6 ss ms o pl):=hro;have HVS:Hid (zhO ss ms o=zY (decided (shapeOf ss o.kd) ms) pl o.vs):=hro.res
 have hpl6:pl.length<=6:=by
  have h1:=zbw pl (List.range (shapeOf ss o.kd).fs.length) hro.zpN.nodup (fun x hx=>List.mem_range.2 ((hro.zpN.mem x).1 hx));rw[List.length_range]at h1
  have:=hro.few
  omega
 clear hro;go_wp2_with fail
 go_loopw [11] (fun i wr=>∃k:Nat,k<=pl.length/\i=.i k/\zn (w.heap.size+1+1) wr a (zY (decided (shapeOf ss o.kd) ms) (pl.take k) o.vs)/\zn m wr a' o.hs/\wr.heap[w.heap.size+1]?=some (.cells #[.s ByteArray.empty,.s ByteArray.empty,.s ByteArray.empty,.l none 0 0,.bool false,.l none 0 0,.i 0] 123)/\wr.heap[w1.heap.size]?=some (.cells #[.s o.kd,.s o.nm,.s o.tm,.l a o.vs.length dap,.bool o.en,.l a' o.hs.length dap',.i o.vr] 123)/\Bw w wr/\w3.heap.size<=wr.heap.size/\(pl.map (za1 (shapeOf ss o.kd))≠[]->∃rb,ra=some (aD rb 0)/\w3.heap.size<=rb/\rb<wr.heap.size/\∀i (h:i<(pl.map (za1 (shapeOf ss o.kd))).length),wr.cell? (aD rb i)=some (.s (pl.map (za1 (shapeOf ss o.kd)))[i]))) (fun i _=>pl.length-(intOf i).toNat)
 case atStart=>exact⟨0,Nat.zero_le _,rfl,HX4.o.1,HX4.o.2.1,HR4.o,HU4.o,HX4.o.2.2,HZ4.o,hrw⟩
 case round=>
  obtain⟨k,hk,rfl,ht,ht',hR,hO,hB,hz3,hrr⟩:=hrel
  by_cases hlt:k<pl.length
  ·obtain⟨rb,rfl,hrb0,hrbz,hrc⟩:=hrr (by intro h;have:=congrArg List.length h;simp at this;rw[this]at hlt;simp at hlt)
   have hpn:pl[k]<(shapeOf ss o.kd).fs.length:=(HRW.o.zpN.mem _).1 (List.getElem_mem hlt);have hck:=hrc k (by rw[List.length_map];exact hlt);rw[List.getElem_map]at hck;have hnm:za1 (shapeOf ss o.kd) pl[k]=(shapeOf ss o.kd).fs[pl[k]].nm:=by unfold za1;rw[getD_at _ _ _ hpn]
   rw[hnm]at hck;have HTS:Hid (zY (decided (shapeOf ss o.kd) ms) (pl.take (k+1)) o.vs=(zY (decided (shapeOf ss o.kd) ms) (pl.take k) o.vs).set pl[k] (decided (shapeOf ss o.kd) ms pl[k] (zY (decided (shapeOf ss o.kd) ms) (pl.take k) o.vs))):=zmf _ pl o.vs k hlt;have HUS:Hid (∀x∈zY (decided (shapeOf ss o.kd) ms) (pl.take k) o.vs,x.size<=maxLen):=zb4 HW.o.2.small _ _ HH.o.vals.small;have HLV:Hid ((zY (decided (shapeOf ss o.kd) ms) (pl.take k) o.vs).length=o.vs.length):=jG _ _ _;have HRR:Hid (∀i (h:i<(pl.map (za1 (shapeOf ss o.kd))).length),wr.cell? (aD rb i)=some (.s (pl.map (za1 (shapeOf ss o.kd)))[i])):=hrc;clear hrr hrc hnm
   revert hck HTS hpn
   generalize pl[k]=p
   intro hpn hck HTS
   revert HTS HLV HUS ht
   generalize zY (decided (shapeOf ss o.kd) ms) (pl.take k) o.vs=us
   intro ht HUS HLV HTS;have hltI:(k:Int)<(pl.length:Int):=by omega
   have hpv:p<us.length:=by rw[HLV.o,HRW.o.len];exact hpn
   have hpI:(p:Int)<(o.vs.length:Int):=by have:=HRW.o.len;omega
   obtain⟨g,C,hga,hgl,hgh,hgc⟩:∃g C,a=some (aD g 0)/\w.heap.size+1+1<=g/\wr.heap[g]?=some (.cells C 9)/\∀i (h:i<us.length),C[i]?=some (.s us[i]):=by
    rcases ht with⟨_,h0⟩|h0
    ·rw[h0]at hpv;simp at hpv
    ·exact h0
   have hgm:g<m:=HT.o.2.1 _ hga;have hgw1:g<w1.heap.size:=HT.o.1.lt _ hga;have hgw:g<wr.heap.size:=by omega
   subst hga;have hUS:zF wr (some (aD g 0)) us:=ht.at (by rw[HLV.o];exact HH.o.vals.len) HUS.o;have HJP:Hid (zR (shapeOf ss o.kd).fs (shapeOf ss o.kd).fs[p].nm=(p:Int)):=HRW.o.place p hpn;have hOc:∀j,wr.cell? (aD w1.heap.size j)=((oC o (some (aD g 0)) a' dap dap'):AV)[j]?:=fun j=>cell_of_block hO
   have hOz:w1.heap.size<wr.heap.size:=(gES hO).1;have hRk:(k:Int)<((pl.map (za1 (shapeOf ss o.kd))).length:Int):=by rw[List.length_map];exact hltI
   have hkr:wr.cell? (aD rb (0+k))=some (.s (shapeOf ss o.kd).fs[p].nm):=by rw[Nat.zero_add];exact hck
   have HX:Hid (zn (w.heap.size+1+1) wr (some (aD g 0)) us/\zn m wr a' o.hs/\wr.heap[w.heap.size+1]?=some (.cells oZ 123)/\wr.heap[w1.heap.size]?=some (.cells (oC o (some (aD g 0)) a' dap dap') 123)/\Bw w wr/\w3.heap.size<=wr.heap.size):=⟨ht,ht',hR,hO,hB,hz3⟩
   clear ht ht' hR hO hB hz3 hgh hgc;go_wp2_with fail
   have hb:=(bRf wr.heap.size wr).drew;have hS1:∀j,wr.drew.cell? (aD w1.heap.size j)=((oC o (some (aD g 0)) a' dap dap'):AV)[j]?:=hOc;have hS2:wr.drew.cell? (aD rb k)=some (.s (shapeOf ss o.kd).fs[p].nm):=hck;have hrg:rb≠g:=by omega
   have how:w1.heap.size≠g:=by omega
   clear hOc hck hkr
   go_region_held3 (fun w'=>(∀j,w'.cell? (aD w1.heap.size j)=(#[.s o.kd,.s o.nm,.s o.tm,.l (some (aD g 0)) o.vs.length dap,.bool o.en,.l a' o.hs.length dap',.i o.vr]:AV)[j]?)/\w'.cell? (aD rb k)=some (.s (shapeOf ss o.kd).fs[p].nm)) (first|exact⟨hS1,hS2⟩|exact⟨hS3,hS4⟩) (first
    | (go_at_call 185;refine(zdm HJP.o (qA _ _ (shapeOf ss o.kd).fs _ _ (by exact HFA.o.mono (HX.o.2.2.2.2.1.trans (hb.mono HX.o.2.2.2.2.1.size))))).mono ?_;rintro e w5⟨rfl,rfl⟩)
    | (go_at_call 189;refine(zki (shapeOf ss o.kd) ms o us _ HLV.o p _ _ _ _ _ _ _ _ _ (by exact HFA.o.mono (HX.o.2.2.2.2.1.trans (hb.mono HX.o.2.2.2.2.1.size))) (by exact HW.o.2.mono (HX.o.2.2.2.2.1.trans (hb.mono HX.o.2.2.2.2.1.size))) (by exact hUS.mono hb) (by rw[HLV.o];exact HRW.o.len) hpn HJP.o HRW.o.kd.symm (HRW.o.reads p hpn)).mono ?_;rintro e w6⟨rfl,hb6⟩;have hb:=hb.trans (hb6.mono hb.size);have hS1:=za hS1 hOz hb6;have hS2:=(hb6.cell (p:=(aD rb k)) hrbz).trans hS2;have hU6:=hUS.mono hb;have hG:=HX.o.1.mono hb;clear hb6;have hS3:∀j,(w6.setCell (aD g p) (.s (decided (shapeOf ss o.kd) ms p us))).cell? (aD w1.heap.size j)=(#[.s o.kd,.s o.nm,.s o.tm,.l (some (aD g 0)) o.vs.length dap,.bool o.en,.l a' o.hs.length dap',.i o.vr]:AV)[j]?:=fun j=>(yg how).trans (hS1 j);have hS4:(w6.setCell (aD g p) (.s (decided (shapeOf ss o.kd) ms p us))).cell? (aD rb k)=some (.s (shapeOf ss o.kd).fs[p].nm):=(yg hrg).trans hS2;have hgc6:w6.cell? (aD g p)=some (.s us[p]):=zqb hG p hpv;have hgf6:w6.frozen? (aD g p)=false:=zqs hG hpv))
   go_wp2_with fail
   obtain⟨ht,ht',hR,hO,hB,hz3⟩:=HX.o;exact⟨⟨k+1,by omega,by go_num,by rw[HTS.o];exact(ht.mono hb).set p _,(ht'.mono hb).setCell _ hgm _,(Below.heap_setCell _ _ _ _ (by show w.heap.size+1≠g;omega)).trans ((hb.block _ (by omega)).trans hR),(Below.heap_setCell _ _ _ _ (by show w1.heap.size≠g;omega)).trans ((hb.block _ hOz).trans hO),(hB.trans (hb.mono hB.size)).setCell (p:=(aD g p)) (by show w.heap.size<=g;omega) _,by rw[World.size_setCell];exact Nat.le_trans hz3 hb.size,fun _=>⟨rb,rfl,hrb0,by rw[World.size_setCell];exact nLt hrbz hb.size,fun i hi=>(yg hrg).trans ((hb.cell (p:=(aD rb i)) hrbz).trans (HRR.o i hi))⟩⟩,zq hlt⟩
  ·have e:k=pl.length:=by omega
   subst e;rw[tOl (Nat.le_refl _),<- HVS.o]at ht;have hRc:∀j,wr.cell? (aD (w.heap.size+1) j)=(oZ:AV)[j]?:=fun j=>cell_of_block hR
   have hRf:∀j,wr.frozen? (aD (w.heap.size+1) j)=false:=fun j=>zh hR
   have hOc:∀j,wr.cell? (aD w1.heap.size j)=((oC o a a' dap dap'):AV)[j]?:=fun j=>cell_of_block hO
   have hOz:=(gES hO).1;have HX:=zcR ht ht' hB;clear ht ht' hB hR hO hrr;go_wp2_with fail
   refine bodyPost_ret (v:=(.agg #[.s o.kd,.s o.nm,.s o.tm,.l a o.vs.length dap,.bool o.en,.l a' o.hs.length dap',.i o.vr])) (by simp[results,Tryz.results148,go_sem,hRc]) rfl ?_;obtain⟨ht,ht',hB⟩:=HX.o;rw[HRES.o];exact⟨a,dap,a',dap',m,rfl,(jF ht _ (by omega) _ _ _ _ _ _ _).low (by omega),HT.o.2.1,by have:=HT.o.2.2.1;omega,jF ht' _ (by have:=HT.o.2.2.1;omega) _ _ _ _ _ _ _,j3 hB _ (by omega) _ _ _ _ _ _ _⟩
def zbE (l:Lw)(o:Ob):Bool:=decide ((yC l.ss o).1=0)&&decide (zbo l o=o.vs)
theorem zan {l:Lw}{o:Ob}(hok:yA l.ss l.ms=true)(h:(yC l.ss o).1=0):qV l.ss l.ms o=true:=by
 have hw:whole l.ss o=true:=by
  cases hc:whole l.ss o with
  | true=>rfl
  | false=>unfold yC at h;rw[if_neg (by rw[hc];simp)]at h;simp at h
 unfold whole zB at hw;unfold qV;simp only[Bool.and_eq_true]at hw ⊢;exact⟨hw.2.1,hw.2.2,hok⟩
theorem zd7 {l:Lw}{o:Ob}(hm:qV l.ss l.ms o=true)(hs:zdF l.ss)(hms:∀i (h:i<l.ms.length),l.ms[i].Small)(ho:∀s∈o.vs,s.size<=maxLen):∀s∈zbo l o,s.size<=maxLen:=by
 have hf:=zc1 hm;have hk:zJ l.ss o.kd=true:=by unfold qV at hm;simp only[Bool.and_eq_true]at hm;exact hm.1
 obtain⟨i,hi,e⟩:=ze3 hk;have h1:zbN (shapeOf l.ss o.kd).fs:=by rw[e];exact(hs.small i hi).2.2
 exact zb4 hms _ _ (zge h1 ho hf.1)
theorem ze9 {l:Lw}{o:Ob}{w:World}{a:OA}{lo:Nat}(h:zn lo w a (zbo l o))(hm:qV l.ss l.ms o=true)(hl:o.vs.length<=maxLen)(hs:∀s∈zbo l o,s.size<=maxLen):zF w a (zbo l o):=h.at (by rw[zcy hm];exact hl) hs
theorem zkg (a c:OA)(ca cc:Nat)(xs ys:List BA)(w:World)(hx:zF w a xs)(hy:zF w c ys)(hl:xs.length<=1048576)(hl':ys.length<=1048576)(hn:xs.length=ys.length) :
 Calls Tryz.prog 208 #[.l a ys.length ca,.l c ys.length cc] w fun e w'=>e=.returned (.bool (decide (xs=ys)))/\Bw w w':=by
 have h:=ziJ a c ca cc xs ys w hx hy hl hl';rw[hn]at h;exact h
set_option maxRecDepth 20000 in
theorem zma (l:Lw)(a b c:OA)(ca cb cc:Nat)(o:Ob)(va ha:OA)(cap cap':Nat)(w:World)(hL:jr w l a b c)(hml:l.ms.length<=1048576)(ho:jT w o va ha)(hl:o.vs.length<=1048576)(hl':o.hs.length<=1048576)(hok:yA l.ss l.ms=true) :
 Calls Tryz.prog 170 #[.agg #[.l a l.ss.length ca,.l b l.ms.length cb,.l c l.ts.length cc],.agg #[.s o.kd,.s o.nm,.s o.tm,.l va o.vs.length cap,.bool o.en,.l ha o.hs.length cap',.i o.vr]] w fun e w'=>e=.returned (.bool (zbE l o))/\Bw w w':=by
 have hfd:∀(s0 s1 s2:BA) (x y:OA) (n m p q:Nat) (t:Bool) (v:Int) (wf:World),(Instr.field 123 (.agg #[.s s0,.s s1,.s s2,.l x n p,.bool t,.l y m q,.i v]) 3).run Tryz.prog wf=.ok (.l x n p) wf:=fun s0 s1 s2 x y n m p q t v wf=>by kernel_rfl
 have HH:=qw hL ho;clear hL ho;obtain⟨r,hr⟩:=nm (zbE l o);rw[<- hr];have HR:Hid (r=zbE l o):=hr;clear hr;go_enter Tryz.func170,Tryz.ntmps170;go_wp2_with fail
 have hb2:=zw w (.cells #[.l a l.ss.length ca,.l b l.ms.length cb,.l c l.ts.length cc] 47) (.cells (oC o va ha cap cap') 123);refine(zix _ _ l.ss o _ _ _ _ _ (HH.o.1.ss.mono hb2) (HH.o.2.mono hb2)).mono ?_;rintro e w1⟨rfl,hb1⟩;have hX0:∀j,w1.cell? (aD w.heap.size j)=(#[.l a l.ss.length ca,.l b l.ms.length cb,.l c l.ts.length cc]:AV)[j]?:=fun j=>cell_of_block ((hb1.block w.heap.size (by simp;omega)).trans (zT _ _ _).1)
 have hX1:∀j,w1.cell? (aD (w.heap.size+1) j)=((oC o va ha cap cap'):AV)[j]?:=fun j=>cell_of_block ((hb1.block (w.heap.size+1) (by simp)).trans (zT _ _ _).2)
 have hz1:w.heap.size+1<w1.heap.size:=by have:=hb1.size;simp at this;omega
 have hz0:w.heap.size<w1.heap.size:=by omega
 have hB1:Bw w w1:=hb2.trans (hb1.mono (by simp;omega));clear hb1 hb2
 by_cases hc:(yC l.ss o).1=0
 rotate_left
 ·have HF:Hid (r=false):=by unfold Hid;rw[HR.o];unfold zbE;rw[decide_eq_false hc];rfl
  have hv:zgQ l.ss o=.iface 281 (.agg #[.i (yC l.ss o).1,.i (yC l.ss o).2]):=zlU hc;rw[hv];clear hc hv;go_wp2_with fail
  go_ret;exact⟨ze HF.o.symm,hB1⟩
 have HMD:=hid (zan hok hc);have HS:=hid (zd7 HMD.o HH.o.1.ss.smalls HH.o.1.ms.small HH.o.2.vals.small);have HF:Hid (decide (zbo l o=o.vs)=r):=by unfold Hid;rw[HR.o];unfold zbE;rw[decide_eq_true hc];rfl
 have hv:zgQ l.ss o=.nilIface:=by unfold zgQ;rw[hc];rfl
 rw[hv];have HLN:=hid (zcy HMD.o);clear hc hv;go_wp2_with fail
 have hS0:=za hX0 hz0 (bRf w1.heap.size w1).drew;have hS1:=za hX1 hz1 (bRf w1.heap.size w1).drew;have hb:=(bRf w1.heap.size w1).drew;have hzl:=hz0;have hzo:=hz1;clear hX0 hX1
 go_region_held3 (fun w'=>(∀j,w'.cell? (aD w.heap.size j)=(#[.l a l.ss.length ca,.l b l.ms.length cb,.l c l.ts.length cc]:AV)[j]?)/\(∀j,w'.cell? (aD (w.heap.size+1) j)=(#[.s o.kd,.s o.nm,.s o.tm,.l va o.vs.length cap,.bool o.en,.l ha o.hs.length cap',.i o.vr]:AV)[j]?)) (exact⟨fun j=>by rw[hS0],fun j=>by rw[hS1]⟩) (first
  | (go_at_call 209;refine(zkP l a b c ca cb cc o va ha cap cap' _ (by exact HH.o.1.mono (hB1.trans (hb.mono hB1.size))) hml (by exact HH.o.2.mono (hB1.trans (hb.mono hB1.size))) hl hl' HMD.o).mono ?_;rintro e w5⟨e0,dap,e1,dap',rfl,ht5,hb5⟩;have hS0:=za hS0 hzl hb5;have hS1:=za hS1 hzo hb5;have hb:=hb.trans (hb5.mono hb.size);have hO5:zF w5 e0 (zbo l o):=ze9 ht5 HMD.o HH.o.2.vals.len HS.o;clear ht5 hb5)
  | (go_at_call 208;refine(zkg _ va _ cap (zbo l o) o.vs _ (by exact hO5) (by exact HH.o.2.vals.mono (hB1.trans (hb.mono hB1.size))) (by rw[HLN.o];exact hl) hl HLN.o).mono ?_;rintro e w6⟨rfl,hb6⟩;rw[HF.o];have hS0:=fun j=>(hb6.cell (p:=(aD w.heap.size j)) (nLt hzl hb.size)).trans (hS0 j);have hS1:=fun j=>(hb6.cell (p:=(aD (w.heap.size+1) j)) (nLt hzo hb.size)).trans (hS1 j);have hb:=hb.trans (hb6.mono hb.size);clear hb6))
 go_wp2_with fail
 go_ret;exact⟨rfl,hB1.trans (hb.mono hB1.size)⟩
theorem znq {lo:Nat}{w:World}{v:Value}{ws:List BA}(h:w.ownsRow lo 9 1 v ws.length (ws.map Value.string))(hne:v≠.l none 0 0):∃a cap,v=.l a ws.length cap/\zn lo w a ws/\∃g,a=some (aD g 0):=by
 obtain⟨a,cap,hv,ht⟩:=zn.zdl h;refine⟨a,cap,hv,ht,?_⟩;obtain⟨_,⟨h0,_⟩|⟨g,cp,cur,h0,_⟩⟩:=id h
 ·exact absurd h0 hne
 ·rw[hv]at h0;cases h0;exact⟨g,rfl⟩
def zpu (o:Ob)(vs:List BA)(w:World)(e:Ending)(w':World):Prop:=
 ∃a dap a' dap' m,e=.returned (.agg #[.s o.kd,.s o.nm,.s o.tm,.l a o.vs.length dap,.bool o.en,.l a' o.hs.length dap',.i o.vr])/\zn w.heap.size w' a vs/\(∀g,a=some g->g.block<m)/\w.heap.size<=m/\zn m w' a' o.hs/\Bw w w'/\(∃g,a=some (aD g 0))/\∃g,a'=some (aD g 0)
set_option maxRecDepth 20000 in
theorem zhY (o:Ob)(b off b' off' cap cap':Nat)(w:World)(ho:jT w o (some (aD b off)) (some (aD b' off')))(hl:o.vs.length<=1048576)(hl':o.hs.length<=1048576) :
 Calls Tryz.prog 68 #[.agg #[.s o.kd,.s o.nm,.s o.tm,.l (some (aD b off)) o.vs.length cap,.bool o.en,.l (some (aD b' off')) o.hs.length cap',.i o.vr]] w
  fun e w'=>∃a dap a' dap' m,e=.returned (.agg #[.s o.kd,.s o.nm,.s o.tm,.l a o.vs.length dap,.bool o.en,.l a' o.hs.length dap',.i o.vr])/\zn w.heap.size w' a o.vs/\(∀g,a=some g->g.block<m)/\w.heap.size<=m/\zn m w' a' o.hs/\Bw w w'/\(∃g,a=some (aD g 0))/\∃g,a'=some (aD g 0):=by
 obtain⟨i0,hi,hz0,hz1',hz2⟩:=info_parts Tryz.zc2;go_enter Tryz.func68,Tryz.ntmps68
 go_wp2_with (first
  | (at_builtin;refine wpList_append_own _ rfl (.tmp 3) (.tmp 5) 106 rfl (w.heap.size+1+1) 9 i0 (.s ByteArray.empty) 1 16 Tryz.underlying106 hi hz0 hz1' hz2 rfl (by decide) (.l (some (aD (w.heap.size+1+1) 0)) 0 0) 0 [] rfl ⟨rfl,.inr ⟨w.heap.size+1+1,0,#[],rfl,Nat.le_refl _,zck _ _ _ _,Nat.le_refl _,by simp[maxLen],rfl,rfl⟩⟩ (aD b off) o.vs.length cap (o.vs.map Value.string) rfl (by simp) (zfi (ho.vals.mono (jB _ _ _ _))) zgD (by unfold maxLen;omega) (by omega) (by simp) ?_;intro v' w1 hown hgr hnn;simp only[Nat.zero_add,List.nil_append]at hown;obtain⟨a,dap,rfl,ht1,hsA⟩:=znq hown (fun h=>by have:=(hnn.1 h).1;cases this);clear hnn;obtain⟨hk1,hr1,hB1,hz1⟩:=zh5 hgr;have hX1:∀j,w1.cell? (aD w.heap.size j)=(#[.s o.kd,.s o.nm,.s o.tm,.l (some (aD b off)) o.vs.length cap,.bool o.en,.l (some (aD b' off')) o.hs.length cap',.i o.vr]:AV)[j]?:=fun j=>cell_of_block hk1;have hF1:∀j,w1.frozen? (aD w.heap.size j)=false:=fun j=>zh hk1;have hzz1:w.heap.size<w1.heap.size:=(by omega);have hone:=hB1.setCell (p:=(aD w.heap.size 3)) (Nat.le_refl _) (.l a o.vs.length dap);have HT1:Hid (zn (w.heap.size+1+1) w1 a o.vs):=ht1;have HK1:Hid (w1.heap[w.heap.size]?=some (.cells #[.s o.kd,.s o.nm,.s o.tm,.l (some (aD b off)) o.vs.length cap,.bool o.en,.l (some (aD b' off')) o.hs.length cap',.i o.vr] 123)):=hk1;have HR1:Hid (w1.heap[w.heap.size+1]?=some (.cells #[.s ByteArray.empty,.s ByteArray.empty,.s ByteArray.empty,.l none 0 0,.bool false,.l none 0 0,.i 0] 123)):=hr1;clear ht1 hk1 hr1;clear hown hgr)
  | (at_builtin;refine wpList_append_own _ rfl (.tmp 8) (.tmp 10) 106 rfl w1.heap.size 9 i0 (.s ByteArray.empty) 1 16 Tryz.underlying106 hi hz0 hz1' hz2 rfl (by decide) (.l (some (aD w1.heap.size 0)) 0 0) 0 [] rfl ⟨rfl,.inr ⟨w1.heap.size,0,#[],rfl,Nat.le_refl _,zoW _ _ _ _,Nat.le_refl _,(by simp[maxLen]),rfl,rfl⟩⟩ (aD b' off') o.hs.length cap' (o.hs.map Value.string) rfl (by simp) (zfi (ho.holds.mono (hone.alloc hone.size _))) zgD (by unfold maxLen;omega) (by omega) (by simp[World.setCell]) ?_;intro v'' w2 hown hgr hnn;simp only[Nat.zero_add,List.nil_append]at hown;obtain⟨a',dap',rfl,ht2,hsA'⟩:=znq hown (fun h=>by have:=(hnn.1 h).1;cases this);clear hnn;obtain⟨hk2,hr2,hB2,hz2'⟩:=zlq HK1.o HR1.o hB1 hz1 hgr;have HU2:Hid (zn w1.heap.size w2 a' o.hs):=ht2;have HT2:Hid (zn (w.heap.size+1+1) w2 a o.vs):=((HT1.o.setCell _ (by simp;omega) _).mono (bAl _ _)).grown hgr (fun g hg=>Nat.ne_of_lt (HT1.o.lt g hg));have hX2:∀j,w2.cell? (aD w.heap.size j)=(#[.s o.kd,.s o.nm,.s o.tm,.l a o.vs.length dap,.bool o.en,.l (some (aD b' off')) o.hs.length cap',.i o.vr]:AV)[j]?:=fun j=>cell_of_block hk2;have hF2:∀j,w2.frozen? (aD w.heap.size j)=false:=fun j=>zh hk2;have hY2:∀j,w2.cell? (aD (w.heap.size+1) j)=(#[.s ByteArray.empty,.s ByteArray.empty,.s ByteArray.empty,.l none 0 0,.bool false,.l none 0 0,.i 0]:AV)[j]?:=fun j=>cell_of_block hr2;have hG2:∀j,w2.frozen? (aD (w.heap.size+1) j)=false:=fun j=>zh hr2;have hzz2:w.heap.size+1<w2.heap.size:=(by omega);clear hown hgr ht2 hk2 hr2 hX1 hF1))
 refine bodyPost_ret (v:=(.agg #[.s o.kd,.s o.nm,.s o.tm,.l a o.vs.length dap,.bool o.en,.l a' o.hs.length dap',.i o.vr])) (by simp[results,Tryz.results68,go_sem,hY2]) rfl ⟨a,dap,a',dap',w1.heap.size,rfl,((((((((HT2.o.setCell _ (by simp;omega) _).setCell _ (by simp) _).setCell _ (by simp) _).setCell _ (by simp) _).setCell _ (by simp) _).setCell _ (by simp) _).setCell _ (by simp) _).setCell _ (by simp) _).low (by omega),HT1.o.lt,by omega,((((((((HU2.o.setCell _ (by simp;omega) _).setCell _ (by simp;omega) _).setCell _ (by simp;omega) _).setCell _ (by simp;omega) _).setCell _ (by simp;omega) _).setCell _ (by simp;omega) _).setCell _ (by simp;omega) _).setCell _ (by simp;omega) _),((((((((hB2.setCell (Nat.le_refl _) _).setCell (by simp) _).setCell (by simp) _).setCell (by simp) _).setCell (by simp) _).setCell (by simp) _).setCell (by simp) _).setCell (by simp) _),hsA,hsA'⟩
theorem znm (a0:OA)(cap0:Nat)(ss:List Shp)(o:Ob)(b off b' off' cap cap':Nat)(w:World)(hw:yR w a0 ss)(ho:jT w o (some (aD b off)) (some (aD b' off')))(hl:o.vs.length<=1048576)(hl':o.hs.length<=1048576) :
 Calls Tryz.prog 149 #[.l a0 ss.length cap0,.agg #[.s o.kd,.s o.nm,.s o.tm,.l (some (aD b off)) o.vs.length cap,.bool o.en,.l (some (aD b' off')) o.hs.length cap',.i o.vr]] w (zpu o (qB ss o) w):=by
 by_cases hc:zB ss o=true
 rotate_left
 ·have HC:Hid (zB ss o=false):=by simpa[Hid] using hc
  have HRES:Hid (qB ss o=o.vs):=by unfold Hid qB;rw[if_neg hc]
  clear hc;have HH:Hid (jT w o (some (aD b off)) (some (aD b' off'))):=ho;clear ho;go_enter Tryz.func149,Tryz.ntmps149;go_wp2_with fail
  refine(zhY o b off b' off' cap cap' _ (HH.o.mono (zw w (.cells #[.s o.kd,.s o.nm,.s o.tm,.l (some (aD b off)) o.vs.length cap,.bool o.en,.l (some (aD b' off')) o.hs.length cap',.i o.vr] 123) (.cells #[.s ByteArray.empty,.s ByteArray.empty,.s ByteArray.empty,.l none 0 0,.bool false,.l none 0 0,.i 0] 123))) hl hl').mono ?_;rintro e w1⟨a,dap,a',dap',m,rfl,ht,hm,hsm,ht',hb1,hsA,hsA'⟩;have HO1:Hid (w1.heap[w.heap.size]?=some (.cells (oC o (some (aD b off)) (some (aD b' off')) cap cap') 123)):=(hb1.block w.heap.size (by simp;omega)).trans (zT _ _ _).1;have HR1:Hid (w1.heap[w.heap.size+1]?=some (.cells oZ 123)):=(hb1.block (w.heap.size+1) (by simp)).trans (zT _ _ _).2;have hX1:∀j,w1.cell? (aD w.heap.size j)=((oC o (some (aD b off)) (some (aD b' off')) cap cap'):AV)[j]?:=fun j=>cell_of_block HO1.o
  have hz1:w.heap.size+1<w1.heap.size:=by have:=hb1.size;simp at this;omega
  have hz0:w.heap.size<w1.heap.size:=by omega
  have hB1:Bw w w1:=(zw _ _ _).trans (hb1.mono (by simp;omega))
  have HT:Hid (zn (w.heap.size+1+1) w1 a o.vs/\(∀g,a=some g->g.block<m)/\w.heap.size+1+1<=m/\zn m w1 a' o.hs):=by
   simp only[World.size_alloc]at ht hsm;exact⟨ht,hm,hsm,ht'⟩
  clear ht hm hsm ht' hb1;go_wp2_with fail
  have hbs:=(bRf w1.heap.size w1).alloc (Nat.le_refl _) (.cells (oC o a a' dap dap') 123);have hBs:=hB1.trans (hbs.mono hB1.size);refine(zdg a0 cap0 ss o _ _ cap cap' _ (hw.mono hBs) (HH.o.mono hBs) HC.o).mono ?_;rintro e w2⟨v,rfl,hb2⟩;have hba:=hbs.trans (hb2.mono hbs.size);have hR2:=(hba.block _ hz1).trans HR1.o;have hU2:∀j,w2.cell? (aD w1.heap.size j)=((oC o a a' dap dap'):AV)[j]?:=za (zl w1 _ _) (by simp) hb2;have hRc:∀j,w2.cell? (aD (w.heap.size+1) j)=(oZ:AV)[j]?:=fun j=>cell_of_block hR2
  have hRf:∀j,w2.frozen? (aD (w.heap.size+1) j)=false:=fun j=>zh hR2
  have HX:Hid (zn (w.heap.size+1+1) w2 a o.vs/\zn m w2 a' o.hs/\Bw w w2):=⟨HT.o.1.mono hba,HT.o.2.2.2.mono hba,hB1.trans (hba.mono hB1.size)⟩
  clear hbs hBs hb2 hba hR2 hX1;go_wp2_with fail
  refine bodyPost_ret (v:=(.agg #[.s o.kd,.s o.nm,.s o.tm,.l a o.vs.length dap,.bool o.en,.l a' o.hs.length dap',.i o.vr])) (by simp[results,Tryz.results149,go_sem,hRc]) rfl ?_;obtain⟨ht,ht',hB⟩:=HX.o;rw[HRES.o];exact⟨a,dap,a',dap',m,rfl,(jF ht _ (by omega) _ _ _ _ _ _ _).low (by omega),HT.o.2.1,by have:=HT.o.2.2.1;omega,jF ht' _ (by have:=HT.o.2.2.1;omega) _ _ _ _ _ _ _,j3 hB _ (by omega) _ _ _ _ _ _ _,hsA,hsA'⟩
 have HC:Hid (zB ss o=true):=hc;have HRES:Hid (qB ss o=zah (shapeOf ss o.kd).fs o.vs):=by unfold Hid qB;rw[if_pos hc]
 have HCC:Hid (o.vs.length=(shapeOf ss o.kd).fs.length):=by unfold zB at hc;simp only[Bool.and_eq_true,decide_eq_true_eq]at hc;exact hc.2
 clear hc;have HH:Hid (jT w o (some (aD b off)) (some (aD b' off'))):=ho;clear ho;go_enter Tryz.func149,Tryz.ntmps149;go_wp2_with fail
 refine(zhY o b off b' off' cap cap' _ (HH.o.mono (zw w (.cells #[.s o.kd,.s o.nm,.s o.tm,.l (some (aD b off)) o.vs.length cap,.bool o.en,.l (some (aD b' off')) o.hs.length cap',.i o.vr] 123) (.cells #[.s ByteArray.empty,.s ByteArray.empty,.s ByteArray.empty,.l none 0 0,.bool false,.l none 0 0,.i 0] 123))) hl hl').mono ?_;rintro e w1⟨a,dap,a',dap',m,rfl,ht,hm,hsm,ht',hb1,hsA,hsA'⟩;have HO1:Hid (w1.heap[w.heap.size]?=some (.cells (oC o (some (aD b off)) (some (aD b' off')) cap cap') 123)):=(hb1.block w.heap.size (by simp;omega)).trans (zT _ _ _).1;have HR1:Hid (w1.heap[w.heap.size+1]?=some (.cells oZ 123)):=(hb1.block (w.heap.size+1) (by simp)).trans (zT _ _ _).2;have hX1:∀j,w1.cell? (aD w.heap.size j)=((oC o (some (aD b off)) (some (aD b' off')) cap cap'):AV)[j]?:=fun j=>cell_of_block HO1.o
 have hz1:w.heap.size+1<w1.heap.size:=by have:=hb1.size;simp at this;omega
 have hz0:w.heap.size<w1.heap.size:=by omega
 have hB1:Bw w w1:=(zw _ _ _).trans (hb1.mono (by simp;omega))
 have HT:Hid (zn (w.heap.size+1+1) w1 a o.vs/\(∀g,a=some g->g.block<m)/\w.heap.size+1+1<=m/\zn m w1 a' o.hs):=by
  simp only[World.size_alloc]at ht hsm;exact⟨ht,hm,hsm,ht'⟩
 clear ht hm hsm ht' hb1;go_wp2_with fail
 have hbs:=(bRf w1.heap.size w1).alloc (Nat.le_refl _) (.cells (oC o a a' dap dap') 123);have hBs:=hB1.trans (hbs.mono hB1.size);refine(zfw a0 cap0 ss o _ _ cap cap' w _ hw hBs HC.o).mono ?_;rintro e w2⟨fa,fcap,rfl,hf,hb2⟩;have hba:=hbs.trans (hb2.mono hbs.size);have HR2:Hid (w2.heap[w.heap.size+1]?=some (.cells oZ 123)):=(hba.block _ hz1).trans HR1.o;have HU2:Hid (w2.heap[w1.heap.size]?=some (.cells (oC o a a' dap dap') 123)):=(hb2.block _ (by simp)).trans (alloc_at _ _);have HX2:Hid (zn (w.heap.size+1+1) w2 a o.vs/\zn m w2 a' o.hs/\Bw w w2):=⟨HT.o.1.mono hba,HT.o.2.2.2.mono hba,hB1.trans (hba.mono hB1.size)⟩
 have hz2:w1.heap.size<w2.heap.size:=(gES HU2.o).1;clear hbs hBs hb2 hba hX1 hw;have hlen:=hf.len;unfold maxLen at hlen
 revert HRES HCC hf hlen
 generalize (shapeOf ss o.kd).fs=fs
 intro HRES HCC hf hlen;go_wp2_with fail
 go_loopw [8] (fun i wr=>∃k:Nat,k<=fs.length/\i=.i k/\zn (w.heap.size+1+1) wr a (ji fs o.vs k)/\zn m wr a' o.hs/\wr.heap[w.heap.size+1]?=some (.cells #[.s ByteArray.empty,.s ByteArray.empty,.s ByteArray.empty,.l none 0 0,.bool false,.l none 0 0,.i 0] 123)/\wr.heap[w1.heap.size]?=some (.cells #[.s o.kd,.s o.nm,.s o.tm,.l a o.vs.length dap,.bool o.en,.l a' o.hs.length dap',.i o.vr] 123)/\Bw w wr) (fun i _=>fs.length-(intOf i).toNat)
 case atStart=>exact⟨0,Nat.zero_le _,rfl,by rw[zid];exact HX2.o.1,HX2.o.2.1,HR2.o,HU2.o,HX2.o.2.2⟩
 case round=>
  obtain⟨k,hk,rfl,ht,ht',hR,hO,hB⟩:=hrel;have hOc:∀j,wr.cell? (aD w1.heap.size j)=((oC o a a' dap dap'):AV)[j]?:=fun j=>cell_of_block hO
  have hOz:w1.heap.size<wr.heap.size:=(gES hO).1
  by_cases hlt:k<fs.length
  ·have hltv:k<o.vs.length:=by rw[HCC.o];exact hlt
   obtain⟨fb,foff,rfl,hfb,hr⟩:=hf.rows (by rintro rfl;simp at hlt);obtain⟨wa,wcap,hf0⟩:=hr k hlt;have hf1:=hf0.mono hfb hB;obtain⟨c0,c1,c2,c3,c4,c5,c6,c7,c8,c9,c10⟩:=hf1.load;have hltI:(k:Int)<(fs.length:Int):=by omega
   have hltV:(k:Int)<(o.vs.length:Int):=by omega
   obtain⟨g,C,hga,hgl,hgh,hgc⟩:∃g C,a=some (aD g 0)/\w.heap.size+1+1<=g/\wr.heap[g]?=some (.cells C 9)/\∀i (h:i<(ji fs o.vs k).length),C[i]?=some (.s (ji fs o.vs k)[i]):=by
    rcases ht with⟨_,h0⟩|h0
    ·have:=zav HCC.o k;rw[h0]at this;simp at this;omega
    ·exact h0
   have hgm:g<m:=HT.o.2.1 _ hga;have hgw1:g<w1.heap.size:=HT.o.1.lt _ hga;have hgw:g<wr.heap.size:=by omega
   subst hga
   have hcell:wr.cell? (aD g k)=some (.s o.vs[k]):=by
    have h1:=zfk HCC.o k hlt;have hkl:k<(ji fs o.vs k).length:=by rw[zav HCC.o];exact hltv
    rw[List.getElem?_eq_getElem hkl,List.getElem?_eq_getElem hltv]at h1;rw[cell_of_block hgh,hgc k hkl,Option.some.inj h1]
   have hgf:wr.frozen? (aD g k)=false:=zh hgh;have HX:Hid (zn (w.heap.size+1+1) wr (some (aD g 0)) (ji fs o.vs k)/\zn m wr a' o.hs/\wr.heap[w.heap.size+1]?=some (.cells oZ 123)/\wr.heap[w1.heap.size]?=some (.cells (oC o (some (aD g 0)) a' dap dap') 123)/\Bw w wr):=⟨ht,ht',hR,hO,hB⟩
   clear ht ht' hR hO hB hr hf0 hf1 hgh hgc hf
   by_cases hv:o.vs[k].toList.isEmpty=true
   ·have HV:Hid (zam fs[k] o.vs[k]=fs[k].df):=by unfold Hid zam;rw[if_pos hv]
    go_wp2_with fail
    have hfg:fb≠g:=by omega
    have hq1:(wr.setCell (aD g k) (.s fs[k].df)).drew.cell? (aD w1.heap.size 3)=some (.l (some (aD g 0)) o.vs.length dap):=(yg (by show w1.heap.size≠g;omega)).trans (hOc 3);have hq2:(wr.setCell (aD g k) (.s fs[k].df)).drew.cell? (aD fb (foff+k*11+9))=some (.s fs[k].df):=(yg hfg).trans c9;have hgd:wr.drew.frozen? (aD g k)=false:=hgf;have hcd:wr.drew.cell? (aD g k)=some (.s o.vs[k]):=hcell
    go_region_held3 (fun w'=>w'.cell? (aD w1.heap.size 3)=some (.l (some (aD g 0)) o.vs.length dap)/\w'.cell? (aD fb (foff+k*11+9))=some (.s fs[k].df)) (first|exact⟨hOc 3,c9⟩|exact⟨hq1,hq2⟩) (fail)
    go_wp2_with fail
    obtain⟨ht,ht',hR,hO,hB⟩:=HX.o;exact⟨⟨k+1,by omega,by go_num,by rw[zc5 HCC.o k hlt,HV.o];exact ht.set k _,ht'.setCell _ hgm _,(Below.heap_setCell _ _ _ _ (by show w.heap.size+1≠g;omega)).trans hR,(Below.heap_setCell _ _ _ _ (by show w1.heap.size≠g;omega)).trans hO,(hB.setCell (p:=(aD g k)) (by show w.heap.size<=g;omega) _).drew⟩,zq hlt⟩
   ·have HV:Hid (zam fs[k] o.vs[k]=o.vs[k]):=by unfold Hid zam;rw[if_neg hv]
    go_wp2_with fail
    obtain⟨ht,ht',hR,hO,hB⟩:=HX.o
    have hsame:(ji fs o.vs k).set k o.vs[k]=ji fs o.vs k:=by
     have h1:=zfk HCC.o k hlt;have hkl:k<(ji fs o.vs k).length:=by rw[zav HCC.o];exact hltv
     rw[List.getElem?_eq_getElem hkl,List.getElem?_eq_getElem hltv]at h1;rw[<- Option.some.inj h1,List.set_getElem_self]
    exact⟨⟨k+1,by omega,by go_num,by rw[zc5 HCC.o k hlt,HV.o,hsame];exact ht,ht',hR,hO,hB⟩,zq hlt⟩
  ·have e:k=fs.length:=by omega
   subst e;rw[zj3 HCC.o]at ht;have hRc:∀j,wr.cell? (aD (w.heap.size+1) j)=(oZ:AV)[j]?:=fun j=>cell_of_block hR
   have hRf:∀j,wr.frozen? (aD (w.heap.size+1) j)=false:=fun j=>zh hR
   have HX:Hid (zn (w.heap.size+1+1) wr a (zah fs o.vs)/\zn m wr a' o.hs/\Bw w wr):=⟨ht,ht',hB⟩
   clear ht ht' hB hR hO hf;go_wp2_with fail
   refine bodyPost_ret (v:=(.agg #[.s o.kd,.s o.nm,.s o.tm,.l a o.vs.length dap,.bool o.en,.l a' o.hs.length dap',.i o.vr])) (by simp[results,Tryz.results149,go_sem,hRc]) rfl ?_;obtain⟨ht,ht',hB⟩:=HX.o;rw[HRES.o];exact⟨a,dap,a',dap',m,rfl,(jF ht _ (by omega) _ _ _ _ _ _ _).low (by omega),HT.o.2.1,by have:=HT.o.2.2.1;omega,jF ht' _ (by have:=HT.o.2.2.1;omega) _ _ _ _ _ _ _,j3 hB _ (by omega) _ _ _ _ _ _ _,hsA,hsA'⟩
end Go.Proofs.YtecncindgjdbiaaGreat
