import Derived.Test.YtjnpjkigofldlaaGreatM40
import Derived.Test.YtjnpjkigofldlaaGreatM41
set_option maxRecDepth 20000
set_option maxHeartbeats 8000000
namespace Go.Proofs.YtjnpjkigofldlaaGreat
open Go.RowKit
variable {ss:List Shp}{ms:List Mnd}{o:Ob}{lo:Nat}{w:World}
theorem zji (w00:World)(l:Lw)(a b c:OA)(ca cb cc:Nat)(o:Ob)(va ha:OA)(cap cap':Nat)(w:World)(hL:qp w00 l a b c)(hbb:Bw w00 w) :
 Calls Tryz.prog 143 #[.agg (lC l a b c ca cb cc),.agg (oC o va ha cap cap')] w
  fun e w'=>∃Bs Bo fa fcap,e=.returned (.func (.func 197) #[] #[.pointer (some (aD Bs 0)),.pointer (some (aD Bo 0))])/\Bs<w'.heap.size/\Bo<w'.heap.size/\w.heap.size<=Bo/\yw w00 fa (shapeOf l.ss o.kd).fs /\
   (∀j,w'.cell? (aD Bs j)=(#[.s (shapeOf l.ss o.kd).kd,.l fa (shapeOf l.ss o.kd).fs.length fcap]:AV)[j]?)/\(∀j,w'.cell? (aD Bo j)=(oC o va ha cap cap')[j]?)/\Bw w w':=by
 have HH:=yB hL hbb;clear hL hbb;go_in;go_wp2_with fail
 have hb2:=zo w (.cells (lC l a b c ca cb cc) 47) (.cells (oC o va ha cap cap') 116);refine(znQ w00 _ _ l.ss o.kd _ HH.o.1.ss (HH.o.2.trans (hb2.mono HH.o.2.size))).mono ?_;rintro e w1⟨fa,fcap,rfl,hfl0,hb1⟩;have HFL:=hid hfl0;have hX1:∀j,w1.cell? (aD (w.heap.size+1) j)=(oC o va ha cap cap')[j]?:=fun j=>cell_of_block ((hb1.block (w.heap.size+1) (by simp)).trans (zK _ _ _).2)
 have hz1:w.heap.size+1<w1.heap.size:=by have:=hb1.size;simp at this;omega
 have HB1:Hid (Bw w w1):=hb2.trans (hb1.mono (by simp;omega));have HX1:=hid hX1;clear hb1 hb2 hfl0;go_wp2
 go_ret;have hba:=(bRf w1.heap.size w1).alloc (Nat.le_refl _) (.cells #[.s (shapeOf l.ss o.kd).kd,.l fa (shapeOf l.ss o.kd).fs.length fcap] 130);exact⟨w1.heap.size,w.heap.size+1,fa,fcap,rfl,by simp,nLt hz1 hba.size,Nat.le_succ _,HFL.o,zI w1 _ _,za HX1.o hz1 hba,HB1.o.trans (hba.mono HB1.o.size)⟩
theorem zfr (l:Lw)(a b c:OA)(ca cb cc:Nat)(o:Ob)(va ha:OA)(cap cap':Nat)(w:World)(hL:qp w l a b c) :
 Calls Tryz.prog 143 #[.agg (lC l a b c ca cb cc),.agg (oC o va ha cap cap')] w
  fun e w'=>∃Bs Bo fa fcap,e=.returned (.func (.func 197) #[] #[.pointer (some (aD Bs 0)),.pointer (some (aD Bo 0))])/\Bs<w'.heap.size/\Bo<w'.heap.size/\yw w' fa (shapeOf l.ss o.kd).fs /\
   (∀j,w'.cell? (aD Bs j)=(#[.s (shapeOf l.ss o.kd).kd,.l fa (shapeOf l.ss o.kd).fs.length fcap]:AV)[j]?)/\(∀j,w'.cell? (aD Bo j)=(oC o va ha cap cap')[j]?)/\Bw w w':=
 (zji w l a b c ca cb cc o va ha cap cap' w hL (bRf _ _)).mono fun _ _ ⟨Bs,Bo,fa,fcap,he,h1,h2,_,hf,hX,hY,hb⟩=>⟨Bs,Bo,fa,fcap,he,h1,h2,hf.mono hb,hX,hY,hb⟩
theorem zre {v:BA}(h:zF ss v=true):(shapeOf ss v).kd=v:=by
 unfold zF at h;rw[List.any_eq_true]at h;obtain⟨x,hx,he⟩:=h;unfold shapeOf
 cases hf:ss.find? (fun s=>decide (s.kd=v)) with
 | none=>rw[List.find?_eq_none]at hf;exact absurd he (hf x hx)
 | some y=>simpa using List.find?_some hf
theorem zbt (hm:yj ss ms=true):qJ ss ms o=zq ss o:=by
 unfold qJ zq;rw[hm,Bool.and_true]
structure zt1 (ss:List Shp)(ms:List Mnd)(o:Ob)(pl:List Nat):Prop where
 names:yx (shapeOf ss o.kd) ms (shapeOf ss o.kd).fs.length=pl.map (za9 (shapeOf ss o.kd))
 zsJ:zl4 (zl (shapeOf ss o.kd) ms) (shapeOf ss o.kd).fs.length pl
 place:∀q (h:q<(shapeOf ss o.kd).fs.length),yh (shapeOf ss o.kd).fs (shapeOf ss o.kd).fs[q].nm=(q:Int)
 kd:(shapeOf ss o.kd).kd=o.kd
 few:(shapeOf ss o.kd).fs.length<=6
 reads:∀q,q<(shapeOf ss o.kd).fs.length->∀x∈yC (shapeOf ss o.kd) ms q,0<=x/\x<(shapeOf ss o.kd).fs.length
 len:o.vs.length=(shapeOf ss o.kd).fs.length
 mends:ms.length<=12
 res:ziz ss ms o=zY (decided (shapeOf ss o.kd) ms) pl o.vs
theorem rowOf (hm:yj ss ms=true)(hc:zq ss o=true):zt1 ss ms o (greedy (zl (shapeOf ss o.kd) ms) (shapeOf ss o.kd).fs.length (shapeOf ss o.kd).fs.length):=by
 have hmd:qJ ss ms o=true:=by rw[zbt hm];exact hc
 obtain⟨hl,h6,hr,hw⟩:=zb4 hmd;unfold zq at hc;simp only[Bool.and_eq_true]at hc;obtain⟨i,hi,e⟩:=zdn hc.1;have hkd:=zre hc.1;unfold yj at hm;simp only[Bool.and_eq_true,decide_eq_true_eq]at hm;obtain⟨⟨⟨h12,hs⟩,ha⟩,_⟩:=hm
 have hrd:∀p,p<(shapeOf ss o.kd).fs.length->∀q∈zl (shapeOf ss o.kd) ms p,q<(shapeOf ss o.kd).fs.length:=by
  intro p hp q hq;unfold zl at hq;obtain⟨x,hx,rfl⟩:=List.mem_map.1 hq
  have:=hr p hp x hx
  omega
 have htw:=zeF hrd hw
 have htg:zl4 (zl (shapeOf ss o.kd) ms) (shapeOf ss o.kd).fs.length (greedy (zl (shapeOf ss o.kd) ms) (shapeOf ss o.kd).fs.length (shapeOf ss o.kd).fs.length):=
  (zco _ _ _).zsJ (zi6 htw.znF _ (Nat.le_refl _))
 refine⟨?_,htg,?_,hkd,h6,hr,hl,h12,?_⟩
 ·rw[e];exact zeg hs ha i hi _
 ·rw[e]
  intro q hq;refine zeO ss[i].fs _ q hq ?_ rfl;unfold hasName;rw[List.any_eq_false];intro x hx;obtain⟨j,hj,rfl⟩:=List.mem_iff_getElem.1 hx;have hjq:j<q:=by simp at hj;omega
  simp only[List.getElem_take,decide_eq_true_eq];exact zfJ hs i hi j q hjq hq
 ·exact zoL htw htg (zlM _ _) o.vs hl
theorem znO {α:Type}(D:Nat->List α->α)(pl:List Nat)(vs:List α)(k:Nat)(h:k<pl.length):zY D (pl.take (k+1)) vs=(zY D (pl.take k) vs).set pl[k] (D pl[k] (zY D (pl.take k) vs)):=by
 unfold zY;rw[tSe h,List.foldl_append];rfl
theorem ztK {g:Nat}{us:List BA}(h:zk lo w (some (aD g 0)) us)(p:Nat)(hp:p<us.length):w.cell? (aD g p)=some (.s us[p]):=by
 rcases h with⟨h0,_⟩|⟨g',C,hg,_,hh,hc⟩
 ·cases h0
 ·cases hg;rw[cell_of_block hh,hc p hp]
theorem ztv {g p:Nat}{us:List BA}(h:zk lo w (some (aD g 0)) us)(_hp:p<us.length):w.frozen? (aD g p)=false:=by
 rcases h with⟨h0,_⟩|⟨g',C,hg,_,hh,hc⟩
 ·cases h0
 ·cases hg;exact zf hh
theorem zs8 {v:Value}{row:List BA}(h:w.ownsRow lo 9 1 v row.length (row.map Value.string)):∃ra rcap,v=.l ra row.length rcap/\(row≠[]->∃rb,ra=some (aD rb 0)/\lo<=rb/\rb<w.heap.size/\∀i (h:i<row.length),w.cell? (aD rb i)=some (.s row[i])):=by
 obtain⟨_,⟨h0,h1⟩|⟨g,cp,cur,h0,h1⟩⟩:=id h
 ·have e:=List.length_eq_zero_iff.1 h1
  subst e;exact⟨none,0,by rw[h0];rfl,fun hn=>absurd rfl hn⟩
 ·subst h0
  refine⟨some (aD g 0),cp,rfl,fun _=>⟨g,rfl,(h.lt g rfl).1,(h.lt g rfl).2,fun i hi=>?_⟩⟩;rw[h.cellAt i (by omega)]
  simp[hi]
theorem zk8 (s:Shp)(ms:List Mnd)(o:Ob)(vs:List BA)(n:Nat)(hn:vs.length=n)(p:Nat)(fa ma va ha:OA)(fcap mcap vcap hcap:Nat)(w:World)(hf:yw w fa s.fs)(hm:qQ w ma ms)(hv:zD w va vs)(hc:vs.length=s.fs.length)(hp:p<s.fs.length)(hix:yh s.fs s.fs[p].nm=(p:Int))(hkd:o.kd=s.kd)(hrd:∀x∈yC s ms p,0<=x/\x<s.fs.length) :
 Calls Tryz.prog 207 #[.l fa s.fs.length fcap,.l ma ms.length mcap,.agg #[.s o.kd,.s o.nm,.s o.tm,.l va n vcap,.bool o.en,.l ha o.hs.length hcap,.i o.vr],.s s.fs[p].nm] w fun e w'=>e=.returned (.s (decided s ms p vs))/\Bw w w':=by
 subst hn;exact zlP s ms o vs p fa ma va ha fcap mcap vcap hcap w hf hm hv hc hp hix hkd hrd
theorem zod (a0 ma:OA)(cap0 mcap:Nat)(ss:List Shp)(ms:List Mnd)(o:Ob)(b off b' off' cap cap':Nat)(w:World)(hw:yU w a0 ss)(hm:qQ w ma ms)(ho:qY w o (some (aD b off)) (some (aD b' off')))(hl:o.vs.length<=1048576)(hl':o.hs.length<=1048576)(hok:yj ss ms=true) :
 Calls Tryz.prog 163 #[.l a0 ss.length cap0,.l ma ms.length mcap,.agg (oC o (some (aD b off)) (some (aD b' off')) cap cap')] w (zhB o (zcK ss ms o) w):=by
 have hsl:=hw.len;unfold maxLen at hsl;have HW:=yB hw hm;clear hw hm
 by_cases hc:zq ss o=true
 rotate_left
 ·have HC:Hid (zq ss o=false):=by simpa[Hid] using hc
  have HRES:Hid (zcK ss ms o=o.vs):=by unfold Hid zcK;rw[if_neg (by rw[zbt hok];exact hc)]
  have HH:=hid ho;clear hc ho;go_in;go_wp2_with fail
  refine(zgE o b off b' off' cap cap' _ (HH.o.mono (zo w (.cells (oC o (some (aD b off)) (some (aD b' off')) cap cap') 116) (.cells oZ 116))) hl hl').mono ?_;rintro e w1⟨a,dap,a',dap',m,rfl,ht,hm,hsm,ht',hb1⟩;have HO1:Hid (w1.heap[w.heap.size]?=some (.cells (oC o (some (aD b off)) (some (aD b' off')) cap cap') 116)):=(hb1.block w.heap.size (by simp;omega)).trans (zK _ _ _).1;have HR1:Hid (w1.heap[w.heap.size+1]?=some (.cells oZ 116)):=(hb1.block (w.heap.size+1) (by simp)).trans (zK _ _ _).2;have hX1:∀j,w1.cell? (aD w.heap.size j)=(oC o (some (aD b off)) (some (aD b' off')) cap cap')[j]?:=fun j=>cell_of_block HO1.o
  have hz1:w.heap.size+1<w1.heap.size:=by have:=hb1.size;simp at this;omega
  have hz0:w.heap.size<w1.heap.size:=by omega
  have hB1:Bw w w1:=(zo _ _ _).trans (hb1.mono (by simp;omega))
  have HT:Hid (zk (w.heap.size+1+1) w1 a o.vs/\(∀g,a=some g->g.block<m)/\w.heap.size+1+1<=m/\zk m w1 a' o.hs):=by
   simp only[World.size_alloc]at ht hsm;exact⟨ht,hm,hsm,ht'⟩
  clear ht hm hsm ht' hb1;go_wp2_with fail
  have hbs:=(bRf w1.heap.size w1).alloc (Nat.le_refl _) (.cells (oC o a a' dap dap') 116);have hBs:=hB1.trans (hbs.mono hB1.size);refine(zdz a0 cap0 ss o _ _ cap cap' _ (HW.o.1.mono hBs) (HH.o.mono hBs) HC.o).mono ?_;rintro e w2⟨v,rfl,hb2⟩;have hba:=hbs.trans (hb2.mono hbs.size);have hR2:=(hba.block _ hz1).trans HR1.o;have hU2:∀j,w2.cell? (aD w1.heap.size j)=(oC o a a' dap dap')[j]?:=za (zI w1 _ _) (by simp) hb2;have hRc:∀j,w2.cell? (aD (w.heap.size+1) j)=oZ[j]?:=fun j=>cell_of_block hR2
  have hRf:∀j,w2.frozen? (aD (w.heap.size+1) j)=false:=fun j=>zf hR2
  have HX:=zao (HT.o.1.mono hba) (HT.o.2.2.2.mono hba) (hB1.trans (hba.mono hB1.size));clear hbs hBs hb2 hba hR2 hX1;go_wp2
  refine bodyPost_ret (v:=(.agg (oC o a a' dap dap'))) (by simp[results,Tryz.results163,go_sem,hRc]) rfl ?_;obtain⟨ht,ht',hB⟩:=HX.o;rw[HRES.o];exact⟨a,dap,a',dap',m,rfl,(jF ht _ (by omega) _ _ _ _ _ _ _).low (by omega),HT.o.2.1,by have:=HT.o.2.2.1;omega,jF ht' _ (by have:=HT.o.2.2.1;omega) _ _ _ _ _ _ _,qI hB _ (by omega) _ _ _ _ _ _ _⟩
 have HC:=hid hc;have HRO:=hid (rowOf hok hc);have HRES:Hid (zcK ss ms o=ziz ss ms o):=by unfold Hid zcK;rw[if_pos (by rw[zbt hok];exact hc)]
 have HK:Hid (zF ss o.kd=true):=by unfold zq at hc;simp only[Bool.and_eq_true]at hc;exact hc.1
 have HH:=hid ho;clear hc ho;go_in;go_wp2_with fail
 refine(zgE o b off b' off' cap cap' _ (HH.o.mono (zo w (.cells (oC o (some (aD b off)) (some (aD b' off')) cap cap') 116) (.cells oZ 116))) hl hl').mono ?_;rintro e w1⟨a,dap,a',dap',m,rfl,ht,hm,hsm,ht',hb1⟩;have HO1:Hid (w1.heap[w.heap.size]?=some (.cells (oC o (some (aD b off)) (some (aD b' off')) cap cap') 116)):=(hb1.block w.heap.size (by simp;omega)).trans (zK _ _ _).1;have HR1:Hid (w1.heap[w.heap.size+1]?=some (.cells oZ 116)):=(hb1.block (w.heap.size+1) (by simp)).trans (zK _ _ _).2;have hX1:∀j,w1.cell? (aD w.heap.size j)=(oC o (some (aD b off)) (some (aD b' off')) cap cap')[j]?:=fun j=>cell_of_block HO1.o
 have hz1:w.heap.size+1<w1.heap.size:=by have:=hb1.size;simp at this;omega
 have hz0:w.heap.size<w1.heap.size:=by omega
 have hB1:Bw w w1:=(zo _ _ _).trans (hb1.mono (by simp;omega))
 have HT:Hid (zk (w.heap.size+1+1) w1 a o.vs/\(∀g,a=some g->g.block<m)/\w.heap.size+1+1<=m/\zk m w1 a' o.hs):=by
  simp only[World.size_alloc]at ht hsm;exact⟨ht,hm,hsm,ht'⟩
 clear ht hm hsm ht' hb1;go_wp2_with fail
 have hbs:=(bRf w1.heap.size w1).alloc (Nat.le_refl _) (.cells (oC o a a' dap dap') 116);have hBs:=hB1.trans (hbs.mono hB1.size);refine(zdO a0 cap0 ss o _ _ cap cap' w _ HW.o.1 hBs HC.o).mono ?_;rintro e w2⟨fa,fcap,rfl,hf,hb2⟩;have HFA:=hid hf;have hba:=hbs.trans (hb2.mono hbs.size);have HR2:=hid ((hba.block _ hz1).trans HR1.o);have HO2:=hid ((hba.block _ hz0).trans HO1.o);have HU2:Hid (w2.heap[w1.heap.size]?=some (.cells (oC o a a' dap dap') 116)):=(hb2.block _ (by simp)).trans (alloc_at _ _);have HX2:=zao (HT.o.1.mono hba) (HT.o.2.2.2.mono hba) (hB1.trans (hba.mono hB1.size));have hz2:=(gES HU2.o).1;have hX2:∀j,w2.cell? (aD w.heap.size j)=(oC o (some (aD b off)) (some (aD b' off')) cap cap')[j]?:=fun j=>cell_of_block HO2.o
 have hzo2:w.heap.size<w2.heap.size:=by omega
 clear hbs hBs hb2 hba hX1 hf;go_wp2_with fail
 refine(zbx _ _ _ _ _ (HW.o.1.mono HX2.o.2.2) HK.o).mono ?_;rintro e w3⟨ix,hix,rfl,hsh,rfl⟩;have HSh:=hid hsh;clear hsh;obtain⟨sb,soff,rfl,hsb0,hsr⟩:=HW.o.1.rows (by rintro rfl;simp at hix);obtain⟨fa2,fcap2,hs0⟩:=hsr ix hix;have hs:=hs0.mono hsb0 HX2.o.2.2;have hck:=hs.kind;have hcl:=hs.list;have HF2:=hid hs0.zdE;have hixI:(ix:Int)<(ss.length:Int):=by omega
 have hsbw:=nLt hsb0 HX2.o.2.2.size;clear hsr hs hs0;go_wp2_with fail
 refine(zmS fa2 ma fcap2 mcap ss[ix] ms _ (HF2.o.mono HX2.o.2.2) (HW.o.2.mono HX2.o.2.2) HRO.o.mends (by have:=HRO.o.few;rw[HSh.o]at this;exact this)).mono ?_;rintro e w4⟨v,rfl,hrow,hb4⟩;rw[<- HSh.o,HRO.o.names]at hrow;obtain⟨ra,rcap,rfl,hrw⟩:=zs8 (by rw[List.length_map];rw[List.length_map]at hrow;exact hrow);rw[List.length_map];have HRO2:=HRO.o;have HX4:Hid (zk (w.heap.size+1+1) w4 a o.vs/\zk m w4 a' o.hs/\Bw w w4):=⟨HX2.o.1.mono hb4,HX2.o.2.1.mono hb4,HX2.o.2.2.trans (hb4.mono HX2.o.2.2.size)⟩
 have HR4:Hid (w4.heap[w.heap.size+1]?=some (.cells oZ 116)):=(hb4.block _ (by omega)).trans HR2.o;have HU4:Hid (w4.heap[w1.heap.size]?=some (.cells (oC o a a' dap dap') 116)):=(hb4.block _ hz2).trans HU2.o;have HZ4:Hid (w3.heap.size<=w4.heap.size):=hb4.size;clear hb4 hX2 hck hcl HSh HF2 HRO hixI hrow
 revert HRO2 HFA hrw
 generalize greedy (zl (shapeOf ss o.kd) ms) (shapeOf ss o.kd).fs.length (shapeOf ss o.kd).fs.length=pl
 intro HFA hrw hro;have HRW:Hid (zt1 ss ms o pl):=hro;have HVS:Hid (ziz ss ms o=zY (decided (shapeOf ss o.kd) ms) pl o.vs):=hro.res
 have hpl6:pl.length<=6:=by
  have h1:=zbX pl (List.range (shapeOf ss o.kd).fs.length) hro.zsJ.nodup (fun x hx=>List.mem_range.2 ((hro.zsJ.mem x).1 hx));rw[List.length_range]at h1
  have:=hro.few
  omega
 clear hro;go_wp2
 go_loopw [11] (fun i wr=>∃k:Nat,k<=pl.length/\i=.i k/\zk (w.heap.size+1+1) wr a (zY (decided (shapeOf ss o.kd) ms) (pl.take k) o.vs)/\zk m wr a' o.hs/\wr.heap[w.heap.size+1]?=some (.cells oZ 116)/\wr.heap[w1.heap.size]?=some (.cells (oC o a a' dap dap') 116)/\Bw w wr/\w3.heap.size<=wr.heap.size/\(pl.map (za9 (shapeOf ss o.kd))≠[]->∃rb,ra=some (aD rb 0)/\w3.heap.size<=rb/\rb<wr.heap.size/\∀i (h:i<(pl.map (za9 (shapeOf ss o.kd))).length),wr.cell? (aD rb i)=some (.s (pl.map (za9 (shapeOf ss o.kd)))[i]))) (fun i _=>pl.length-(intOf i).toNat)
 case atStart=>exact⟨0,Nat.zero_le _,rfl,HX4.o.1,HX4.o.2.1,HR4.o,HU4.o,HX4.o.2.2,HZ4.o,hrw⟩
 case round=>
  obtain⟨k,hk,rfl,ht,ht',hR,hO,hB,hz3,hrr⟩:=hrel
  by_cases hlt:k<pl.length
  ·obtain⟨rb,rfl,hrb0,hrbz,hrc⟩:=hrr (by intro h;have:=congrArg List.length h;simp at this;rw[this]at hlt;simp at hlt)
   have hpn:pl[k]<(shapeOf ss o.kd).fs.length:=(HRW.o.zsJ.mem _).1 (List.getElem_mem hlt);have hck:=hrc k (by rw[List.length_map];exact hlt);rw[List.getElem_map]at hck;have hnm:za9 (shapeOf ss o.kd) pl[k]=(shapeOf ss o.kd).fs[pl[k]].nm:=by unfold za9;rw[getD_at _ _ _ hpn]
   rw[hnm]at hck;have HTS:Hid (zY (decided (shapeOf ss o.kd) ms) (pl.take (k+1)) o.vs=(zY (decided (shapeOf ss o.kd) ms) (pl.take k) o.vs).set pl[k] (decided (shapeOf ss o.kd) ms pl[k] (zY (decided (shapeOf ss o.kd) ms) (pl.take k) o.vs))):=znO _ pl o.vs k hlt;have HUS:Hid (∀x∈zY (decided (shapeOf ss o.kd) ms) (pl.take k) o.vs,x.size<=maxLen):=zch HW.o.2.small _ _ HH.o.vals.small;have HLV:Hid ((zY (decided (shapeOf ss o.kd) ms) (pl.take k) o.vs).length=o.vs.length):=jH _ _ _;have HRR:Hid (∀i (h:i<(pl.map (za9 (shapeOf ss o.kd))).length),wr.cell? (aD rb i)=some (.s (pl.map (za9 (shapeOf ss o.kd)))[i])):=hrc;clear hrr hrc hnm
   revert hck HTS hpn
   generalize pl[k]=p
   intro hpn hck HTS
   revert HTS HLV HUS ht
   generalize zY (decided (shapeOf ss o.kd) ms) (pl.take k) o.vs=us
   intro ht HUS HLV HTS;have hltI:(k:Int)<(pl.length:Int):=by omega
   have hpv:p<us.length:=by rw[HLV.o,HRW.o.len];exact hpn
   have hpI:(p:Int)<(o.vs.length:Int):=by have:=HRW.o.len;omega
   obtain⟨g,C,hga,hgl,hgh,hgc⟩:∃g C,a=some (aD g 0)/\w.heap.size+1+1<=g/\wr.heap[g]?=some (.cells C 9)/\∀i (h:i<us.length),C[i]?=some (.s us[i]):=by
    rcases ht with⟨_,h0⟩|h0
    ·rw[h0]at hpv;simp at hpv
    ·exact h0
   have hgm:g<m:=HT.o.2.1 _ hga;have hgw1:g<w1.heap.size:=HT.o.1.lt _ hga;have hgw:g<wr.heap.size:=by omega
   subst hga;have hUS:zD wr (some (aD g 0)) us:=ht.at (by rw[HLV.o];exact HH.o.vals.len) HUS.o;have HJP:Hid (yh (shapeOf ss o.kd).fs (shapeOf ss o.kd).fs[p].nm=(p:Int)):=HRW.o.place p hpn;have hOc:∀j,wr.cell? (aD w1.heap.size j)=(oC o (some (aD g 0)) a' dap dap')[j]?:=fun j=>cell_of_block hO
   have hOz:w1.heap.size<wr.heap.size:=(gES hO).1;have hRk:(k:Int)<((pl.map (za9 (shapeOf ss o.kd))).length:Int):=by rw[List.length_map];exact hltI
   have hkr:wr.cell? (aD rb (0+k))=some (.s (shapeOf ss o.kd).fs[p].nm):=by rw[Nat.zero_add];exact hck
   have HX:Hid (zk (w.heap.size+1+1) wr (some (aD g 0)) us/\zk m wr a' o.hs/\wr.heap[w.heap.size+1]?=some (.cells oZ 116)/\wr.heap[w1.heap.size]?=some (.cells (oC o (some (aD g 0)) a' dap dap') 116)/\Bw w wr/\w3.heap.size<=wr.heap.size):=⟨ht,ht',hR,hO,hB,hz3⟩
   clear ht ht' hR hO hB hz3 hgh hgc;go_wp2_with fail
   have hb:=(bRf wr.heap.size wr).drew;have hS1:∀j,wr.drew.cell? (aD w1.heap.size j)=(oC o (some (aD g 0)) a' dap dap')[j]?:=hOc;have hS2:wr.drew.cell? (aD rb k)=some (.s (shapeOf ss o.kd).fs[p].nm):=hck;have hrg:rb≠g:=by omega
   have how:w1.heap.size≠g:=by omega
   clear hOc hck hkr
   go_region_held3 (fun w'=>(∀j,w'.cell? (aD w1.heap.size j)=(oC o (some (aD g 0)) a' dap dap')[j]?)/\w'.cell? (aD rb k)=some (.s (shapeOf ss o.kd).fs[p].nm)) (first|exact⟨hS1,hS2⟩|exact⟨hS3,hS4⟩) (first
    | (go_at_call 204;refine(znT HJP.o (zaY _ _ (shapeOf ss o.kd).fs _ _ (by exact HFA.o.mono (HX.o.2.2.2.2.1.trans (hb.mono HX.o.2.2.2.2.1.size))))).mono ?_;rintro e w5⟨rfl,rfl⟩)
    | (go_at_call 207;refine(zk8 (shapeOf ss o.kd) ms o us _ HLV.o p _ _ _ _ _ _ _ _ _ (by exact HFA.o.mono (HX.o.2.2.2.2.1.trans (hb.mono HX.o.2.2.2.2.1.size))) (by exact HW.o.2.mono (HX.o.2.2.2.2.1.trans (hb.mono HX.o.2.2.2.2.1.size))) (by exact hUS.mono hb) (by rw[HLV.o];exact HRW.o.len) hpn HJP.o HRW.o.kd.symm (HRW.o.reads p hpn)).mono ?_;rintro e w6⟨rfl,hb6⟩;have hb:=hb.trans (hb6.mono hb.size);have hS1:=za hS1 hOz hb6;have hS2:=(hb6.cell (p:=(aD rb k)) hrbz).trans hS2;have hU6:=hUS.mono hb;have hG:=HX.o.1.mono hb;clear hb6;have hS3:∀j,(w6.setCell (aD g p) (.s (decided (shapeOf ss o.kd) ms p us))).cell? (aD w1.heap.size j)=(oC o (some (aD g 0)) a' dap dap')[j]?:=fun j=>(yu how).trans (hS1 j);have hS4:(w6.setCell (aD g p) (.s (decided (shapeOf ss o.kd) ms p us))).cell? (aD rb k)=some (.s (shapeOf ss o.kd).fs[p].nm):=(yu hrg).trans hS2;have hgc6:w6.cell? (aD g p)=some (.s us[p]):=ztK hG p hpv;have hgf6:w6.frozen? (aD g p)=false:=ztv hG hpv))
   go_wp2_with fail
   obtain⟨ht,ht',hR,hO,hB,hz3⟩:=HX.o;exact⟨⟨k+1,by omega,by go_num,by rw[HTS.o];exact(ht.mono hb).set p _,(ht'.mono hb).setCell _ hgm _,(Below.heap_setCell _ _ _ _ (by show w.heap.size+1≠g;omega)).trans ((hb.block _ (by omega)).trans hR),(Below.heap_setCell _ _ _ _ (by show w1.heap.size≠g;omega)).trans ((hb.block _ hOz).trans hO),(hB.trans (hb.mono hB.size)).setCell (p:=(aD g p)) (by show w.heap.size<=g;omega) _,by rw[World.size_setCell];exact Nat.le_trans hz3 hb.size,fun _=>⟨rb,rfl,hrb0,by rw[World.size_setCell];exact nLt hrbz hb.size,fun i hi=>(yu hrg).trans ((hb.cell (p:=(aD rb i)) hrbz).trans (HRR.o i hi))⟩⟩,zi hlt⟩
  ·have e:k=pl.length:=by omega
   subst e;rw[tOl (Nat.le_refl _),<- HVS.o]at ht;have hRc:∀j,wr.cell? (aD (w.heap.size+1) j)=oZ[j]?:=fun j=>cell_of_block hR
   have hRf:∀j,wr.frozen? (aD (w.heap.size+1) j)=false:=fun j=>zf hR
   have hOc:∀j,wr.cell? (aD w1.heap.size j)=(oC o a a' dap dap')[j]?:=fun j=>cell_of_block hO
   have hOz:=(gES hO).1;have HX:=zao ht ht' hB;clear ht ht' hB hR hO hrr;go_wp2
   refine bodyPost_ret (v:=(.agg (oC o a a' dap dap'))) (by simp[results,Tryz.results163,go_sem,hRc]) rfl ?_;obtain⟨ht,ht',hB⟩:=HX.o;rw[HRES.o];exact⟨a,dap,a',dap',m,rfl,(jF ht _ (by omega) _ _ _ _ _ _ _).low (by omega),HT.o.2.1,by have:=HT.o.2.2.1;omega,jF ht' _ (by have:=HT.o.2.2.1;omega) _ _ _ _ _ _ _,qI hB _ (by omega) _ _ _ _ _ _ _⟩
def zrT (o:Ob)(vs:List BA)(w:World)(e:Ending)(w':World):Prop:=
 ∃a dap a' dap' m,e=.returned (.agg (oC o a a' dap dap'))/\zk w.heap.size w' a vs/\(∀g,a=some g->g.block<m)/\w.heap.size<=m/\zk m w' a' o.hs/\Bw w w'/\(∃g,a=some (aD g 0))/\∃g,a'=some (aD g 0)
theorem zi1 (o:Ob)(b off b' off' cap cap':Nat)(w:World)(ho:qY w o (some (aD b off)) (some (aD b' off')))(hl:o.vs.length<=1048576)(hl':o.hs.length<=1048576) :
 Calls Tryz.prog 72 #[.agg (oC o (some (aD b off)) (some (aD b' off')) cap cap')] w
  fun e w'=>∃a dap a' dap' m,e=.returned (.agg (oC o a a' dap dap'))/\zk w.heap.size w' a o.vs/\(∀g,a=some g->g.block<m)/\w.heap.size<=m/\zk m w' a' o.hs/\Bw w w'/\(∃g,a=some (aD g 0))/\∃g,a'=some (aD g 0):=
 zgB o _ _ cap cap' w ho hl hl'
theorem zpR (a0:OA)(cap0:Nat)(ss:List Shp)(o:Ob)(b off b' off' cap cap':Nat)(w:World)(hw:yU w a0 ss)(ho:qY w o (some (aD b off)) (some (aD b' off')))(hl:o.vs.length<=1048576)(hl':o.hs.length<=1048576) :
 Calls Tryz.prog 164 #[.l a0 ss.length cap0,.agg (oC o (some (aD b off)) (some (aD b' off')) cap cap')] w (zrT o (qC ss o) w):=by
 by_cases hc:zq ss o=true
 rotate_left
 ·have HC:Hid (zq ss o=false):=by simpa[Hid] using hc
  have HRES:Hid (qC ss o=o.vs):=by unfold Hid qC;rw[if_neg hc]
  clear hc;have HH:Hid (qY w o (some (aD b off)) (some (aD b' off'))):=ho;clear ho;go_in;go_wp2_with fail
  refine(zi1 o b off b' off' cap cap' _ (HH.o.mono (zo w (.cells (oC o (some (aD b off)) (some (aD b' off')) cap cap') 116) (.cells oZ 116))) hl hl').mono ?_;rintro e w1⟨a,dap,a',dap',m,rfl,ht,hm,hsm,ht',hb1,hsA,hsA'⟩;have HO1:Hid (w1.heap[w.heap.size]?=some (.cells (oC o (some (aD b off)) (some (aD b' off')) cap cap') 116)):=(hb1.block w.heap.size (by simp;omega)).trans (zK _ _ _).1;have HR1:Hid (w1.heap[w.heap.size+1]?=some (.cells oZ 116)):=(hb1.block (w.heap.size+1) (by simp)).trans (zK _ _ _).2;have hX1:∀j,w1.cell? (aD w.heap.size j)=(oC o (some (aD b off)) (some (aD b' off')) cap cap')[j]?:=fun j=>cell_of_block HO1.o
  have hz1:w.heap.size+1<w1.heap.size:=by have:=hb1.size;simp at this;omega
  have hz0:w.heap.size<w1.heap.size:=by omega
  have hB1:Bw w w1:=(zo _ _ _).trans (hb1.mono (by simp;omega))
  have HT:Hid (zk (w.heap.size+1+1) w1 a o.vs/\(∀g,a=some g->g.block<m)/\w.heap.size+1+1<=m/\zk m w1 a' o.hs):=by
   simp only[World.size_alloc]at ht hsm;exact⟨ht,hm,hsm,ht'⟩
  clear ht hm hsm ht' hb1;go_wp2_with fail
  have hbs:=(bRf w1.heap.size w1).alloc (Nat.le_refl _) (.cells (oC o a a' dap dap') 116);have hBs:=hB1.trans (hbs.mono hB1.size);refine(zdz a0 cap0 ss o _ _ cap cap' _ (hw.mono hBs) (HH.o.mono hBs) HC.o).mono ?_;rintro e w2⟨v,rfl,hb2⟩;have hba:=hbs.trans (hb2.mono hbs.size);have hR2:=(hba.block _ hz1).trans HR1.o;have hU2:∀j,w2.cell? (aD w1.heap.size j)=(oC o a a' dap dap')[j]?:=za (zI w1 _ _) (by simp) hb2;have hRc:∀j,w2.cell? (aD (w.heap.size+1) j)=oZ[j]?:=fun j=>cell_of_block hR2
  have hRf:∀j,w2.frozen? (aD (w.heap.size+1) j)=false:=fun j=>zf hR2
  have HX:Hid (zk (w.heap.size+1+1) w2 a o.vs/\zk m w2 a' o.hs/\Bw w w2):=⟨HT.o.1.mono hba,HT.o.2.2.2.mono hba,hB1.trans (hba.mono hB1.size)⟩
  clear hbs hBs hb2 hba hR2 hX1;go_wp2
  refine bodyPost_ret (v:=(.agg (oC o a a' dap dap'))) (by simp[results,Tryz.results164,go_sem,hRc]) rfl ?_;obtain⟨ht,ht',hB⟩:=HX.o;rw[HRES.o];exact⟨a,dap,a',dap',m,rfl,(jF ht _ (by omega) _ _ _ _ _ _ _).low (by omega),HT.o.2.1,by have:=HT.o.2.2.1;omega,jF ht' _ (by have:=HT.o.2.2.1;omega) _ _ _ _ _ _ _,qI hB _ (by omega) _ _ _ _ _ _ _,hsA,hsA'⟩
 have HC:Hid (zq ss o=true):=hc;have HRES:Hid (qC ss o=zal (shapeOf ss o.kd).fs o.vs):=by unfold Hid qC;rw[if_pos hc]
 have HCC:Hid (o.vs.length=(shapeOf ss o.kd).fs.length):=by unfold zq at hc;simp only[Bool.and_eq_true,decide_eq_true_eq]at hc;exact hc.2
 clear hc;have HH:Hid (qY w o (some (aD b off)) (some (aD b' off'))):=ho;clear ho;go_in;go_wp2_with fail
 refine(zi1 o b off b' off' cap cap' _ (HH.o.mono (zo w (.cells (oC o (some (aD b off)) (some (aD b' off')) cap cap') 116) (.cells oZ 116))) hl hl').mono ?_;rintro e w1⟨a,dap,a',dap',m,rfl,ht,hm,hsm,ht',hb1,hsA,hsA'⟩;have HO1:Hid (w1.heap[w.heap.size]?=some (.cells (oC o (some (aD b off)) (some (aD b' off')) cap cap') 116)):=(hb1.block w.heap.size (by simp;omega)).trans (zK _ _ _).1;have HR1:Hid (w1.heap[w.heap.size+1]?=some (.cells oZ 116)):=(hb1.block (w.heap.size+1) (by simp)).trans (zK _ _ _).2;have hX1:∀j,w1.cell? (aD w.heap.size j)=(oC o (some (aD b off)) (some (aD b' off')) cap cap')[j]?:=fun j=>cell_of_block HO1.o
 have hz1:w.heap.size+1<w1.heap.size:=by have:=hb1.size;simp at this;omega
 have hz0:w.heap.size<w1.heap.size:=by omega
 have hB1:Bw w w1:=(zo _ _ _).trans (hb1.mono (by simp;omega))
 have HT:Hid (zk (w.heap.size+1+1) w1 a o.vs/\(∀g,a=some g->g.block<m)/\w.heap.size+1+1<=m/\zk m w1 a' o.hs):=by
  simp only[World.size_alloc]at ht hsm;exact⟨ht,hm,hsm,ht'⟩
 clear ht hm hsm ht' hb1;go_wp2_with fail
 have hbs:=(bRf w1.heap.size w1).alloc (Nat.le_refl _) (.cells (oC o a a' dap dap') 116);have hBs:=hB1.trans (hbs.mono hB1.size);refine(zdO a0 cap0 ss o _ _ cap cap' w _ hw hBs HC.o).mono ?_;rintro e w2⟨fa,fcap,rfl,hf,hb2⟩;have hba:=hbs.trans (hb2.mono hbs.size);have HR2:Hid (w2.heap[w.heap.size+1]?=some (.cells oZ 116)):=(hba.block _ hz1).trans HR1.o;have HU2:Hid (w2.heap[w1.heap.size]?=some (.cells (oC o a a' dap dap') 116)):=(hb2.block _ (by simp)).trans (alloc_at _ _);have HX2:Hid (zk (w.heap.size+1+1) w2 a o.vs/\zk m w2 a' o.hs/\Bw w w2):=⟨HT.o.1.mono hba,HT.o.2.2.2.mono hba,hB1.trans (hba.mono hB1.size)⟩
 have hz2:w1.heap.size<w2.heap.size:=(gES HU2.o).1;clear hbs hBs hb2 hba hX1 hw;have hlen:=hf.len;unfold maxLen at hlen
 revert HRES HCC hf hlen
 generalize (shapeOf ss o.kd).fs=fs
 intro HRES HCC hf hlen;go_wp2
 go_loopw [8] (fun i wr=>∃k:Nat,k<=fs.length/\i=.i k/\zk (w.heap.size+1+1) wr a (je fs o.vs k)/\zk m wr a' o.hs/\wr.heap[w.heap.size+1]?=some (.cells oZ 116)/\wr.heap[w1.heap.size]?=some (.cells (oC o a a' dap dap') 116)/\Bw w wr) (fun i _=>fs.length-(intOf i).toNat)
 case atStart=>exact⟨0,Nat.zero_le _,rfl,by rw[zi4];exact HX2.o.1,HX2.o.2.1,HR2.o,HU2.o,HX2.o.2.2⟩
 case round=>
  obtain⟨k,hk,rfl,ht,ht',hR,hO,hB⟩:=hrel;have hOc:∀j,wr.cell? (aD w1.heap.size j)=(oC o a a' dap dap')[j]?:=fun j=>cell_of_block hO
  have hOz:w1.heap.size<wr.heap.size:=(gES hO).1
  by_cases hlt:k<fs.length
  ·have hltv:k<o.vs.length:=by rw[HCC.o];exact hlt
   obtain⟨fb,foff,rfl,hfb,hr⟩:=hf.rows (by rintro rfl;simp at hlt);obtain⟨wa,wcap,hf0⟩:=hr k hlt;have hf1:=hf0.mono hfb hB;obtain⟨c0,c1,c2,c3,c4,c5,c6,c7,c8,c9,c10⟩:=hf1.load;have hltI:(k:Int)<(fs.length:Int):=by omega
   have hltV:(k:Int)<(o.vs.length:Int):=by omega
   obtain⟨g,C,hga,hgl,hgh,hgc⟩:∃g C,a=some (aD g 0)/\w.heap.size+1+1<=g/\wr.heap[g]?=some (.cells C 9)/\∀i (h:i<(je fs o.vs k).length),C[i]?=some (.s (je fs o.vs k)[i]):=by
    rcases ht with⟨_,h0⟩|h0
    ·have:=zaF HCC.o k;rw[h0]at this;simp at this;omega
    ·exact h0
   have hgm:g<m:=HT.o.2.1 _ hga;have hgw1:g<w1.heap.size:=HT.o.1.lt _ hga;have hgw:g<wr.heap.size:=by omega
   subst hga
   have hcell:wr.cell? (aD g k)=some (.s o.vs[k]):=by
    have h1:=zfT HCC.o k hlt;have hkl:k<(je fs o.vs k).length:=by rw[zaF HCC.o];exact hltv
    rw[List.getElem?_eq_getElem hkl,List.getElem?_eq_getElem hltv]at h1;rw[cell_of_block hgh,hgc k hkl,Option.some.inj h1]
   have hgf:wr.frozen? (aD g k)=false:=zf hgh;have HX:Hid (zk (w.heap.size+1+1) wr (some (aD g 0)) (je fs o.vs k)/\zk m wr a' o.hs/\wr.heap[w.heap.size+1]?=some (.cells oZ 116)/\wr.heap[w1.heap.size]?=some (.cells (oC o (some (aD g 0)) a' dap dap') 116)/\Bw w wr):=⟨ht,ht',hR,hO,hB⟩
   clear ht ht' hR hO hB hr hf0 hf1 hgh hgc hf
   by_cases hv:o.vs[k].toList.isEmpty=true
   ·have HV:Hid (zax fs[k] o.vs[k]=fs[k].df):=by unfold Hid zax;rw[if_pos hv]
    go_wp2_with fail
    have hfg:fb≠g:=by omega
    have hq1:(wr.setCell (aD g k) (.s fs[k].df)).drew.cell? (aD w1.heap.size 3)=some (.l (some (aD g 0)) o.vs.length dap):=(yu (by show w1.heap.size≠g;omega)).trans (hOc 3);have hq2:(wr.setCell (aD g k) (.s fs[k].df)).drew.cell? (aD fb (foff+k*11+9))=some (.s fs[k].df):=(yu hfg).trans c9;have hgd:wr.drew.frozen? (aD g k)=false:=hgf;have hcd:wr.drew.cell? (aD g k)=some (.s o.vs[k]):=hcell
    go_region_held3 (fun w'=>w'.cell? (aD w1.heap.size 3)=some (.l (some (aD g 0)) o.vs.length dap)/\w'.cell? (aD fb (foff+k*11+9))=some (.s fs[k].df)) (first|exact⟨hOc 3,c9⟩|exact⟨hq1,hq2⟩) (fail)
    go_wp2_with fail
    obtain⟨ht,ht',hR,hO,hB⟩:=HX.o;exact⟨⟨k+1,by omega,by go_num,by rw[zdy HCC.o k hlt,HV.o];exact ht.set k _,ht'.setCell _ hgm _,(Below.heap_setCell _ _ _ _ (by show w.heap.size+1≠g;omega)).trans hR,(Below.heap_setCell _ _ _ _ (by show w1.heap.size≠g;omega)).trans hO,(hB.setCell (p:=(aD g k)) (by show w.heap.size<=g;omega) _).drew⟩,zi hlt⟩
   ·have HV:Hid (zax fs[k] o.vs[k]=o.vs[k]):=by unfold Hid zax;rw[if_neg hv]
    go_wp2_with fail
    obtain⟨ht,ht',hR,hO,hB⟩:=HX.o
    have hsame:(je fs o.vs k).set k o.vs[k]=je fs o.vs k:=by
     have h1:=zfT HCC.o k hlt;have hkl:k<(je fs o.vs k).length:=by rw[zaF HCC.o];exact hltv
     rw[List.getElem?_eq_getElem hkl,List.getElem?_eq_getElem hltv]at h1;rw[<- Option.some.inj h1,List.set_getElem_self]
    exact⟨⟨k+1,by omega,by go_num,by rw[zdy HCC.o k hlt,HV.o,hsame];exact ht,ht',hR,hO,hB⟩,zi hlt⟩
  ·have e:k=fs.length:=by omega
   subst e;rw[zkD HCC.o]at ht;have hRc:∀j,wr.cell? (aD (w.heap.size+1) j)=oZ[j]?:=fun j=>cell_of_block hR
   have hRf:∀j,wr.frozen? (aD (w.heap.size+1) j)=false:=fun j=>zf hR
   have HX:Hid (zk (w.heap.size+1+1) wr a (zal fs o.vs)/\zk m wr a' o.hs/\Bw w wr):=⟨ht,ht',hB⟩
   clear ht ht' hB hR hO hf;go_wp2
   refine bodyPost_ret (v:=(.agg (oC o a a' dap dap'))) (by simp[results,Tryz.results164,go_sem,hRc]) rfl ?_;obtain⟨ht,ht',hB⟩:=HX.o;rw[HRES.o];exact⟨a,dap,a',dap',m,rfl,(jF ht _ (by omega) _ _ _ _ _ _ _).low (by omega),HT.o.2.1,by have:=HT.o.2.2.1;omega,jF ht' _ (by have:=HT.o.2.2.1;omega) _ _ _ _ _ _ _,qI hB _ (by omega) _ _ _ _ _ _ _,hsA,hsA'⟩
theorem zb8 (ss:List Shp)(o:Ob):(qC ss o).length=o.vs.length:=by
 unfold qC
 split
 ·rename_i h;unfold zq at h;simp only[Bool.and_eq_true,decide_eq_true_eq]at h;exact qL h.2
 ·rfl
theorem zfL (h:yj ss ms=true):zQ ss=true:=by
 unfold yj at h;simp only[Bool.and_eq_true]at h;exact h.1.1.2
theorem zpL (h:yj ss ms=true):zb5 ss ms o=zcK ss ms ⟨o.kd,o.nm,o.tm,qC ss o,o.en,o.hs,o.vr⟩:=by
 have e:qJ ss ms ⟨o.kd,o.nm,o.tm,qC ss o,o.en,o.hs,o.vr⟩=qJ ss ms o:=by
  unfold qJ;simp only[zb8]
 unfold zb5 zcK;rw[e]
 by_cases hm:qJ ss ms o=true
 ·rw[if_pos hm,if_pos hm]
  have hc:zq ss o=true:=by rw[<- zbt h];exact hm
  unfold zhD qC;rw[if_pos hc]
 ·rw[if_neg hm,if_neg hm]
  have hc:¬zq ss o=true:=by rw[<- zbt h];exact hm
  show o.vs=qC ss o
  unfold qC;rw[if_neg hc]
theorem zoN (a0 ma:OA)(cap0 mcap:Nat)(ss:List Shp)(ms:List Mnd)(o:Ob)(us:List BA)(hus:us.length=o.vs.length)(b off b' off' cap cap':Nat)(w:World)(hw:yU w a0 ss)(hm:qQ w ma ms)(hsm:o.Small)(ho:zD w (some (aD b off)) us)(ho':zD w (some (aD b' off')) o.hs)(hl:o.vs.length<=1048576)(hl':o.hs.length<=1048576)(hok:yj ss ms=true) :
 Calls Tryz.prog 163 #[.l a0 ss.length cap0,.l ma ms.length mcap,.agg (oC o (some (aD b off)) (some (aD b' off')) cap cap')] w (zhB o (zcK ss ms ⟨o.kd,o.nm,o.tm,us,o.en,o.hs,o.vr⟩) w):=by
 have h:=zod a0 ma cap0 mcap ss ms ⟨o.kd,o.nm,o.tm,us,o.en,o.hs,o.vr⟩ b off b' off' cap cap' w hw hm ⟨⟨hsm.kd,hsm.nm,hsm.tm⟩,ho,ho'⟩ (by show us.length<=_;omega) hl' hok;unfold zhB at h ⊢;simp only[oC,hus]at h;exact h
theorem znz (a0 ma:OA)(cap0 mcap:Nat)(ss:List Shp)(ms:List Mnd)(o:Ob)(b off b' off' cap cap':Nat)(w:World)(hw:yU w a0 ss)(hmm:qQ w ma ms)(ho:qY w o (some (aD b off)) (some (aD b' off')))(hl:o.vs.length<=1048576)(hl':o.hs.length<=1048576)(hok:yj ss ms=true) :
 Calls Tryz.prog 119 #[.l a0 ss.length cap0,.l ma ms.length mcap,.agg (oC o (some (aD b off)) (some (aD b' off')) cap cap')] w (zhB o (zb5 ss ms o) w):=by
 have HRES:Hid (zb5 ss ms o=zcK ss ms ⟨o.kd,o.nm,o.tm,qC ss o,o.en,o.hs,o.vr⟩):=zpL hok;have HSM:Hid ((qC ss o).length<=maxLen/\∀s∈qC ss o,s.size<=maxLen):=⟨by rw[zb8];exact ho.vals.len,by rw[<- zq4 (zfL hok)];exact zqZ hw.smalls ho.vals.small⟩
 have HH:=zao hw hmm ho;clear hw hmm ho;have hb2:=zo w (.cells (oC o (some (aD b off)) (some (aD b' off')) cap cap') 116) (.cells oZ 116);go_in;go_wp2_with fail
 refine(zpR a0 cap0 ss o b off b' off' cap cap' _ (HH.o.1.mono hb2) (HH.o.2.2.mono hb2) hl hl').mono ?_;rintro e w1⟨a1,dap1,a1',dap1',m1,rfl,ht1,hm1,hsm1,ht1',hb1,⟨g,rfl⟩,⟨g',rfl⟩⟩;have HR1:Hid (w1.heap[w.heap.size+1]?=some (.cells oZ 116)):=(hb1.block (w.heap.size+1) (by simp)).trans (zK _ _ _).2;have hz1:w.heap.size+1<w1.heap.size:=by have:=hb1.size;simp at this;omega
 have hB1:Bw w w1:=hb2.trans (hb1.mono (by simp;omega));have hv1:=ht1.at HSM.o.1 HSM.o.2;have hv1':=ht1'.at HH.o.2.2.holds.len HH.o.2.2.holds.small;clear hb1 hb2 ht1 hm1 hsm1 ht1';go_wp2_with fail
 refine(zoN a0 ma cap0 mcap ss ms o (qC ss o) (zb8 ss o) g 0 g' 0 _ _ _ (HH.o.1.mono hB1) (HH.o.2.1.mono hB1) HH.o.2.2.small hv1 hv1' hl hl' hok).mono ?_;rintro e w4⟨a,dap,a',dap',m,rfl,ht,hm,hsm,ht',hb4⟩;have hR4:=(hb4.block (w.heap.size+1) hz1).trans HR1.o;have hRc:∀j,w4.cell? (aD (w.heap.size+1) j)=oZ[j]?:=fun j=>cell_of_block hR4
 have hRf:∀j,w4.frozen? (aD (w.heap.size+1) j)=false:=fun j=>zf hR4
 have HX:Hid (zk (w.heap.size+1+1) w4 a (zb5 ss ms o)/\(∀g,a=some g->g.block<m)/\w.heap.size+1+1<=m/\zk m w4 a' o.hs/\Bw w w4):=by rw[HRES.o];exact⟨ht.low hz1,hm,Nat.le_trans hz1 hsm,ht',hB1.trans (hb4.mono hB1.size)⟩
 clear ht hm hsm ht' hb4 hR4;go_wp2
 refine bodyPost_ret (v:=(.agg (oC o a a' dap dap'))) (by simp[results,Tryz.results119,go_sem,hRc]) rfl ?_;obtain⟨ht,hm,hsm,ht',hB⟩:=HX.o;exact⟨a,dap,a',dap',m,rfl,(jF ht _ (by omega) _ _ _ _ _ _ _).low (by omega),hm,by omega,jF ht' _ (by omega) _ _ _ _ _ _ _,qI hB _ (by omega) _ _ _ _ _ _ _⟩
end Go.Proofs.YtjnpjkigofldlaaGreat
