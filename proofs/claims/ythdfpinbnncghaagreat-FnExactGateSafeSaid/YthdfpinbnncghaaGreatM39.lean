import Derived.Test.YthdfpinbnncghaaGreatM36
import Derived.Test.YthdfpinbnncghaaGreatM38
set_option maxHeartbeats 8000000
namespace Go.Proofs.YthdfpinbnncghaaGreat
open Go.RowKit
structure Wd where
 b:Bk
 ds:List Dor
def Wd.cells (x:Wd)(a0 a1 a2 a3 a4:OA)(c0 c1 c2 c3 c4:Nat):AV:=#[.i x.b.now,.i x.b.tick,.i x.b.given,.l a0 x.b.os.length c0,.l a1 x.b.gs.length c1,.l a2 x.b.ls.length c2,.l a3 x.b.ps.length c3,.l a4 x.ds.length c4]
structure zgc (H:Prop)(w:World)(x:Wd)(a0 a1 a2 a3 a4:OA):Prop where
 b:jU w x.b a0 a1 a2 a3
 ds:zay H w a4 x.ds
 has:H->zcJ w a0 x.b.os
theorem zgc.mono {H:Prop}{w w':World}{x:Wd}{a0 a1 a2 a3 a4:OA}(h:zgc H w x a0 a1 a2 a3 a4)(hl:Bw w w'):zgc H w' x a0 a1 a2 a3 a4:=⟨h.b.mono hl,h.ds.mono hl,fun y=>(h.has y).mono hl⟩
def Wd.sz (x:Wd):Nat:=x.b.sz+zbw x.ds
structure Wd.Few (x:Wd):Prop where
 b:x.b.Few
 z:qR x.b.os<=1048576
 ds:x.ds.length<=1048576/\∀i (h:i<x.ds.length),x.ds[i].Few
theorem Wd.few {x:Wd}(h:(x.sz:Int)<=1048576):x.Few:=by
 unfold Wd.sz at h;refine⟨Bk.few (by omega),?_,zrg (left:=1048576) (by omega) (by omega)⟩;unfold Bk.sz at h;omega
theorem zi5 (H:Prop)(x:Wd)(a0 a1 a2 a3 a4:OA)(c0 c1 c2 c3 c4:Nat)(left:Int)(w:World)(ho:zgc H w x a0 a1 a2 a3 a4)(h0:0<=left)(h1:left<=1048576) :
 Calls Tryz.prog 6 #[.agg (x.cells a0 a1 a2 a3 a4 c0 c1 c2 c3 c4),.i left] w fun e w'=>e=.returned (.i (zD x.sz left))/\Bw w w':=by
 have HX:=hid ho;clear ho;unfold Wd.cells;go_enter Tryz.func6,Tryz.ntmps6;go_wp2_with fail
 have hX0:=zn w #[.i x.b.now,.i x.b.tick,.i x.b.given,.l a0 x.b.os.length c0,.l a1 x.b.gs.length c1,.l a2 x.b.ls.length c2,.l a3 x.b.ps.length c3,.l a4 x.ds.length c4] 35;have hB0:Bw w (w.alloc (.cells #[.i x.b.now,.i x.b.tick,.i x.b.given,.l a0 x.b.os.length c0,.l a1 x.b.gs.length c1,.l a2 x.b.ls.length c2,.l a3 x.b.ps.length c3,.l a4 x.ds.length c4] 35)):=bAl _ _;obtain⟨W0,hW0⟩:=xN (w.alloc (.cells #[.i x.b.now,.i x.b.tick,.i x.b.given,.l a0 x.b.os.length c0,.l a1 x.b.gs.length c1,.l a2 x.b.ls.length c2,.l a3 x.b.ps.length c3,.l a4 x.ds.length c4] 35));have hz0:w.heap.size<W0.heap.size:=by rw[hW0];simp
 rw[<- hW0]at hB0 hX0 ⊢;clear hW0;refine(zc1 x.b _ _ _ _ _ _ _ _ _ _ (HX.o.b.mono hB0) (by omega) (by omega)).mono ?_;rintro e w1⟨rfl,hb⟩;have hX1:=za hX0 hz0 hb;have hz1:=nLt hz0 hb.size;have hB1:=hB0.trans (hb.mono hB0.size);clear hb hX0 hz0 hB0
 by_cases p2:(x.b.sz:Int)<=left
 rotate_left
 ·have HF:Hid (zD x.sz left=-1):=zq (by unfold Wd.sz;omega)
  rw[zq (by omega)];go_wp2_with fail
  go_ret;exact⟨zk HF.o.symm,hB1⟩
 rw[zF p2];go_wp2_with fail
 refine(zjs H _ _ x.ds _ _ (HX.o.ds.mono hB1) (by omega) (by omega)).mono ?_;rintro e w2⟨rfl,hb⟩;have hB2:=hB1.trans (hb.mono hB1.size);clear hb hX1 hz1 hB1
 by_cases p3:(zbw x.ds:Int)<=left-x.b.sz
 rotate_left
 ·have HF:Hid (zD x.sz left=-1):=zq (by unfold Wd.sz;omega)
  rw[zq (by omega)];go_wp2_with fail
  go_ret;exact⟨zk HF.o.symm,hB2⟩
 ·have HF:Hid (zD x.sz left=left-x.b.sz-zbw x.ds):=by
   unfold Hid;rw[zF (by unfold Wd.sz;omega)];unfold Wd.sz;omega
  rw[zF p3];go_wp2_with fail
  go_ret;exact⟨zk HF.o.symm,hB2⟩
theorem ziJ (H H':Prop)(x:Wd)(a0 a1 a2 a3 a4:OA)(c0 c1 c2 c3 c4:Nat)(b0 b1 b2 b3 b4:OA)(e0 e1 e2 e3 e4:Nat)(w:World)(ho:zgc H w x a0 a1 a2 a3 a4)(ho':zgc H' w x b0 b1 b2 b3 b4) :
 Calls Tryz.prog 14 #[.agg (x.cells a0 a1 a2 a3 a4 c0 c1 c2 c3 c4),.agg (x.cells b0 b1 b2 b3 b4 e0 e1 e2 e3 e4)] w fun e w'=>e=.returned (.bool true)/\Bw w w':=by
 have HA:=ji ho ho';clear ho ho';unfold Wd.cells;go_enter Tryz.func14,Tryz.ntmps14;go_wp2_with fail
 obtain⟨hX0,hY0⟩:=zci w #[.i x.b.now,.i x.b.tick,.i x.b.given,.l a0 x.b.os.length c0,.l a1 x.b.gs.length c1,.l a2 x.b.ls.length c2,.l a3 x.b.ps.length c3,.l a4 x.ds.length c4] #[.i x.b.now,.i x.b.tick,.i x.b.given,.l b0 x.b.os.length e0,.l b1 x.b.gs.length e1,.l b2 x.b.ls.length e2,.l b3 x.b.ps.length e3,.l b4 x.ds.length e4] 55 55;have hB0:=zx w (.cells #[.i x.b.now,.i x.b.tick,.i x.b.given,.l a0 x.b.os.length c0,.l a1 x.b.gs.length c1,.l a2 x.b.ls.length c2,.l a3 x.b.ps.length c3,.l a4 x.ds.length c4] 55) (.cells #[.i x.b.now,.i x.b.tick,.i x.b.given,.l b0 x.b.os.length e0,.l b1 x.b.gs.length e1,.l b2 x.b.ls.length e2,.l b3 x.b.ps.length e3,.l b4 x.ds.length e4] 55);obtain⟨W0,hW0⟩:=xN ((w.alloc (.cells #[.i x.b.now,.i x.b.tick,.i x.b.given,.l a0 x.b.os.length c0,.l a1 x.b.gs.length c1,.l a2 x.b.ls.length c2,.l a3 x.b.ps.length c3,.l a4 x.ds.length c4] 55)).alloc (.cells #[.i x.b.now,.i x.b.tick,.i x.b.given,.l b0 x.b.os.length e0,.l b1 x.b.gs.length e1,.l b2 x.b.ls.length e2,.l b3 x.b.ps.length e3,.l b4 x.ds.length e4] 55));have hz0:w.heap.size+1<W0.heap.size:=by rw[hW0];simp
 rw[<- hW0]at hB0 hX0 hY0 ⊢;clear hW0;refine(zdl x.b _ _ _ _ _ _ _ _ _ _ _ _ _ _ _ _ _ (HA.o.1.b.mono hB0) (HA.o.2.b.mono hB0)).mono ?_;rintro e w1⟨rfl,hb⟩;have hX1:=za hX0 (nSl hz0) hb;have hY1:=za hY0 hz0 hb;have hz1:=nLt hz0 hb.size;have hB1:=hB0.trans (hb.mono hB0.size);clear hb hX0 hY0 hz0 hB0;go_wp2_with fail
 refine(ziW H H' _ _ _ _ x.ds _ (HA.o.1.ds.mono hB1) (HA.o.2.ds.mono hB1)).mono ?_;rintro e w2⟨rfl,hb⟩;have hX2:=za hX1 (nSl hz1) hb;have hY2:=za hY1 hz1 hb;have hz2:=nLt hz1 hb.size;have hB2:=hB1.trans (hb.mono hB1.size);clear hb hX1 hY1 hz1 hB1;go_wp2_with fail
 go_ret;exact⟨rfl,hB2⟩
abbrev xW (x:Wd)(g0 g1 g2 g3 g4:Nat):AV:=#[.i x.b.now,.i x.b.tick,.i x.b.given,.l (some (aD g0 0)) x.b.os.length x.b.os.length,.l (some (aD g1 0)) x.b.gs.length x.b.gs.length,.l (some (aD g2 0)) x.b.ls.length x.b.ls.length,.l (some (aD g3 0)) x.b.ps.length x.b.ps.length,.l (some (aD g4 0)) x.ds.length x.ds.length]
abbrev xC (x:Wd)(a0 a1 a2 a3 a4:OA)(c0 c1 c2 c3 c4:Nat):AV:=#[.i x.b.now,.i x.b.tick,.i x.b.given,.l a0 x.b.os.length c0,.l a1 x.b.gs.length c1,.l a2 x.b.ls.length c2,.l a3 x.b.ps.length c3,.l a4 x.ds.length c4]
abbrev xZ :AV:=#[.i 0,.i 0,.i 0,.l none 0 0,.l none 0 0,.l none 0 0,.l none 0 0,.l none 0 0]
theorem zrT {w:World}{b:Nat}{z0 z1 z2 z3 z4 z5 z6 u:Value}{v0 v1 v2 v3 v4 v5 v6:Value}{t:TypeId}(h:w.heap[b]?=some (.cells #[z0,z1,z2,z3,z4,z5,z6,u] t)):(w.setCells b 0 [v0,v1,v2,v3,v4,v5,v6]).heap[b]?=some (.cells #[v0,v1,v2,v3,v4,v5,v6,u] t):=by
 rw[<- zsn,zh (zh (zh (zh (zh (zh (zh h v0) v1) v2) v3) v4) v5) v6];simp
set_option maxRecDepth 20000 in
theorem zcE (H:Prop)(x:Wd)(a0 a1 a2 a3 a4:OA)(c0 c1 c2 c3 c4:Nat)(w:World)(ho:zgc H w x a0 a1 a2 a3 a4)(hf:x.Few) :
 Calls Tryz.prog 10 #[.agg (x.cells a0 a1 a2 a3 a4 c0 c1 c2 c3 c4)] w fun e w'=>∃b0 b1 b2 b3 b4,e=.returned (.agg (x.cells b0 b1 b2 b3 b4 x.b.os.length x.b.gs.length x.b.ls.length x.b.ps.length x.ds.length))/\zgc True w' x b0 b1 b2 b3 b4/\Bw w w':=by
 have HL:=hid ho;have HF:=hid hf;clear ho hf;unfold Wd.cells;go_enter Tryz.func10,Tryz.ntmps10
 go_upto_region 2 with fail
 have k0:=zkK w (.cells (xC x a0 a1 a2 a3 a4 c0 c1 c2 c3 c4) 35) (.cells xZ 55) (.cells xZ 55);have hB0:=below3' w (.cells (xC x a0 a1 a2 a3 a4 c0 c1 c2 c3 c4) 35) (.cells xZ 55) (.cells xZ 55);obtain⟨W0,hW0⟩:=xN (((w.alloc (.cells (xC x a0 a1 a2 a3 a4 c0 c1 c2 c3 c4) 35)).alloc (.cells xZ 55)).alloc (.cells xZ 55));have hz0:w.heap.size+1+1<W0.heap.size:=by rw[hW0];simp
 rw[<- hW0]at k0 hB0 ⊢;clear hW0;refine wp_region_list ?_;refine tL ?_;refine wpList_load_mid rfl 32 (.tmp 4) rfl w.heap.size 0 rfl (Bk.cells x.b a0 a1 a2 a3 c0 c1 c2 c3).toList _ (zdU (n:=7) rfl fun j hj=>(cell_of_block k0.1).trans (by rcases seven hj with rfl|rfl|rfl|rfl|rfl|rfl|rfl <;> rfl)) Tryz.underlying32 rfl (by kernel_rfl) ?_;refine cL fun K hK=>?_
 go_simp
 refine(zb1 x.b a0 a1 a2 a3 c0 c1 c2 c3 _ (HL.o.b.mono hB0) HF.o.b).mono ?_;rintro e w1⟨lo,g0,g1,g2,g3,rfl,hlo,hown,hb⟩;have hX1:=(hb.block _ (by omega)).trans k0.1;have hR1:=(hb.block _ (by omega)).trans k0.2.1;have hO1:=(hb.block _ hz0).trans k0.2.2;have hZ1:W0.heap.size<=w1.heap.size:=hb.size;have hB1:Bw w w1:=hB0.trans (hb.mono hB0.size);clear hb k0 hB0
 (try go_wp2_with fail)
 refine hK.out _ _ ?_;clear hK K
 (try simp only[Act.put,sA,s0,sS])
 refine tL ?_;refine wpList_store_mid rfl 51 (.tmp 7) (.tmp 6) rfl (w.heap.size+1+1) 0 (Bk.cells x.b (some (aD g0 0)) (some (aD g1 0)) (some (aD g2 0)) (some (aD g3 0)) x.b.os.length x.b.gs.length x.b.ls.length x.b.ps.length) rfl rfl (zg8 hO1 (by simp[Bk.cells])) (by kernel_rfl) (by simp[Bk.cells,Value.oneCell']) ?_;refine wpList_nil ?_;obtain⟨W4,hW4,hz4,ho4,hA4,hB4⟩:=zcL (Bk.cells x.b (some (aD g0 0)) (some (aD g1 0)) (some (aD g2 0)) (some (aD g3 0)) x.b.os.length x.b.gs.length x.b.ls.length x.b.ps.length) 0 (show w.heap.size<=w.heap.size+1+1 by omega) hz0 hB1;have hX4:=(ho4 w.heap.size (by omega)).trans hX1;have hR4:=(ho4 (w.heap.size+1) (by omega)).trans hR1;have hO4:W4.heap[w.heap.size+1+1]?=some (.cells #[.i x.b.now,.i x.b.tick,.i x.b.given,.l (some (aD g0 0)) x.b.os.length x.b.os.length,.l (some (aD g1 0)) x.b.gs.length x.b.gs.length,.l (some (aD g2 0)) x.b.ls.length x.b.ls.length,.l (some (aD g3 0)) x.b.ps.length x.b.ps.length,.l none 0 0] 55):=by rw[hW4];exact zrT hO1
 rw[<- hW4];clear hW4 ho4;clear hX1 hR1 hO1 hB1
 (try simp only[Act.put])
 have cX4:=fun j=>cell_of_block (o:=j) hX4
 have HZ:=zcl hz0 hlo hZ1;have HN:=zcl hown hA4 hz4;have HRO:=ji hR4 hO4;have HX4:=hid hB4;clear hX4 hz0 hlo hZ1 hown hA4 hz4 hR4 hO4 hB4;go_wp2_with fail
 refine(ziZ H _ _ x.ds _ (HL.o.ds.mono HX4.o) HF.o.ds.1 HF.o.ds.2).mono ?_;rintro e w5⟨rfl,hfs,hb⟩;have HA5:Hid (yw W0.heap.size w1 w5):=HN.o.2.1.trans (yw.below hb);have hR5:=(hb.block _ (gES HRO.o.1).1).trans HRO.o.1;have hO5:=(hb.block _ (gES HRO.o.2).1).trans HRO.o.2;have HB5:Hid (Bw w w5):=HX4.o.trans (hb.mono HX4.o.size);have HFS:=hid hfs;have cO5:=fun j=>cell_of_block (o:=j) hO5
 have fO5:=fun j=>zl (o:=j) hO5
 have HRO5:=ji hR5 hO5;clear hb hfs cX4 hR5 hO5
 go_upto_region 4 with fail
 have hO6:(w5.setCell (aD (w.heap.size+1+1) 7) (.l (some (aD W4.heap.size 0)) x.ds.length x.ds.length)).heap[w.heap.size+1+1]?=some (.cells (xW x g0 g1 g2 g3 W4.heap.size) 55):=by rw[zh HRO5.o.2];simp
 have hR6:=(zG (w:=w5) (o:=7) (v:=.l (some (aD W4.heap.size 0)) x.ds.length x.ds.length) (show w.heap.size+1≠w.heap.size+1+1 by omega)).trans HRO5.o.1;have hA6:yw W0.heap.size w5 (w5.setCell (aD (w.heap.size+1+1) 7) (.l (some (aD W4.heap.size 0)) x.ds.length x.ds.length)):=yw.setCell (p:=(aD (w.heap.size+1+1) 7)) HZ.o.1 _;have hB6:Bw w (w5.setCell (aD (w.heap.size+1+1) 7) (.l (some (aD W4.heap.size 0)) x.ds.length x.ds.length)):=HB5.o.setCell (by show w.heap.size<=w.heap.size+1+1;omega) _
 revert hO6 hR6 hA6 hB6
 generalize w5.setCell (aD (w.heap.size+1+1) 7) (.l (some (aD W4.heap.size 0)) x.ds.length x.ds.length)=W6
 intro hO6 hR6 hA6 hB6;clear cO5 fO5;refine wp_region_list ?_;refine wpList_load_mid rfl 55 (.tmp 3) rfl (w.heap.size+1+1) 0 rfl _ _ (zj0 hO6) Tryz.underlying55 rfl (by kernel_rfl) ?_;refine wpList_store_mid rfl 55 (.tmp 2) (.tmp 12) rfl (w.heap.size+1) 0 (xW x g0 g1 g2 g3 W4.heap.size) rfl rfl (zg8 hR6 (by simp)) (by kernel_rfl) (by simp[Value.oneCell']) ?_;refine wpList_nil ?_;obtain⟨W7,hW7,_,_,hA7',hB7⟩:=zcL (lo:=W0.heap.size) (B:=w.heap.size) (xW x g0 g1 g2 g3 W4.heap.size) 0 (show w.heap.size<=w.heap.size+1 by omega) (by have:=HZ.o.1;omega) hB6;have hA7:=hA6.trans hA7';have hR7:W7.heap[w.heap.size+1]?=some (.cells (xW x g0 g1 g2 g3 W4.heap.size) 55):=by rw[hW7];exact zfu hR6 rfl
 rw[<- hW7];clear hW7 hA7';clear hO6 hR6 hA6 hB6;have HR7:=ji hA7 hB7;have cR7:=fun j=>cell_of_block (o:=j) hR7
 clear hA7 hB7
 (try simp only[Act.put])
 go_wp2_with fail
 refine bodyPost_ret (v:=.agg (xW x g0 g1 g2 g3 W4.heap.size)) (results_cell_row Tryz.results10 _ _ (w.heap.size+1) 55 (xW x g0 g1 g2 g3 W4.heap.size) _ _ rfl hR7 Tryz.underlying55 rfl (by kernel_rfl)) rfl ⟨_,_,_,_,_,rfl,?_,HR7.o.2⟩;have hz:=HZ.o;have hbk:=HN.o.1.above ((HA5.o.trans HR7.o.1).mono hz.2.1);exact⟨hbk.at HL.o.b.small,HFS.o _ (HR7.o.1.mono (by have:=HN.o.2.2;omega)),fun _=>hbk.os.has HL.o.b.os.smalls HL.o.b.os.len⟩
end Go.Proofs.YthdfpinbnncghaaGreat
namespace Go.Proofs.YthdfpinbnncghaaGreat
theorem zhT {ss:List Shp}(h:yg ss=true)(i:Nat)(hi:i<ss.length):qp ss i=true:=by
 unfold yg at h;rw[Bool.and_eq_true]at h;exact zgr hi h.2
theorem zpw {ss:List Shp}(h:yg ss=true):∀(j:Nat) (hj:j<ss.length) (i:Nat) (hi:i<j),less (ss[i]'(by omega)).kd ss[j].kd=true:=by
 intro j
 induction j with
 | zero=>intro _ i hi;omega
 | succ j ih=>
  intro hj i hi;have h1:=zhT h (j+1) hj;rw[zg5 ss j hj]at h1;simp only[Bool.and_eq_true]at h1;have h2:=h1.1.2
  rcases Nat.lt_or_ge i j with hlt|hge
  ·exact zbq _ _ _ (ih (by omega) i hlt) h2
  ·have e:i=j:=by omega
   subst e;exact h2
theorem zej {ss:List Shp}(h:yg ss=true)(i:Nat)(hi:i<ss.length):shapeOf ss ss[i].kd=ss[i]:=by
 refine zgh ss _ i hi ?_ rfl;unfold zC;rw[List.any_eq_false];intro x hx;obtain⟨k,hk,rfl⟩:=List.mem_iff_getElem.1 hx;have hk':k<i:=by simp at hk;omega
 have h1:=zpw h i hi k hk';simp only[List.getElem_take,decide_eq_true_eq];intro e;unfold less at h1;rw[e,zcj]at h1
 cases h1
theorem zgj {ss:List Shp}(h:yg ss=true)(i:Nat)(hi:i<ss.length):ss[i].fs.length<=6:=by
 have h1:=zhT h i hi;unfold qp at h1;rw[getD_at ss i _ hi]at h1;simp only[Bool.and_eq_true]at h1;have h2:=h1.2;unfold qz at h2;simp only[Bool.and_eq_true,decide_eq_true_eq]at h2;exact h2.1
def zak (ss:List Shp)(m:Mnd):Bool:=zC ss m.kd&&zbe (shapeOf ss m.kd).fs m
def rowOk (ms:List Mnd)(s:Shp):Bool:=(zL (zo s ms) s.fs.length).1
def yx (ss:List Shp)(ms:List Mnd):Bool:=decide (ms.length<=12)&&yg ss&&ms.all (zak ss)&&ss.all (rowOk ms)
theorem zke {ss:List Shp}{ms:List Mnd}(h:yg ss=true)(hm:ms.all (zak ss)=true)(i:Nat)(hi:i<ss.length):∀q,q<ss[i].fs.length->∀x∈yE ss[i] ms q,0<=x/\x<ss[i].fs.length:=by
 intro q _ x hx;unfold yE at hx;obtain⟨m,hmm,hx⟩:=List.mem_flatMap.1 hx
 by_cases ht:turns m ss[i] q=true
 ·rw[if_pos ht]at hx
  obtain⟨v,hv,rfl⟩:=List.mem_map.1 hx;unfold turns at ht;simp only[Bool.and_eq_true,decide_eq_true_eq]at ht;have h1:=List.all_eq_true.1 hm m hmm;unfold zak at h1;rw[ht.1,zej h i hi]at h1;simp only[Bool.and_eq_true]at h1;have h2:=h1.2;unfold zbe at h2;simp only[Bool.and_eq_true]at h2;have h3:=List.all_eq_true.1 h2.1.2 v hv;unfold zaj at h3;simp only[Bool.and_eq_true]at h3
  rcases jQ ss[i].fs v with⟨_,h5⟩|⟨k,hk,h4,_⟩
  ·rw[zaT h5]at h3;exact absurd h3.2 (by simp)
  ·rw[h4];omega
 ·rw[if_neg ht]at hx;cases hx
end Go.Proofs.YthdfpinbnncghaaGreat
namespace Go.Proofs.YthdfpinbnncghaaGreat
open Go.RowKit
theorem zhG (a:OA)(cap:Nat)(ms:List Lg)(t:Lg)(w:World)(hw:zc5 w a ms)(hl:ms.length<=1000)(hr:rising q9 ms) :
 Calls Tryz.prog 224 #[.l a ms.length cap,.agg t.cells,.func (.func 168) #[] #[]] w fun e w'=>(∃p:Nat,e=.returned (.tuple #[.i p,.bool (jJ ms t.tm t.rs)])/\zfj ms t.tm t.rs p)/\Bw w w':=by
 have HW:=hid hw;have HR:Hid (rising q9 ms):=hr;clear hw hr;unfold Lg.cells;go_enter Tryz.func224,Tryz.ntmps224;go_wp2_with fail
 have hT0:=zn w #[.s t.tm,.s t.rs,.i t.mo,.i t.fr] 148;have HB0:Hid (Bw w (w.alloc (.cells #[.s t.tm,.s t.rs,.i t.mo,.i t.fr] 148))):=bAl _ _;obtain⟨W0,hW0⟩:=xN (w.alloc (.cells #[.s t.tm,.s t.rs,.i t.mo,.i t.fr] 148));have hz0:w.heap.size<W0.heap.size:=by rw[hW0];simp
 rw[<- hW0]at HB0 hT0 ⊢;clear hW0;have hlI:(ms.length:Int)<=1000:=by omega
 go_loopw [9,10] (fun iv jv wr=>∃lo hi:Nat,iv=.i lo/\jv=.i hi/\lo<=hi/\hi<=ms.length/\Hid ((∀i (h:i<ms.length),i<lo->q9 ms[i] t<0)/\(∀i (h:i<ms.length),hi<=i->0<=q9 ms[i] t)/\Bw W0 wr)) (fun iv jv _=>(intOf jv).toNat-(intOf iv).toNat)
 case atStart=>exact⟨0,ms.length,rfl,rfl,Nat.zero_le _,Nat.le_refl _,fun i h h'=>by omega,fun i h h'=>by omega,bRf _ _⟩
 case round=>
  obtain⟨lo,hi,rfl,rfl,hlh,hhn,HQ⟩:=hrel;have hT:=za hT0 hz0 HQ.o.2.2;have hzT:=nLt hz0 HQ.o.2.2.size;have HBr:=hid (HB0.o.trans (HQ.o.2.2.mono HB0.o.size));have HBW:Hid (∀W,Bw w W->Bw wr W->Bw W0 W):=fun W _ h=>HQ.o.2.2.trans (h.mono HQ.o.2.2.size)
  have hloI:(lo:Int)<=1000:=by omega
  have hhiI:(hi:Int)<=1000:=by omega
  by_cases hlt:lo<hi
  ·obtain⟨m,hm⟩:=xN ((lo+hi) / 2)
   have HM1:Hid (lo<=m/\m<hi):=⟨by omega,by omega⟩
   have hml:m<ms.length:=by omega
   have hmI:((lo:Int)+(hi:Int)) / 2=(m:Int):=by omega
   clear hm;obtain⟨b,off,rfl,hb,d0,d1,d2,d3⟩:=HW.o.load HBr.o m hml;have hb':=nLt hb HBr.o.size;have hmlI:(m:Int)<(ms.length:Int):=by omega
   have hS:(∀j,wr.drew.cell? (aD w.heap.size j)=(#[.s t.tm,.s t.rs,.i t.mo,.i t.fr]:AV)[j]?)/\wr.drew.cell? (aD b (off+m*4))=some (.s ms[m].tm)/\wr.drew.cell? (aD b (off+m*4+1))=some (.s ms[m].rs)/\wr.drew.cell? (aD b (off+m*4+2))=some (.i ms[m].mo)/\wr.drew.cell? (aD b (off+m*4+3))=some (.i ms[m].fr):=⟨hT,d0,d1,d2,d3⟩
   clear d0 d1 d2 d3 hT;go_wp2_with fail
   go_region_held3 (fun w'=>(∀j,w'.cell? (aD w.heap.size j)=(#[.s t.tm,.s t.rs,.i t.mo,.i t.fr]:AV)[j]?)/\w'.cell? (aD b (off+m*4))=some (.s ms[m].tm)/\w'.cell? (aD b (off+m*4+1))=some (.s ms[m].rs)/\w'.cell? (aD b (off+m*4+2))=some (.i ms[m].mo)/\w'.cell? (aD b (off+m*4+3))=some (.i ms[m].fr)) (exact hS) (first|(go_at_call 168;refine(zcH ms[m] t _).mono ?_;rintro e w2⟨rfl,hb2⟩;have hS:=(⟨za hS.1 hzT hb2,(hb2.cell (p:=(aD b _)) hb').trans hS.2.1,(hb2.cell (p:=(aD b _)) hb').trans hS.2.2.1,(hb2.cell (p:=(aD b _)) hb').trans hS.2.2.2.1,(hb2.cell (p:=(aD b _)) hb').trans hS.2.2.2.2⟩:_/\_/\_/\_/\_);have hB2:=HBr.o.drew.trans (hb2.mono HBr.o.drew.size);have hB2':=(bRf wr.heap.size wr).drew.trans hb2;clear hb2))
   have HB2:=hid (HBW.o w2 hB2 hB2')
   by_cases hk:q9 ms[m] t<0
   ·have hd:decide (q9 ms[m] t<0)=true:=by simpa using hk
    have HA:Hid (∀i (h:i<ms.length),i<m+1->q9 ms[i] t<0):=by
     intro i hi him
     rcases Nat.eq_or_lt_of_le (Nat.le_of_lt_succ him) with e|hlt'
     ·subst e;exact hk
     ·exact zbG (zd5 (fun a b c=>zbG (a:=a) (b:=b) (c:=c)) HR.o m hml i hlt') hk
    rw[hd];clear hd hk hS;go_wp2_with fail
    exact⟨⟨m+1,hi,by go_num,rfl,HM1.o.2,hhn,HA.o,HQ.o.2.1,HB2.o⟩,by have:=HM1.o;show(hi:Int).toNat-((m:Int)+1).toNat<(hi:Int).toNat-(lo:Int).toNat;omega⟩
   ·have hd:decide (q9 ms[m] t<0)=false:=by simpa using hk
    have HA:Hid (∀i (h:i<ms.length),m<=i->0<=q9 ms[i] t):=by
     intro i hi him
     rcases Nat.eq_or_lt_of_le him with e|hlt'
     ·subst e;omega
     ·rcases Int.lt_or_le (q9 ms[i] t) 0 with h1|h1
      ·exact absurd (zbG (zd5 (fun a b c=>zbG (a:=a) (b:=b) (c:=c)) HR.o i hi m hlt') h1) hk
      ·exact h1
    rw[hd];clear hd hk hS;go_wp2_with fail
    exact⟨⟨lo,m,rfl,rfl,HM1.o.1,Nat.le_of_lt hml,HQ.o.1,HA.o,HB2.o⟩,by have:=HM1.o;show(m:Int).toNat-(lo:Int).toNat<(hi:Int).toNat-(lo:Int).toNat;omega⟩
  ·have e:hi=lo:=by omega
   subst e;have HA:Hid (zfj ms t.tm t.rs hi):=⟨hhn,HQ.o.1,HQ.o.2.1⟩
   clear HQ
   by_cases hn:hi<ms.length
   ·obtain⟨b,off,rfl,hb,d0,d1,d2,d3⟩:=HW.o.load HBr.o hi hn
    have hb':b<wr.heap.size:=nLt hb HBr.o.size;have hnI:(hi:Int)<(ms.length:Int):=by omega
    have hS:(∀j,wr.drew.cell? (aD w.heap.size j)=(#[.s t.tm,.s t.rs,.i t.mo,.i t.fr]:AV)[j]?)/\wr.drew.cell? (aD b (off+hi*4))=some (.s ms[hi].tm)/\wr.drew.cell? (aD b (off+hi*4+1))=some (.s ms[hi].rs)/\wr.drew.cell? (aD b (off+hi*4+2))=some (.i ms[hi].mo)/\wr.drew.cell? (aD b (off+hi*4+3))=some (.i ms[hi].fr):=⟨hT,d0,d1,d2,d3⟩
    have HFd:Hid (jJ ms t.tm t.rs=(q9 ms[hi] t == 0)):=by
     unfold Hid;rw[Bool.eq_iff_iff,HA.o.found HR.o,beq_iff_eq];unfold q9;rw[zhS];exact⟨fun h=>h.2,fun h=>⟨hn,h⟩⟩
    clear d0 d1 d2 d3 hT hlt;go_wp2_with fail
    go_region_held3 (fun w'=>(∀j,w'.cell? (aD w.heap.size j)=(#[.s t.tm,.s t.rs,.i t.mo,.i t.fr]:AV)[j]?)/\w'.cell? (aD b (off+hi*4))=some (.s ms[hi].tm)/\w'.cell? (aD b (off+hi*4+1))=some (.s ms[hi].rs)/\w'.cell? (aD b (off+hi*4+2))=some (.i ms[hi].mo)/\w'.cell? (aD b (off+hi*4+3))=some (.i ms[hi].fr)) (exact hS) (first|(go_at_call 168;refine(zcH ms[hi] t _).mono ?_;rintro e w2⟨rfl,hb2⟩;have hS:=(⟨za hS.1 hzT hb2,(hb2.cell (p:=(aD b _)) hb').trans hS.2.1,(hb2.cell (p:=(aD b _)) hb').trans hS.2.2.1,(hb2.cell (p:=(aD b _)) hb').trans hS.2.2.2.1,(hb2.cell (p:=(aD b _)) hb').trans hS.2.2.2.2⟩:_/\_/\_/\_/\_);have hB2:=HBr.o.drew.trans (hb2.mono HBr.o.drew.size);have hB2':=(bRf wr.heap.size wr).drew.trans hb2;clear hb2))
    go_wp2_with fail
    go_ret2
    exact⟨⟨hi,by rw[HFd.o];rfl,HA.o⟩,hB2⟩
   ·have hnI:¬(hi:Int)<(ms.length:Int):=by omega
    have HFd:Hid (jJ ms t.tm t.rs=false):=by
     unfold Hid;rw[Bool.eq_false_iff];intro h;obtain⟨hp,_⟩:=(HA.o.found HR.o).1 h;exact hn hp
    clear hlt;go_wp2_with fail
    go_quiet (fail)
    go_wp2_with fail
    go_ret2
    exact⟨⟨hi,by rw[HFd.o];rfl,HA.o⟩,below_drewN HBr.o _⟩
end Go.Proofs.YthdfpinbnncghaaGreat
namespace Go.Proofs.YthdfpinbnncghaaGreat
open Go.ChangeShapes Go.WideShapes Go.ChangeAt Go.RowKit
theorem Tryz.zpB:Tryz.prog.cellsOf 124=1:=by kernel_rfl
theorem Tryz.zlJ:Tryz.prog.cellsOf 126=10:=by kernel_rfl
theorem Tryz.zo7:Tryz.prog.cellsOf 33=1:=by kernel_rfl
theorem Tryz.zoG:Tryz.prog.cellsOf 35=8:=by kernel_rfl
section
variable {H:Type} {enc:TypeId × Value->H} {w:World} {base:Nat} {spare:Nat->Bool} {held:Bool}
theorem zpP {fuel:Nat}{cs:List Value}{x:DataW H × List MemPlace}(h:DataW.trod enc Tryz.prog w base spare held fuel 124 cs=some x) :
 ∃a cap ms,cs=[.l a (List.length ms) cap]/\zbU w a ms:=by
 obtain⟨a,len,cap,rfl,hm,hr⟩:=zad Tryz.underlying124 Tryz.zlO (by omega) h
 rcases Nat.eq_zero_or_pos len with h0|hp
 ·subst h0
  exact⟨a,cap,[],rfl,⟨by simp[maxLen],fun h=>absurd rfl h⟩⟩
 ·obtain⟨b,off,rfl,hb,hrow⟩:=hr hp
  have hf:∀i,i<len->∃s:Sl,∃a0 a1 a2 a3 c0 c1 c2 c3,zrQ w b (off+i*18) s a0 a1 a2 a3 c0 c1 c2 c3:=by
   intro i hi;obtain⟨es,n,y,hel,hcell,hy⟩:=hrow i hi;obtain⟨s,a0,a1,a2,a3,c0,c1,c2,c3,rfl,hs⟩:=zqI hy;exact⟨s,a0,a1,a2,a3,c0,c1,c2,c3,hs,fun j hj=>by rw[hcell j hj];simp⟩
  obtain⟨ms,hl,hms⟩:=za9 len hf;exact⟨_,cap,ms,by rw[hl],⟨by omega,fun _=>⟨b,off,rfl,hb,hms⟩⟩⟩
theorem zp9 {fuel:Nat}{cs:List Value}{x:DataW H × List MemPlace}(h:DataW.trod enc Tryz.prog w base spare held fuel 126 cs=some x) :
 ∃(d:Dor) (a0 a1 a2 a3 a4:OA) (q0 q1 q2 q3 q4:Nat),cs=(d.cells a0 a1 a2 a3 a4 q0 q1 q2 q3 q4).toList/\zbX False w d a0 a1 a2 a3 a4:=by
 have hlen:cs.length=10:=by
  obtain⟨_,_,_,_,hl,_,_⟩:=DataW.trod_struct Tryz.underlying126 h;rw[hl];exact Tryz.zlJ
 match cs,hlen with
 | [d0,d1,c0,c1,c2,c3,c4,c5,c6,d3],_=>
  have hf:=jo Tryz.underlying126 h;obtain⟨_,_,f0⟩:=hf 0 9 0 d0 rfl Tryz.zK rfl;obtain⟨_,_,f1⟩:=hf 1 4 1 d1 rfl Tryz.zfG rfl;obtain⟨_,_,f2⟩:=zdD Tryz.underlying126 h 2 32 2 7 rfl Tryz.zhV;obtain⟨_,_,f3⟩:=hf 3 124 9 d3 rfl Tryz.zpB rfl;obtain⟨nm,e0,_,s0⟩:=DataW.trod_string Tryz.underlying9 f0;obtain⟨up,e1,_⟩:=DataW.trod_bool Tryz.underlying4 f1;obtain⟨v,a0,a1,a2,a3,q0,q1,q2,q3,e2,hx⟩:=zhz f2;obtain⟨a4,q4,ss,e3,hw⟩:=zpP f3;simp only[List.cons.injEq,and_true]at e0 e1 e3;subst e0 e1 e3;have er:[c0,c1,c2,c3,c4,c5,c6]=(v.cells a0 a1 a2 a3 q0 q1 q2 q3).toList:=e2;unfold Bk.cells at er;simp only[List.cons.injEq,and_true]at er;obtain⟨g0,g1,g2,g3,g4,g5,g6⟩:=er;subst g0 g1 g2 g3 g4 g5 g6;exact⟨⟨nm,up,v,ss⟩,a0,a1,a2,a3,a4,q0,q1,q2,q3,q4,rfl,⟨s0,hx,hw,fun h=>h.elim⟩⟩
theorem zo1 {fuel:Nat}{cs:List Value}{x:DataW H × List MemPlace}(h:DataW.trod enc Tryz.prog w base spare held fuel 33 cs=some x) :
 ∃a cap ms,cs=[.l a (List.length ms) cap]/\zay False w a ms:=by
 obtain⟨a,len,cap,rfl,hm,hr⟩:=zad Tryz.underlying33 Tryz.zlJ (by omega) h
 rcases Nat.eq_zero_or_pos len with h0|hp
 ·subst h0
  exact⟨a,cap,[],rfl,⟨by simp[maxLen],fun h=>absurd rfl h⟩⟩
 ·obtain⟨b,off,rfl,hb,hrow⟩:=hr hp
  have hf:∀i,i<len->∃d:Dor,∃a0 a1 a2 a3 a4 c0 c1 c2 c3 c4,zox False w b (off+i*10) d a0 a1 a2 a3 a4 c0 c1 c2 c3 c4:=by
   intro i hi;obtain⟨es,n,y,hel,hcell,hy⟩:=hrow i hi;obtain⟨d,a0,a1,a2,a3,a4,c0,c1,c2,c3,c4,rfl,hs⟩:=zp9 hy;exact⟨d,a0,a1,a2,a3,a4,c0,c1,c2,c3,c4,hs,fun j hj=>by rw[hcell j hj];simp⟩
  obtain⟨ms,hl,hms⟩:=za9 len hf;exact⟨_,cap,ms,by rw[hl],⟨by omega,fun _=>⟨b,off,rfl,hb,hms⟩⟩⟩
theorem zpJ {fuel:Nat}{cs:List Value}{x:DataW H × List MemPlace}(h:DataW.trod enc Tryz.prog w base spare held fuel 35 cs=some x) :
 ∃(y:Wd) (a0 a1 a2 a3 a4:OA) (q0 q1 q2 q3 q4:Nat),cs=(y.cells a0 a1 a2 a3 a4 q0 q1 q2 q3 q4).toList/\zgc False w y a0 a1 a2 a3 a4:=by
 have hlen:cs.length=8:=by
  obtain⟨_,_,_,_,hl,_,_⟩:=DataW.trod_struct Tryz.underlying35 h;rw[hl];exact Tryz.zoG
 match cs,hlen with
 | [c0,c1,c2,c3,c4,c5,c6,d1],_=>
  have hf:=jo Tryz.underlying35 h;obtain⟨_,_,f0⟩:=zdD Tryz.underlying35 h 0 32 0 7 rfl Tryz.zhV;obtain⟨_,_,f1⟩:=hf 1 33 7 d1 rfl Tryz.zo7 rfl;obtain⟨v,a0,a1,a2,a3,q0,q1,q2,q3,e0,hx⟩:=zhz f0;obtain⟨a4,q4,ds,e1,hw⟩:=zo1 f1;simp only[List.cons.injEq,and_true]at e1;subst e1;have er:[c0,c1,c2,c3,c4,c5,c6]=(v.cells a0 a1 a2 a3 q0 q1 q2 q3).toList:=e0;unfold Bk.cells at er;simp only[List.cons.injEq,and_true]at er;obtain⟨g0,g1,g2,g3,g4,g5,g6⟩:=er;subst g0 g1 g2 g3 g4 g5 g6;exact⟨⟨v,ds⟩,a0,a1,a2,a3,a4,q0,q1,q2,q3,q4,rfl,⟨hx,hw,fun h=>h.elim⟩⟩
end
end Go.Proofs.YthdfpinbnncghaaGreat
