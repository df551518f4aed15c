import Derived.Test.YtedangodjiolaaaGreatM35
import Derived.Test.YtedangodjiolaaaGreatM37
import Derived.DeepKeys4
set_option maxHeartbeats 8000000
namespace Go.Proofs.YtedangodjiolaaaGreat
open Go.RowKit
structure Wd where
 b:Bk
 ds:List Dor
def Wd.cells (x:Wd)(a0 a1 a2 a3 a4:OA)(c0 c1 c2 c3 c4:Nat):AV:=#[.i x.b.now,.i x.b.tick,.i x.b.given,.l a0 x.b.os.length c0,.l a1 x.b.gs.length c1,.l a2 x.b.ls.length c2,.l a3 x.b.ps.length c3,.l a4 x.ds.length c4]
structure zgp (H:Prop)(w:World)(x:Wd)(a0 a1 a2 a3 a4:OA):Prop where
 b:zak w x.b a0 a1 a2 a3
 ds:zaq H w a4 x.ds
 has:H->zdo w a0 x.b.os
theorem zgp.mono {H:Prop}{w w':World}{x:Wd}{a0 a1 a2 a3 a4:OA}(h:zgp H w x a0 a1 a2 a3 a4)(hl:Bw w w'):zgp H w' x a0 a1 a2 a3 a4:=⟨h.b.mono hl,h.ds.mono hl,fun y=>(h.has y).mono hl⟩
def Wd.sz (x:Wd):Nat:=x.b.sz+zbq x.ds
structure Wd.Few (x:Wd):Prop where
 b:x.b.Few
 z:q8 x.b.os<=1048576
 ds:x.ds.length<=1048576/\∀i (h:i<x.ds.length),x.ds[i].Few
theorem Wd.few {x:Wd}(h:(x.sz:Int)<=1048576):x.Few:=by
 unfold Wd.sz at h;refine⟨Bk.few (by omega),?_,zqy (left:=1048576) (by omega) (by omega)⟩;unfold Bk.sz at h;omega
theorem ziB (H:Prop)(x:Wd)(a0 a1 a2 a3 a4:OA)(c0 c1 c2 c3 c4:Nat)(left:Int)(w:World)(ho:zgp H w x a0 a1 a2 a3 a4)(h0:0<=left)(h1:left<=1048576) :
 Calls Tryz.prog 5 #[.agg (x.cells a0 a1 a2 a3 a4 c0 c1 c2 c3 c4),.i left] w fun e w'=>e=.returned (.i (zD x.sz left))/\Bw w w':=by
 have HX:=hid ho;clear ho;unfold Wd.cells;go_enter Tryz.func5,Tryz.ntmps5;go_wp2_with fail
 have hX0:=zn w #[.i x.b.now,.i x.b.tick,.i x.b.given,.l a0 x.b.os.length c0,.l a1 x.b.gs.length c1,.l a2 x.b.ls.length c2,.l a3 x.b.ps.length c3,.l a4 x.ds.length c4] 35;have hB0:Bw w (w.alloc (.cells #[.i x.b.now,.i x.b.tick,.i x.b.given,.l a0 x.b.os.length c0,.l a1 x.b.gs.length c1,.l a2 x.b.ls.length c2,.l a3 x.b.ps.length c3,.l a4 x.ds.length c4] 35)):=bAl _ _;obtain⟨W0,hW0⟩:=xN (w.alloc (.cells #[.i x.b.now,.i x.b.tick,.i x.b.given,.l a0 x.b.os.length c0,.l a1 x.b.gs.length c1,.l a2 x.b.ls.length c2,.l a3 x.b.ps.length c3,.l a4 x.ds.length c4] 35));have hz0:w.heap.size<W0.heap.size:=by rw[hW0];simp
 rw[<- hW0]at hB0 hX0 ⊢;clear hW0;refine(zeI x.b _ _ _ _ _ _ _ _ _ _ (HX.o.b.mono hB0) (by omega) (by omega)).mono ?_;rintro e w1⟨rfl,hb⟩;have hX1:=za hX0 hz0 hb;have hz1:=nLt hz0 hb.size;have hB1:=hB0.trans (hb.mono hB0.size);clear hb hX0 hz0 hB0
 by_cases p2:(x.b.sz:Int)<=left
 rotate_left
 ·have HF:Hid (zD x.sz left=-1):=zq (by unfold Wd.sz;omega)
  rw[zq (by omega)];go_wp2_with fail
  go_ret;exact⟨zl HF.o.symm,hB1⟩
 rw[zF p2];go_wp2_with fail
 refine(ziy H _ _ x.ds _ _ (HX.o.ds.mono hB1) (by omega) (by omega)).mono ?_;rintro e w2⟨rfl,hb⟩;have hB2:=hB1.trans (hb.mono hB1.size);clear hb hX1 hz1 hB1
 by_cases p3:(zbq x.ds:Int)<=left-x.b.sz
 rotate_left
 ·have HF:Hid (zD x.sz left=-1):=zq (by unfold Wd.sz;omega)
  rw[zq (by omega)];go_wp2_with fail
  go_ret;exact⟨zl HF.o.symm,hB2⟩
 ·have HF:Hid (zD x.sz left=left-x.b.sz-zbq x.ds):=by
   unfold Hid;rw[zF (by unfold Wd.sz;omega)];unfold Wd.sz;omega
  rw[zF p3];go_wp2_with fail
  go_ret;exact⟨zl HF.o.symm,hB2⟩
theorem zio (H H':Prop)(x:Wd)(a0 a1 a2 a3 a4:OA)(c0 c1 c2 c3 c4:Nat)(b0 b1 b2 b3 b4:OA)(e0 e1 e2 e3 e4:Nat)(w:World)(ho:zgp H w x a0 a1 a2 a3 a4)(ho':zgp H' w x b0 b1 b2 b3 b4) :
 Calls Tryz.prog 11 #[.agg (x.cells a0 a1 a2 a3 a4 c0 c1 c2 c3 c4),.agg (x.cells b0 b1 b2 b3 b4 e0 e1 e2 e3 e4)] w fun e w'=>e=.returned (.bool true)/\Bw w w':=by
 have HA:=ji ho ho';clear ho ho';unfold Wd.cells;go_enter Tryz.func11,Tryz.ntmps11;go_wp2_with fail
 obtain⟨hX0,hY0⟩:=zcP w #[.i x.b.now,.i x.b.tick,.i x.b.given,.l a0 x.b.os.length c0,.l a1 x.b.gs.length c1,.l a2 x.b.ls.length c2,.l a3 x.b.ps.length c3,.l a4 x.ds.length c4] #[.i x.b.now,.i x.b.tick,.i x.b.given,.l b0 x.b.os.length e0,.l b1 x.b.gs.length e1,.l b2 x.b.ls.length e2,.l b3 x.b.ps.length e3,.l b4 x.ds.length e4] 53 53;have hB0:=zx w (.cells #[.i x.b.now,.i x.b.tick,.i x.b.given,.l a0 x.b.os.length c0,.l a1 x.b.gs.length c1,.l a2 x.b.ls.length c2,.l a3 x.b.ps.length c3,.l a4 x.ds.length c4] 53) (.cells #[.i x.b.now,.i x.b.tick,.i x.b.given,.l b0 x.b.os.length e0,.l b1 x.b.gs.length e1,.l b2 x.b.ls.length e2,.l b3 x.b.ps.length e3,.l b4 x.ds.length e4] 53);obtain⟨W0,hW0⟩:=xN ((w.alloc (.cells #[.i x.b.now,.i x.b.tick,.i x.b.given,.l a0 x.b.os.length c0,.l a1 x.b.gs.length c1,.l a2 x.b.ls.length c2,.l a3 x.b.ps.length c3,.l a4 x.ds.length c4] 53)).alloc (.cells #[.i x.b.now,.i x.b.tick,.i x.b.given,.l b0 x.b.os.length e0,.l b1 x.b.gs.length e1,.l b2 x.b.ls.length e2,.l b3 x.b.ps.length e3,.l b4 x.ds.length e4] 53));have hz0:w.heap.size+1<W0.heap.size:=by rw[hW0];simp
 rw[<- hW0]at hB0 hX0 hY0 ⊢;clear hW0;refine(zeU x.b _ _ _ _ _ _ _ _ _ _ _ _ _ _ _ _ _ (HA.o.1.b.mono hB0) (HA.o.2.b.mono hB0)).mono ?_;rintro e w1⟨rfl,hb⟩;have hX1:=za hX0 (nSl hz0) hb;have hY1:=za hY0 hz0 hb;have hz1:=nLt hz0 hb.size;have hB1:=hB0.trans (hb.mono hB0.size);clear hb hX0 hY0 hz0 hB0;go_wp2_with fail
 refine(ziM H H' _ _ _ _ x.ds _ (HA.o.1.ds.mono hB1) (HA.o.2.ds.mono hB1)).mono ?_;rintro e w2⟨rfl,hb⟩;have hX2:=za hX1 (nSl hz1) hb;have hY2:=za hY1 hz1 hb;have hz2:=nLt hz1 hb.size;have hB2:=hB1.trans (hb.mono hB1.size);clear hb hX1 hY1 hz1 hB1;go_wp2_with fail
 go_ret;exact⟨rfl,hB2⟩
theorem zqQ {w:World}{b:Nat}{z0 z1 z2 z3 z4 z5 z6 u:Value}{v0 v1 v2 v3 v4 v5 v6:Value}{t:TypeId}(h:w.heap[b]?=some (.cells #[z0,z1,z2,z3,z4,z5,z6,u] t)):(w.setCells b 0 [v0,v1,v2,v3,v4,v5,v6]).heap[b]?=some (.cells #[v0,v1,v2,v3,v4,v5,v6,u] t):=by
 rw[<- zrd,zi (zi (zi (zi (zi (zi (zi h v0) v1) v2) v3) v4) v5) v6];simp
set_option maxRecDepth 20000 in
theorem zck (H:Prop)(x:Wd)(a0 a1 a2 a3 a4:OA)(c0 c1 c2 c3 c4:Nat)(w:World)(ho:zgp H w x a0 a1 a2 a3 a4)(hf:x.Few) :
 Calls Tryz.prog 8 #[.agg (x.cells a0 a1 a2 a3 a4 c0 c1 c2 c3 c4)] w fun e w'=>∃b0 b1 b2 b3 b4,e=.returned (.agg (x.cells b0 b1 b2 b3 b4 x.b.os.length x.b.gs.length x.b.ls.length x.b.ps.length x.ds.length))/\zgp True w' x b0 b1 b2 b3 b4/\Bw w w':=by
 have HL:=hid ho;have HF:=hid hf;clear ho hf;unfold Wd.cells;go_enter Tryz.func8,Tryz.ntmps8
 go_upto_region 2 with fail
 have k0:=zkf w (.cells #[.i x.b.now,.i x.b.tick,.i x.b.given,.l a0 x.b.os.length c0,.l a1 x.b.gs.length c1,.l a2 x.b.ls.length c2,.l a3 x.b.ps.length c3,.l a4 x.ds.length c4] 35) (.cells #[.i 0,.i 0,.i 0,.l none 0 0,.l none 0 0,.l none 0 0,.l none 0 0,.l none 0 0] 53) (.cells #[.i 0,.i 0,.i 0,.l none 0 0,.l none 0 0,.l none 0 0,.l none 0 0,.l none 0 0] 53);have hB0:=below3' w (.cells #[.i x.b.now,.i x.b.tick,.i x.b.given,.l a0 x.b.os.length c0,.l a1 x.b.gs.length c1,.l a2 x.b.ls.length c2,.l a3 x.b.ps.length c3,.l a4 x.ds.length c4] 35) (.cells #[.i 0,.i 0,.i 0,.l none 0 0,.l none 0 0,.l none 0 0,.l none 0 0,.l none 0 0] 53) (.cells #[.i 0,.i 0,.i 0,.l none 0 0,.l none 0 0,.l none 0 0,.l none 0 0,.l none 0 0] 53);obtain⟨W0,hW0⟩:=xN (((w.alloc (.cells #[.i x.b.now,.i x.b.tick,.i x.b.given,.l a0 x.b.os.length c0,.l a1 x.b.gs.length c1,.l a2 x.b.ls.length c2,.l a3 x.b.ps.length c3,.l a4 x.ds.length c4] 35)).alloc (.cells #[.i 0,.i 0,.i 0,.l none 0 0,.l none 0 0,.l none 0 0,.l none 0 0,.l none 0 0] 53)).alloc (.cells #[.i 0,.i 0,.i 0,.l none 0 0,.l none 0 0,.l none 0 0,.l none 0 0,.l none 0 0] 53));have hz0:w.heap.size+1+1<W0.heap.size:=by rw[hW0];simp
 rw[<- hW0]at k0 hB0 ⊢;clear hW0;refine wp_region_list ?_;refine tL ?_;refine wpList_load_mid rfl 32 (.tmp 4) rfl w.heap.size 0 rfl (Bk.cells x.b a0 a1 a2 a3 c0 c1 c2 c3).toList _ (zgE (n:=7) rfl fun j hj=>(cell_of_block k0.1).trans (by rcases seven hj with rfl|rfl|rfl|rfl|rfl|rfl|rfl <;> rfl)) Tryz.underlying32 rfl (by kernel_rfl) ?_;refine cL fun K hK=>?_
 go_simp
 refine(ze5 x.b a0 a1 a2 a3 c0 c1 c2 c3 _ (HL.o.b.mono hB0) HF.o.b).mono ?_;rintro e w1⟨lo,g0,g1,g2,g3,rfl,hlo,hown,hb⟩;have hX1:=(hb.block _ (by omega)).trans k0.1;have hR1:=(hb.block _ (by omega)).trans k0.2.1;have hO1:=(hb.block _ hz0).trans k0.2.2;have hZ1:W0.heap.size<=w1.heap.size:=hb.size;have hB1:Bw w w1:=hB0.trans (hb.mono hB0.size);clear hb k0 hB0
 (try go_wp2_with fail)
 refine hK.out _ _ ?_;clear hK K
 (try simp only[Act.put,sA,s0,sS])
 refine tL ?_;refine wpList_store_mid rfl 50 (.tmp 7) (.tmp 6) rfl (w.heap.size+1+1) 0 (Bk.cells x.b (some (aD g0 0)) (some (aD g1 0)) (some (aD g2 0)) (some (aD g3 0)) x.b.os.length x.b.gs.length x.b.ls.length x.b.ps.length) rfl rfl (zf1 hO1 (by simp[Bk.cells])) (by kernel_rfl) (by simp[Bk.cells,Value.oneCell']) ?_;refine wpList_nil ?_;have hz4:(w1.setCells (w.heap.size+1+1) 0 (Bk.cells x.b (some (aD g0 0)) (some (aD g1 0)) (some (aD g2 0)) (some (aD g3 0)) x.b.os.length x.b.gs.length x.b.ls.length x.b.ps.length).toList).heap.size=w1.heap.size:=setCells_size _ _ _ _;have hX4:=(zaU (show w.heap.size≠w.heap.size+1+1 by omega) (Bk.cells x.b (some (aD g0 0)) (some (aD g1 0)) (some (aD g2 0)) (some (aD g3 0)) x.b.os.length x.b.gs.length x.b.ls.length x.b.ps.length).toList 0 w1).trans hX1;have hR4:=(zaU (show w.heap.size+1≠w.heap.size+1+1 by omega) (Bk.cells x.b (some (aD g0 0)) (some (aD g1 0)) (some (aD g2 0)) (some (aD g3 0)) x.b.os.length x.b.gs.length x.b.ls.length x.b.ps.length).toList 0 w1).trans hR1;have hO4:(w1.setCells (w.heap.size+1+1) 0 (Bk.cells x.b (some (aD g0 0)) (some (aD g1 0)) (some (aD g2 0)) (some (aD g3 0)) x.b.os.length x.b.gs.length x.b.ls.length x.b.ps.length).toList).heap[w.heap.size+1+1]?=some (.cells #[.i x.b.now,.i x.b.tick,.i x.b.given,.l (some (aD g0 0)) x.b.os.length x.b.os.length,.l (some (aD g1 0)) x.b.gs.length x.b.gs.length,.l (some (aD g2 0)) x.b.ls.length x.b.ls.length,.l (some (aD g3 0)) x.b.ps.length x.b.ps.length,.l none 0 0] 53):=zqQ hO1;have hA4:zY W0.heap.size w1 (w1.setCells (w.heap.size+1+1) 0 (Bk.cells x.b (some (aD g0 0)) (some (aD g1 0)) (some (aD g2 0)) (some (aD g3 0)) x.b.os.length x.b.gs.length x.b.ls.length x.b.ps.length).toList):=jS hz0 _ _ _;have hB4:Bw w (w1.setCells (w.heap.size+1+1) 0 (Bk.cells x.b (some (aD g0 0)) (some (aD g1 0)) (some (aD g2 0)) (some (aD g3 0)) x.b.os.length x.b.gs.length x.b.ls.length x.b.ps.length).toList):=jQ (by omega) _ _ _ hB1
 revert hz4 hX4 hR4 hO4 hA4 hB4
 generalize w1.setCells (w.heap.size+1+1) 0 (Bk.cells x.b (some (aD g0 0)) (some (aD g1 0)) (some (aD g2 0)) (some (aD g3 0)) x.b.os.length x.b.gs.length x.b.ls.length x.b.ps.length).toList=W4
 intro hz4 hX4 hR4 hO4 hA4 hB4;clear hX1 hR1 hO1 hB1
 (try simp only[Act.put])
 have cX4:=fun j=>cell_of_block (o:=j) hX4
 have HZ:=zcM hz0 hlo hZ1;have HN:=zcM hown hA4 hz4;have HRO:=ji hR4 hO4;have HX4:=hid hB4;clear hX4 hz0 hlo hZ1 hown hA4 hz4 hR4 hO4 hB4;go_wp2_with fail
 refine(zh8 H _ _ x.ds _ (HL.o.ds.mono HX4.o) HF.o.ds.1 HF.o.ds.2).mono ?_;rintro e w5⟨rfl,hfs,hb⟩;have HA5:Hid (zY W0.heap.size w1 w5):=HN.o.2.1.trans (zY.below hb);have hR5:=(hb.block _ (gES HRO.o.1).1).trans HRO.o.1;have hO5:=(hb.block _ (gES HRO.o.2).1).trans HRO.o.2;have HB5:Hid (Bw w w5):=HX4.o.trans (hb.mono HX4.o.size);have HFS:=hid hfs;have cO5:=fun j=>cell_of_block (o:=j) hO5
 have fO5:=fun j=>zm (o:=j) hO5
 have HRO5:=ji hR5 hO5;clear hb hfs cX4 hR5 hO5
 go_upto_region 4 with fail
 have hO6:(w5.setCell (aD (w.heap.size+1+1) 7) (.l (some (aD W4.heap.size 0)) x.ds.length x.ds.length)).heap[w.heap.size+1+1]?=some (.cells #[.i x.b.now,.i x.b.tick,.i x.b.given,.l (some (aD g0 0)) x.b.os.length x.b.os.length,.l (some (aD g1 0)) x.b.gs.length x.b.gs.length,.l (some (aD g2 0)) x.b.ls.length x.b.ls.length,.l (some (aD g3 0)) x.b.ps.length x.b.ps.length,.l (some (aD W4.heap.size 0)) x.ds.length x.ds.length] 53):=by rw[zi HRO5.o.2];simp
 have hR6:=(zH (w:=w5) (o:=7) (v:=.l (some (aD W4.heap.size 0)) x.ds.length x.ds.length) (show w.heap.size+1≠w.heap.size+1+1 by omega)).trans HRO5.o.1;have hA6:zY W0.heap.size w5 (w5.setCell (aD (w.heap.size+1+1) 7) (.l (some (aD W4.heap.size 0)) x.ds.length x.ds.length)):=zY.setCell (p:=(aD (w.heap.size+1+1) 7)) HZ.o.1 _;have hB6:Bw w (w5.setCell (aD (w.heap.size+1+1) 7) (.l (some (aD W4.heap.size 0)) x.ds.length x.ds.length)):=HB5.o.setCell (by show w.heap.size<=w.heap.size+1+1;omega) _
 revert hO6 hR6 hA6 hB6
 generalize w5.setCell (aD (w.heap.size+1+1) 7) (.l (some (aD W4.heap.size 0)) x.ds.length x.ds.length)=W6
 intro hO6 hR6 hA6 hB6;clear cO5 fO5;refine wp_region_list ?_;refine wpList_load_mid rfl 53 (.tmp 3) rfl (w.heap.size+1+1) 0 rfl _ _ (zjc hO6) Tryz.underlying53 rfl (by kernel_rfl) ?_;refine wpList_store_mid rfl 53 (.tmp 2) (.tmp 12) rfl (w.heap.size+1) 0 #[.i x.b.now,.i x.b.tick,.i x.b.given,.l (some (aD g0 0)) x.b.os.length x.b.os.length,.l (some (aD g1 0)) x.b.gs.length x.b.gs.length,.l (some (aD g2 0)) x.b.ls.length x.b.ls.length,.l (some (aD g3 0)) x.b.ps.length x.b.ps.length,.l (some (aD W4.heap.size 0)) x.ds.length x.ds.length] rfl rfl (zf1 hR6 (by simp)) (by kernel_rfl) (by simp[Value.oneCell']) ?_;refine wpList_nil ?_;have hR7:=ze1 (X:=#[.i x.b.now,.i x.b.tick,.i x.b.given,.l (some (aD g0 0)) x.b.os.length x.b.os.length,.l (some (aD g1 0)) x.b.gs.length x.b.gs.length,.l (some (aD g2 0)) x.b.ls.length x.b.ls.length,.l (some (aD g3 0)) x.b.ps.length x.b.ps.length,.l (some (aD W4.heap.size 0)) x.ds.length x.ds.length]) hR6 rfl;have hA7:zY W0.heap.size w5 (W6.setCells (w.heap.size+1) 0 (#[.i x.b.now,.i x.b.tick,.i x.b.given,.l (some (aD g0 0)) x.b.os.length x.b.os.length,.l (some (aD g1 0)) x.b.gs.length x.b.gs.length,.l (some (aD g2 0)) x.b.ls.length x.b.ls.length,.l (some (aD g3 0)) x.b.ps.length x.b.ps.length,.l (some (aD W4.heap.size 0)) x.ds.length x.ds.length]:AV).toList):=hA6.trans (jS (by have:=HZ.o.1;omega) _ _ _);have hB7:Bw w (W6.setCells (w.heap.size+1) 0 (#[.i x.b.now,.i x.b.tick,.i x.b.given,.l (some (aD g0 0)) x.b.os.length x.b.os.length,.l (some (aD g1 0)) x.b.gs.length x.b.gs.length,.l (some (aD g2 0)) x.b.ls.length x.b.ls.length,.l (some (aD g3 0)) x.b.ps.length x.b.ps.length,.l (some (aD W4.heap.size 0)) x.ds.length x.ds.length]:AV).toList):=jQ (by omega) _ _ _ hB6
 revert hR7 hA7 hB7
 generalize W6.setCells (w.heap.size+1) 0 (#[.i x.b.now,.i x.b.tick,.i x.b.given,.l (some (aD g0 0)) x.b.os.length x.b.os.length,.l (some (aD g1 0)) x.b.gs.length x.b.gs.length,.l (some (aD g2 0)) x.b.ls.length x.b.ls.length,.l (some (aD g3 0)) x.b.ps.length x.b.ps.length,.l (some (aD W4.heap.size 0)) x.ds.length x.ds.length]:AV).toList=W7
 intro hR7 hA7 hB7;clear hO6 hR6 hA6 hB6;have HR7:=ji hA7 hB7;have cR7:=fun j=>cell_of_block (o:=j) hR7
 clear hA7 hB7
 (try simp only[Act.put])
 go_wp2_with fail
 refine bodyPost_ret (v:=.agg #[.i x.b.now,.i x.b.tick,.i x.b.given,.l (some (aD g0 0)) x.b.os.length x.b.os.length,.l (some (aD g1 0)) x.b.gs.length x.b.gs.length,.l (some (aD g2 0)) x.b.ls.length x.b.ls.length,.l (some (aD g3 0)) x.b.ps.length x.b.ps.length,.l (some (aD W4.heap.size 0)) x.ds.length x.ds.length]) (results_cell_row Tryz.results8 _ _ (w.heap.size+1) 53 #[.i x.b.now,.i x.b.tick,.i x.b.given,.l (some (aD g0 0)) x.b.os.length x.b.os.length,.l (some (aD g1 0)) x.b.gs.length x.b.gs.length,.l (some (aD g2 0)) x.b.ls.length x.b.ls.length,.l (some (aD g3 0)) x.b.ps.length x.b.ps.length,.l (some (aD W4.heap.size 0)) x.ds.length x.ds.length] _ _ rfl hR7 Tryz.underlying53 rfl (by kernel_rfl)) rfl ⟨_,_,_,_,_,rfl,?_,HR7.o.2⟩;have hz:=HZ.o;have hbk:=HN.o.1.above ((HA5.o.trans HR7.o.1).mono hz.2.1);exact⟨hbk.at HL.o.b.small,HFS.o _ (HR7.o.1.mono (by have:=HN.o.2.2;omega)),fun _=>hbk.os.has HL.o.b.os.smalls HL.o.b.os.len⟩
end Go.Proofs.YtedangodjiolaaaGreat
namespace Go.Proofs.YtedangodjiolaaaGreat
theorem zha {ss:List Shp}(h:zZ ss=true)(i:Nat)(hi:i<ss.length):yX ss i=true:=by
 unfold zZ at h;rw[Bool.and_eq_true]at h;exact zhS hi h.2
theorem zn8 {ss:List Shp}(h:zZ ss=true):∀(j:Nat) (hj:j<ss.length) (i:Nat) (hi:i<j),less (ss[i]'(by omega)).kd ss[j].kd=true:=by
 intro j
 induction j with
 | zero=>intro _ i hi;omega
 | succ j ih=>
  intro hj i hi;have h1:=zha h (j+1) hj;rw[zgn ss j hj]at h1;simp only[Bool.and_eq_true]at h1;have h2:=h1.1.2
  rcases Nat.lt_or_ge i j with hlt|hge
  ·exact zbh _ _ _ (ih (by omega) i hlt) h2
  ·have e:i=j:=by omega
   subst e;exact h2
theorem zd2 {ss:List Shp}(h:zZ ss=true)(i:Nat)(hi:i<ss.length):shapeOf ss ss[i].kd=ss[i]:=by
 refine zfS ss _ i hi ?_ rfl;unfold zC;rw[List.any_eq_false];intro x hx;obtain⟨k,hk,rfl⟩:=List.mem_iff_getElem.1 hx;have hk':k<i:=by simp at hk;omega
 have h1:=zn8 h i hi k hk';simp only[List.getElem_take,decide_eq_true_eq];intro e;unfold less at h1;rw[e,zbY]at h1
 cases h1
theorem zfJ {ss:List Shp}(h:zZ ss=true)(i:Nat)(hi:i<ss.length):ss[i].fs.length<=6:=by
 have h1:=zha h i hi;unfold yX at h1;rw[getD_at ss i _ hi]at h1;simp only[Bool.and_eq_true]at h1;have h2:=h1.2;unfold y9 at h2;simp only[Bool.and_eq_true,decide_eq_true_eq]at h2;exact h2.1
def zah (ss:List Shp)(m:Mnd):Bool:=zC ss m.kd&&za7 (shapeOf ss m.kd).fs m
def rowOk (ms:List Mnd)(s:Shp):Bool:=(zM (zo s ms) s.fs.length).1
def yw (ss:List Shp)(ms:List Mnd):Bool:=decide (ms.length<=12)&&zZ ss&&ms.all (zah ss)&&ss.all (rowOk ms)
theorem zi1 {ss:List Shp}{ms:List Mnd}(h:zZ ss=true)(hm:ms.all (zah ss)=true)(i:Nat)(hi:i<ss.length):∀q,q<ss[i].fs.length->∀x∈yC ss[i] ms q,0<=x/\x<ss[i].fs.length:=by
 intro q _ x hx;unfold yC at hx;obtain⟨m,hmm,hx⟩:=List.mem_flatMap.1 hx
 by_cases ht:turns m ss[i] q=true
 ·rw[if_pos ht]at hx
  obtain⟨v,hv,rfl⟩:=List.mem_map.1 hx;unfold turns at ht;simp only[Bool.and_eq_true,decide_eq_true_eq]at ht;have h1:=List.all_eq_true.1 hm m hmm;unfold zah at h1;rw[ht.1,zd2 h i hi]at h1;simp only[Bool.and_eq_true]at h1;have h2:=h1.2;unfold za7 at h2;simp only[Bool.and_eq_true]at h2;have h3:=List.all_eq_true.1 h2.1.2 v hv;unfold zab at h3;simp only[Bool.and_eq_true]at h3
  rcases jK ss[i].fs v with⟨_,h5⟩|⟨k,hk,h4,_⟩
  ·rw[zaX h5]at h3;exact absurd h3.2 (by simp)
  ·rw[h4];omega
 ·rw[if_neg ht]at hx;cases hx
end Go.Proofs.YtedangodjiolaaaGreat
namespace Go.Proofs.YtedangodjiolaaaGreat
open Go.RowKit
theorem zhi (a:OA)(cap:Nat)(ms:List Lg)(t:Lg)(w:World)(hw:zcJ w a ms)(hl:ms.length<=1000)(hr:rising qO ms) :
 Calls Tryz.prog 213 #[.l a ms.length cap,.agg t.cells,.func (.func 158) #[] #[]] w fun e w'=>(∃p:Nat,e=.returned (.tuple #[.i p,.bool (jC ms t.tm t.rs)])/\zfe ms t.tm t.rs p)/\Bw w w':=by
 have HW:=hid hw;have HR:Hid (rising qO ms):=hr;clear hw hr;unfold Lg.cells;go_enter Tryz.func213,Tryz.ntmps213;go_wp2_with fail
 have hT0:=zn w #[.s t.tm,.s t.rs,.i t.mo,.i t.fr] 171;have HB0:Hid (Bw w (w.alloc (.cells #[.s t.tm,.s t.rs,.i t.mo,.i t.fr] 171))):=bAl _ _;obtain⟨W0,hW0⟩:=xN (w.alloc (.cells #[.s t.tm,.s t.rs,.i t.mo,.i t.fr] 171));have hz0:w.heap.size<W0.heap.size:=by rw[hW0];simp
 rw[<- hW0]at HB0 hT0 ⊢;clear hW0;have hlI:(ms.length:Int)<=1000:=by omega
 go_loopw [9,10] (fun iv jv wr=>∃lo hi:Nat,iv=.i lo/\jv=.i hi/\lo<=hi/\hi<=ms.length/\Hid ((∀i (h:i<ms.length),i<lo->qO ms[i] t<0)/\(∀i (h:i<ms.length),hi<=i->0<=qO ms[i] t)/\Bw W0 wr)) (fun iv jv _=>(intOf jv).toNat-(intOf iv).toNat)
 case atStart=>exact⟨0,ms.length,rfl,rfl,Nat.zero_le _,Nat.le_refl _,fun i h h'=>by omega,fun i h h'=>by omega,bRf _ _⟩
 case round=>
  obtain⟨lo,hi,rfl,rfl,hlh,hhn,HQ⟩:=hrel;have hT:=za hT0 hz0 HQ.o.2.2;have hzT:=nLt hz0 HQ.o.2.2.size;have HBr:=hid (HB0.o.trans (HQ.o.2.2.mono HB0.o.size));have HBW:Hid (∀W,Bw w W->Bw wr W->Bw W0 W):=fun W _ h=>HQ.o.2.2.trans (h.mono HQ.o.2.2.size)
  have hloI:(lo:Int)<=1000:=by omega
  have hhiI:(hi:Int)<=1000:=by omega
  by_cases hlt:lo<hi
  ·obtain⟨m,hm⟩:=xN ((lo+hi) / 2)
   have HM1:Hid (lo<=m/\m<hi):=⟨by omega,by omega⟩
   have hml:m<ms.length:=by omega
   have hmI:((lo:Int)+(hi:Int)) / 2=(m:Int):=by omega
   clear hm;obtain⟨b,off,rfl,hb,d0,d1,d2,d3⟩:=HW.o.load HBr.o m hml;have hb':=nLt hb HBr.o.size;have hmlI:(m:Int)<(ms.length:Int):=by omega
   have hS:(∀j,wr.drew.cell? (aD w.heap.size j)=(#[.s t.tm,.s t.rs,.i t.mo,.i t.fr]:AV)[j]?)/\wr.drew.cell? (aD b (off+m*4))=some (.s ms[m].tm)/\wr.drew.cell? (aD b (off+m*4+1))=some (.s ms[m].rs)/\wr.drew.cell? (aD b (off+m*4+2))=some (.i ms[m].mo)/\wr.drew.cell? (aD b (off+m*4+3))=some (.i ms[m].fr):=⟨hT,d0,d1,d2,d3⟩
   clear d0 d1 d2 d3 hT;go_wp2_with fail
   go_region_held3 (fun w'=>(∀j,w'.cell? (aD w.heap.size j)=(#[.s t.tm,.s t.rs,.i t.mo,.i t.fr]:AV)[j]?)/\w'.cell? (aD b (off+m*4))=some (.s ms[m].tm)/\w'.cell? (aD b (off+m*4+1))=some (.s ms[m].rs)/\w'.cell? (aD b (off+m*4+2))=some (.i ms[m].mo)/\w'.cell? (aD b (off+m*4+3))=some (.i ms[m].fr)) (exact hS) (first|(go_at_call 158;refine(zcp ms[m] t _).mono ?_;rintro e w2⟨rfl,hb2⟩;have hS:=(⟨za hS.1 hzT hb2,(hb2.cell (p:=(aD b _)) hb').trans hS.2.1,(hb2.cell (p:=(aD b _)) hb').trans hS.2.2.1,(hb2.cell (p:=(aD b _)) hb').trans hS.2.2.2.1,(hb2.cell (p:=(aD b _)) hb').trans hS.2.2.2.2⟩:_/\_/\_/\_/\_);have hB2:=HBr.o.drew.trans (hb2.mono HBr.o.drew.size);have hB2':=(bRf wr.heap.size wr).drew.trans hb2;clear hb2))
   have HB2:=hid (HBW.o w2 hB2 hB2')
   by_cases hk:qO ms[m] t<0
   ·have hd:decide (qO ms[m] t<0)=true:=by simpa using hk
    have HA:Hid (∀i (h:i<ms.length),i<m+1->qO ms[i] t<0):=by
     intro i hi him
     rcases Nat.eq_or_lt_of_le (Nat.le_of_lt_succ him) with e|hlt'
     ·subst e;exact hk
     ·exact zby (zdY (fun a b c=>zby (a:=a) (b:=b) (c:=c)) HR.o m hml i hlt') hk
    rw[hd];clear hd hk hS;go_wp2_with fail
    exact⟨⟨m+1,hi,by go_num,rfl,HM1.o.2,hhn,HA.o,HQ.o.2.1,HB2.o⟩,by have:=HM1.o;show(hi:Int).toNat-((m:Int)+1).toNat<(hi:Int).toNat-(lo:Int).toNat;omega⟩
   ·have hd:decide (qO ms[m] t<0)=false:=by simpa using hk
    have HA:Hid (∀i (h:i<ms.length),m<=i->0<=qO ms[i] t):=by
     intro i hi him
     rcases Nat.eq_or_lt_of_le him with e|hlt'
     ·subst e;omega
     ·rcases Int.lt_or_le (qO ms[i] t) 0 with h1|h1
      ·exact absurd (zby (zdY (fun a b c=>zby (a:=a) (b:=b) (c:=c)) HR.o i hi m hlt') h1) hk
      ·exact h1
    rw[hd];clear hd hk hS;go_wp2_with fail
    exact⟨⟨lo,m,rfl,rfl,HM1.o.1,Nat.le_of_lt hml,HQ.o.1,HA.o,HB2.o⟩,by have:=HM1.o;show(m:Int).toNat-(lo:Int).toNat<(hi:Int).toNat-(lo:Int).toNat;omega⟩
  ·have e:hi=lo:=by omega
   subst e;have HA:Hid (zfe ms t.tm t.rs hi):=⟨hhn,HQ.o.1,HQ.o.2.1⟩
   clear HQ
   by_cases hn:hi<ms.length
   ·obtain⟨b,off,rfl,hb,d0,d1,d2,d3⟩:=HW.o.load HBr.o hi hn
    have hb':b<wr.heap.size:=nLt hb HBr.o.size;have hnI:(hi:Int)<(ms.length:Int):=by omega
    have hS:(∀j,wr.drew.cell? (aD w.heap.size j)=(#[.s t.tm,.s t.rs,.i t.mo,.i t.fr]:AV)[j]?)/\wr.drew.cell? (aD b (off+hi*4))=some (.s ms[hi].tm)/\wr.drew.cell? (aD b (off+hi*4+1))=some (.s ms[hi].rs)/\wr.drew.cell? (aD b (off+hi*4+2))=some (.i ms[hi].mo)/\wr.drew.cell? (aD b (off+hi*4+3))=some (.i ms[hi].fr):=⟨hT,d0,d1,d2,d3⟩
    have HFd:Hid (jC ms t.tm t.rs=(qO ms[hi] t == 0)):=by
     unfold Hid;rw[Bool.eq_iff_iff,HA.o.found HR.o,beq_iff_eq];unfold qO;rw[zg7];exact⟨fun h=>h.2,fun h=>⟨hn,h⟩⟩
    clear d0 d1 d2 d3 hT hlt;go_wp2_with fail
    go_region_held3 (fun w'=>(∀j,w'.cell? (aD w.heap.size j)=(#[.s t.tm,.s t.rs,.i t.mo,.i t.fr]:AV)[j]?)/\w'.cell? (aD b (off+hi*4))=some (.s ms[hi].tm)/\w'.cell? (aD b (off+hi*4+1))=some (.s ms[hi].rs)/\w'.cell? (aD b (off+hi*4+2))=some (.i ms[hi].mo)/\w'.cell? (aD b (off+hi*4+3))=some (.i ms[hi].fr)) (exact hS) (first|(go_at_call 158;refine(zcp ms[hi] t _).mono ?_;rintro e w2⟨rfl,hb2⟩;have hS:=(⟨za hS.1 hzT hb2,(hb2.cell (p:=(aD b _)) hb').trans hS.2.1,(hb2.cell (p:=(aD b _)) hb').trans hS.2.2.1,(hb2.cell (p:=(aD b _)) hb').trans hS.2.2.2.1,(hb2.cell (p:=(aD b _)) hb').trans hS.2.2.2.2⟩:_/\_/\_/\_/\_);have hB2:=HBr.o.drew.trans (hb2.mono HBr.o.drew.size);have hB2':=(bRf wr.heap.size wr).drew.trans hb2;clear hb2))
    go_wp2_with fail
    go_ret2
    exact⟨⟨hi,by rw[HFd.o];rfl,HA.o⟩,hB2⟩
   ·have hnI:¬(hi:Int)<(ms.length:Int):=by omega
    have HFd:Hid (jC ms t.tm t.rs=false):=by
     unfold Hid;rw[Bool.eq_false_iff];intro h;obtain⟨hp,_⟩:=(HA.o.found HR.o).1 h;exact hn hp
    clear hlt;go_wp2_with fail
    go_quiet (fail)
    go_wp2_with fail
    go_ret2
    exact⟨⟨hi,by rw[HFd.o];rfl,HA.o⟩,below_drewN HBr.o _⟩
end Go.Proofs.YtedangodjiolaaaGreat
namespace Go.Proofs.YtedangodjiolaaaGreat
open Go.ChangeShapes Go.WideShapes Go.ChangeAt Go.RowKit
theorem Tryz.zok:Tryz.prog.cellsOf 94=1:=by kernel_rfl
theorem Tryz.zle:Tryz.prog.cellsOf 96=10:=by kernel_rfl
theorem Tryz.zoM:Tryz.prog.cellsOf 33=1:=by kernel_rfl
theorem Tryz.zox:Tryz.prog.cellsOf 35=8:=by kernel_rfl
section
variable {H:Type} {enc:TypeId × Value->H} {w:World} {base:Nat} {spare:Nat->Bool} {held:Bool}
theorem znT {fuel:Nat}{cs:List Value}{x:DataW H × List MemPlace}(h:DataW.trod enc Tryz.prog w base spare held fuel 94 cs=some x) :
 ∃a cap ms,cs=[.l a (List.length ms) cap]/\zbJ w a ms:=by
 obtain⟨a,len,cap,rfl,hm,hr⟩:=j6 Tryz.underlying94 Tryz.zll (by omega) h
 rcases Nat.eq_zero_or_pos len with h0|hp
 ·subst h0
  exact⟨a,cap,[],rfl,⟨by simp[maxLen],fun h=>absurd rfl h⟩⟩
 ·obtain⟨b,off,rfl,hb,hrow⟩:=hr hp
  have hf:∀i,i<len->∃s:Sl,∃a0 a1 a2 a3 c0 c1 c2 c3,zqq w b (off+i*18) s a0 a1 a2 a3 c0 c1 c2 c3:=by
   intro i hi;obtain⟨es,n,y,hel,hcell,hy⟩:=hrow i hi;obtain⟨s,a0,a1,a2,a3,c0,c1,c2,c3,rfl,hs⟩:=zpl hy;exact⟨s,a0,a1,a2,a3,c0,c1,c2,c3,hs,fun j hj=>by rw[hcell j hj];simp⟩
  obtain⟨ms,hl,hms⟩:=za1 len hf;exact⟨_,cap,ms,by rw[hl],⟨by omega,fun _=>⟨b,off,rfl,hb,hms⟩⟩⟩
theorem zpa {fuel:Nat}{cs:List Value}{x:DataW H × List MemPlace}(h:DataW.trod enc Tryz.prog w base spare held fuel 96 cs=some x) :
 ∃(d:Dor) (a0 a1 a2 a3 a4:OA) (q0 q1 q2 q3 q4:Nat),cs=(d.cells a0 a1 a2 a3 a4 q0 q1 q2 q3 q4).toList/\zbR False w d a0 a1 a2 a3 a4:=by
 have hlen:cs.length=10:=by
  obtain⟨_,_,_,_,hl,_,_⟩:=DataW.trod_struct Tryz.underlying96 h;rw[hl];exact Tryz.zle
 match cs,hlen with
 | [d0,d1,c0,c1,c2,c3,c4,c5,c6,d3],_=>
  have hf:=jd Tryz.underlying96 h;obtain⟨_,_,f0⟩:=hf 0 9 0 d0 rfl Tryz.zL rfl;obtain⟨_,_,f1⟩:=hf 1 4 1 d1 rfl Tryz.zfk rfl;obtain⟨_,_,f2⟩:=zc5 Tryz.underlying96 h 2 32 2 7 rfl Tryz.zho;obtain⟨_,_,f3⟩:=hf 3 94 9 d3 rfl Tryz.zok rfl;obtain⟨nm,e0,_,s0⟩:=DataW.trod_string Tryz.underlying9 f0;obtain⟨up,e1,_⟩:=DataW.trod_bool Tryz.underlying4 f1;obtain⟨v,a0,a1,a2,a3,q0,q1,q2,q3,e2,hx⟩:=zlr f2;obtain⟨a4,q4,ss,e3,hw⟩:=znT f3;simp only[List.cons.injEq,and_true]at e0 e1 e3;subst e0 e1 e3;have er:[c0,c1,c2,c3,c4,c5,c6]=(v.cells a0 a1 a2 a3 q0 q1 q2 q3).toList:=e2;unfold Bk.cells at er;simp only[List.cons.injEq,and_true]at er;obtain⟨g0,g1,g2,g3,g4,g5,g6⟩:=er;subst g0 g1 g2 g3 g4 g5 g6;exact⟨⟨nm,up,v,ss⟩,a0,a1,a2,a3,a4,q0,q1,q2,q3,q4,rfl,⟨s0,hx,hw,fun h=>h.elim⟩⟩
theorem znJ {fuel:Nat}{cs:List Value}{x:DataW H × List MemPlace}(h:DataW.trod enc Tryz.prog w base spare held fuel 33 cs=some x) :
 ∃a cap ms,cs=[.l a (List.length ms) cap]/\zaq False w a ms:=by
 obtain⟨a,len,cap,rfl,hm,hr⟩:=j6 Tryz.underlying33 Tryz.zle (by omega) h
 rcases Nat.eq_zero_or_pos len with h0|hp
 ·subst h0
  exact⟨a,cap,[],rfl,⟨by simp[maxLen],fun h=>absurd rfl h⟩⟩
 ·obtain⟨b,off,rfl,hb,hrow⟩:=hr hp
  have hf:∀i,i<len->∃d:Dor,∃a0 a1 a2 a3 a4 c0 c1 c2 c3 c4,zmC False w b (off+i*10) d a0 a1 a2 a3 a4 c0 c1 c2 c3 c4:=by
   intro i hi;obtain⟨es,n,y,hel,hcell,hy⟩:=hrow i hi;obtain⟨d,a0,a1,a2,a3,a4,c0,c1,c2,c3,c4,rfl,hs⟩:=zpa hy;exact⟨d,a0,a1,a2,a3,a4,c0,c1,c2,c3,c4,hs,fun j hj=>by rw[hcell j hj];simp⟩
  obtain⟨ms,hl,hms⟩:=za1 len hf;exact⟨_,cap,ms,by rw[hl],⟨by omega,fun _=>⟨b,off,rfl,hb,hms⟩⟩⟩
theorem znI {fuel:Nat}{cs:List Value}{x:DataW H × List MemPlace}(h:DataW.trod enc Tryz.prog w base spare held fuel 35 cs=some x) :
 ∃(y:Wd) (a0 a1 a2 a3 a4:OA) (q0 q1 q2 q3 q4:Nat),cs=(y.cells a0 a1 a2 a3 a4 q0 q1 q2 q3 q4).toList/\zgp False w y a0 a1 a2 a3 a4:=by
 have hlen:cs.length=8:=by
  obtain⟨_,_,_,_,hl,_,_⟩:=DataW.trod_struct Tryz.underlying35 h;rw[hl];exact Tryz.zox
 match cs,hlen with
 | [c0,c1,c2,c3,c4,c5,c6,d1],_=>
  have hf:=jd Tryz.underlying35 h;obtain⟨_,_,f0⟩:=zc5 Tryz.underlying35 h 0 32 0 7 rfl Tryz.zho;obtain⟨_,_,f1⟩:=hf 1 33 7 d1 rfl Tryz.zoM rfl;obtain⟨v,a0,a1,a2,a3,q0,q1,q2,q3,e0,hx⟩:=zlr f0;obtain⟨a4,q4,ds,e1,hw⟩:=znJ f1;simp only[List.cons.injEq,and_true]at e1;subst e1;have er:[c0,c1,c2,c3,c4,c5,c6]=(v.cells a0 a1 a2 a3 q0 q1 q2 q3).toList:=e0;unfold Bk.cells at er;simp only[List.cons.injEq,and_true]at er;obtain⟨g0,g1,g2,g3,g4,g5,g6⟩:=er;subst g0 g1 g2 g3 g4 g5 g6;exact⟨⟨v,ds⟩,a0,a1,a2,a3,a4,q0,q1,q2,q3,q4,rfl,⟨hx,hw,fun h=>h.elim⟩⟩
end
end Go.Proofs.YtedangodjiolaaaGreat
namespace Go.Proofs.YtedangodjiolaaaGreat
open Go.RowKit
theorem qB (a:OA)(cap:Nat)(fs:List Fld)(v:BA)(w:World)(hw:yh w a fs) :
 Calls Tryz.prog 181 #[.l a fs.length cap,.s v] w fun e w'=>e=.returned (.i (zS fs v))/\w'=w:=by
 have hl:=hw.len;unfold maxLen at hl;go_enter Tryz.func181,Tryz.ntmps181
 go_wp2
 go_loop [5] (fun i=>∃k:Nat,k<=fs.length/\i=.i k/\hasName (fs.take k) v=false) (fun i=>fs.length-(intOf i).toNat)
 case atStart=>exact⟨0,Nat.zero_le _,rfl,rfl⟩
 case round=>
  obtain⟨k,hk,rfl,hno⟩:=hrel
  by_cases hlt:k<fs.length
  ·obtain⟨b,off,rfl,hb,hr⟩:=hw.rows (by rintro rfl;simp at hlt)
   obtain⟨wa,wcap,hf⟩:=hr k hlt;obtain⟨c0,c1,c2,c3,c4,c5,c6,c7,c8,c9,c10⟩:=hf.load;clear hw hr hf c1 c2 c3 c4 c5 c6 c7 c8 c9 c10
   by_cases he:fs[k].nm=v
   ·have hbe:(fs[k].nm.toList == v.toList)=true:=by rw[beq_toList];simpa using he
    have HB:Hid (zS fs v=(k:Int)):=zd7 fs v k hlt hno he;clear he hno
    go_wp2
    go_ret;exact⟨by rw[HB.o];rfl,rfl⟩
   ·have hbe:(fs[k].nm.toList == v.toList)=false:=by rw[beq_toList];simpa using he
    have HS:Hid (hasName (fs.take (k+1)) v=false):=by unfold Hid;rw[zem fs v k hlt,hno,decide_eq_false he];rfl
    clear he hno
    go_wp2
    go_round
    case rel=>exact⟨k+1,by omega,by go_num,HS.o⟩
    case measure=>simp[intOf];omega
  ·have HA:Hid (zS fs v=-1):=zgJ fs v (by rw[<- zhI fs v k (by omega)];exact hno)
   clear hno hw
   go_wp2
   go_ret;exact⟨by rw[HA.o];rfl,rfl⟩
theorem zJ (a:OA)(cap:Nat)(fs:List Fld)(v:BA)(w:World)(hw:yh w a fs) :
 Calls Tryz.prog 180 #[.l a fs.length cap,.s v] w fun e w'=>e=.returned (.bool (plain fs v))/\Bw w w':=by
 have hl:=hw.len;unfold maxLen at hl
 rcases jK fs v with⟨h1,h2⟩|⟨i,hi,h1,h2,h3⟩
 ·have HP:Hid (plain fs v=false):=zaX h2
  go_enter Tryz.func180,Tryz.ntmps180;go_wp2_with fail
  have h:=qB a cap fs v w hw;rw[h1]at h;refine h.mono ?_;rintro e w1⟨rfl,rfl⟩;clear h;go_wp2_with fail
  go_ret;exact⟨by rw[HP.o];rfl,bRf _ _⟩
 ·have HP:Hid (plain fs v=decide (fs[i].kd≠4)):=zjq h3
  obtain⟨b,off,rfl,hb,hr⟩:=hw.rows (by rintro rfl;simp at hi);obtain⟨wa,wcap,hf0⟩:=hr i hi;go_enter Tryz.func180,Tryz.ntmps180;go_wp2_with fail
  have h:=qB (some (aD b off)) cap fs v w hw;rw[h1]at h;refine h.mono ?_;rintro e w1⟨rfl,rfl⟩;obtain⟨c0,c1,c2,c3,c4,c5,c6,c7,c8,c9,c10⟩:=hf0.load;have hiI:(i:Int)<(fs.length:Int):=by omega
  have hge:decide ((i:Int)≥0)=true:=by simp
  clear h hw hr hf0 h3 h2 h1;go_wp2_with fail
  go_ret;exact⟨by rw[HP.o];exact zq5 fs[i].kd,bRf _ _⟩
def yH (fs:List Fld)(m:Mnd):Bool:=
 plain fs m.fd&&(!isSet m.wh||plain fs m.wh)&&(!isSet m.fr||plain fs m.fr)&&!decide (m.wh=m.fd)&&!decide (m.fr=m.fd)&&yG fs m
theorem zpg (s:BA):isSet s=true↔s≠ByteArray.empty:=by
 unfold isSet;rw[zB]
 constructor
 ·intro h e;subst e;simp at h
 ·intro h
  simp only[Bool.not_eq_true',decide_eq_false_iff_not];intro h0
  apply h
  have:s.data.size=0:=h0
  cases s with
  | mk d=>simp only at this;have:=Array.eq_empty_of_size_eq_zero this;subst this;rfl
set_option maxRecDepth 20000 in
theorem zet (a a':OA)(cap cap':Nat)(ss:List Shp)(ms:List Mnd)(w:World)(hw:yM w a ss)(hm:qM w a' ms)(hml:ms.length<=1048576) :
 Calls Tryz.prog 97 #[.l a ss.length cap,.l a' ms.length cap'] w fun e w'=>e=.returned (.bool (yw ss ms))/\Bw w w':=by
 have HW:=ji hw hm;have hl:=hw.len;unfold maxLen at hl;clear hw hm
 by_cases h12:ms.length<=12
 rotate_left
 ·have HF:Hid (yw ss ms=false):=by unfold Hid yw;rw[decide_eq_false h12];simp
  go_enter Tryz.func97,Tryz.ntmps97;go_wp2_with fail
  go_ret;exact⟨by rw[HF.o];rfl,bRf _ _⟩
 have h12I:(ms.length:Int)<=12:=by omega
 by_cases hok:zZ ss=true
 rotate_left
 ·have hokf:zZ ss=false:=by simpa using hok
  have HF:Hid (yw ss ms=false):=by unfold Hid yw;rw[hokf];simp
  go_enter Tryz.func97,Tryz.ntmps97;go_wp2_with fail
  have h:=zdV a cap ss w HW.o.1;rw[hokf]at h;refine h.mono ?_;rintro e w1⟨rfl,hb1⟩;clear h;go_wp2_with fail
  go_ret;exact⟨by rw[HF.o];rfl,hb1⟩
 have HOK:=hid hok;go_enter Tryz.func97,Tryz.ntmps97;go_wp2_with fail
 have h:=zdV a cap ss w HW.o.1;rw[hok]at h;refine h.mono ?_;rintro e w1⟨rfl,hb1⟩;have HB1:=hid hb1;clear h hb1 hok;go_wp2_with fail
 refine(zc2 _).mono ?_;rintro e w2⟨rfl,hw2⟩
 have HB2:Hid (Bw w w2/\w2.heap[w1.heap.size]?=some (.map yS 4)/\w1.heap.size<w2.heap.size):=by
  rw[hw2];exact⟨HB1.o.trans ((bAl _ _).mono HB1.o.size),alloc_at _ _,by simp⟩
 clear hw2;go_wp2_with fail
 go_loopw [25] (fun iv wr=>∃k:Nat,k<=ms.length/\iv=.i k/\(ms.take k).all (zah ss)=true/\Bw w2 wr) (fun iv _=>ms.length-(intOf iv).toNat)
 case atStart=>exact⟨0,Nat.zero_le _,rfl,rfl,bRf _ _⟩
 case round=>
  obtain⟨k,hk,rfl,hall,hB⟩:=hrel;have HB:=ji hB (HB2.o.1.trans (hB.mono HB2.o.1.size));have HA:=hid hall;clear hall hB
  by_cases hlt:k<ms.length
  ·obtain⟨b,off,rfl,hb,c0,c1,c2,c3,c4,c5⟩:=HW.o.2.load HB.o.2 k hlt
   have hltI:(k:Int)<(ms.length:Int):=by omega
   have hsm:=HW.o.2.small k hlt
   have HTK:Hid ((ms.take (k+1)).all (zah ss)=zah ss ms[k]):=by
    unfold Hid;rw[tSe hlt,List.all_append,HA.o];simp
   have HNO:Hid (zah ss ms[k]=false->yw ss ms=false):=by
    intro h
    have:ms.all (zah ss)=false:=by rw[List.all_eq_false];exact⟨_,List.getElem_mem hlt,by rw[h];simp⟩
    unfold yw;rw[this];simp
   have hba:=(bRf wr.heap.size wr).alloc (Nat.le_refl _) (.cells #[.s ms[k].kd,.s ms[k].fd,.s ms[k].wh,.s ms[k].wi,.s ms[k].pt,.s ms[k].fr] 115);have HSM:=hid hsm;clear hsm;go_wp2_with fail
   have h:=ql a cap ss ms[k].kd _ (HW.o.1.mono (HB.o.2.trans (hba.mono HB.o.2.size)))
   by_cases hkk:zC ss ms[k].kd=true
   rotate_left
   ·have hkf:zC ss ms[k].kd=false:=by simpa using hkk
    rw[hkf]at h;refine h.mono ?_;rintro e w3⟨fa,fcap,rfl,hfl,hb3⟩;have HF:=ji (HNO.o (by unfold zah;rw[hkf];rfl)) (HB.o.2.trans ((hba.trans (hb3.mono hba.size)).mono HB.o.2.size));clear h hba hfl hb3 c0 c1 c2 c3 c4 c5;go_wp2_with fail
    go_ret;exact⟨by rw[HF.o.1];rfl,HF.o.2.alloc HF.o.2.size _⟩
   rw[hkk]at h;refine h.mono ?_;rintro e w3⟨fa,fcap,rfl,hfl,hb3⟩;have hX3:=za (zn wr _ _) (by simp) hb3;have hz3:wr.heap.size<w3.heap.size:=by have:=hb3.size;simp at this;omega
   have HB3:=hid (hba.trans (hb3.mono hba.size));have hbs:=(bRf w3.heap.size w3).alloc (Nat.le_refl _) (.cells #[.s (shapeOf ss ms[k].kd).kd,.l fa (shapeOf ss ms[k].kd).fs.length fcap] 113);have HB4:=hid (HB3.o.trans (hbs.mono HB3.o.size));have HFL:=hid ((hfl.mono hb3).mono hbs);have HMA:Hid (zah ss ms[k]=za7 (shapeOf ss ms[k].kd).fs ms[k]):=by unfold Hid zah;rw[hkk];simp
   have HRM:Hid ((w3.alloc (.cells #[.s (shapeOf ss ms[k].kd).kd,.l fa (shapeOf ss ms[k].kd).fs.length fcap] 113)).heap[w1.heap.size]?=some (.map yS 4)):=by
    have h1:=HB.o.1.size;have h2:=HB2.o.2.2;exact(HB4.o.block w1.heap.size (by omega)).trans ((HB.o.1.block w1.heap.size h2).trans HB2.o.2.1)
   clear h hba hfl hb3 hbs hkk c0 c1 c2 c3 c4 c5;go_wp2_with fail
   have h:=znZ w1.heap.size fa fcap (shapeOf ss ms[k].kd).fs ms[k] _ HRM.o HFL.o HSM.o
   by_cases hmo:za7 (shapeOf ss ms[k].kd).fs ms[k]=true
   ·rw[hmo]at h
    refine h.mono ?_;rintro e w5⟨rfl,hb5⟩;have HY:Hid ((ms.take (k+1)).all (zah ss)=true/\Bw w2 w5):=⟨by rw[HTK.o,HMA.o];exact hmo,HB.o.1.trans ((HB4.o.trans (hb5.mono HB4.o.size)).mono HB.o.1.size)⟩
    clear h hb5 hmo hX3;go_wp2_with fail
    exact⟨⟨k+1,by omega,by go_num,HY.o.1,HY.o.2⟩,zy hlt⟩
   ·have hmf:za7 (shapeOf ss ms[k].kd).fs ms[k]=false:=by simpa using hmo
    rw[hmf]at h;refine h.mono ?_;rintro e w5⟨rfl,hb5⟩;have HF:=ji (HNO.o (by rw[HMA.o];exact hmf)) (HB.o.2.trans ((HB4.o.trans (hb5.mono HB4.o.size)).mono HB.o.2.size));clear h hb5 hmo hX3;go_wp2_with fail
    go_ret;exact⟨by rw[HF.o.1];rfl,HF.o.2⟩
  ·have e:k=ms.length:=by omega
   have hall:=HA.o;rw[e,tOl (Nat.le_refl _)]at hall;have HALL:=hid hall;subst e;clear hall HA;go_wp2_with fail
   have HBw:=hid HB.o.2;clear HB
   go_loopw [49] (fun iv wq=>∃k:Nat,k<=ss.length/\iv=.i k/\(ss.take k).all (rowOk ms)=true/\Bw w wq) (fun iv _=>ss.length-(intOf iv).toNat)
   case atStart=>exact⟨0,Nat.zero_le _,rfl,rfl,HBw.o⟩
   case round=>
    obtain⟨k,hk,rfl,hall,hB⟩:=hrel;have HB:=hid hB;have HA:=hid hall;clear hall hB
    by_cases hlt:k<ss.length
    ·obtain⟨b,off,rfl,hb,hr⟩:=HW.o.1.rows (by rintro rfl;simp at hlt)
     obtain⟨fa,fcap,hs0⟩:=hr k hlt;have hs:=hs0.mono hb HB.o;have hck:=hs.kind;have hcl:=hs.list;have hfl:=hs.flds;have hltI:(k:Int)<(ss.length:Int):=by omega
     have HTK:Hid ((ss.take (k+1)).all (rowOk ms)=rowOk ms ss[k]):=by
      unfold Hid;rw[tSe hlt,List.all_append,HA.o];simp
     have HNO:Hid (rowOk ms ss[k]=false->yw ss ms=false):=by
      intro h
      have:ss.all (rowOk ms)=false:=by rw[List.all_eq_false];exact⟨_,List.getElem_mem hlt,by rw[h];simp⟩
      unfold yw;rw[this];simp
     have hba:=(bRf wr.heap.size wr).alloc (Nat.le_refl _) (.cells #[.s ss[k].kd,.l fa ss[k].fs.length fcap] 113);have HFL:=hid (hfl.mono hba);have HBA:Hid (Bw w (wr.alloc (.cells #[.s ss[k].kd,.l fa ss[k].fs.length fcap] 113))):=HB.o.trans (hba.mono HB.o.size);clear hr hs0 hs hfl hba;go_wp2_with fail
     have h:=zhO ss[k] ms a' fa cap' fcap _ (HW.o.2.mono HBA.o) HFL.o hml (zfJ HOK.o k hlt) (zi1 HOK.o HALL.o k hlt)
     by_cases hrk:rowOk ms ss[k]=true
     ·have hrk':(zM (zo ss[k] ms) ss[k].fs.length).1=true:=hrk
      refine h.mono ?_;rintro e w5⟨v5,rfl,hb5,_⟩;have HY:Hid ((ss.take (k+1)).all (rowOk ms)=true/\Bw w w5):=⟨by rw[HTK.o];exact hrk,HBA.o.trans (hb5.mono HBA.o.size)⟩
      rw[hrk'];clear h hb5 hrk hrk' hck hcl;go_wp2_with fail
      exact⟨⟨k+1,by omega,by go_num,HY.o.1,HY.o.2⟩,zy hlt⟩
     ·have hrf:rowOk ms ss[k]=false:=by simpa using hrk
      have hrk':(zM (zo ss[k] ms) ss[k].fs.length).1=false:=hrf;refine h.mono ?_;rintro e w5⟨v5,rfl,hb5,_⟩;have HF:Hid (yw ss ms=false/\Bw w w5):=⟨HNO.o hrf,HBA.o.trans (hb5.mono HBA.o.size)⟩
      rw[hrk'];clear h hb5 hrk hrk' hck hcl;go_wp2_with fail
      go_ret;exact⟨by rw[HF.o.1];rfl,HF.o.2⟩
    ·have e:k=ss.length:=by omega
     have hall:=HA.o;rw[e,tOl (Nat.le_refl _)]at hall;have HF:Hid (yw ss ms=true):=by unfold Hid yw;rw[HALL.o,HOK.o,hall,decide_eq_true h12];rfl
     subst e;clear hall HA;go_wp2_with fail
     go_ret;exact⟨by rw[HF.o];rfl,HB.o⟩
def jg (a b:BA):Value:=.agg #[.s a,.s b]
structure yV (w:World)(r:Nat)(f:BA->BA->Option Int):Prop where
 ex:∃es clock,w.heap[r]?=some (.map es clock)/\(∀x∈es.toList,∃a b v,x.key=jg a b/\a.size<=maxLen/\b.size<=maxLen/\x.val=.i v/\f a b=some v)/\(∀a b v,f a b=some v->∃x∈es.toList,x.key=jg a b)/\∀(i j:Nat) (x y:MapEntry),es[i]?=some x->es[j]?=some y->x.key=y.key->i=j
 stamps:∀es clock,w.heap[r]?=some (.map es clock)->(∀x∈es.toList,x.born<clock)/\(es.toList.map (·.born)).Nodup
theorem yV.keep {w w':World}{r:Nat}{f:BA->BA->Option Int}(h:yV w r f)(hb:w'.heap[r]?=w.heap[r]?):yV w' r f:=by
 obtain⟨es,clock,h1,h2⟩:=h.ex;exact⟨⟨es,clock,hb.trans h1,h2⟩,fun es' c' h'=>h.stamps es' c' (hb.symm.trans h')⟩
theorem yV.lt {w:World}{r:Nat}{f:BA->BA->Option Int}(h:yV w r f):r<w.heap.size:=by
 obtain⟨es,clock,h1,_⟩:=h.ex;exact(gES h1).1
theorem yV.mono {w w':World}{r:Nat}{f:BA->BA->Option Int}(h:yV w r f)(hb:Bw w w'):yV w' r f:=h.keep (hb.block r h.lt)
structure ziZ (kt:TypeId):Prop where
 law:WideMaps.KeyLaw Tryz.prog kt
 key:∀a b:BA,a.size<=maxLen->b.size<=maxLen->∃l,keyOf Tryz.prog kt (jg a b)=some l
theorem zmD (a b:BA)(ha:a.size<=maxLen)(hb:b.size<=maxLen):Tryz.prog.keyLits (Tryz.prog.types.size+1) 245 [.string a,.string b]=some [.string a.data.toList,.string b.data.toList]:=by
 have e:Tryz.prog.types.size=(Tryz.prog.types.size-1)+1:=by kernel_rfl
 rw[e]
 generalize Tryz.prog.types.size-1=n
 have c:Tryz.prog.cellsOf 245=2:=by kernel_rfl
 have cs:Tryz.prog.cellsOf 9=1:=by kernel_rfl
 simp[Program.keyLits,Tryz.underlying245,Tryz.underlying9,c,cs,ha,hb]
theorem zcZ:ziZ 245:=by
 refine⟨deep_law_laid (m:=3) (by kernel_rfl) (by omega) (by decide +kernel) (by kernel_rfl) (by kernel_rfl),fun a b ha hb=>?_⟩;have h1:Tryz.prog.keyType 245=true:=by kernel_rfl
 have h2:(jg a b).formed Tryz.prog 245=true:=by kernel_rfl
 have h3:(jg a b).cells.toList=[.s a,.s b]:=rfl;refine⟨.string (keyBytes [.string a.data.toList,.string b.data.toList]),?_⟩
 ·unfold keyOf
  rw[Tryz.underlying245];simp only[h1,h2,h3,Bool.and_self,if_true];rw[zmD a b ha hb]
  rfl
theorem zmo (a b:BA)(ha:a.size<=maxLen)(hb:b.size<=maxLen):Tryz.prog.keyLits (Tryz.prog.types.size+1) 285 [.string a,.string b]=some [.string a.data.toList,.string b.data.toList]:=by
 have e:Tryz.prog.types.size=(Tryz.prog.types.size-1)+1:=by kernel_rfl
 rw[e]
 generalize Tryz.prog.types.size-1=n
 have c:Tryz.prog.cellsOf 285=2:=by kernel_rfl
 have cs:Tryz.prog.cellsOf 9=1:=by kernel_rfl
 simp[Program.keyLits,Tryz.underlying285,Tryz.underlying9,c,cs,ha,hb]
theorem zjO:ziZ 285:=by
 refine⟨deep_law_laid (m:=3) (by kernel_rfl) (by omega) (by decide +kernel) (by kernel_rfl) (by kernel_rfl),fun a b ha hb=>?_⟩;have h1:Tryz.prog.keyType 285=true:=by kernel_rfl
 have h2:(jg a b).formed Tryz.prog 285=true:=by kernel_rfl
 have h3:(jg a b).cells.toList=[.s a,.s b]:=rfl;refine⟨.string (keyBytes [.string a.data.toList,.string b.data.toList]),?_⟩
 ·unfold keyOf
  rw[Tryz.underlying285];simp only[h1,h2,h3,Bool.and_self,if_true];rw[zmo a b ha hb]
  rfl
section
variable {kt mt:TypeId} (K:ziZ kt) (hm:Tryz.prog.underlying mt=some (.map kt 3))
include K hm
theorem yV.look {w:World}{r:Nat}{f:BA->BA->Option Int}(h:yV w r f)(a b:BA)(ha:a.size<=maxLen)(hb:b.size<=maxLen)(ok:Bool) :
 (Instr.lookup mt (.map (some r)) (jg a b) ok).run Tryz.prog w=.ok (if ok then .tuple #[.i ((f a b).getD 0),.bool (f a b).isSome] else .i ((f a b).getD 0)) w:=by
 obtain⟨es,clock,hh,h1,h2,h3⟩:=h.ex;obtain⟨l,hl⟩:=K.key a b ha hb;have hz:(zeroValue 3).run Tryz.prog w=.ok (.i 0) w:=by kernel_rfl
 have hkeys:∀e∈es.toList,∃l,keyOf Tryz.prog kt e.key=some l:=fun e he=>by
  obtain⟨a',b',v,e1,ha',hb',_⟩:=h1 e he;rw[e1];exact K.key a' b' ha' hb'
 have hc:=K.law.check w es.isEmpty hl
 rcases K.law.find w hl es.toList hkeys with⟨g1,g2⟩|⟨j,e,g1,g2,g3⟩
 ·have hn:f a b=none:=by
   cases hf:f a b with
   | none=>rfl
   | some v=>
    obtain⟨x,hx,hk⟩:=h2 a b v hf;exact absurd hk (g2 x hx)
  rw[hn]
  cases ok <;> simp[Instr.lookup,run_underlying hm,MapKept.run_getObj_map hh,hc,g1,hz,Result.andThen]
 ·obtain⟨a',b',v',e1,_,_,e2,e3⟩:=h1 e (List.mem_of_getElem? g2)
  rw[g3]at e1;have hab:a=a'/\b=b':=by unfold jg at e1;simpa using e1
  obtain⟨rfl,rfl⟩:=hab;rw[e3];rw[e2]at g1
  cases ok <;> simp[Instr.lookup,run_underlying hm,MapKept.run_getObj_map hh,hc,g1,Result.andThen]
theorem yV.upd {w:World}{r:Nat}{f:BA->BA->Option Int}(h:yV w r f)(a b:BA)(ha:a.size<=maxLen)(hb:b.size<=maxLen)(v:Int) :
 ∃w',(Instr.mapUpdate mt (.map (some r)) (jg a b) (.i v)).run Tryz.prog w=.ok () w'/\yV w' r (fun p q=>if p=a/\q=b then some v else f p q)/\zg1 r w w':=by
 obtain⟨es,clock,hh,h1,h2,h3⟩:=h.ex;obtain⟨l,hl⟩:=K.key a b ha hb
 have hkeys:∀e∈es.toList,∃l,keyOf Tryz.prog kt e.key=some l:=fun e he=>by
  obtain⟨a',b',v,e1,ha',hb',_⟩:=h1 e he;rw[e1];exact K.key a' b' ha' hb'
 have hc:=K.law.check w es.isEmpty hl;have hs:=K.law.stays w hl;have inj:∀p q,jg p q=jg a b↔p=a/\q=b:=fun p q=>by unfold jg;simp
 rcases K.law.find w hl es.toList hkeys with⟨g1,g2⟩|⟨j,e,g1,g2,g3⟩
 ·refine⟨{ w with heap:=w.heap.setIfInBounds r (.map (es.push ⟨jg a b,.i v,clock⟩) (clock+1)) },?_,⟨⟨_,_,(MapKept.heap_set hh).1,?_,?_,?_⟩,?_⟩,rfl,rfl,rfl,by simp,fun q hq=>(MapKept.heap_set hh).2 q hq⟩
  ·have hc':=K.law.check w false hl
   simp[Instr.mapUpdate,run_underlying hm,MapKept.run_getObj_map hh,hc',g1,MapKept.run_setObj_map _ hh,Result.andThen]
  ·intro x hx
   rw[Array.toList_push,List.mem_append,List.mem_singleton]at hx
   rcases hx with hx|rfl
   ·obtain⟨a',b',v',e1,s1,s2,e2,e3⟩:=h1 x hx
    refine⟨a',b',v',e1,s1,s2,e2,?_⟩
    have:¬(a'=a/\b'=b):=fun he=>g2 x hx (e1.trans ((inj a' b').2 he))
    simp only[if_neg this];exact e3
   ·exact⟨a,b,v,rfl,ha,hb,rfl,by simp⟩
  ·intro p q u hq
   by_cases e:p=a/\q=b
   ·obtain⟨rfl,rfl⟩:=e
    exact⟨⟨jg p q,.i v,clock⟩,by simp,rfl⟩
   ·rw[if_neg e]at hq
    obtain⟨x,hx,hk⟩:=h2 p q u hq;exact⟨x,by simp[Array.toList_push];exact Or.inl (by simpa using hx),hk⟩
  ·intro i j' x y hx hy hxy
   rw[Array.getElem?_push]at hx hy
   by_cases e1:i=es.size
   ·by_cases e2:j'=es.size
    ·omega
    ·rw[if_pos e1]at hx
     rw[if_neg e2]at hy;have hm:y∈es.toList:=by rw[<- Array.mem_def];exact Array.mem_of_getElem? hy
     cases hx
     exact absurd hxy.symm (g2 y hm)
   ·by_cases e2:j'=es.size
    ·rw[if_neg e1]at hx
     rw[if_pos e2]at hy;have hm:x∈es.toList:=by rw[<- Array.mem_def];exact Array.mem_of_getElem? hx
     cases hy
     exact absurd hxy (g2 x hm)
    ·rw[if_neg e1]at hx
     rw[if_neg e2]at hy;exact h3 i j' x y hx hy hxy
  ·intro es' c' h'
   rw[(MapKept.heap_set hh).1]at h'
   cases h'
   obtain⟨s1,s2⟩:=h.stamps es clock hh;refine⟨fun x hx=>?_,?_⟩
   ·rw[Array.toList_push,List.mem_append,List.mem_singleton]at hx
    rcases hx with hx|rfl
    ·have:=s1 x hx;omega
    ·exact Nat.lt_succ_self _
   ·simp only[Array.toList_push,List.map_append,List.map_cons,List.map_nil]
    refine List.nodup_append.2 ⟨s2,by simp,fun a ha c hc e1=>?_⟩;simp only[List.mem_singleton]at hc;obtain⟨x,hx,rfl⟩:=List.mem_map.1 ha
    have:=s1 x hx
    omega
 ·have hj:es[j]?=some e:=by simpa using g2
  have hj':j<es.size:=(gES hj).1;refine⟨{ w with heap:=w.heap.setIfInBounds r (.map (es.modify j fun x=>{ x with key:=jg a b,val:=.i v }) clock) },?_,⟨⟨_,_,(MapKept.heap_set hh).1,?_,?_,?_⟩,?_⟩,rfl,rfl,rfl,by simp,fun q hq=>(MapKept.heap_set hh).2 q hq⟩
  ·have hc':=K.law.check w false hl
   simp[Instr.mapUpdate,run_underlying hm,MapKept.run_getObj_map hh,hc',g1,hj,g3,hs,MapKept.run_setObj_map _ hh,Result.andThen]
  ·intro x hx
   obtain⟨i,hi,rfl⟩:=List.mem_iff_getElem.1 hx;have hi':i<es.size:=by simpa using hi
   simp only[Array.getElem_toList,Array.getElem_modify]
   by_cases e':j=i
   ·subst e'
    simp only[if_true];exact⟨a,b,v,rfl,ha,hb,rfl,by simp⟩
   ·simp only[if_neg e']
    obtain⟨a',b',v',e1,s1,s2,e2,e3⟩:=h1 es[i] (by simp)
    have ek:¬(a'=a/\b'=b):=by
     intro he;exact e' (h3 j i e es[i] hj (Array.getElem?_eq_getElem hi') (g3.trans (e1.trans ((inj a' b').2 he)).symm))
    exact⟨a',b',v',e1,s1,s2,e2,by rw[if_neg ek];exact e3⟩
  ·intro p q u hq
   by_cases e':p=a/\q=b
   ·obtain⟨rfl,rfl⟩:=e'
    refine⟨(es.modify j fun x=>{ x with key:=jg p q,val:=.i v })[j]'(by simpa using hj'),?_,?_⟩
    ·rw[<- Array.mem_def];exact Array.getElem_mem _
    ·rw[Array.getElem_modify];simp
   ·rw[if_neg e']at hq
    obtain⟨x,hx,hk⟩:=h2 p q u hq;obtain⟨i,hi,rfl⟩:=List.mem_iff_getElem.1 hx;have hi':i<es.size:=by simpa using hi
    refine⟨(es.modify j fun x=>{ x with key:=jg a b,val:=.i v })[i]'(by simpa using hi'),?_,?_⟩
    ·rw[<- Array.mem_def];exact Array.getElem_mem _
    ·rw[Array.getElem_modify]
     by_cases e2:j=i
     ·subst e2
      have hjj:es[j]=e:=by
       have:=Array.getElem?_eq_getElem hj'
       rw[hj]at this;exact(Option.some.inj this).symm
      simp only[Array.getElem_toList]at hk;rw[hjj,g3]at hk;exact absurd ((inj p q).1 hk.symm) e'
     ·rw[if_neg e2];exact hk
  ·have hkey:∀(i:Nat) (x:MapEntry),(es.modify j fun x=>{ x with key:=jg a b,val:=.i v })[i]?=some x->∃y,es[i]?=some y/\x.key=y.key:=by
    intro i x hx;obtain⟨hi,rfl⟩:=gES hx;have hi':i<es.size:=by simpa using hi
    refine⟨es[i],Array.getElem?_eq_getElem hi',?_⟩;rw[Array.getElem_modify]
    by_cases e':j=i
    ·subst e'
     rw[Array.getElem?_eq_getElem hi']at hj
     cases hj
     simp[g3]
    ·rw[if_neg e']
   intro i j' x y hx hy hxy;obtain⟨x',hx',ex⟩:=hkey i x hx;obtain⟨y',hy',ey⟩:=hkey j' y hy;exact h3 i j' x' y' hx' hy' (ex.symm.trans (hxy.trans ey))
  ·intro es' c' h'
   rw[(MapKept.heap_set hh).1]at h'
   cases h'
   obtain⟨s1,s2⟩:=h.stamps es clock hh
   have hb:(es.modify j fun x=>{ x with key:=jg a b,val:=.i v }).toList.map (·.born)=es.toList.map (·.born):=by
    apply List.ext_getElem?
    intro i;simp only[Array.toList_modify,List.getElem?_map,List.getElem?_modify]
    by_cases e':j=i
    ·simp only[if_pos e'];cases es.toList[i]? <;> rfl
    ·simp[if_neg e']
   refine⟨fun x hx=>?_,by rw[hb];exact s2⟩;have h4:x.born∈es.toList.map (·.born):=by rw[<- hb];exact List.mem_map.2 ⟨x,hx,rfl⟩
   obtain⟨y,hy,e5⟩:=List.mem_map.1 h4;rw[<- e5];exact s1 y hy
end
end Go.Proofs.YtedangodjiolaaaGreat
