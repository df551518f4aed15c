import Derived.Test.YthdfpinbnncghaaGreatM35
set_option maxHeartbeats 8000000
namespace Go.Proofs.YthdfpinbnncghaaGreat
open Go.RowKit
theorem zso {fs:List Fld}(h:zcf fs):∀f∈fs,f.df.size<=maxLen:=by
 intro f hf;obtain⟨i,hi,rfl⟩:=List.mem_iff_getElem.1 hf;exact(h.small i hi).1.df
theorem zoN {ss:List Shp}{o:Ob}(hs:zdQ ss)(ho:∀s∈o.vs,s.size<=maxLen):∀s∈zjw ss o,s.size<=maxLen:=by
 unfold zjw
 split
 ·rename_i h
  have hf:zcf (shapeOf ss o.kd).fs:=by
   obtain⟨hk,_,_⟩:=h;unfold zC at hk;rw[List.any_eq_true]at hk;obtain⟨x,hx,he⟩:=hk;unfold shapeOf
   cases hfi:ss.find? (fun s=>decide (s.kd=o.kd)) with
   | none=>rw[List.find?_eq_none]at hfi;exact absurd he (hfi x hx)
   | some y=>
    obtain⟨i,hi,rfl⟩:=List.mem_iff_getElem.1 (List.mem_of_find?_eq_some hfi);exact(hs.small i hi).2.2
  intro s hm;obtain⟨i,hi,rfl⟩:=List.mem_iff_getElem.1 hm;have hl:=jc h.2.2;have e:(zaq (shapeOf ss o.kd).fs o.vs)[i]=zaD ((shapeOf ss o.kd).fs[i]'(by have:=h.2.2;omega)) (o.vs[i]'(by omega)):=by simp[zaq]
  rw[e];unfold zaD
  split
  ·exact zso hf _ (List.getElem_mem _)
  ·exact ho _ (List.getElem_mem _)
 ·exact ho
abbrev dN (d:Dor)(g0 g1 g2 g3 g4:Nat):AV:=#[.s d.nm,.bool d.up,.i d.v.now,.i d.v.tick,.i d.v.given,.l (some (aD g0 0)) d.v.os.length d.v.os.length,.l (some (aD g1 0)) d.v.gs.length d.v.gs.length,.l (some (aD g2 0)) d.v.ls.length d.v.ls.length,.l (some (aD g3 0)) d.v.ps.length d.v.ps.length,.l (some (aD g4 0)) d.ss.length d.ss.length]
abbrev dC (d:Dor)(a0 a1 a2 a3 a4:OA)(c0 c1 c2 c3 c4:Nat):AV:=#[.s d.nm,.bool d.up,.i d.v.now,.i d.v.tick,.i d.v.given,.l a0 d.v.os.length c0,.l a1 d.v.gs.length c1,.l a2 d.v.ls.length c2,.l a3 d.v.ps.length c3,.l a4 d.ss.length c4]
abbrev dZ :AV:=#[.s ⟨#[]⟩,.bool false,.i 0,.i 0,.i 0,.l none 0 0,.l none 0 0,.l none 0 0,.l none 0 0,.l none 0 0]
theorem setCells_size (b:Nat):∀(vs:List Value) (o:Nat) (w:World),(w.setCells b o vs).heap.size=w.heap.size
 | [],_,_=>rfl
 | _ :: r,o,_=>(setCells_size b r (o+1) _).trans (by simp)
theorem zfm {b b':Nat}(hb:b'≠b):∀(vs:List Value) (o:Nat) (w:World),(w.setCells b o vs).heap[b']?=w.heap[b']?
 | [],_,_=>rfl
 | _ :: r,o,_=>(zfm hb r (o+1) _).trans (zG hb)
theorem zcL {w w1:World}{B b lo:Nat}(V:AV)(o:Nat)(h1:B<=b)(h2:b<lo)(hB:Below B w w1):∃W,W=w1.setCells b o V.toList/\W.heap.size=w1.heap.size/\(∀b',b'≠b->W.heap[b']?=w1.heap[b']?)/\yw lo w1 W/\Below B w W:=
 ⟨_,rfl,setCells_size _ _ _ _,fun _ h=>zfm h _ _ _,zbK h2 _ _ _,zbY h1 _ _ _ hB⟩
theorem seven {j:Nat}(hj:j<7):j=0 \/ j=1 \/ j=2 \/ j=3 \/ j=4 \/ j=5 \/ j=6:=by omega
theorem zrY {w:World}{b:Nat}{x y z0 z1 z2 z3 z4 z5 z6 u:Value}{v0 v1 v2 v3 v4 v5 v6:Value}{t:TypeId}(h:w.heap[b]?=some (.cells #[x,y,z0,z1,z2,z3,z4,z5,z6,u] t)):(w.setCells b 2 [v0,v1,v2,v3,v4,v5,v6]).heap[b]?=some (.cells #[x,y,v0,v1,v2,v3,v4,v5,v6,u] t):=by
 rw[<- zsu,zh (zh (zh (zh (zh (zh (zh h v0) v1) v2) v3) v4) v5) v6];simp
set_option maxRecDepth 20000 in
theorem zkW (H:Prop)(d:Dor)(a0 a1 a2 a3 a4:OA)(c0 c1 c2 c3 c4:Nat)(w:World)(ho:zbX H w d a0 a1 a2 a3 a4)(hf:d.Few) :
 Calls Tryz.prog 72 #[.agg (d.cells a0 a1 a2 a3 a4 c0 c1 c2 c3 c4)] w fun e w'=>∃b0 b1 b2 b3 b4,e=.returned (.agg (d.cells b0 b1 b2 b3 b4 d.v.os.length d.v.gs.length d.v.ls.length d.v.ps.length d.ss.length))/\zcV w.heap.size w' (fun w=>zbX True w d b0 b1 b2 b3 b4)/\Bw w w':=by
 have HL:=hid ho;have HF:=hid hf;clear ho hf;unfold Dor.cells;go_enter Tryz.func72,Tryz.ntmps72
 go_upto_region 4 with fail
 have k0:=zkK w (.cells (dC d a0 a1 a2 a3 a4 c0 c1 c2 c3 c4) 126) (.cells dZ 133) (.cells #[.s d.nm,.bool d.up,.i 0,.i 0,.i 0,.l none 0 0,.l none 0 0,.l none 0 0,.l none 0 0,.l none 0 0] 133);have hB0:=below3' w (.cells (dC d a0 a1 a2 a3 a4 c0 c1 c2 c3 c4) 126) (.cells dZ 133) (.cells #[.s d.nm,.bool d.up,.i 0,.i 0,.i 0,.l none 0 0,.l none 0 0,.l none 0 0,.l none 0 0,.l none 0 0] 133);obtain⟨W0,hW0⟩:=xN (((w.alloc (.cells (dC d a0 a1 a2 a3 a4 c0 c1 c2 c3 c4) 126)).alloc (.cells dZ 133)).alloc (.cells #[.s d.nm,.bool d.up,.i 0,.i 0,.i 0,.l none 0 0,.l none 0 0,.l none 0 0,.l none 0 0,.l none 0 0] 133));have hz0:w.heap.size+1+1<W0.heap.size:=by rw[hW0];simp
 rw[<- hW0]at k0 hB0 ⊢;clear hW0;refine wp_region_list ?_;refine tL ?_;refine wpList_load_mid rfl 32 (.tmp 10) rfl w.heap.size 2 rfl (Bk.cells d.v a0 a1 a2 a3 c0 c1 c2 c3).toList _ (zdU (n:=7) rfl fun j hj=>(cell_of_block k0.1).trans (by rcases seven hj with rfl|rfl|rfl|rfl|rfl|rfl|rfl <;> rfl)) Tryz.underlying32 rfl (by kernel_rfl) ?_;refine cL fun K hK=>?_
 go_simp
 refine(zb1 d.v a0 a1 a2 a3 c0 c1 c2 c3 _ (HL.o.v.mono hB0) HF.o.v).mono ?_;rintro e w1⟨lo,g0,g1,g2,g3,rfl,hlo,hown,hb⟩;have hX1:=(hb.block _ (by omega)).trans k0.1;have hR1:=(hb.block _ (by omega)).trans k0.2.1;have hO1:=(hb.block _ hz0).trans k0.2.2;have hZ1:W0.heap.size<=w1.heap.size:=hb.size;have hB1:Bw w w1:=hB0.trans (hb.mono hB0.size);clear hb k0 hB0
 (try go_wp2_with fail)
 refine hK.out _ _ ?_;clear hK K
 (try simp only[Act.put,sA,s0,sS])
 refine tL ?_;refine wpList_store_mid rfl 51 (.tmp 13) (.tmp 12) rfl (w.heap.size+1+1) 2 (Bk.cells d.v (some (aD g0 0)) (some (aD g1 0)) (some (aD g2 0)) (some (aD g3 0)) d.v.os.length d.v.gs.length d.v.ls.length d.v.ps.length) rfl rfl (zg8 hO1 (by simp[Bk.cells])) (by kernel_rfl) (by simp[Bk.cells,Value.oneCell']) ?_;refine wpList_nil ?_;obtain⟨W4,hW4,hz4,ho4,hA4,hB4⟩:=zcL (Bk.cells d.v (some (aD g0 0)) (some (aD g1 0)) (some (aD g2 0)) (some (aD g3 0)) d.v.os.length d.v.gs.length d.v.ls.length d.v.ps.length) 2 (show w.heap.size<=w.heap.size+1+1 by omega) hz0 hB1;have hX4:=(ho4 w.heap.size (by omega)).trans hX1;have hR4:=(ho4 (w.heap.size+1) (by omega)).trans hR1;have hO4:W4.heap[w.heap.size+1+1]?=some (.cells #[.s d.nm,.bool d.up,.i d.v.now,.i d.v.tick,.i d.v.given,.l (some (aD g0 0)) d.v.os.length d.v.os.length,.l (some (aD g1 0)) d.v.gs.length d.v.gs.length,.l (some (aD g2 0)) d.v.ls.length d.v.ls.length,.l (some (aD g3 0)) d.v.ps.length d.v.ps.length,.l none 0 0] 133):=by rw[hW4];exact zrY hO1
 rw[<- hW4];clear hW4 ho4;clear hX1 hR1 hO1 hB1
 (try simp only[Act.put])
 have cX4:=fun j=>cell_of_block (o:=j) hX4
 have HZ:=zcl hz0 hlo hZ1;have HN:=zcl hown hA4 hz4;have HRO:=ji hR4 hO4;have HX4:=hid hB4;clear hX4 hz0 hlo hZ1 hown hA4 hz4 hR4 hO4 hB4;go_wp2_with fail
 refine(ziE _ _ d.ss _ (HL.o.ss.mono HX4.o) HF.o.ss.1 HF.o.ss.2).mono ?_;rintro e w5⟨rfl,hfs,hb⟩;have HA5:Hid (yw W0.heap.size w1 w5):=HN.o.2.1.trans (yw.below hb);have hR5:=(hb.block _ (gES HRO.o.1).1).trans HRO.o.1;have hO5:=(hb.block _ (gES HRO.o.2).1).trans HRO.o.2;have HB5:Hid (Bw w w5):=HX4.o.trans (hb.mono HX4.o.size);have HFS:=hid hfs;have cO5:=fun j=>cell_of_block (o:=j) hO5
 have fO5:=fun j=>zl (o:=j) hO5
 have HRO5:=ji hR5 hO5;clear hb hfs cX4 hR5 hO5
 go_upto_region 6 with fail
 have hO6:(w5.setCell (aD (w.heap.size+1+1) 9) (.l (some (aD W4.heap.size 0)) d.ss.length d.ss.length)).heap[w.heap.size+1+1]?=some (.cells (dN d g0 g1 g2 g3 W4.heap.size) 133):=by rw[zh HRO5.o.2];simp
 have hR6:=(zG (w:=w5) (o:=9) (v:=.l (some (aD W4.heap.size 0)) d.ss.length d.ss.length) (show w.heap.size+1≠w.heap.size+1+1 by omega)).trans HRO5.o.1;have hA6:yw W0.heap.size w5 (w5.setCell (aD (w.heap.size+1+1) 9) (.l (some (aD W4.heap.size 0)) d.ss.length d.ss.length)):=yw.setCell (p:=(aD (w.heap.size+1+1) 9)) HZ.o.1 _;have hB6:Bw w (w5.setCell (aD (w.heap.size+1+1) 9) (.l (some (aD W4.heap.size 0)) d.ss.length d.ss.length)):=HB5.o.setCell (by show w.heap.size<=w.heap.size+1+1;omega) _
 revert hO6 hR6 hA6 hB6
 generalize w5.setCell (aD (w.heap.size+1+1) 9) (.l (some (aD W4.heap.size 0)) d.ss.length d.ss.length)=W6
 intro hO6 hR6 hA6 hB6;clear cO5 fO5;refine wp_region_list ?_;refine wpList_load_mid rfl 133 (.tmp 3) rfl (w.heap.size+1+1) 0 rfl _ _ (zj0 hO6) Tryz.underlying133 rfl (by kernel_rfl) ?_;refine wpList_store_mid rfl 133 (.tmp 2) (.tmp 18) rfl (w.heap.size+1) 0 (dN d g0 g1 g2 g3 W4.heap.size) rfl rfl (zg8 hR6 (by simp)) (by kernel_rfl) (by simp[Value.oneCell']) ?_;refine wpList_nil ?_;obtain⟨W7,hW7,_,_,hA7',hB7⟩:=zcL (lo:=W0.heap.size) (B:=w.heap.size) (dN d g0 g1 g2 g3 W4.heap.size) 0 (show w.heap.size<=w.heap.size+1 by omega) (by have:=HZ.o.1;omega) hB6;have hA7:=hA6.trans hA7';have hR7:W7.heap[w.heap.size+1]?=some (.cells (dN d g0 g1 g2 g3 W4.heap.size) 133):=by rw[hW7];exact zfu hR6 rfl
 rw[<- hW7];clear hW7 hA7';clear hO6 hR6 hA6 hB6;have HR7:=ji hA7 hB7;have cR7:=fun j=>cell_of_block (o:=j) hR7
 clear hA7 hB7
 (try simp only[Act.put])
 go_wp2_with fail
 refine bodyPost_ret (v:=.agg (dN d g0 g1 g2 g3 W4.heap.size)) (results_cell_row Tryz.results72 _ _ (w.heap.size+1) 133 (dN d g0 g1 g2 g3 W4.heap.size) _ _ rfl hR7 Tryz.underlying133 rfl (by kernel_rfl)) rfl ⟨_,_,_,_,_,rfl,?_,HR7.o.2⟩;intro W8 hA8;have hz:=HZ.o;have hA9:=HR7.o.1.trans (hA8.mono (by omega));have hbk:=HN.o.1.above ((HA5.o.trans hA9).mono hz.2.1);exact⟨HL.o.nm,hbk.at HL.o.v.small,HFS.o W8 (hA9.mono (by have:=HN.o.2.2;omega)),fun _=>hbk.os.has HL.o.v.os.smalls HL.o.v.os.len⟩
def zsr (ds:List Dor)(i:Nat)(w:World)(cs:AV):Prop:=∃h:i<ds.length,∃a0 a1 a2 a3 a4 c0 c1 c2 c3 c4,zbX True w ds[i] a0 a1 a2 a3 a4/\cs=ds[i].cells a0 a1 a2 a3 a4 c0 c1 c2 c3 c4
theorem zsc {ds:List Dor}{t bo:Nat}{w:World}(hl:ds.length<=maxLen)(h:Rws t 10 bo ds.length ds.length (zsr ds) w):zcV bo w (fun w=>zay True w (some (aD bo 0)) ds):=by
 intro w' ha;obtain⟨hb,hr⟩:=h.zsw w' ha;refine⟨hl,fun _=>⟨bo,0,rfl,hb,fun i hi=>?_⟩⟩;obtain⟨cs,_,⟨_,a0,a1,a2,a3,a4,c0,c1,c2,c3,c4,hs,rfl⟩,hc⟩:=hr i hi;exact⟨a0,a1,a2,a3,a4,c0,c1,c2,c3,c4,hs,hc⟩
theorem ziZ (H:Prop)(a:OA)(cap:Nat)(ms:List Dor)(w:World)(hw:zay H w a ms)(hl:ms.length<=1048576)(hls:∀i (h:i<ms.length),ms[i].Few) :
 Calls Tryz.prog 33 #[.l a ms.length cap] w fun e w'=>e=.returned (.l (some (aD w.heap.size 0)) ms.length ms.length)/\zcV w.heap.size w' (fun w1=>zay True w1 (some (aD w.heap.size 0)) ms)/\Bw w w':=by
 have hmk:∀w:World,(Instr.makeSlice 53 (.i ms.length) (.i ms.length)).run Tryz.prog w=.ok (.l (some (aD w.heap.size 0)) ms.length ms.length) (w.alloc (.cells (madeCells dZ (ms.length*10)) 133)):=
  fun w=>qN (P:=Tryz.prog) 53 133 (.agg dZ) 10 168 Tryz.underlying53 (by kernel_rfl) ms.length (by omega) (by omega) w
 have HML:Hid (ms.length<=maxLen):=hw.len;go_enter Tryz.func33,Tryz.ntmps33;go_wp2_with fail
 clear hmk
 go_loopw [4] (fun i wr=>∃k:Nat,k<=ms.length/\i=.i k/\Hid (Rws 133 10 w.heap.size ms.length k (zsr ms) wr)/\Bw w wr) (fun i _=>ms.length-(intOf i).toNat)
 case atStart=>exact⟨0,Nat.zero_le _,rfl,⟨_,(MapKept.heap_alloc w _).1,size_madeCells _ _,fun i _ h=>absurd h (by omega)⟩,bAl _ _⟩
 case round=>
  obtain⟨k,hk,rfl,HOW,hB⟩:=hrel
  by_cases hlt:k<ms.length
  ·obtain⟨b,off,a0,a1,a2,a3,a4,c0,c1,c2,c3,c4,rfl,hb,hsl,hr⟩:=hw.range hB k hlt
   have HLS:=zcl (hls k hlt) hsl hr;have hltI:(k:Int)<(ms.length:Int):=by omega
   clear hw hsl hr
   go_upto_region 5 with fail
   refine wp_region_list ?_;refine tL ?_;refine tL ?_;refine tL ?_;refine tL ?_;refine tL ?_;refine wpList_load_mid rfl 126 (.tmp 18) rfl b (off+k*10) rfl _ _ HLS.o.2.2 Tryz.underlying126 rfl (by kernel_rfl) ?_;refine cL fun K hK=>?_
   go_simp
   refine(zkW H ms[k] a0 a1 a2 a3 a4 c0 c1 c2 c3 c4 _ HLS.o.2.1 HLS.o.1).mono ?_;rintro e w1⟨b0,b1,b2,b3,b4,rfl,hf1,hb1⟩;have hB1:=hB.trans (hb1.mono hB.size);have HP:=hid (HOW.o.later hb1);have HI:Hid (zcV (w.heap.size+1) w1 (fun w=>zsr ms k w (ms[k].cells b0 b1 b2 b3 b4 ms[k].v.os.length ms[k].v.gs.length ms[k].v.ls.length ms[k].v.ps.length ms[k].ss.length))):=fun w2 h2=>⟨hlt,b0,b1,b2,b3,b4,_,_,_,_,_,hf1 w2 (h2.mono HOW.o.lt),rfl⟩
   clear hf1 hb1
   (try go_wp2_with fail)
   refine hK.out _ _ ?_;clear hK K
   (try simp only[Act.put,sA,s0,sS])
   refine tL ?_;refine wpList_store_mid rfl 133 (.tmp 21) (.tmp 20) rfl w.heap.size (k*10) (ms[k].cells b0 b1 b2 b3 b4 ms[k].v.os.length ms[k].v.gs.length ms[k].v.ls.length ms[k].v.ps.length ms[k].ss.length) rfl rfl (HP.o.room hlt) (by kernel_rfl) (by simp[Dor.cells,Value.oneCell']) ?_;refine wpList_nil ?_;have HPP:=ji (HP.o.put hlt _ rfl HI.o) (zbY (Nat.le_refl _) (ms[k].cells b0 b1 b2 b3 b4 ms[k].v.os.length ms[k].v.gs.length ms[k].v.ls.length ms[k].v.ps.length ms[k].ss.length).toList (k*10) _ hB1)
   revert HPP
   generalize w1.setCells w.heap.size (k*10) (ms[k].cells b0 b1 b2 b3 b4 ms[k].v.os.length ms[k].v.gs.length ms[k].v.ls.length ms[k].v.ps.length ms[k].ss.length).toList=w2
   intro HPP
   (try simp only[Act.put])
   go_wp2_with fail
   exact⟨⟨k+1,by omega,by go_num,HPP.o.1,HPP.o.2⟩,by simp[intOf];omega⟩
  ·have HF:Hid (zcV w.heap.size wr (fun w1=>zay True w1 (some (aD w.heap.size 0)) ms)):=by
    have e:k=ms.length:=by omega
    subst e;exact zsc HML.o HOW.o
   clear hw HOW;go_wp2_with fail
   go_ret;exact⟨rfl,HF.o,hB⟩
end Go.Proofs.YthdfpinbnncghaaGreat
