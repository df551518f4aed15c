import Derived.Test.YthdfpinbnncghaaGreatM17
import Derived.Laws.Tables
import Derived.Laws.CopyOwn
import Derived.Deep.MidRow
import Derived.Test.YthdfpinbnncghaaGreatM16
import Derived.Test.YthdfpinbnncghaaGreatM18
set_option maxHeartbeats 4000000
namespace Go.Proofs.YthdfpinbnncghaaGreat
open Go.RowKit
theorem zow {P:Program}{f:FuncId}{args:AV}{w:World}{Q:Ending->World->Prop}(R:World->Prop)(hR:R w)(h:∀w',R w'->Calls P f args w' Q):Calls P f args w Q:=h w hR
theorem wpList_store_row {P:Program}{ops:Array Oper}{rest:List Oper}{op:Oper}{a:Act}{w:World}{Q:Exit->Act->World->Prop}(hgd:op.guard=none)(ty:TypeId)(x y:Operand)(ho:op.op=.store ty x y)
 (g:Nat) (t:TypeId) (old cells:AV) (hx:a.eval x=.pointer (some (aD g 0))) (hy:a.eval y=.agg cells) (hg:w.heap[g]?=some (.cells old t)) (hi:(P.info? ty).map (·.size)=some cells.size) (hs:old.size=cells.size) (h1:cells.all (·.oneCell')=true)
 (h:wpList P ops Q rest (a.put op.dst undef) (w.setRow g cells)):wpList P ops Q (op :: rest) a w:=
 wpList_plain hgd fun _ hK=>by
  unfold Oper.wp execOp;simp only[ho,hx,hy,Instr.storeAt,Instr.sureAddr,Sem.run_bind,Sem.run_pure,Result.andThen_ok,run_storeVar_row w g t ty old cells hg hi hs h1];exact hK _ _ h
theorem zk9 (w:World)(p:Addr)(v:Value):(w.setCell p v).heap.size=w.heap.size:=by simp
theorem zkI {w:World}{b:Nat}{z0 z1 z2 z3 z4 z5 z6 z7 z8 z9 z10 z11 z12 z13 z14 z15 z16 z17:Value}{v1 v2 v3 v4 v5 v6 v7 v8 v9 v10 v11 v12 v13 v14 v15 v16:Value}{t:TypeId}(h:w.heap[b]?=some (.cells #[z0,z1,z2,z3,z4,z5,z6,z7,z8,z9,z10,z11,z12,z13,z14,z15,z16,z17] t)):(((((((((((((((((w.setCell (aD b 1) v1).setCell (aD b 2) v2).setCell (aD b 3) v3).setCell (aD b 4) v4).setCell (aD b 5) v5).setCell (aD b 6) v6).setCell (aD b 7) v7).setCell (aD b 8) v8).setCell (aD b 9) v9).setCell (aD b 10) v10).setCell (aD b 11) v11).setCell (aD b 12) v12).setCell (aD b 13) v13).setCell (aD b 14) v14).setCell (aD b 15) v15).setCell (aD b 16) v16)).heap[b]?=some (.cells #[z0,v1,v2,v3,v4,v5,v6,v7,v8,v9,v10,v11,v12,v13,v14,v15,v16,z17] t):=by
 rw[zh (zh (zh (zh (zh (zh (zh (zh (zh (zh (zh (zh (zh (zh (zh (zh h v1) v2) v3) v4) v5) v6) v7) v8) v9) v10) v11) v12) v13) v14) v15) v16];simp
theorem zaX {w:World}{b b':Nat}{v1 v2 v3 v4 v5 v6 v7 v8 v9 v10 v11 v12 v13 v14 v15 v16:Value}{o:Obj}(h:b'≠b)(ho:w.heap[b']?=some o):(((((((((((((((((w.setCell (aD b 1) v1).setCell (aD b 2) v2).setCell (aD b 3) v3).setCell (aD b 4) v4).setCell (aD b 5) v5).setCell (aD b 6) v6).setCell (aD b 7) v7).setCell (aD b 8) v8).setCell (aD b 9) v9).setCell (aD b 10) v10).setCell (aD b 11) v11).setCell (aD b 12) v12).setCell (aD b 13) v13).setCell (aD b 14) v14).setCell (aD b 15) v15).setCell (aD b 16) v16)).heap[b']?=some o:=by
 simp only[zG h];exact ho
def zcV (lo:Nat)(w:World)(P:World->Prop):Prop:=∀w',yw lo w w'->P w'
theorem zcV.now {lo:Nat}{w:World}{P:World->Prop}(h:zcV lo w P):P w:=h w (yw.refl _ _)
theorem zcV.above {lo:Nat}{w w':World}{P:World->Prop}(h:zcV lo w P)(ha:yw lo w w'):zcV lo w' P:=fun w2 h2=>h w2 (ha.trans h2)
theorem zcV.block {lo:Nat}{w w':World}(ha:yw lo w w'){g:Nat}{o:Obj}(hg:lo<=g)(h:w.heap[g]?=some o):w'.heap[g]?=some o:=(ha.same g hg (gES h).1).trans h
set_option maxRecDepth 20000 in
theorem zkB (s:Sl)(a0 a1 a2 a3:OA)(c0 c1 c2 c3:Nat)(w:World)(hx:zdo w s a0 a1 a2 a3)(hf:s.Few) :
 Calls Tryz.prog 147 #[.agg (s.cells a0 a1 a2 a3 c0 c1 c2 c3)] w fun e w'=>∃b0 b1 b2 b3,e=.returned (.agg (s.cells b0 b1 b2 b3 s.x.vs.length s.x.hs.length s.x.r.vs.length s.ws.length))/\zcV w.heap.size w' (fun w=>zdo w s b0 b1 b2 b3)/\Bw w w':=by
 have HX:Hid (zdo w s a0 a1 a2 a3):=hx;have HF:Hid s.Few:=hf;clear hx hf;unfold Sl.cells;go_enter Tryz.func147,Tryz.ntmps147;go_wp2_with fail
 refine(zkX s.x a0 a1 a2 c0 c1 c2 _ (HX.o.x.mono (below3' _ _ _ _)) HF.o.x).mono ?_;rintro e w3⟨g0,g1,g2,rfl,hown,hb⟩;have l0:w.heap.size+1+1+1<=g0:=by simpa using hown.l0
 have l1:w.heap.size+1+1+1<=g1:=by simpa using hown.l1
 have l2:w.heap.size+1+1+1<=g2:=by simpa using hown.l2
 have HV:Hid (w3.heap[g0]?=some (.cells (jO s.x.vs) 9)):=hown.vs;have HH:Hid (w3.heap[g1]?=some (.cells (jO s.x.hs) 9)):=hown.hs;have HI:Hid (w3.heap[g2]?=some (.cells (zbx s.x.r.vs) 3)):=hown.r;have hA:=(hb.block w.heap.size (by simp <;> omega)).trans (zkK w _ _ _).1;have hR:=(hb.block (w.heap.size+1) (by simp)).trans (zkK w _ _ _).2.1;have hO:=(hb.block (w.heap.size+1+1) (by simp)).trans (zkK w _ _ _).2.2;have HB:Hid (Bw w w3):=(below3' w _ _ _).trans (hb.mono (by simp <;> omega));have HBl:Hid (_/\_/\_):=⟨hA,hR,hO⟩
 have cA:=fun j=>cell_of_block (o:=j) hA
 have cO:=fun j=>cell_of_block (o:=j) hO
 have fO:=fun j=>zl (o:=j) hO
 have hz1:w.heap.size+1+1<w3.heap.size:=(gES hO).1;clear hb hown hA hR hO;unfold Ak.cells;go_wp2_with fail
 clear cA cO fO;have h4:w.heap.size<=w.heap.size+1+1:=by omega
 refine zow (fun W=>W.heap.size=w3.heap.size/\W.heap[w.heap.size]?=some (.cells #[.s s.dr,.s s.x.who,.i s.x.vb,.s s.x.kd,.s s.x.nm,.s s.x.tm,.l a0 s.x.vs.length c0,.l a1 s.x.hs.length c1,.i s.x.sn,.s s.x.hd,.s s.x.to,.l a2 s.x.r.vs.length c2,.s s.x.r.kd,.s s.x.r.tm,.s s.x.r.px,.i s.x.no,.i s.gv,.l a3 s.ws.length c3] 216)/\W.heap[w.heap.size+1]?=some (.cells #[.s ByteArray.empty,.s ByteArray.empty,.i 0,.s ByteArray.empty,.s ByteArray.empty,.s ByteArray.empty,.l none 0 0,.l none 0 0,.i 0,.s ByteArray.empty,.s ByteArray.empty,.l none 0 0,.s ByteArray.empty,.s ByteArray.empty,.s ByteArray.empty,.i 0,.i 0,.l none 0 0] 192)/\W.heap[w.heap.size+1+1]?=some (.cells #[.s s.dr,.s s.x.who,.i s.x.vb,.s s.x.kd,.s s.x.nm,.s s.x.tm,.l (some (aD g0 0)) s.x.vs.length s.x.vs.length,.l (some (aD g1 0)) s.x.hs.length s.x.hs.length,.i s.x.sn,.s s.x.hd,.s s.x.to,.l (some (aD g2 0)) s.x.r.vs.length s.x.r.vs.length,.s s.x.r.kd,.s s.x.r.tm,.s s.x.r.px,.i s.x.no,.i s.gv,.l none 0 0] 192)/\W.heap[g0]?=some (.cells (jO s.x.vs) 9)/\W.heap[g1]?=some (.cells (jO s.x.hs) 9)/\W.heap[g2]?=some (.cells (zbx s.x.r.vs) 3)/\Bw w W) ?_ ?_
 ·refine⟨by simp only[zk9],zaX (by omega) HBl.o.1,zaX (by omega) HBl.o.2.1,zkI HBl.o.2.2,zaX (by omega) HV.o,zaX (by omega) HH.o,zaX (by omega) HI.o,?_⟩
  have HB4:=HB.o
  iterate 16 refine Below.setCell ?_ h4 _
  exact HB4
 clear HB HBl HV HH HI;rintro W4⟨z4,hA4,hR4,hO4,hV4,hH4,hI4,hB4⟩;refine(zi9 _ _ s.ws _ (HX.o.ws.mono hB4) HF.o.ws).mono ?_;rintro e w5⟨rfl,hown,hb⟩;have zz:w3.heap.size<=w5.heap.size:=Nat.le_trans (Nat.le_of_eq z4.symm) hb.size;have hR:=(hb.block (w.heap.size+1) (by omega)).trans hR4;have hO:=(hb.block (w.heap.size+1+1) (by omega)).trans hO4;have HV5:Hid (w5.heap[g0]?=some (.cells (jO s.x.vs) 9)):=(hb.block g0 (gES hV4).1).trans hV4;have HH5:Hid (w5.heap[g1]?=some (.cells (jO s.x.hs) 9)):=(hb.block g1 (gES hH4).1).trans hH4;have HI5:Hid (w5.heap[g2]?=some (.cells (zbx s.x.r.vs) 3)):=(hb.block g2 (gES hI4).1).trans hI4;have HB5:Hid (Bw w w5):=hB4.trans (hb.mono hB4.size);obtain⟨lo,lor⟩:=hown;have HO5:Hid (zbZ w3.heap.size w5 W4.heap.size s.ws s.ws.length):=⟨by omega,lor⟩
 have hR6:=(zG (w:=w5) (o:=17) (v:=.l (some (aD W4.heap.size 0)) s.ws.length s.ws.length) (by omega:w.heap.size+1≠w.heap.size+1+1)).trans hR;have hO6:(w5.setCell (aD (w.heap.size+1+1) 17) (.l (some (aD W4.heap.size 0)) s.ws.length s.ws.length)).heap[w.heap.size+1+1]?=some (.cells #[.s s.dr,.s s.x.who,.i s.x.vb,.s s.x.kd,.s s.x.nm,.s s.x.tm,.l (some (aD g0 0)) s.x.vs.length s.x.vs.length,.l (some (aD g1 0)) s.x.hs.length s.x.hs.length,.i s.x.sn,.s s.x.hd,.s s.x.to,.l (some (aD g2 0)) s.x.r.vs.length s.x.r.vs.length,.s s.x.r.kd,.s s.x.r.tm,.s s.x.r.px,.i s.x.no,.i s.gv,.l (some (aD W4.heap.size 0)) s.ws.length s.ws.length] 192):=by rw[zh hO];simp
 have hW6:(w5.setCell (aD (w.heap.size+1+1) 17) (.l (some (aD W4.heap.size 0)) s.ws.length s.ws.length))=w5.setCell (aD (w.heap.size+1+1) 17) (.l (some (aD W4.heap.size 0)) s.ws.length s.ws.length):=rfl;have HR6:Hid ((w5.setCell (aD (w.heap.size+1+1) 17) (.l (some (aD W4.heap.size 0)) s.ws.length s.ws.length)).heap[w.heap.size+1]?=_):=hR6;have HO6:Hid ((w5.setCell (aD (w.heap.size+1+1) 17) (.l (some (aD W4.heap.size 0)) s.ws.length s.ws.length)).heap[w.heap.size+1+1]?=_):=hO6;have HW6:Hid (∀b,b≠w.heap.size+1+1->(w5.setCell (aD (w.heap.size+1+1) 17) (.l (some (aD W4.heap.size 0)) s.ws.length s.ws.length)).heap[b]?=w5.heap[b]?):=fun b hb=>zG hb
 have cO:=fun j=>cell_of_block (o:=j) hO
 have fO:=fun j=>zl (o:=j) hO
 have hz5:w.heap.size+1+1<w5.heap.size:=nLt hz1 zz;have hz4:w.heap.size+1+1<W4.heap.size:=by omega
 clear hb lo lor hR hO hA4 hR4 hO4 hV4 hH4 hI4 hB4 zz z4 hR6 hO6 hW6
 rename_i K1 hK1 K0 hK0
 have HK1:Hid (∀a w,_->K1 a w):=hK1;clear hK1;go_wp2_with fail
 refine HK1.o _ _ ?_;clear HK1;refine wp_seq (wp_region_list ?_);refine wpList_load_mid rfl 192 (.tmp 3) rfl (w.heap.size+1+1) 0 rfl (#[.s s.dr,.s s.x.who,.i s.x.vb,.s s.x.kd,.s s.x.nm,.s s.x.tm,.l (some (aD g0 0)) s.x.vs.length s.x.vs.length,.l (some (aD g1 0)) s.x.hs.length s.x.hs.length,.i s.x.sn,.s s.x.hd,.s s.x.to,.l (some (aD g2 0)) s.x.r.vs.length s.x.r.vs.length,.s s.x.r.kd,.s s.x.r.tm,.s s.x.r.px,.i s.x.no,.i s.gv,.l (some (aD W4.heap.size 0)) s.ws.length s.ws.length]:AV).toList _ (fun j v hv=>by rw[Nat.zero_add,cell_of_block HO6.o];simpa using hv) Tryz.underlying192 rfl (by kernel_rfl) ?_;refine wpList_store_row rfl 192 (.tmp 2) (.tmp 18) rfl (w.heap.size+1) 192 _ #[.s s.dr,.s s.x.who,.i s.x.vb,.s s.x.kd,.s s.x.nm,.s s.x.tm,.l (some (aD g0 0)) s.x.vs.length s.x.vs.length,.l (some (aD g1 0)) s.x.hs.length s.x.hs.length,.i s.x.sn,.s s.x.hd,.s s.x.to,.l (some (aD g2 0)) s.x.r.vs.length s.x.r.vs.length,.s s.x.r.kd,.s s.x.r.tm,.s s.x.r.px,.i s.x.no,.i s.gv,.l (some (aD W4.heap.size 0)) s.ws.length s.ws.length] rfl rfl HR6.o (by kernel_rfl) rfl (by simp[Value.oneCell']) ?_;refine wpList_nil ?_;refine wp_ret ?_;have HK6:∀b,b≠w.heap.size+1->b≠w.heap.size+1+1->(World.setRow (w5.setCell (aD (w.heap.size+1+1) 17) (.l (some (aD W4.heap.size 0)) s.ws.length s.ws.length)) (w.heap.size+1) #[.s s.dr,.s s.x.who,.i s.x.vb,.s s.x.kd,.s s.x.nm,.s s.x.tm,.l (some (aD g0 0)) s.x.vs.length s.x.vs.length,.l (some (aD g1 0)) s.x.hs.length s.x.hs.length,.i s.x.sn,.s s.x.hd,.s s.x.to,.l (some (aD g2 0)) s.x.r.vs.length s.x.r.vs.length,.s s.x.r.kd,.s s.x.r.tm,.s s.x.r.px,.i s.x.no,.i s.gv,.l (some (aD W4.heap.size 0)) s.ws.length s.ws.length]).heap[b]?=w5.heap[b]?:=fun b h1 h2=>by rw[setRow_other _ _ _ _ h1];exact HW6.o b h2
 have m1:g0≠w.heap.size+1:=by omega
 have m2:g0≠w.heap.size+1+1:=by omega
 have m3:g1≠w.heap.size+1:=by omega
 have m4:g1≠w.heap.size+1+1:=by omega
 have m5:g2≠w.heap.size+1:=by omega
 have m6:g2≠w.heap.size+1+1:=by omega
 have m7:W4.heap.size≠w.heap.size+1:=by omega
 have m8:W4.heap.size≠w.heap.size+1+1:=by omega
 refine bodyPost_ret (v:=.agg #[.s s.dr,.s s.x.who,.i s.x.vb,.s s.x.kd,.s s.x.nm,.s s.x.tm,.l (some (aD g0 0)) s.x.vs.length s.x.vs.length,.l (some (aD g1 0)) s.x.hs.length s.x.hs.length,.i s.x.sn,.s s.x.hd,.s s.x.to,.l (some (aD g2 0)) s.x.r.vs.length s.x.r.vs.length,.s s.x.r.kd,.s s.x.r.tm,.s s.x.r.px,.i s.x.no,.i s.gv,.l (some (aD W4.heap.size 0)) s.ws.length s.ws.length]) (results_cell_row Tryz.results147 _ _ (w.heap.size+1) 192 #[.s s.dr,.s s.x.who,.i s.x.vb,.s s.x.kd,.s s.x.nm,.s s.x.tm,.l (some (aD g0 0)) s.x.vs.length s.x.vs.length,.l (some (aD g1 0)) s.x.hs.length s.x.hs.length,.i s.x.sn,.s s.x.hd,.s s.x.to,.l (some (aD g2 0)) s.x.r.vs.length s.x.r.vs.length,.s s.x.r.kd,.s s.x.r.tm,.s s.x.r.px,.i s.x.no,.i s.gv,.l (some (aD W4.heap.size 0)) s.ws.length s.ws.length] _ _ rfl (setRow_heap _ _ _ #[.s s.dr,.s s.x.who,.i s.x.vb,.s s.x.kd,.s s.x.nm,.s s.x.tm,.l (some (aD g0 0)) s.x.vs.length s.x.vs.length,.l (some (aD g1 0)) s.x.hs.length s.x.hs.length,.i s.x.sn,.s s.x.hd,.s s.x.to,.l (some (aD g2 0)) s.x.r.vs.length s.x.r.vs.length,.s s.x.r.kd,.s s.x.r.tm,.s s.x.r.px,.i s.x.no,.i s.gv,.l (some (aD W4.heap.size 0)) s.ws.length s.ws.length] _ _ HR6.o) Tryz.underlying192 rfl (by kernel_rfl)) rfl ⟨_,_,_,_,rfl,fun W7 hA7=>⟨HX.o.dr,⟨HX.o.x.small,?_,?_,?_⟩,?_⟩,?_⟩
 ·exact zca (zcV.block hA7 (by omega) ((HK6 g0 m1 m2).trans HV5.o)) HX.o.x.vs.len HX.o.x.vs.small
 ·exact zca (zcV.block hA7 (by omega) ((HK6 g1 m3 m4).trans HH5.o)) HX.o.x.hs.len HX.o.x.hs.small
 ·exact zfD (zcV.block hA7 (by omega) ((HK6 g2 m5 m6).trans HI5.o)) HX.o.x.r.len
 ·refine zbZ.at (lo:=w3.heap.size) ⟨HO5.o.low,?_⟩ HX.o.ws.small HX.o.ws.len
  obtain⟨C,hC,hr⟩:=HO5.o.rows;exact⟨C,zcV.block hA7 (by omega) ((HK6 W4.heap.size m7 m8).trans hC),hr⟩
 ·exact below_setRow (Below.setCell HB5.o h4 _) (by omega) _
theorem zb1 (b:Bk)(a0 a1 a2 a3:OA)(c0 c1 c2 c3:Nat)(w:World)(hl:jU w b a0 a1 a2 a3)(hf:b.Few) :
 Calls Tryz.prog 9 #[.agg (b.cells a0 a1 a2 a3 c0 c1 c2 c3)] w fun e w'=>∃lo g0 g1 g2 g3,e=.returned (.agg (b.cells (some (aD g0 0)) (some (aD g1 0)) (some (aD g2 0)) (some (aD g3 0)) b.os.length b.gs.length b.ls.length b.ps.length))/\w.heap.size<=lo/\zlN lo w' b g0 g1 g2 g3/\Bw w w':=by
 have HL:Hid (jU w b a0 a1 a2 a3):=hl;have HF:Hid b.Few:=hf;clear hl hf;unfold Bk.cells;go_enter Tryz.func9,Tryz.ntmps9;go_wp2_with fail
 have k0:=zkK w (.cells (bC b a0 a1 a2 a3 c0 c1 c2 c3) 32) (.cells bZ 51) (.cells #[.i b.now,.i b.tick,.i b.given,.l none 0 0,.l none 0 0,.l none 0 0,.l none 0 0] 51);have hB0:=below3' w (.cells (bC b a0 a1 a2 a3 c0 c1 c2 c3) 32) (.cells bZ 51) (.cells #[.i b.now,.i b.tick,.i b.given,.l none 0 0,.l none 0 0,.l none 0 0,.l none 0 0] 51);obtain⟨W0,hW0⟩:=xN (((w.alloc (.cells (bC b a0 a1 a2 a3 c0 c1 c2 c3) 32)).alloc (.cells bZ 51)).alloc (.cells #[.i b.now,.i b.tick,.i b.given,.l none 0 0,.l none 0 0,.l none 0 0,.l none 0 0] 51));have hz0:w.heap.size+1+1<W0.heap.size:=by rw[hW0];simp
 rw[<- hW0]at k0 hB0 ⊢;clear hW0;have HLO:Hid (w.heap.size+1+1<W0.heap.size):=hz0;refine(zgV _ _ b.os _ (HL.o.os.mono hB0) HF.o.os.1 HF.o.os.2).mono ?_;rintro e w1⟨rfl,hown,hb⟩;obtain⟨g0,hp'⟩:∃g0,g0=W0.heap.size:=⟨_,rfl⟩
 have HN1:Hid (zaM W0.heap.size w1 g0 b.os b.os.length):=by rw[hp'];exact hown
 have hX1:=(hb.block _ (by omega)).trans k0.1;have hR1:=(hb.block _ (by omega)).trans k0.2.1;have hO1:=(hb.block _ hz0).trans k0.2.2;have HZ1:Hid (W0.heap.size<=w1.heap.size):=hb.size;have HB1:Hid (Bw w w1):=hB0.trans (hb.mono hB0.size);rw[<- hp'];clear hown hb k0 hB0 hz0 hp';have cO1:=fun j=>cell_of_block (o:=j) hO1
 have fO1:=fun j=>zl (o:=j) hO1
 have HX1':Hid ((w1.setCell (aD (w.heap.size+1+1) 3) (.l (some (aD g0 0)) b.os.length b.os.length)).heap[w.heap.size]?=some (.cells (bC b a0 a1 a2 a3 c0 c1 c2 c3) 32)):=(zG (by omega)).trans hX1;have HR1':Hid ((w1.setCell (aD (w.heap.size+1+1) 3) (.l (some (aD g0 0)) b.os.length b.os.length)).heap[w.heap.size+1]?=some (.cells bZ 51)):=(zG (by omega)).trans hR1;have HO1':Hid ((w1.setCell (aD (w.heap.size+1+1) 3) (.l (some (aD g0 0)) b.os.length b.os.length)).heap[w.heap.size+1+1]?=some (.cells #[.i b.now,.i b.tick,.i b.given,.l (some (aD g0 0)) b.os.length b.os.length,.l none 0 0,.l none 0 0,.l none 0 0] 51)):=zh hO1 _;have HAB1:Hid (yw W0.heap.size w1 (w1.setCell (aD (w.heap.size+1+1) 3) (.l (some (aD g0 0)) b.os.length b.os.length))):=yw.setCell HLO.o _;have HBB1:Hid (Bw w (w1.setCell (aD (w.heap.size+1+1) 3) (.l (some (aD g0 0)) b.os.length b.os.length))):=HB1.o.setCell (by show w.heap.size<=w.heap.size+1+1;omega) _;have HZZ1:Hid (W0.heap.size<=(w1.setCell (aD (w.heap.size+1+1) 3) (.l (some (aD g0 0)) b.os.length b.os.length)).heap.size):=by unfold Hid;rw[World.size_setCell];exact HZ1.o
 clear hX1 hR1 hO1;have cX1:=fun j=>cell_of_block (o:=j) HX1'.out
 have cR1:=fun j=>cell_of_block (o:=j) HR1'.out
 have fR1:=fun j=>zl (o:=j) HR1'.out
 have cOO1:=fun j=>cell_of_block (o:=j) HO1'.out
 go_wp2_with fail
 refine(zhB _ _ b.gs _ (HL.o.gs.mono HBB1.o) HF.o.gs.1 HF.o.gs.2).mono ?_;rintro e w2⟨rfl,hown,hb⟩;obtain⟨g1,hp'⟩:∃g1,g1=(w1.setCell (aD (w.heap.size+1+1) 3) (.l (some (aD g0 0)) b.os.length b.os.length)).heap.size:=⟨_,rfl⟩
 have HN2:Hid (zax W0.heap.size w2 g1 b.gs b.gs.length):=by rw[hp'];exact hown.weaken HZZ1.o
 have HAA2:Hid (yw W0.heap.size w1 w2):=HAB1.o.trans (yw.below hb);have hX2:=(hb.block _ (lt_of_some HX1'.out)).trans HX1'.out;have hR2:=(hb.block _ (lt_of_some HR1'.out)).trans HR1'.out;have hO2:=(hb.block _ (lt_of_some HO1'.out)).trans HO1'.out;have HZ2:Hid (W0.heap.size<=w2.heap.size):=Nat.le_trans HZZ1.o hb.size;have HB2:Hid (Bw w w2):=HBB1.o.trans (hb.mono HBB1.o.size);rw[<- hp'];clear hown hb hp' cX1 cR1 fR1 cOO1;have cO2:=fun j=>cell_of_block (o:=j) hO2
 have fO2:=fun j=>zl (o:=j) hO2
 have HX2':Hid ((w2.setCell (aD (w.heap.size+1+1) 4) (.l (some (aD g1 0)) b.gs.length b.gs.length)).heap[w.heap.size]?=some (.cells (bC b a0 a1 a2 a3 c0 c1 c2 c3) 32)):=(zG (by omega)).trans hX2;have HR2':Hid ((w2.setCell (aD (w.heap.size+1+1) 4) (.l (some (aD g1 0)) b.gs.length b.gs.length)).heap[w.heap.size+1]?=some (.cells bZ 51)):=(zG (by omega)).trans hR2;have HO2':Hid ((w2.setCell (aD (w.heap.size+1+1) 4) (.l (some (aD g1 0)) b.gs.length b.gs.length)).heap[w.heap.size+1+1]?=some (.cells #[.i b.now,.i b.tick,.i b.given,.l (some (aD g0 0)) b.os.length b.os.length,.l (some (aD g1 0)) b.gs.length b.gs.length,.l none 0 0,.l none 0 0] 51)):=zh hO2 _;have HAB2:Hid (yw W0.heap.size w2 (w2.setCell (aD (w.heap.size+1+1) 4) (.l (some (aD g1 0)) b.gs.length b.gs.length))):=yw.setCell HLO.o _;have HBB2:Hid (Bw w (w2.setCell (aD (w.heap.size+1+1) 4) (.l (some (aD g1 0)) b.gs.length b.gs.length))):=HB2.o.setCell (by show w.heap.size<=w.heap.size+1+1;omega) _;have HZZ2:Hid (W0.heap.size<=(w2.setCell (aD (w.heap.size+1+1) 4) (.l (some (aD g1 0)) b.gs.length b.gs.length)).heap.size):=by unfold Hid;rw[World.size_setCell];exact HZ2.o
 clear hX2 hR2 hO2;have cX2:=fun j=>cell_of_block (o:=j) HX2'.out
 have cR2:=fun j=>cell_of_block (o:=j) HR2'.out
 have fR2:=fun j=>zl (o:=j) HR2'.out
 have cOO2:=fun j=>cell_of_block (o:=j) HO2'.out
 go_wp2_with fail
 refine(zgK _ _ b.ls _ (HL.o.ls.mono HBB2.o) HF.o.ls).mono ?_;rintro e w3⟨rfl,hown,hb⟩;obtain⟨g2,hp'⟩:∃g2,g2=(w2.setCell (aD (w.heap.size+1+1) 4) (.l (some (aD g1 0)) b.gs.length b.gs.length)).heap.size:=⟨_,rfl⟩
 have HN3:Hid (zau W0.heap.size w3 g2 b.ls b.ls.length):=by rw[hp'];exact hown.weaken HZZ2.o
 have HAA3:Hid (yw W0.heap.size w2 w3):=HAB2.o.trans (yw.below hb);have hX3:=(hb.block _ (lt_of_some HX2'.out)).trans HX2'.out;have hR3:=(hb.block _ (lt_of_some HR2'.out)).trans HR2'.out;have hO3:=(hb.block _ (lt_of_some HO2'.out)).trans HO2'.out;have HZ3:Hid (W0.heap.size<=w3.heap.size):=Nat.le_trans HZZ2.o hb.size;have HB3:Hid (Bw w w3):=HBB2.o.trans (hb.mono HBB2.o.size);rw[<- hp'];clear hown hb hp' cX2 cR2 fR2 cOO2;have cO3:=fun j=>cell_of_block (o:=j) hO3
 have fO3:=fun j=>zl (o:=j) hO3
 have HX3':Hid ((w3.setCell (aD (w.heap.size+1+1) 5) (.l (some (aD g2 0)) b.ls.length b.ls.length)).heap[w.heap.size]?=some (.cells (bC b a0 a1 a2 a3 c0 c1 c2 c3) 32)):=(zG (by omega)).trans hX3;have HR3':Hid ((w3.setCell (aD (w.heap.size+1+1) 5) (.l (some (aD g2 0)) b.ls.length b.ls.length)).heap[w.heap.size+1]?=some (.cells bZ 51)):=(zG (by omega)).trans hR3;have HO3':Hid ((w3.setCell (aD (w.heap.size+1+1) 5) (.l (some (aD g2 0)) b.ls.length b.ls.length)).heap[w.heap.size+1+1]?=some (.cells #[.i b.now,.i b.tick,.i b.given,.l (some (aD g0 0)) b.os.length b.os.length,.l (some (aD g1 0)) b.gs.length b.gs.length,.l (some (aD g2 0)) b.ls.length b.ls.length,.l none 0 0] 51)):=zh hO3 _;have HAB3:Hid (yw W0.heap.size w3 (w3.setCell (aD (w.heap.size+1+1) 5) (.l (some (aD g2 0)) b.ls.length b.ls.length))):=yw.setCell HLO.o _;have HBB3:Hid (Bw w (w3.setCell (aD (w.heap.size+1+1) 5) (.l (some (aD g2 0)) b.ls.length b.ls.length))):=HB3.o.setCell (by show w.heap.size<=w.heap.size+1+1;omega) _;have HZZ3:Hid (W0.heap.size<=(w3.setCell (aD (w.heap.size+1+1) 5) (.l (some (aD g2 0)) b.ls.length b.ls.length)).heap.size):=by unfold Hid;rw[World.size_setCell];exact HZ3.o
 clear hX3 hR3 hO3;have cX3:=fun j=>cell_of_block (o:=j) HX3'.out
 have cR3:=fun j=>cell_of_block (o:=j) HR3'.out
 have fR3:=fun j=>zl (o:=j) HR3'.out
 have cOO3:=fun j=>cell_of_block (o:=j) HO3'.out
 go_wp2_with fail
 refine(zhq _ _ b.ps _ (HL.o.ps.mono HBB3.o) HF.o.ps).mono ?_;rintro e w4⟨rfl,hown,hb⟩;obtain⟨g3,hp'⟩:∃g3,g3=(w3.setCell (aD (w.heap.size+1+1) 5) (.l (some (aD g2 0)) b.ls.length b.ls.length)).heap.size:=⟨_,rfl⟩
 have HN4:Hid (zaB W0.heap.size w4 g3 b.ps b.ps.length):=by rw[hp'];exact hown.weaken HZZ3.o
 have HAA4:Hid (yw W0.heap.size w3 w4):=HAB3.o.trans (yw.below hb);have hX4:=(hb.block _ (lt_of_some HX3'.out)).trans HX3'.out;have hR4:=(hb.block _ (lt_of_some HR3'.out)).trans HR3'.out;have hO4:=(hb.block _ (lt_of_some HO3'.out)).trans HO3'.out;have HZ4:Hid (W0.heap.size<=w4.heap.size):=Nat.le_trans HZZ3.o hb.size;have HB4:Hid (Bw w w4):=HBB3.o.trans (hb.mono HBB3.o.size);rw[<- hp'];clear hown hb hp' cX3 cR3 fR3 cOO3;have cO4:=fun j=>cell_of_block (o:=j) hO4
 have fO4:=fun j=>zl (o:=j) hO4
 have HX4':Hid ((w4.setCell (aD (w.heap.size+1+1) 6) (.l (some (aD g3 0)) b.ps.length b.ps.length)).heap[w.heap.size]?=some (.cells (bC b a0 a1 a2 a3 c0 c1 c2 c3) 32)):=(zG (by omega)).trans hX4;have HR4':Hid ((w4.setCell (aD (w.heap.size+1+1) 6) (.l (some (aD g3 0)) b.ps.length b.ps.length)).heap[w.heap.size+1]?=some (.cells bZ 51)):=(zG (by omega)).trans hR4;have HO4':Hid ((w4.setCell (aD (w.heap.size+1+1) 6) (.l (some (aD g3 0)) b.ps.length b.ps.length)).heap[w.heap.size+1+1]?=some (.cells (bC b (some (aD g0 0)) (some (aD g1 0)) (some (aD g2 0)) (some (aD g3 0)) (b.os.length) (b.gs.length) (b.ls.length) (b.ps.length)) 51)):=zh hO4 _;have HAB4:Hid (yw W0.heap.size w4 (w4.setCell (aD (w.heap.size+1+1) 6) (.l (some (aD g3 0)) b.ps.length b.ps.length))):=yw.setCell HLO.o _;have HBB4:Hid (Bw w (w4.setCell (aD (w.heap.size+1+1) 6) (.l (some (aD g3 0)) b.ps.length b.ps.length))):=HB4.o.setCell (by show w.heap.size<=w.heap.size+1+1;omega) _;have HZZ4:Hid (W0.heap.size<=(w4.setCell (aD (w.heap.size+1+1) 6) (.l (some (aD g3 0)) b.ps.length b.ps.length)).heap.size):=by unfold Hid;rw[World.size_setCell];exact HZ4.o
 clear hX4 hR4 hO4;have cX4:=fun j=>cell_of_block (o:=j) HX4'.out
 have cR4:=fun j=>cell_of_block (o:=j) HR4'.out
 have fR4:=fun j=>zl (o:=j) HR4'.out
 have cOO4:=fun j=>cell_of_block (o:=j) HO4'.out
 go_wp2_with fail
 refine bodyPost_ret (v:=.agg #[.i b.now,.i b.tick,.i b.given,.l (some (aD g0 0)) b.os.length b.os.length,.l (some (aD g1 0)) b.gs.length b.gs.length,.l (some (aD g2 0)) b.ls.length b.ls.length,.l (some (aD g3 0)) b.ps.length b.ps.length]) (by simp[results,Tryz.results9,go_sem,cR4]) rfl ⟨W0.heap.size,g0,g1,g2,g3,rfl,by have:=HLO.o;omega,?_,?_⟩
 ·have hlt1:w.heap.size+1<W0.heap.size:=by have:=HLO.o;omega
  have hA4:∀v0 v1 v2 v3 v4 v5 v6,yw W0.heap.size w4 ((((((((w4.setCell (aD (w.heap.size+1+1) 6) (.l (some (aD g3 0)) b.ps.length b.ps.length)).setCell (aD (w.heap.size+1) 0) v0).setCell (aD (w.heap.size+1) 1) v1).setCell (aD (w.heap.size+1) 2) v2).setCell (aD (w.heap.size+1) 3) v3).setCell (aD (w.heap.size+1) 4) v4).setCell (aD (w.heap.size+1) 5) v5).setCell (aD (w.heap.size+1) 6) v6):=fun v0 v1 v2 v3 v4 v5 v6=>(((((((HAB4.o.trans (yw.setCell (p:=(aD (w.heap.size+1) 0)) hlt1 v0)).trans (yw.setCell (p:=(aD (w.heap.size+1) 1)) hlt1 v1)).trans (yw.setCell (p:=(aD (w.heap.size+1) 2)) hlt1 v2)).trans (yw.setCell (p:=(aD (w.heap.size+1) 3)) hlt1 v3)).trans (yw.setCell (p:=(aD (w.heap.size+1) 4)) hlt1 v4)).trans (yw.setCell (p:=(aD (w.heap.size+1) 5)) hlt1 v5)).trans (yw.setCell (p:=(aD (w.heap.size+1) 6)) hlt1 v6))
  exact⟨HN1.o.above (((HAA2.o.trans HAA3.o).trans HAA4.o).trans (hA4 _ _ _ _ _ _ _)),HN2.o.above ((HAA3.o.trans HAA4.o).trans (hA4 _ _ _ _ _ _ _)),HN3.o.above (HAA4.o.trans (hA4 _ _ _ _ _ _ _)),HN4.o.above (hA4 _ _ _ _ _ _ _)⟩
 ·exact((((((HBB4.o.setCell (Nat.le_succ _) _).setCell (Nat.le_succ _) _).setCell (Nat.le_succ _) _).setCell (Nat.le_succ _) _).setCell (Nat.le_succ _) _).setCell (Nat.le_succ _) _).setCell (Nat.le_succ _) _
theorem zfg (b:Bk)(a0 a1 a2 a3:OA)(c0 c1 c2 c3:Nat)(w:World)(hl:jU w b a0 a1 a2 a3)(hf:b.Few) :
 Calls Tryz.prog 9 #[.agg (b.cells a0 a1 a2 a3 c0 c1 c2 c3)] w fun e w'=>∃a0' a1' a2' a3',e=.returned (.agg (b.cells a0' a1' a2' a3' b.os.length b.gs.length b.ls.length b.ps.length))/\jU w' b a0' a1' a2' a3'/\Bw w w':=by
 refine(zb1 b a0 a1 a2 a3 c0 c1 c2 c3 w hl hf).mono ?_;rintro e w'⟨lo,g0,g1,g2,g3,he,_,ho,hb⟩;exact⟨_,_,_,_,he,ho.at hl.small,hb⟩
def yE (s:Shp)(ms:List Mnd)(p:Nat):List Int:=ms.flatMap fun m=>if turns m s p=true then (zS m).map (zY s.fs) else []
theorem zil (s:Shp)(ms:List Mnd)(p k:Nat)(h:k<ms.length):yE s (ms.take (k+1)) p=yE s (ms.take k) p++if turns ms[k] s p=true then (zS ms[k]).map (zY s.fs) else []:=by
 unfold yE;rw[tSe h,List.flatMap_append]
 simp
theorem zeC (m:Mnd):(zS m).length<=2:=List.length_filter_le _ _
theorem zhF (s:Shp)(p:Nat):∀ms:List Mnd,(yE s ms p).length<=ms.length*2
 | []=>Nat.le_refl _
 | m :: ms=>by
  have h1:=zhF s p ms;have h2:=zeC m;unfold yE at h1 ⊢;rw[List.flatMap_cons,List.length_append,List.length_cons]
  by_cases h:turns m s p=true
  ·rw[if_pos h,List.length_map];omega
  ·rw[if_neg h,List.length_nil];omega
theorem zpb {w:World}{lo lo':Nat}{e e':TypeId}{v v':Value}{n n':Nat}{xs xs':List Value}(h:w.ownsRow lo e 1 v n xs)(h':w.ownsRow lo' e' 1 v' n' xs')(he:e≠e'):∀g,v.ownBlock=some g->∀g',v'.ownBlock=some g'->g≠g':=by
 intro g hg g' hg' hgg;subst hgg;obtain⟨_,⟨rfl,_⟩|⟨b,cap,cur,rfl,_,hh,_⟩⟩:=h
 ·cases hg
 ·obtain⟨_,⟨rfl,_⟩|⟨b',cap',cur',rfl,_,hh',_⟩⟩:=h'
  ·cases hg'
  ·have e1:b=g:=Option.some.inj hg
   have e2:b'=g:=Option.some.inj hg';rw[e1]at hh;rw[e2,hh]at hh';simp only[Option.some.injEq,Obj.cells.injEq]at hh';exact he hh'.2.1
def ints (l:List Int):List Value:=l.map (Value.int .i64)
set_option maxRecDepth 20000 in
theorem zn8 (s:Shp)(ms:List Mnd)(p bm bs:Nat)(ma fa:OA)(mcap fcap:Nat)(w:World)(hm:qZ w ma ms)(hf:yj w fa s.fs)(hp:p<s.fs.length)(hl:ms.length<=1048576)
 (hbs:bs<w.heap.size) (hcm:w.cell? (aD bm 0)=some (.l ma ms.length mcap)) (hcs:∀j,w.cell? (aD bs j)=(#[.s s.kd,.l fa s.fs.length fcap]:AV)[j]?) :
 Calls Tryz.prog 210 #[.i p,.pointer (some (aD bm 0)),.pointer (some (aD bs 0))] w fun e w'=>∃v,e=.returned v/\w'.ownsRow w.heap.size 3 1 v (yE s ms p).length (ints (yE s ms p))/\Bw w w':=by
 obtain⟨i0,hi,hz0,hz1',hz2⟩:=info_parts Tryz.zmh;have HM:=hid hm;have HF:=hid hf;clear hm hf;go_enter Tryz.func210,Tryz.ntmps210;go_wp2_with fail
 go_loopw [5,12] (fun v0 iv wr=>∃(k:Nat) (v:Value),v=v0/\k<=ms.length/\iv=.i k/\wr.ownsRow w.heap.size 3 1 v (yE s (ms.take k) p).length (ints (yE s (ms.take k) p))/\Bw w wr) (fun _ iv _=>ms.length-(intOf iv).toNat)
 case atStart=>exact⟨0,_,rfl,Nat.zero_le _,rfl,World.ownsRow_nil _ _ _ _,bRf _ _⟩
 case round=>
  obtain⟨k,v,hv,hk,rfl,hown,hB⟩:=hrel;subst hv
  by_cases hlt:k<ms.length
  ·obtain⟨b,off,rfl,hb,c0,c1,c2,c3,c4,c5⟩:=HM.o.load hB k hlt
   have hltI:(k:Int)<(ms.length:Int):=by omega
   have hbw:=nLt hb hB.size;have hcsr:=za hcs hbs hB;have hbsr:=nLt hbs hB.size;have HW:=hid hown;have HB:=hid hB;clear hown hB;go_wp2_with fail
   have hba:=(bRf wr.heap.size wr).alloc (Nat.le_refl _) (.cells #[.s ms[k].kd,.s ms[k].fd,.s ms[k].wh,.s ms[k].wi,.s ms[k].pt,.s ms[k].fr] 141);have ht:=zlY ms[k] s fa fcap p (wr.alloc (.cells #[.s ms[k].kd,.s ms[k].fd,.s ms[k].wh,.s ms[k].wi,.s ms[k].pt,.s ms[k].fr] 141)) (HF.o.mono (HB.o.trans (hba.mono HB.o.size))) hp
   by_cases htt:turns ms[k] s p=true
   ·have HS:Hid (yE s (ms.take (k+1)) p=yE s (ms.take k) p++(zS ms[k]).map (zY s.fs)):=by unfold Hid;rw[zil s ms p k hlt,if_pos htt]
    rw[htt]at ht;refine ht.mono ?_;rintro e w1⟨rfl,hb1⟩;have hX1:=za (zn wr _ _) (by simp) hb1;have HB1:=hid (hba.trans (hb1.mono hba.size));have hz1:wr.heap.size<w1.heap.size:=by have:=hb1.size;simp at this;omega
    have hcs1:=za hcsr hbsr HB1.o;clear ht hba hb1 c0 c1 c2 c3 c4 c5;go_wp2_with fail
    refine(zfZ ms[k] w1).mono ?_;rintro e w2⟨nv,rfl,hn,hb2⟩;obtain⟨na,ncap,rfl⟩:=qL hn;have HN2:=hid hn;have HB2:=hid (HB1.o.trans (hb2.mono HB1.o.size));have HW2:Hid (w2.ownsRow w.heap.size 3 1 v (yE s (ms.take k) p).length (ints (yE s (ms.take k) p))):=jD HW.o HB2.o;have HNL:Hid ((zS ms[k]).length<=2):=zeC _;have HRL:Hid ((yE s (ms.take k) p).length<=2097152):=by have h1:=zhF s p (ms.take k);rw[List.length_take]at h1;show _<=_;omega
    have hcs2:=za hcs1 (Nat.lt_trans hbsr hz1) hb2;clear hn hb2 hX1 hcs1 hcsr
    revert HS HN2 HNL
    generalize zS ms[k]=names
    intro HS HN2 HNL;go_wp2_with fail
    have hszw:=HB2.o.size
    go_loopw [5,24] (fun v0 iv wq=>∃(j:Nat) (v1:Value),v1=v0/\j<=names.length/\iv=.i j/\wq.ownsRow w.heap.size 3 1 v1 ((yE s (ms.take k) p)++(names.take j).map (zY s.fs)).length (ints ((yE s (ms.take k) p)++(names.take j).map (zY s.fs)))/\wq.ownsRow w1.heap.size 9 1 (.l na names.length ncap) names.length (names.map Value.string)/\Bw w wq) (fun _ iv _=>names.length-(intOf iv).toNat)
    case atStart=>exact⟨0,_,rfl,Nat.zero_le _,rfl,by simpa using HW2.o,HN2.o,HB.o.trans (HB2.o.mono HB.o.size)⟩
    case round=>
     obtain⟨j,v1,hv1,hj,rfl,hown,hnames,hB⟩:=hrel;subst hv1
     by_cases hjl:j<names.length
     ·obtain⟨g,rfl,hcell⟩:∃g,na=some (aD g 0)/\wr.cell? (aD g j)=some (.s names[j]):=by
       obtain⟨_,⟨h0,h1⟩|⟨g,cap,cur,h0,h1⟩⟩:=id hnames
       ·rw[h1]at hjl;exact absurd hjl (by omega)
       ·cases h0
        refine⟨g,rfl,?_⟩;rw[hnames.cellAt j (by omega)]
        simp[hjl]
      have hjI:(j:Int)<(names.length:Int):=by omega
      have hcsr:=za hcs hbs hB;have hbsr':=nLt hbs hB.size;have HX:=zcl hown hnames hB;have HTK:Hid ((names.take (j+1)).map (zY s.fs)=(names.take j).map (zY s.fs)++[zY s.fs names[j]]):=by unfold Hid;rw[tSe hjl,List.map_append];rfl
      have HLL:Hid (((yE s (ms.take k) p)++(names.take j).map (zY s.fs)).length<=2097156):=by have h1:=HRL.o;have h2:=HNL.o;show _<=_;rw[List.length_append,List.length_map,List.length_take];omega
      clear hown hnames hB;go_wp2_with fail
      refine(jH fa fcap s.fs names[j] wr (HF.o.mono HX.o.2.2)).mono ?_;rintro e w3⟨rfl,hb3⟩;have HB3:=hid hb3;have HX3:=zcl (jD HX.o.1 hb3) (jD HX.o.2.1 hb3) (HX.o.2.2.trans (hb3.mono HX.o.2.2.size));clear hb3 hcell hcsr
      go_wp2_with (at_builtin;refine wpList_append_own _ rfl (.tmp 28) (.tmp 33) 72 rfl w.heap.size 3 i0 (.i 0) 1 8 Tryz.underlying72 hi hz0 hz1' hz2 rfl (by decide) _ _ _ rfl (HX3.o.1.alloc _) (aD w3.heap.size 0) 1 1 [.i (zY s.fs names[j])] rfl rfl (zfl _ _ _) (by intro u hu;simp at hu;subst hu;rfl) (by have:=HLL.o;unfold maxLen;omega) (by have:=HLL.o;omega) (by have:=HX3.o.2.2.size;simp;omega) ?_;intro v' w4 hown' hgr _)
      have hgb:∀g',v1.ownBlock=some g'->w.heap.size<=g':=fun g' hg'=>(HX3.o.1.lt g' hg').1
      have hap:=zpb HX3.o.1 HX3.o.2.1 (by decide);refine⟨⟨j+1,_,rfl,by omega,by rw[wrap_one (by have:=HNL.o;omega)],?_,?_,zdA HX3.o.2.2 HX3.o.2.2.size hgr hgb⟩,zfJ hjl (by have:=HNL.o;omega)⟩
      ·rw[HTK.o,<- List.append_assoc,List.length_append]
       have e1:ints ((yE s (ms.take k) p++(names.take j).map (zY s.fs))++[zY s.fs names[j]])=ints (yE s (ms.take k) p++(names.take j).map (zY s.fs))++[.i (zY s.fs names[j])]:=by simp[ints]
       rw[e1];exact hown'
      ·refine za6 HX3.o.2.1 (fun g' hg'=>?_)
       rw[za4 hgr (by have:=(HX3.o.2.1.lt g' hg').2;simp;omega) (fun q hq=>fun e=>hap q hq g' hg' e.symm),Below.heap_alloc _ _ _ (HX3.o.2.1.lt g' hg').2]
     ·have e:j=names.length:=by omega
      subst e;rw[tOl (Nat.le_refl _),<- HS.o]at hown;have HX:=ji hown hB;clear hown hnames hB;go_wp2_with fail
      exact⟨⟨k+1,_,rfl,by omega,by go_num,HX.o.1,HX.o.2⟩,zw hlt⟩
   ·have htf:turns ms[k] s p=false:=by simpa using htt
    have HS:Hid (yE s (ms.take (k+1)) p=yE s (ms.take k) p):=by unfold Hid;rw[zil s ms p k hlt,if_neg htt];simp
    rw[htf]at ht;refine ht.mono ?_;rintro e w1⟨rfl,hb1⟩;have HB1:=hid (hba.trans (hb1.mono hba.size));clear ht hba hb1;go_wp2_with fail
    exact⟨⟨k+1,_,rfl,by omega,by go_num,by rw[HS.o];exact jD HW.o HB1.o,HB.o.trans (HB1.o.mono HB.o.size)⟩,zw hlt⟩
  ·have e:k=ms.length:=by omega
   subst e;rw[tOl (Nat.le_refl _)]at hown;have HW:=ji hown hB;clear hown hB;go_wp2_with fail
   go_ret;exact⟨v,rfl,HW.o⟩
theorem zq7 {fs:List Fld}{k:Nat}(h:k<fs.length)(hh:hasName (fs.take k) fs[k].nm=true):(zY fs fs[k].nm != (k:Int))=true:=by
 obtain⟨j,hj,e⟩:=zlC fs _ k h hh;rw[e,bne_iff_ne];omega
theorem zq6 {fs:List Fld}{k:Nat}(h:k<fs.length)(hh:hasName (fs.take k) fs[k].nm=false):(zY fs fs[k].nm != (k:Int))=false:=by
 rw[zem fs _ k h hh rfl];simp
theorem zcR (r:Nat)(a0:OA)(cap0:Nat)(ss:List Shp)(a:OA)(cap:Nat)(fs:List Fld)(w:World)(hr:w.heap[r]?=some (.map yY 4))(hss:yR w a0 ss)(hw:yj w a fs) :
 Calls Tryz.prog 200 #[.map (some r),.l a0 ss.length cap0,.l a fs.length cap] w fun e w'=>e=.returned (.bool (qz ss fs))/\Bw w w':=by
 have hl:=hw.len;unfold maxLen at hl;have hrlt:=(gES hr).1
 by_cases h6:fs.length<=6
 rotate_left
 ·have HF:Hid (qz ss fs=false):=by simp[Hid,qz,h6]
  clear hw hr hss;go_enter Tryz.func200,Tryz.ntmps200
  go_wp2
  go_ret;exact⟨ze HF.o.symm,bRf _ _⟩
 have HG:Hid (qz ss fs=up (zfv ss fs) fs.length):=by simp[Hid,qz,h6]
 have h6I:(fs.length:Int)<=6:=by omega
 go_enter Tryz.func200,Tryz.ntmps200
 go_wp2
 go_loopw [14] (fun i wr=>∃k:Nat,k<=fs.length/\i=.i k/\up (zfv ss fs) k=true/\Bw w wr) (fun i _=>fs.length-(intOf i).toNat)
 case atStart=>exact⟨0,Nat.zero_le _,rfl,rfl,bRf _ _⟩
 case round=>
  obtain⟨k,hk,rfl,hup,hB⟩:=hrel;have hsz:=hB.size
  by_cases hlt:k<fs.length
  ·obtain⟨b,off,rfl,hb,hrw⟩:=hw.rows (by rintro rfl;simp at hlt)
   obtain⟨wa,wcap,hf⟩:=hrw k hlt;obtain⟨c0,c1,c2,c3,c4,c5,c6,c7,c8,c9,c10⟩:=(hf.mono hb hB).load;have hsm:=hf.small;have hst:=hf.strs.mono hB;have hfa:=hw.mono hB;have hsa:=hss.mono hB;have hra:=(hB.block r hrlt).trans hr;have HO:=hid (zjx ss fs k hlt);have HS:Hid (zfv ss fs k=true->up (zfv ss fs) (k+1)=true):=fun h=>by rw[jA,hup,h];rfl
   have HN:Hid (zfv ss fs k=false->qz ss fs=false):=fun h=>by rw[HG.o];exact za2 hlt h
   clear hw hrw hf hup hss hr
   by_cases hn:zm fs[k].nm=true
   rotate_left
   ·have HNm:Hid (zm fs[k].nm=false):=by simpa[Hid] using hn
    clear hn;go_wp2_with fail
    refine(zf HNm.o (zB _ _ hsm.nm)).mono ?_;rintro e w1⟨rfl,rfl⟩;go_wp2_with fail
    go_ret;exact⟨ze (HN.o (by rw[HO.o,HNm.o];rfl)).symm,hB.alloc hsz _⟩
   have HNm:=hid hn;clear hn
   by_cases hh:hasName (fs.take k) fs[k].nm=true
   ·have HH:=hid hh
    have hpl:=zq7 hlt hh;clear hh;go_wp2_with fail
    refine(zf HNm.o (zB _ _ hsm.nm)).mono ?_;rintro e w1⟨rfl,rfl⟩;go_wp2_with fail
    refine(jH _ _ _ _ _ (hfa.mono (bAl _ _))).mono ?_;rintro e w2⟨rfl,hb2⟩;have hB2:Bw w w2:=(hB.alloc hsz _).trans (hb2.mono (by simp;omega));clear hb2;go_wp2_with fail
    go_ret;exact⟨ze (HN.o (by rw[HO.o,HNm.o,HH.o];rfl)).symm,hB2⟩
   ·have HH:Hid (hasName (fs.take k) fs[k].nm=false):=by simpa[Hid] using hh
    have hpl:=zq6 hlt HH.o;clear hh
    by_cases hok:yM ss fs[k]=true
    all_goals
     first
      | (have HK:Hid (yM ss fs[k]=true):=hok)
      | (have HK:Hid (yM ss fs[k]=false):=by simpa[Hid] using hok)
     clear hok;go_wp2_with fail
     refine(zf HNm.o (zB _ _ hsm.nm)).mono ?_;rintro e w1⟨rfl,rfl⟩;go_wp2_with fail
     refine(jH _ _ _ _ _ (hfa.mono (bAl _ _))).mono ?_;rintro e w2⟨rfl,hb2⟩;have hX2:=za (zn wr _ _) (by simp) hb2;have hz2:wr.heap.size<w2.heap.size:=by have:=hb2.size;simp at this;omega
     have hbr2:Bw wr w2:=(bAl _ _).trans (hb2.mono (by simp));have hB2:=hB.trans (hbr2.mono hsz);have hra2:w2.heap[r]?=some (.map yY 4):=(hbr2.block r (by omega)).trans hra;clear hb2;go_wp2_with fail
     refine(zf HK.o (znC _ _ _ _ _ _ _ _ _ _ _ _ _ _ _ _ _ _ hra2 hsm.df hsm.wg (hst.mono hbr2) (hsa.mono hbr2))).mono ?_;rintro e w3⟨rfl,hb3⟩;have hB3:Bw w w3:=hB2.trans (hb3.mono (by omega));clear hb3 hX2;go_wp2_with fail
    ·exact⟨⟨k+1,by omega,by go_num,HS.o (by rw[HO.o,HNm.o,HH.o,HK.o];rfl),hB3⟩,by simp[intOf];omega⟩
    ·go_ret
     exact⟨ze (HN.o (by rw[HO.o,HNm.o,HH.o,HK.o];rfl)).symm,hB3⟩
  ·have HF:Hid (qz ss fs=true):=by
    have e:k=fs.length:=by omega
    subst e;rw[HG.o];exact hup
   clear hup hw
   go_wp2
   go_ret;exact⟨ze HF.o.symm,hB⟩
theorem zjf (a0:OA)(cap0:Nat)(ss:List Shp)(nm:BA)(kd ls ms:Int)(a:OA)(cap:Nat)(ws:List BA)(to:BA)(rl:Int)(mu fx:Bool)(df wg:BA)(w:World)(hnm:nm.size<=maxLen)(hdf:df.size<=maxLen)(hws:zJ w a ws)(h1:kd≠1)(h2:kd≠2)(h3:kd≠3)(h4:kd≠4) :
 Calls Tryz.prog 188 #[.l a0 ss.length cap0,.agg #[.s nm,.i kd,.i ls,.i ms,.l a ws.length cap,.s to,.i rl,.bool mu,.bool fx,.s df,.s wg]] w
  fun e w'=>e=.returned (.bool (zm nm&&yM ss ⟨nm,kd,ls,ms,ws,to,rl,mu,fx,df,wg⟩))/\Bw w w':=by
 have HO:Hid ((zm nm&&yM ss ⟨nm,kd,ls,ms,ws,to,rl,mu,fx,df,wg⟩)=false):=by simp[Hid,yM,bare,yV,h1,h2,h3,h4]
 generalize (zm nm&&yM ss ⟨nm,kd,ls,ms,ws,to,rl,mu,fx,df,wg⟩)=res at HO
 have HFit:Hid (fits kd ls ms ws df=false):=zgf kd ls ms ws df h1 h2 h3 h4;have HH:Hid (kd≠1/\kd≠2/\kd≠3/\kd≠4):=⟨h1,h2,h3,h4⟩
 have e1:(kd == 1)=false:=by simpa using h1
 have e2:(kd == 2)=false:=by simpa using h2
 have e3:(kd == 3)=false:=by simpa using h3
 have e4:(kd == 4)=false:=by simpa using h4
 clear h1 h2 h3 h4
 by_cases hn:zm nm=true
 rotate_left
 ·have HNm:Hid (zm nm=false):=by simpa[Hid] using hn
  clear hn;go_enter Tryz.func188,Tryz.ntmps188;go_wp2_with fail
  refine(zf HNm.o (zi _ _ hnm)).mono ?_;rintro e w1⟨rfl,rfl⟩;go_wp2_with fail
  go_ret;exact⟨ze HO.o.symm,bAl _ _⟩
 have HNm:Hid (zm nm=true):=hn;clear hn
 by_cases hd:df.toList.isEmpty=true
 all_goals
  first
   | (have hd1:df.toList.isEmpty=true:=hd)
   | (have hd1:df.toList.isEmpty=false:=by simpa using hd)
  clear hd;go_enter Tryz.func188,Tryz.ntmps188;go_wp2_with fail
  refine(zf HNm.o (zi _ _ hnm)).mono ?_;rintro e w1⟨rfl,rfl⟩;go_wp2_with fail
  refine(zkh _ _ _ _ _ _ _ _ _ _ _ _ _ _ HH.o.1 HH.o.2.1 HH.o.2.2.1 HH.o.2.2.2).mono ?_;rintro e w2⟨bb,rfl,hb2⟩;have hX2:=za (zn w _ _) (by simp) hb2;have hz2:w.heap.size<w2.heap.size:=by have:=hb2.size;simp at this;omega
  have hB2:Bw w w2:=(bAl _ _).trans (hb2.mono (by simp));clear hb2
  cases bb
  ·go_wp2_with fail
   go_ret;exact⟨ze HO.o.symm,hB2⟩
 ·go_wp2_with fail
  go_ret;exact⟨ze HO.o.symm,hB2⟩
 ·go_wp2_with fail
  refine(zf HFit.o (qm _ _ _ _ _ _ _ _ _ _ _ _ _ _ _ hdf (hws.mono hB2))).mono ?_;rintro e w3⟨rfl,hb3⟩;have hB3:Bw w w3:=hB2.trans (hb3.mono (by omega));go_wp2_with fail
  go_ret;exact⟨ze HO.o.symm,hB3⟩
theorem zfS (a0:OA)(cap0:Nat)(ss:List Shp)(nm:BA)(kd ls ms:Int)(a:OA)(cap:Nat)(ws:List BA)(to:BA)(rl:Int)(mu fx:Bool)(df wg:BA)(w:World)(hnm:nm.size<=maxLen)(hdf:df.size<=maxLen)(hwg:wg.size<=maxLen)(hws:zJ w a ws)(hss:yR w a0 ss) :
 Calls Tryz.prog 188 #[.l a0 ss.length cap0,.agg #[.s nm,.i kd,.i ls,.i ms,.l a ws.length cap,.s to,.i rl,.bool mu,.bool fx,.s df,.s wg]] w
  fun e w'=>e=.returned (.bool (zm nm&&yM ss ⟨nm,kd,ls,ms,ws,to,rl,mu,fx,df,wg⟩))/\Bw w w':=by
 by_cases h1:kd=1
 ·subst h1;exact znN a0 cap0 ss nm ls ms a cap ws to rl mu fx df wg w hnm hdf hwg hws
 by_cases h2:kd=2
 ·subst h2;exact znA a0 cap0 ss nm ls ms a cap ws to rl mu fx df wg w hnm hdf hws
 by_cases h3:kd=3
 ·subst h3;exact znD a0 cap0 ss nm ls ms a cap ws to rl mu fx df wg w hnm hdf hws
 by_cases h4:kd=4
 ·subst h4;exact znp a0 cap0 ss nm ls ms a cap ws to rl mu fx df wg w hnm hdf hws hss
 exact zjf a0 cap0 ss nm kd ls ms a cap ws to rl mu fx df wg w hnm hdf hws h1 h2 h3 h4
end Go.Proofs.YthdfpinbnncghaaGreat
