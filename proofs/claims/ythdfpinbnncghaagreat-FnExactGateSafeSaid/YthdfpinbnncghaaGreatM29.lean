import Derived.Test.YthdfpinbnncghaaGreatM24
import Derived.Test.YthdfpinbnncghaaGreatM21
set_option maxHeartbeats 4000000
namespace Go.Proofs.YthdfpinbnncghaaGreat
open Go.RowKit
def zeo:Value:=.agg #[.nilIface,.iface 346 (.agg #[]),.iface 347 (.agg #[]),.iface 348 (.agg #[]),.iface 349 (.agg #[]),.iface 350 (.agg #[]),.iface 351 (.agg #[])]
theorem zcY (w:World):Calls Tryz.prog 254 #[] w fun e w'=>e=.returned zeo/\Bw w w':=by
 go_enter Tryz.func254,Tryz.ntmps254;go_wp2_with fail
 refine bodyPost_ret (v:=zeo) (by simp[results,Tryz.results254,go_sem,zeo]) rfl ⟨rfl,bAl _ _⟩
theorem zgH (x:Value)(w:World):(method 477 346 x "loop.example/wharfgate/impl.isUse").run Tryz.prog w=.ok (299,x) w:=by kernel_rfl
theorem zhC (x:Value)(w:World):(method 477 346 x "loop.example/wharfgate/impl.rest").run Tryz.prog w=.ok (301,x) w:=by kernel_rfl
theorem zfM (x:Value)(w:World):(method 477 347 x "loop.example/wharfgate/impl.isUse").run Tryz.prog w=.ok (304,x) w:=by kernel_rfl
theorem zga (x:Value)(w:World):(method 477 347 x "loop.example/wharfgate/impl.rest").run Tryz.prog w=.ok (306,x) w:=by kernel_rfl
theorem zhx (x:Value)(w:World):(method 477 348 x "loop.example/wharfgate/impl.isUse").run Tryz.prog w=.ok (308,x) w:=by kernel_rfl
theorem ziD (x:Value)(w:World):(method 477 348 x "loop.example/wharfgate/impl.rest").run Tryz.prog w=.ok (310,x) w:=by kernel_rfl
theorem zf6 (x:Value)(w:World):(method 477 349 x "loop.example/wharfgate/impl.isUse").run Tryz.prog w=.ok (312,x) w:=by kernel_rfl
theorem zgY (x:Value)(w:World):(method 477 349 x "loop.example/wharfgate/impl.rest").run Tryz.prog w=.ok (314,x) w:=by kernel_rfl
theorem zhf (x:Value)(w:World):(method 477 350 x "loop.example/wharfgate/impl.isUse").run Tryz.prog w=.ok (316,x) w:=by kernel_rfl
theorem zhK (x:Value)(w:World):(method 477 350 x "loop.example/wharfgate/impl.rest").run Tryz.prog w=.ok (318,x) w:=by kernel_rfl
theorem zhm (x:Value)(w:World):(method 477 351 x "loop.example/wharfgate/impl.isUse").run Tryz.prog w=.ok (320,x) w:=by kernel_rfl
theorem zhA (x:Value)(w:World):(method 477 351 x "loop.example/wharfgate/impl.rest").run Tryz.prog w=.ok (322,x) w:=by kernel_rfl
theorem zo5 (w:World):(Instr.index 335 (.agg #[.nilIface,.iface 346 (.agg #[]),.iface 347 (.agg #[]),.iface 348 (.agg #[]),.iface 349 (.agg #[]),.iface 350 (.agg #[]),.iface 351 (.agg #[])]) (.i 1)).run Tryz.prog w=.ok (.iface 346 (.agg #[])) w:=by kernel_rfl
theorem zmG (w:World):(Instr.index 335 (.agg #[.nilIface,.iface 346 (.agg #[]),.iface 347 (.agg #[]),.iface 348 (.agg #[]),.iface 349 (.agg #[]),.iface 350 (.agg #[]),.iface 351 (.agg #[])]) (.i 2)).run Tryz.prog w=.ok (.iface 347 (.agg #[])) w:=by kernel_rfl
theorem zqc (w:World):(Instr.index 335 (.agg #[.nilIface,.iface 346 (.agg #[]),.iface 347 (.agg #[]),.iface 348 (.agg #[]),.iface 349 (.agg #[]),.iface 350 (.agg #[]),.iface 351 (.agg #[])]) (.i 3)).run Tryz.prog w=.ok (.iface 348 (.agg #[])) w:=by kernel_rfl
theorem znY (w:World):(Instr.index 335 (.agg #[.nilIface,.iface 346 (.agg #[]),.iface 347 (.agg #[]),.iface 348 (.agg #[]),.iface 349 (.agg #[]),.iface 350 (.agg #[]),.iface 351 (.agg #[])]) (.i 4)).run Tryz.prog w=.ok (.iface 349 (.agg #[])) w:=by kernel_rfl
theorem zoX (w:World):(Instr.index 335 (.agg #[.nilIface,.iface 346 (.agg #[]),.iface 347 (.agg #[]),.iface 348 (.agg #[]),.iface 349 (.agg #[]),.iface 350 (.agg #[]),.iface 351 (.agg #[])]) (.i 5)).run Tryz.prog w=.ok (.iface 350 (.agg #[])) w:=by kernel_rfl
theorem zoJ (w:World):(Instr.index 335 (.agg #[.nilIface,.iface 346 (.agg #[]),.iface 347 (.agg #[]),.iface 348 (.agg #[]),.iface 349 (.agg #[]),.iface 350 (.agg #[]),.iface 351 (.agg #[])]) (.i 6)).run Tryz.prog w=.ok (.iface 351 (.agg #[])) w:=by kernel_rfl
set_option maxRecDepth 20000 in
theorem zoM (l:Lw)(la lb lc:OA)(lca lcb lcc:Nat)(who kd nm tm:BA)(vs hs:List BA)(sn:Int)(hd to:BA)(r:Rl)(no:Int)(a0 a1 a2:OA)(c0 c1 c2:Nat)(w:World)(hl:yH w l la lb lc)(hx:jq w (⟨who,1,kd,nm,tm,vs,hs,sn,hd,to,r,no⟩:Ak) a0 a1 a2)(hn:zm who=true) :
 Calls Tryz.prog 228 #[.agg (l.cells la lb lc lca lcb lcc),.agg ((⟨who,1,kd,nm,tm,vs,hs,sn,hd,to,r,no⟩:Ak).cells a0 a1 a2 c0 c1 c2)] w fun e w'=>e=.returned (.bool (jk l (⟨who,1,kd,nm,tm,vs,hs,sn,hd,to,r,no⟩:Ak)&&unused ⟨who,1,ByteArray.empty,ByteArray.empty,ByteArray.empty,[],[],sn,hd,to,r,no⟩))/\Bw w w':=by
 have HL:Hid (yH w l la lb lc):=hl;have HX:Hid (jq w (⟨who,1,kd,nm,tm,vs,hs,sn,hd,to,r,no⟩:Ak) a0 a1 a2):=hx;have HN:Hid (zm who=true):=hn;clear hl hx hn;unfold Ak.cells Lw.cells;dsimp only;go_enter Tryz.func228,Tryz.ntmps228
 go_upto_region 1 with fail
 obtain⟨W0,hW0,hX0,hY0,hz0,hB0⟩:=zR w #[.l la l.ss.length lca,.l lb l.ms.length lcb,.l lc l.ts.length lcc] #[.s who,.i 1,.s kd,.s nm,.s tm,.l a0 vs.length c0,.l a1 hs.length c1,.i sn,.s hd,.s to,.l a2 r.vs.length c2,.s r.kd,.s r.tm,.s r.px,.i no] 44 189;rw[<- hW0];clear hW0;have hq0:=nSl hz0;go_wp2_with fail
 refine(zf HN.o (zB who _ HX.o.small.who)).mono ?_;rintro e w1⟨rfl,rfl⟩;go_wp2_with fail
 refine(zf (show within 1 1 6=true from rfl) (yU 1 1 6 _)).mono ?_;rintro e w1⟨rfl,rfl⟩;go_wp2_with fail
 have hX:=za hX0 hq0 (bRf w1.heap.size w1).drew;have hY:=za hY0 hz0 (bRf w1.heap.size w1).drew;have hz:w.heap.size+1<w1.drew.heap.size:=hz0;have hB:=hB0.drew;clear hX0 hY0 hz0 hB0 hq0;have hix:=zo5
 go_region_held3 (fun w'=>(∀j,w'.cell? (aD w.heap.size j)=(#[.l la l.ss.length lca,.l lb l.ms.length lcb,.l lc l.ts.length lcc]:AV)[j]?)/\∀j,w'.cell? (aD (w.heap.size+1) j)=(#[.s who,.i 1,.s kd,.s nm,.s tm,.l a0 vs.length c0,.l a1 hs.length c1,.i sn,.s hd,.s to,.l a2 r.vs.length c2,.s r.kd,.s r.tm,.s r.px,.i no]:AV)[j]?) (exact⟨hX,hY⟩) (first
  | (go_at_call 254;refine(zcY _).mono ?_;rintro e w3⟨rfl,hb⟩;unfold zeo;have hX:=za hX (nSl hz) hb;have hY:=za hY hz hb;have hB:=hB.trans (hb.mono hB.size);have hz:=nLt hz hb.size;clear hb))
 have hm1:=zgH;have hm2:=zhC;have hq:=nSl hz;go_wp2_with fail
 refine(zm5 l la lb lc lca lcb lcc (⟨who,1,kd,nm,tm,vs,hs,sn,hd,to,r,no⟩:Ak) a0 a1 a2 c0 c1 c2 _ (HL.o.mono hB) (HX.o.mono hB)).mono ?_;rintro e w4⟨rfl,hb⟩;have hX4:=za hX hq hb;have hY4:=za hY hz hb;have hz4:=nLt hz hb.size;have hq4:=nLt hq hb.size;have hB4:=hB.trans (hb.mono hB.size);clear hb hX hY hB hz hq
 cases hu:jk l (⟨who,1,kd,nm,tm,vs,hs,sn,hd,to,r,no⟩:Ak)
 ·have HU:=hid hu
  clear hu;go_wp2_with fail
  go_ret;exact⟨ze (by rw[HU.o];rfl),hB4⟩
 have HU:=hid hu;clear hu;go_wp2_with fail
 refine(zmc (⟨who,1,kd,nm,tm,vs,hs,sn,hd,to,r,no⟩:Ak) a0 a1 a2 c0 c1 c2 _).mono ?_;rintro e w5⟨rfl,hb⟩;have hB5:=hB4.trans (hb.mono hB4.size);clear hb hX4 hY4 hz4 hq4 hB4;go_wp2_with fail
 refine(zbb ⟨who,1,ByteArray.empty,ByteArray.empty,ByteArray.empty,[],[],sn,hd,to,r,no⟩ _ _ _ _ _ _ _).mono ?_;rintro e w6⟨rfl,hb⟩;have hB6:=hB5.trans (hb.mono hB5.size);clear hb hB5;go_wp2_with fail
 go_ret;exact⟨ze (by rw[HU.o];rfl),hB6⟩
set_option maxRecDepth 20000 in
theorem zmg (l:Lw)(la lb lc:OA)(lca lcb lcc:Nat)(who kd nm tm:BA)(vs hs:List BA)(sn:Int)(hd to:BA)(r:Rl)(no:Int)(a0 a1 a2:OA)(c0 c1 c2:Nat)(w:World)(hl:yH w l la lb lc)(hx:jq w (⟨who,2,kd,nm,tm,vs,hs,sn,hd,to,r,no⟩:Ak) a0 a1 a2)(hn:zm who=true) :
 Calls Tryz.prog 228 #[.agg (l.cells la lb lc lca lcb lcc),.agg ((⟨who,2,kd,nm,tm,vs,hs,sn,hd,to,r,no⟩:Ak).cells a0 a1 a2 c0 c1 c2)] w fun e w'=>e=.returned (.bool (qW l (⟨who,2,kd,nm,tm,vs,hs,sn,hd,to,r,no⟩:Ak)&&unused ⟨who,2,ByteArray.empty,ByteArray.empty,tm,[],hs,0,hd,to,r,no⟩))/\Bw w w':=by
 have HL:Hid (yH w l la lb lc):=hl;have HX:Hid (jq w (⟨who,2,kd,nm,tm,vs,hs,sn,hd,to,r,no⟩:Ak) a0 a1 a2):=hx;have HN:Hid (zm who=true):=hn;clear hl hx hn;unfold Ak.cells Lw.cells;dsimp only;go_enter Tryz.func228,Tryz.ntmps228
 go_upto_region 1 with fail
 obtain⟨W0,hW0,hX0,hY0,hz0,hB0⟩:=zR w #[.l la l.ss.length lca,.l lb l.ms.length lcb,.l lc l.ts.length lcc] #[.s who,.i 2,.s kd,.s nm,.s tm,.l a0 vs.length c0,.l a1 hs.length c1,.i sn,.s hd,.s to,.l a2 r.vs.length c2,.s r.kd,.s r.tm,.s r.px,.i no] 44 189;rw[<- hW0];clear hW0;have hq0:=nSl hz0;go_wp2_with fail
 refine(zf HN.o (zB who _ HX.o.small.who)).mono ?_;rintro e w1⟨rfl,rfl⟩;go_wp2_with fail
 refine(zf (show within 2 1 6=true from rfl) (yU 2 1 6 _)).mono ?_;rintro e w1⟨rfl,rfl⟩;go_wp2_with fail
 have hX:=za hX0 hq0 (bRf w1.heap.size w1).drew;have hY:=za hY0 hz0 (bRf w1.heap.size w1).drew;have hz:w.heap.size+1<w1.drew.heap.size:=hz0;have hB:=hB0.drew;clear hX0 hY0 hz0 hB0 hq0;have hix:=zmG
 go_region_held3 (fun w'=>(∀j,w'.cell? (aD w.heap.size j)=(#[.l la l.ss.length lca,.l lb l.ms.length lcb,.l lc l.ts.length lcc]:AV)[j]?)/\∀j,w'.cell? (aD (w.heap.size+1) j)=(#[.s who,.i 2,.s kd,.s nm,.s tm,.l a0 vs.length c0,.l a1 hs.length c1,.i sn,.s hd,.s to,.l a2 r.vs.length c2,.s r.kd,.s r.tm,.s r.px,.i no]:AV)[j]?) (exact⟨hX,hY⟩) (first
  | (go_at_call 254;refine(zcY _).mono ?_;rintro e w3⟨rfl,hb⟩;unfold zeo;have hX:=za hX (nSl hz) hb;have hY:=za hY hz hb;have hB:=hB.trans (hb.mono hB.size);have hz:=nLt hz hb.size;clear hb))
 have hm1:=zfM;have hm2:=zga;have hq:=nSl hz;go_wp2_with fail
 refine(zlA l la lb lc lca lcb lcc (⟨who,2,kd,nm,tm,vs,hs,sn,hd,to,r,no⟩:Ak) a0 a1 a2 c0 c1 c2 _ (HL.o.mono hB) (HX.o.mono hB)).mono ?_;rintro e w4⟨rfl,hb⟩;have hX4:=za hX hq hb;have hY4:=za hY hz hb;have hz4:=nLt hz hb.size;have hq4:=nLt hq hb.size;have hB4:=hB.trans (hb.mono hB.size);clear hb hX hY hB hz hq
 cases hu:qW l (⟨who,2,kd,nm,tm,vs,hs,sn,hd,to,r,no⟩:Ak)
 ·have HU:=hid hu
  clear hu;go_wp2_with fail
  go_ret;exact⟨ze (by rw[HU.o];rfl),hB4⟩
 have HU:=hid hu;clear hu;go_wp2_with fail
 refine(zkU (⟨who,2,kd,nm,tm,vs,hs,sn,hd,to,r,no⟩:Ak) a0 a1 a2 c0 c1 c2 _).mono ?_;rintro e w5⟨rfl,hb⟩;have hB5:=hB4.trans (hb.mono hB4.size);clear hb hX4 hY4 hz4 hq4 hB4;go_wp2_with fail
 refine(zbb ⟨who,2,ByteArray.empty,ByteArray.empty,tm,[],hs,0,hd,to,r,no⟩ _ _ _ _ _ _ _).mono ?_;rintro e w6⟨rfl,hb⟩;have hB6:=hB5.trans (hb.mono hB5.size);clear hb hB5;go_wp2_with fail
 go_ret;exact⟨ze (by rw[HU.o];rfl),hB6⟩
set_option maxRecDepth 20000 in
theorem zqh (l:Lw)(la lb lc:OA)(lca lcb lcc:Nat)(who kd nm tm:BA)(vs hs:List BA)(sn:Int)(hd to:BA)(r:Rl)(no:Int)(a0 a1 a2:OA)(c0 c1 c2:Nat)(w:World)(hl:yH w l la lb lc)(hx:jq w (⟨who,3,kd,nm,tm,vs,hs,sn,hd,to,r,no⟩:Ak) a0 a1 a2)(hn:zm who=true) :
 Calls Tryz.prog 228 #[.agg (l.cells la lb lc lca lcb lcc),.agg ((⟨who,3,kd,nm,tm,vs,hs,sn,hd,to,r,no⟩:Ak).cells a0 a1 a2 c0 c1 c2)] w fun e w'=>e=.returned (.bool (zbQ l (⟨who,3,kd,nm,tm,vs,hs,sn,hd,to,r,no⟩:Ak)&&unused ⟨who,3,ByteArray.empty,ByteArray.empty,tm,vs,hs,0,hd,to,r,no⟩))/\Bw w w':=by
 have HL:Hid (yH w l la lb lc):=hl;have HX:Hid (jq w (⟨who,3,kd,nm,tm,vs,hs,sn,hd,to,r,no⟩:Ak) a0 a1 a2):=hx;have HN:Hid (zm who=true):=hn;clear hl hx hn;unfold Ak.cells Lw.cells;dsimp only;go_enter Tryz.func228,Tryz.ntmps228
 go_upto_region 1 with fail
 obtain⟨W0,hW0,hX0,hY0,hz0,hB0⟩:=zR w #[.l la l.ss.length lca,.l lb l.ms.length lcb,.l lc l.ts.length lcc] #[.s who,.i 3,.s kd,.s nm,.s tm,.l a0 vs.length c0,.l a1 hs.length c1,.i sn,.s hd,.s to,.l a2 r.vs.length c2,.s r.kd,.s r.tm,.s r.px,.i no] 44 189;rw[<- hW0];clear hW0;have hq0:=nSl hz0;go_wp2_with fail
 refine(zf HN.o (zB who _ HX.o.small.who)).mono ?_;rintro e w1⟨rfl,rfl⟩;go_wp2_with fail
 refine(zf (show within 3 1 6=true from rfl) (yU 3 1 6 _)).mono ?_;rintro e w1⟨rfl,rfl⟩;go_wp2_with fail
 have hX:=za hX0 hq0 (bRf w1.heap.size w1).drew;have hY:=za hY0 hz0 (bRf w1.heap.size w1).drew;have hz:w.heap.size+1<w1.drew.heap.size:=hz0;have hB:=hB0.drew;clear hX0 hY0 hz0 hB0 hq0;have hix:=zqc
 go_region_held3 (fun w'=>(∀j,w'.cell? (aD w.heap.size j)=(#[.l la l.ss.length lca,.l lb l.ms.length lcb,.l lc l.ts.length lcc]:AV)[j]?)/\∀j,w'.cell? (aD (w.heap.size+1) j)=(#[.s who,.i 3,.s kd,.s nm,.s tm,.l a0 vs.length c0,.l a1 hs.length c1,.i sn,.s hd,.s to,.l a2 r.vs.length c2,.s r.kd,.s r.tm,.s r.px,.i no]:AV)[j]?) (exact⟨hX,hY⟩) (first
  | (go_at_call 254;refine(zcY _).mono ?_;rintro e w3⟨rfl,hb⟩;unfold zeo;have hX:=za hX (nSl hz) hb;have hY:=za hY hz hb;have hB:=hB.trans (hb.mono hB.size);have hz:=nLt hz hb.size;clear hb))
 have hm1:=zhx;have hm2:=ziD;have hq:=nSl hz;go_wp2_with fail
 refine(zo2 l la lb lc lca lcb lcc (⟨who,3,kd,nm,tm,vs,hs,sn,hd,to,r,no⟩:Ak) a0 a1 a2 c0 c1 c2 _ (HL.o.mono hB) (HX.o.mono hB)).mono ?_;rintro e w4⟨rfl,hb⟩;have hX4:=za hX hq hb;have hY4:=za hY hz hb;have hz4:=nLt hz hb.size;have hq4:=nLt hq hb.size;have hB4:=hB.trans (hb.mono hB.size);clear hb hX hY hB hz hq
 cases hu:zbQ l (⟨who,3,kd,nm,tm,vs,hs,sn,hd,to,r,no⟩:Ak)
 ·have HU:=hid hu
  clear hu;go_wp2_with fail
  go_ret;exact⟨ze (by rw[HU.o];rfl),hB4⟩
 have HU:=hid hu;clear hu;go_wp2_with fail
 refine(zoe (⟨who,3,kd,nm,tm,vs,hs,sn,hd,to,r,no⟩:Ak) a0 a1 a2 c0 c1 c2 _).mono ?_;rintro e w5⟨rfl,hb⟩;have hB5:=hB4.trans (hb.mono hB4.size);clear hb hX4 hY4 hz4 hq4 hB4;go_wp2_with fail
 refine(zbb ⟨who,3,ByteArray.empty,ByteArray.empty,tm,vs,hs,0,hd,to,r,no⟩ _ _ _ _ _ _ _).mono ?_;rintro e w6⟨rfl,hb⟩;have hB6:=hB5.trans (hb.mono hB5.size);clear hb hB5;go_wp2_with fail
 go_ret;exact⟨ze (by rw[HU.o];rfl),hB6⟩
set_option maxRecDepth 20000 in
theorem zni (l:Lw)(la lb lc:OA)(lca lcb lcc:Nat)(who kd nm tm:BA)(vs hs:List BA)(sn:Int)(hd to:BA)(r:Rl)(no:Int)(a0 a1 a2:OA)(c0 c1 c2:Nat)(w:World)(hl:yH w l la lb lc)(hx:jq w (⟨who,4,kd,nm,tm,vs,hs,sn,hd,to,r,no⟩:Ak) a0 a1 a2)(hn:zm who=true) :
 Calls Tryz.prog 228 #[.agg (l.cells la lb lc lca lcb lcc),.agg ((⟨who,4,kd,nm,tm,vs,hs,sn,hd,to,r,no⟩:Ak).cells a0 a1 a2 c0 c1 c2)] w fun e w'=>e=.returned (.bool (zai l (⟨who,4,kd,nm,tm,vs,hs,sn,hd,to,r,no⟩:Ak)&&unused ⟨who,4,ByteArray.empty,ByteArray.empty,tm,vs,hs,sn,ByteArray.empty,to,r,no⟩))/\Bw w w':=by
 have HL:Hid (yH w l la lb lc):=hl;have HX:Hid (jq w (⟨who,4,kd,nm,tm,vs,hs,sn,hd,to,r,no⟩:Ak) a0 a1 a2):=hx;have HN:Hid (zm who=true):=hn;clear hl hx hn;unfold Ak.cells Lw.cells;dsimp only;go_enter Tryz.func228,Tryz.ntmps228
 go_upto_region 1 with fail
 obtain⟨W0,hW0,hX0,hY0,hz0,hB0⟩:=zR w #[.l la l.ss.length lca,.l lb l.ms.length lcb,.l lc l.ts.length lcc] #[.s who,.i 4,.s kd,.s nm,.s tm,.l a0 vs.length c0,.l a1 hs.length c1,.i sn,.s hd,.s to,.l a2 r.vs.length c2,.s r.kd,.s r.tm,.s r.px,.i no] 44 189;rw[<- hW0];clear hW0;have hq0:=nSl hz0;go_wp2_with fail
 refine(zf HN.o (zB who _ HX.o.small.who)).mono ?_;rintro e w1⟨rfl,rfl⟩;go_wp2_with fail
 refine(zf (show within 4 1 6=true from rfl) (yU 4 1 6 _)).mono ?_;rintro e w1⟨rfl,rfl⟩;go_wp2_with fail
 have hX:=za hX0 hq0 (bRf w1.heap.size w1).drew;have hY:=za hY0 hz0 (bRf w1.heap.size w1).drew;have hz:w.heap.size+1<w1.drew.heap.size:=hz0;have hB:=hB0.drew;clear hX0 hY0 hz0 hB0 hq0;have hix:=znY
 go_region_held3 (fun w'=>(∀j,w'.cell? (aD w.heap.size j)=(#[.l la l.ss.length lca,.l lb l.ms.length lcb,.l lc l.ts.length lcc]:AV)[j]?)/\∀j,w'.cell? (aD (w.heap.size+1) j)=(#[.s who,.i 4,.s kd,.s nm,.s tm,.l a0 vs.length c0,.l a1 hs.length c1,.i sn,.s hd,.s to,.l a2 r.vs.length c2,.s r.kd,.s r.tm,.s r.px,.i no]:AV)[j]?) (exact⟨hX,hY⟩) (first
  | (go_at_call 254;refine(zcY _).mono ?_;rintro e w3⟨rfl,hb⟩;unfold zeo;have hX:=za hX (nSl hz) hb;have hY:=za hY hz hb;have hB:=hB.trans (hb.mono hB.size);have hz:=nLt hz hb.size;clear hb))
 have hm1:=zf6;have hm2:=zgY;have hq:=nSl hz;go_wp2_with fail
 refine(zmW l la lb lc lca lcb lcc (⟨who,4,kd,nm,tm,vs,hs,sn,hd,to,r,no⟩:Ak) a0 a1 a2 c0 c1 c2 _ (HL.o.mono hB) (HX.o.mono hB)).mono ?_;rintro e w4⟨rfl,hb⟩;have hX4:=za hX hq hb;have hY4:=za hY hz hb;have hz4:=nLt hz hb.size;have hq4:=nLt hq hb.size;have hB4:=hB.trans (hb.mono hB.size);clear hb hX hY hB hz hq
 cases hu:zai l (⟨who,4,kd,nm,tm,vs,hs,sn,hd,to,r,no⟩:Ak)
 ·have HU:=hid hu
  clear hu;go_wp2_with fail
  go_ret;exact⟨ze (by rw[HU.o];rfl),hB4⟩
 have HU:=hid hu;clear hu;go_wp2_with fail
 refine(zkY (⟨who,4,kd,nm,tm,vs,hs,sn,hd,to,r,no⟩:Ak) a0 a1 a2 c0 c1 c2 _).mono ?_;rintro e w5⟨rfl,hb⟩;have hB5:=hB4.trans (hb.mono hB4.size);clear hb hX4 hY4 hz4 hq4 hB4;go_wp2_with fail
 refine(zbb ⟨who,4,ByteArray.empty,ByteArray.empty,tm,vs,hs,sn,ByteArray.empty,to,r,no⟩ _ _ _ _ _ _ _).mono ?_;rintro e w6⟨rfl,hb⟩;have hB6:=hB5.trans (hb.mono hB5.size);clear hb hB5;go_wp2_with fail
 go_ret;exact⟨ze (by rw[HU.o];rfl),hB6⟩
set_option maxRecDepth 20000 in
theorem zoU (l:Lw)(la lb lc:OA)(lca lcb lcc:Nat)(who kd nm tm:BA)(vs hs:List BA)(sn:Int)(hd to:BA)(r:Rl)(no:Int)(a0 a1 a2:OA)(c0 c1 c2:Nat)(w:World)(hl:yH w l la lb lc)(hx:jq w (⟨who,5,kd,nm,tm,vs,hs,sn,hd,to,r,no⟩:Ak) a0 a1 a2)(hn:zm who=true) :
 Calls Tryz.prog 228 #[.agg (l.cells la lb lc lca lcb lcc),.agg ((⟨who,5,kd,nm,tm,vs,hs,sn,hd,to,r,no⟩:Ak).cells a0 a1 a2 c0 c1 c2)] w fun e w'=>e=.returned (.bool (zaz (⟨who,5,kd,nm,tm,vs,hs,sn,hd,to,r,no⟩:Ak)&&unused ⟨who,5,kd,nm,tm,vs,hs,sn,hd,ByteArray.empty,zgg,no⟩))/\Bw w w':=by
 have HL:Hid (yH w l la lb lc):=hl;have HX:Hid (jq w (⟨who,5,kd,nm,tm,vs,hs,sn,hd,to,r,no⟩:Ak) a0 a1 a2):=hx;have HN:Hid (zm who=true):=hn;clear hl hx hn;unfold Ak.cells Lw.cells;dsimp only;go_enter Tryz.func228,Tryz.ntmps228
 go_upto_region 1 with fail
 obtain⟨W0,hW0,hX0,hY0,hz0,hB0⟩:=zR w #[.l la l.ss.length lca,.l lb l.ms.length lcb,.l lc l.ts.length lcc] #[.s who,.i 5,.s kd,.s nm,.s tm,.l a0 vs.length c0,.l a1 hs.length c1,.i sn,.s hd,.s to,.l a2 r.vs.length c2,.s r.kd,.s r.tm,.s r.px,.i no] 44 189;rw[<- hW0];clear hW0;have hq0:=nSl hz0;go_wp2_with fail
 refine(zf HN.o (zB who _ HX.o.small.who)).mono ?_;rintro e w1⟨rfl,rfl⟩;go_wp2_with fail
 refine(zf (show within 5 1 6=true from rfl) (yU 5 1 6 _)).mono ?_;rintro e w1⟨rfl,rfl⟩;go_wp2_with fail
 have hX:=za hX0 hq0 (bRf w1.heap.size w1).drew;have hY:=za hY0 hz0 (bRf w1.heap.size w1).drew;have hz:w.heap.size+1<w1.drew.heap.size:=hz0;have hB:=hB0.drew;clear hX0 hY0 hz0 hB0 hq0;have hix:=zoX
 go_region_held3 (fun w'=>(∀j,w'.cell? (aD w.heap.size j)=(#[.l la l.ss.length lca,.l lb l.ms.length lcb,.l lc l.ts.length lcc]:AV)[j]?)/\∀j,w'.cell? (aD (w.heap.size+1) j)=(#[.s who,.i 5,.s kd,.s nm,.s tm,.l a0 vs.length c0,.l a1 hs.length c1,.i sn,.s hd,.s to,.l a2 r.vs.length c2,.s r.kd,.s r.tm,.s r.px,.i no]:AV)[j]?) (exact⟨hX,hY⟩) (first
  | (go_at_call 254;refine(zcY _).mono ?_;rintro e w3⟨rfl,hb⟩;unfold zeo;have hX:=za hX (nSl hz) hb;have hY:=za hY hz hb;have hB:=hB.trans (hb.mono hB.size);have hz:=nLt hz hb.size;clear hb))
 have hm1:=zhf;have hm2:=zhK;have hq:=nSl hz;go_wp2_with fail
 refine(znz l la lb lc lca lcb lcc (⟨who,5,kd,nm,tm,vs,hs,sn,hd,to,r,no⟩:Ak) a0 a1 a2 c0 c1 c2 _ (HL.o.mono hB) (HX.o.mono hB)).mono ?_;rintro e w4⟨rfl,hb⟩;have hX4:=za hX hq hb;have hY4:=za hY hz hb;have hz4:=nLt hz hb.size;have hq4:=nLt hq hb.size;have hB4:=hB.trans (hb.mono hB.size);clear hb hX hY hB hz hq
 cases hu:zaz (⟨who,5,kd,nm,tm,vs,hs,sn,hd,to,r,no⟩:Ak)
 ·have HU:=hid hu
  clear hu;go_wp2_with fail
  go_ret;exact⟨ze (by rw[HU.o];rfl),hB4⟩
 have HU:=hid hu;clear hu;go_wp2_with fail
 refine(zmu (⟨who,5,kd,nm,tm,vs,hs,sn,hd,to,r,no⟩:Ak) a0 a1 a2 c0 c1 c2 _).mono ?_;rintro e w5⟨rfl,hb⟩;have hB5:=hB4.trans (hb.mono hB4.size);clear hb hX4 hY4 hz4 hq4 hB4;go_wp2_with fail
 refine(zbb ⟨who,5,kd,nm,tm,vs,hs,sn,hd,ByteArray.empty,zgg,no⟩ _ _ _ _ _ _ _).mono ?_;rintro e w6⟨rfl,hb⟩;have hB6:=hB5.trans (hb.mono hB5.size);clear hb hB5;go_wp2_with fail
 go_ret;exact⟨ze (by rw[HU.o];rfl),hB6⟩
set_option maxRecDepth 20000 in
theorem zpe (l:Lw)(la lb lc:OA)(lca lcb lcc:Nat)(who kd nm tm:BA)(vs hs:List BA)(sn:Int)(hd to:BA)(r:Rl)(no:Int)(a0 a1 a2:OA)(c0 c1 c2:Nat)(w:World)(hl:yH w l la lb lc)(hx:jq w (⟨who,6,kd,nm,tm,vs,hs,sn,hd,to,r,no⟩:Ak) a0 a1 a2)(hn:zm who=true) :
 Calls Tryz.prog 228 #[.agg (l.cells la lb lc lca lcb lcc),.agg ((⟨who,6,kd,nm,tm,vs,hs,sn,hd,to,r,no⟩:Ak).cells a0 a1 a2 c0 c1 c2)] w fun e w'=>e=.returned (.bool (zcN (⟨who,6,kd,nm,tm,vs,hs,sn,hd,to,r,no⟩:Ak)&&unused ⟨who,6,kd,nm,tm,vs,hs,sn,hd,to,r,0⟩))/\Bw w w':=by
 have HL:Hid (yH w l la lb lc):=hl;have HX:Hid (jq w (⟨who,6,kd,nm,tm,vs,hs,sn,hd,to,r,no⟩:Ak) a0 a1 a2):=hx;have HN:Hid (zm who=true):=hn;clear hl hx hn;unfold Ak.cells Lw.cells;dsimp only;go_enter Tryz.func228,Tryz.ntmps228
 go_upto_region 1 with fail
 obtain⟨W0,hW0,hX0,hY0,hz0,hB0⟩:=zR w #[.l la l.ss.length lca,.l lb l.ms.length lcb,.l lc l.ts.length lcc] #[.s who,.i 6,.s kd,.s nm,.s tm,.l a0 vs.length c0,.l a1 hs.length c1,.i sn,.s hd,.s to,.l a2 r.vs.length c2,.s r.kd,.s r.tm,.s r.px,.i no] 44 189;rw[<- hW0];clear hW0;have hq0:=nSl hz0;go_wp2_with fail
 refine(zf HN.o (zB who _ HX.o.small.who)).mono ?_;rintro e w1⟨rfl,rfl⟩;go_wp2_with fail
 refine(zf (show within 6 1 6=true from rfl) (yU 6 1 6 _)).mono ?_;rintro e w1⟨rfl,rfl⟩;go_wp2_with fail
 have hX:=za hX0 hq0 (bRf w1.heap.size w1).drew;have hY:=za hY0 hz0 (bRf w1.heap.size w1).drew;have hz:w.heap.size+1<w1.drew.heap.size:=hz0;have hB:=hB0.drew;clear hX0 hY0 hz0 hB0 hq0;have hix:=zoJ
 go_region_held3 (fun w'=>(∀j,w'.cell? (aD w.heap.size j)=(#[.l la l.ss.length lca,.l lb l.ms.length lcb,.l lc l.ts.length lcc]:AV)[j]?)/\∀j,w'.cell? (aD (w.heap.size+1) j)=(#[.s who,.i 6,.s kd,.s nm,.s tm,.l a0 vs.length c0,.l a1 hs.length c1,.i sn,.s hd,.s to,.l a2 r.vs.length c2,.s r.kd,.s r.tm,.s r.px,.i no]:AV)[j]?) (exact⟨hX,hY⟩) (first
  | (go_at_call 254;refine(zcY _).mono ?_;rintro e w3⟨rfl,hb⟩;unfold zeo;have hX:=za hX (nSl hz) hb;have hY:=za hY hz hb;have hB:=hB.trans (hb.mono hB.size);have hz:=nLt hz hb.size;clear hb))
 have hm1:=zhm;have hm2:=zhA;have hq:=nSl hz;go_wp2_with fail
 refine(znF l la lb lc lca lcb lcc (⟨who,6,kd,nm,tm,vs,hs,sn,hd,to,r,no⟩:Ak) a0 a1 a2 c0 c1 c2 _ (HL.o.mono hB) (HX.o.mono hB)).mono ?_;rintro e w4⟨rfl,hb⟩;have hX4:=za hX hq hb;have hY4:=za hY hz hb;have hz4:=nLt hz hb.size;have hq4:=nLt hq hb.size;have hB4:=hB.trans (hb.mono hB.size);clear hb hX hY hB hz hq
 cases hu:zcN (⟨who,6,kd,nm,tm,vs,hs,sn,hd,to,r,no⟩:Ak)
 ·have HU:=hid hu
  clear hu;go_wp2_with fail
  go_ret;exact⟨ze (by rw[HU.o];rfl),hB4⟩
 have HU:=hid hu;clear hu;go_wp2_with fail
 refine(zme (⟨who,6,kd,nm,tm,vs,hs,sn,hd,to,r,no⟩:Ak) a0 a1 a2 c0 c1 c2 _).mono ?_;rintro e w5⟨rfl,hb⟩;have hB5:=hB4.trans (hb.mono hB4.size);clear hb hX4 hY4 hz4 hq4 hB4;go_wp2_with fail
 refine(zbb ⟨who,6,kd,nm,tm,vs,hs,sn,hd,to,r,0⟩ _ _ _ _ _ _ _).mono ?_;rintro e w6⟨rfl,hb⟩;have hB6:=hB5.trans (hb.mono hB5.size);clear hb hB5;go_wp2_with fail
 go_ret;exact⟨ze (by rw[HU.o];rfl),hB6⟩
end Go.Proofs.YthdfpinbnncghaaGreat
