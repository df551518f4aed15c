import Derived.Test.YtedangodjiolaaaGreatM24
import Derived.Test.YtedangodjiolaaaGreatM21
set_option maxHeartbeats 4000000
namespace Go.Proofs.YtedangodjiolaaaGreat
open Go.RowKit
def zbn:Value:=.agg #[.nilIface,.iface 323 (.agg #[]),.iface 324 (.agg #[]),.iface 325 (.agg #[]),.iface 326 (.agg #[]),.iface 327 (.agg #[]),.iface 328 (.agg #[])]
theorem zaa (w:World):Calls Tryz.prog 217 #[] w fun e w'=>e=.returned zbn/\Bw w w':=by
 go_enter Tryz.func217,Tryz.ntmps217;go_wp2_with fail
 refine bodyPost_ret (v:=zbn) (by simp[results,Tryz.results217,go_sem,zbn]) rfl ⟨rfl,bAl _ _⟩
theorem zdl (x:Value)(w:World):(method 461 323 x "loop.example/wharfgate/impl.isUse").run Tryz.prog w=.ok (282,x) w:=by kernel_rfl
theorem zdK (x:Value)(w:World):(method 461 323 x "loop.example/wharfgate/impl.rest").run Tryz.prog w=.ok (284,x) w:=by kernel_rfl
theorem zcr (x:Value)(w:World):(method 461 324 x "loop.example/wharfgate/impl.isUse").run Tryz.prog w=.ok (287,x) w:=by kernel_rfl
theorem zcW (x:Value)(w:World):(method 461 324 x "loop.example/wharfgate/impl.rest").run Tryz.prog w=.ok (289,x) w:=by kernel_rfl
theorem zdF (x:Value)(w:World):(method 461 325 x "loop.example/wharfgate/impl.isUse").run Tryz.prog w=.ok (291,x) w:=by kernel_rfl
theorem zez (x:Value)(w:World):(method 461 325 x "loop.example/wharfgate/impl.rest").run Tryz.prog w=.ok (293,x) w:=by kernel_rfl
theorem zcY (x:Value)(w:World):(method 461 326 x "loop.example/wharfgate/impl.isUse").run Tryz.prog w=.ok (295,x) w:=by kernel_rfl
theorem zdb (x:Value)(w:World):(method 461 326 x "loop.example/wharfgate/impl.rest").run Tryz.prog w=.ok (297,x) w:=by kernel_rfl
theorem zdj (x:Value)(w:World):(method 461 327 x "loop.example/wharfgate/impl.isUse").run Tryz.prog w=.ok (299,x) w:=by kernel_rfl
theorem zdE (x:Value)(w:World):(method 461 327 x "loop.example/wharfgate/impl.rest").run Tryz.prog w=.ok (301,x) w:=by kernel_rfl
theorem zc6 (x:Value)(w:World):(method 461 328 x "loop.example/wharfgate/impl.isUse").run Tryz.prog w=.ok (303,x) w:=by kernel_rfl
theorem zdA (x:Value)(w:World):(method 461 328 x "loop.example/wharfgate/impl.rest").run Tryz.prog w=.ok (305,x) w:=by kernel_rfl
theorem zkc (w:World):(Instr.index 300 (.agg #[.nilIface,.iface 323 (.agg #[]),.iface 324 (.agg #[]),.iface 325 (.agg #[]),.iface 326 (.agg #[]),.iface 327 (.agg #[]),.iface 328 (.agg #[])]) (.i 1)).run Tryz.prog w=.ok (.iface 323 (.agg #[])) w:=by kernel_rfl
theorem zf6 (w:World):(Instr.index 300 (.agg #[.nilIface,.iface 323 (.agg #[]),.iface 324 (.agg #[]),.iface 325 (.agg #[]),.iface 326 (.agg #[]),.iface 327 (.agg #[]),.iface 328 (.agg #[])]) (.i 2)).run Tryz.prog w=.ok (.iface 324 (.agg #[])) w:=by kernel_rfl
theorem zlw (w:World):(Instr.index 300 (.agg #[.nilIface,.iface 323 (.agg #[]),.iface 324 (.agg #[]),.iface 325 (.agg #[]),.iface 326 (.agg #[]),.iface 327 (.agg #[]),.iface 328 (.agg #[])]) (.i 3)).run Tryz.prog w=.ok (.iface 325 (.agg #[])) w:=by kernel_rfl
theorem zhH (w:World):(Instr.index 300 (.agg #[.nilIface,.iface 323 (.agg #[]),.iface 324 (.agg #[]),.iface 325 (.agg #[]),.iface 326 (.agg #[]),.iface 327 (.agg #[]),.iface 328 (.agg #[])]) (.i 4)).run Tryz.prog w=.ok (.iface 326 (.agg #[])) w:=by kernel_rfl
theorem zjY (w:World):(Instr.index 300 (.agg #[.nilIface,.iface 323 (.agg #[]),.iface 324 (.agg #[]),.iface 325 (.agg #[]),.iface 326 (.agg #[]),.iface 327 (.agg #[]),.iface 328 (.agg #[])]) (.i 5)).run Tryz.prog w=.ok (.iface 327 (.agg #[])) w:=by kernel_rfl
theorem zjh (w:World):(Instr.index 300 (.agg #[.nilIface,.iface 323 (.agg #[]),.iface 324 (.agg #[]),.iface 325 (.agg #[]),.iface 326 (.agg #[]),.iface 327 (.agg #[]),.iface 328 (.agg #[])]) (.i 6)).run Tryz.prog w=.ok (.iface 328 (.agg #[])) w:=by kernel_rfl
set_option maxRecDepth 20000 in
theorem zoK (l:Lw)(la lb lc:OA)(lca lcb lcc:Nat)(who kd nm tm:BA)(vs hs:List BA)(sn:Int)(hd to:BA)(r:Rl)(no:Int)(a0 a1 a2:OA)(c0 c1 c2:Nat)(w:World)(hl:yF w l la lb lc)(hx:je w (⟨who,1,kd,nm,tm,vs,hs,sn,hd,to,r,no⟩:Ak) a0 a1 a2)(hn:zk who=true) :
 Calls Tryz.prog 169 #[.agg (l.cells la lb lc lca lcb lcc),.agg ((⟨who,1,kd,nm,tm,vs,hs,sn,hd,to,r,no⟩:Ak).cells a0 a1 a2 c0 c1 c2)] w fun e w'=>e=.returned (.bool (qI l (⟨who,1,kd,nm,tm,vs,hs,sn,hd,to,r,no⟩:Ak)&&unused ⟨who,1,ByteArray.empty,ByteArray.empty,ByteArray.empty,[],[],sn,hd,to,r,no⟩))/\Bw w w':=by
 have HL:Hid (yF w l la lb lc):=hl;have HX:Hid (je w (⟨who,1,kd,nm,tm,vs,hs,sn,hd,to,r,no⟩:Ak) a0 a1 a2):=hx;have HN:Hid (zk who=true):=hn;clear hl hx hn;unfold Ak.cells Lw.cells;dsimp only
 by_cases hu:qI l (⟨who,1,kd,nm,tm,vs,hs,sn,hd,to,r,no⟩:Ak)=true
 ·have HU:Hid (qI l (⟨who,1,kd,nm,tm,vs,hs,sn,hd,to,r,no⟩:Ak)=true):=hu
  clear hu;go_enter Tryz.func169,Tryz.ntmps169;go_wp2_with fail
  obtain⟨W0,hW0,hX0,hY0,hz0,hB0⟩:=zI w #[.l la l.ss.length lca,.l lb l.ms.length lcb,.l lc l.ts.length lcc] #[.s who,.i 1,.s kd,.s nm,.s tm,.l a0 vs.length c0,.l a1 hs.length c1,.i sn,.s hd,.s to,.l a2 r.vs.length c2,.s r.kd,.s r.tm,.s r.px,.i no] 43 107;rw[<- hW0];clear hW0;have hq0:=nSl hz0;refine(zf HN.o (zu who _ HX.o.small.who)).mono ?_;rintro e w1⟨rfl,rfl⟩;go_wp2_with fail
  refine(zf (show within 1 1 6=true from rfl) (yu 1 1 6 _)).mono ?_;rintro e w1⟨rfl,rfl⟩;go_wp2_with fail
  have hX:=za hX0 hq0 (bRf w1.heap.size w1).drew;have hY:=za hY0 hz0 (bRf w1.heap.size w1).drew;have hz:w.heap.size+1<w1.drew.heap.size:=hz0;have hB:=hB0.drew;clear hX0 hY0 hz0 hB0 hq0;have hix:=zkc
  go_region_held3 (fun w'=>(∀j,w'.cell? (aD w.heap.size j)=(#[.l la l.ss.length lca,.l lb l.ms.length lcb,.l lc l.ts.length lcc]:AV)[j]?)/\∀j,w'.cell? (aD (w.heap.size+1) j)=(#[.s who,.i 1,.s kd,.s nm,.s tm,.l a0 vs.length c0,.l a1 hs.length c1,.i sn,.s hd,.s to,.l a2 r.vs.length c2,.s r.kd,.s r.tm,.s r.px,.i no]:AV)[j]?) (exact⟨hX,hY⟩) (first
   | (go_at_call 217;refine(zaa _).mono ?_;rintro e w3⟨rfl,hb⟩;unfold zbn;have hX:=za hX (nSl hz) hb;have hY:=za hY hz hb;have hB:=hB.trans (hb.mono hB.size);have hz:=nLt hz hb.size;clear hb))
  have hm1:=zdl;have hm2:=zdK;have hq:=nSl hz;go_wp2_with fail
  refine(zf HU.o (zhM l la lb lc lca lcb lcc (⟨who,1,kd,nm,tm,vs,hs,sn,hd,to,r,no⟩:Ak) a0 a1 a2 c0 c1 c2 _ (HL.o.mono hB) (HX.o.mono hB))).mono ?_;rintro e w4⟨rfl,hb⟩;have hX4:=za hX hq hb;have hY4:=za hY hz hb;have hz4:=nLt hz hb.size;have hq4:=nLt hq hb.size;have hB4:=hB.trans (hb.mono hB.size);clear hb hX hY hB hz hq;go_wp2_with fail
  refine(zl7 (⟨who,1,kd,nm,tm,vs,hs,sn,hd,to,r,no⟩:Ak) a0 a1 a2 c0 c1 c2 _).mono ?_;rintro e w5⟨rfl,hb⟩;have hB5:=hB4.trans (hb.mono hB4.size);clear hb hX4 hY4 hz4 hq4 hB4;go_wp2_with fail
  refine(za5 ⟨who,1,ByteArray.empty,ByteArray.empty,ByteArray.empty,[],[],sn,hd,to,r,no⟩ _ _ _ _ _ _ _).mono ?_;rintro e w6⟨rfl,hb⟩;have hB6:=hB5.trans (hb.mono hB5.size);clear hb hB5;go_wp2_with fail
  go_ret;exact⟨ze (by rw[HU.o];rfl),hB6⟩
 ·have HU:Hid (qI l (⟨who,1,kd,nm,tm,vs,hs,sn,hd,to,r,no⟩:Ak)=false):=bFi hu
  clear hu;go_enter Tryz.func169,Tryz.ntmps169;go_wp2_with fail
  obtain⟨W0,hW0,hX0,hY0,hz0,hB0⟩:=zI w #[.l la l.ss.length lca,.l lb l.ms.length lcb,.l lc l.ts.length lcc] #[.s who,.i 1,.s kd,.s nm,.s tm,.l a0 vs.length c0,.l a1 hs.length c1,.i sn,.s hd,.s to,.l a2 r.vs.length c2,.s r.kd,.s r.tm,.s r.px,.i no] 43 107;rw[<- hW0];clear hW0;have hq0:=nSl hz0;refine(zf HN.o (zu who _ HX.o.small.who)).mono ?_;rintro e w1⟨rfl,rfl⟩;go_wp2_with fail
  refine(zf (show within 1 1 6=true from rfl) (yu 1 1 6 _)).mono ?_;rintro e w1⟨rfl,rfl⟩;go_wp2_with fail
  have hX:=za hX0 hq0 (bRf w1.heap.size w1).drew;have hY:=za hY0 hz0 (bRf w1.heap.size w1).drew;have hz:w.heap.size+1<w1.drew.heap.size:=hz0;have hB:=hB0.drew;clear hX0 hY0 hz0 hB0 hq0;have hix:=zkc
  go_region_held3 (fun w'=>(∀j,w'.cell? (aD w.heap.size j)=(#[.l la l.ss.length lca,.l lb l.ms.length lcb,.l lc l.ts.length lcc]:AV)[j]?)/\∀j,w'.cell? (aD (w.heap.size+1) j)=(#[.s who,.i 1,.s kd,.s nm,.s tm,.l a0 vs.length c0,.l a1 hs.length c1,.i sn,.s hd,.s to,.l a2 r.vs.length c2,.s r.kd,.s r.tm,.s r.px,.i no]:AV)[j]?) (exact⟨hX,hY⟩) (first
   | (go_at_call 217;refine(zaa _).mono ?_;rintro e w3⟨rfl,hb⟩;unfold zbn;have hX:=za hX (nSl hz) hb;have hY:=za hY hz hb;have hB:=hB.trans (hb.mono hB.size);have hz:=nLt hz hb.size;clear hb))
  have hm1:=zdl;have hm2:=zdK;have hq:=nSl hz;go_wp2_with fail
  refine(zf HU.o (zhM l la lb lc lca lcb lcc (⟨who,1,kd,nm,tm,vs,hs,sn,hd,to,r,no⟩:Ak) a0 a1 a2 c0 c1 c2 _ (HL.o.mono hB) (HX.o.mono hB))).mono ?_;rintro e w4⟨rfl,hb⟩;have hX4:=za hX hq hb;have hY4:=za hY hz hb;have hz4:=nLt hz hb.size;have hq4:=nLt hq hb.size;have hB4:=hB.trans (hb.mono hB.size);clear hb hX hY hB hz hq;go_wp2_with fail
  go_ret;exact⟨ze (by rw[HU.o];rfl),hB4⟩
set_option maxRecDepth 20000 in
theorem zl5 (l:Lw)(la lb lc:OA)(lca lcb lcc:Nat)(who kd nm tm:BA)(vs hs:List BA)(sn:Int)(hd to:BA)(r:Rl)(no:Int)(a0 a1 a2:OA)(c0 c1 c2:Nat)(w:World)(hl:yF w l la lb lc)(hx:je w (⟨who,2,kd,nm,tm,vs,hs,sn,hd,to,r,no⟩:Ak) a0 a1 a2)(hn:zk who=true) :
 Calls Tryz.prog 169 #[.agg (l.cells la lb lc lca lcb lcc),.agg ((⟨who,2,kd,nm,tm,vs,hs,sn,hd,to,r,no⟩:Ak).cells a0 a1 a2 c0 c1 c2)] w fun e w'=>e=.returned (.bool (qy l (⟨who,2,kd,nm,tm,vs,hs,sn,hd,to,r,no⟩:Ak)&&unused ⟨who,2,ByteArray.empty,ByteArray.empty,tm,[],hs,0,hd,to,r,no⟩))/\Bw w w':=by
 have HL:Hid (yF w l la lb lc):=hl;have HX:Hid (je w (⟨who,2,kd,nm,tm,vs,hs,sn,hd,to,r,no⟩:Ak) a0 a1 a2):=hx;have HN:Hid (zk who=true):=hn;clear hl hx hn;unfold Ak.cells Lw.cells;dsimp only
 by_cases hu:qy l (⟨who,2,kd,nm,tm,vs,hs,sn,hd,to,r,no⟩:Ak)=true
 ·have HU:Hid (qy l (⟨who,2,kd,nm,tm,vs,hs,sn,hd,to,r,no⟩:Ak)=true):=hu
  clear hu;go_enter Tryz.func169,Tryz.ntmps169;go_wp2_with fail
  obtain⟨W0,hW0,hX0,hY0,hz0,hB0⟩:=zI w #[.l la l.ss.length lca,.l lb l.ms.length lcb,.l lc l.ts.length lcc] #[.s who,.i 2,.s kd,.s nm,.s tm,.l a0 vs.length c0,.l a1 hs.length c1,.i sn,.s hd,.s to,.l a2 r.vs.length c2,.s r.kd,.s r.tm,.s r.px,.i no] 43 107;rw[<- hW0];clear hW0;have hq0:=nSl hz0;refine(zf HN.o (zu who _ HX.o.small.who)).mono ?_;rintro e w1⟨rfl,rfl⟩;go_wp2_with fail
  refine(zf (show within 2 1 6=true from rfl) (yu 2 1 6 _)).mono ?_;rintro e w1⟨rfl,rfl⟩;go_wp2_with fail
  have hX:=za hX0 hq0 (bRf w1.heap.size w1).drew;have hY:=za hY0 hz0 (bRf w1.heap.size w1).drew;have hz:w.heap.size+1<w1.drew.heap.size:=hz0;have hB:=hB0.drew;clear hX0 hY0 hz0 hB0 hq0;have hix:=zf6
  go_region_held3 (fun w'=>(∀j,w'.cell? (aD w.heap.size j)=(#[.l la l.ss.length lca,.l lb l.ms.length lcb,.l lc l.ts.length lcc]:AV)[j]?)/\∀j,w'.cell? (aD (w.heap.size+1) j)=(#[.s who,.i 2,.s kd,.s nm,.s tm,.l a0 vs.length c0,.l a1 hs.length c1,.i sn,.s hd,.s to,.l a2 r.vs.length c2,.s r.kd,.s r.tm,.s r.px,.i no]:AV)[j]?) (exact⟨hX,hY⟩) (first
   | (go_at_call 217;refine(zaa _).mono ?_;rintro e w3⟨rfl,hb⟩;unfold zbn;have hX:=za hX (nSl hz) hb;have hY:=za hY hz hb;have hB:=hB.trans (hb.mono hB.size);have hz:=nLt hz hb.size;clear hb))
  have hm1:=zcr;have hm2:=zcW;have hq:=nSl hz;go_wp2_with fail
  refine(zf HU.o (zfy l la lb lc lca lcb lcc (⟨who,2,kd,nm,tm,vs,hs,sn,hd,to,r,no⟩:Ak) a0 a1 a2 c0 c1 c2 _ (HL.o.mono hB) (HX.o.mono hB))).mono ?_;rintro e w4⟨rfl,hb⟩;have hX4:=za hX hq hb;have hY4:=za hY hz hb;have hz4:=nLt hz hb.size;have hq4:=nLt hq hb.size;have hB4:=hB.trans (hb.mono hB.size);clear hb hX hY hB hz hq;go_wp2_with fail
  refine(zki (⟨who,2,kd,nm,tm,vs,hs,sn,hd,to,r,no⟩:Ak) a0 a1 a2 c0 c1 c2 _).mono ?_;rintro e w5⟨rfl,hb⟩;have hB5:=hB4.trans (hb.mono hB4.size);clear hb hX4 hY4 hz4 hq4 hB4;go_wp2_with fail
  refine(za5 ⟨who,2,ByteArray.empty,ByteArray.empty,tm,[],hs,0,hd,to,r,no⟩ _ _ _ _ _ _ _).mono ?_;rintro e w6⟨rfl,hb⟩;have hB6:=hB5.trans (hb.mono hB5.size);clear hb hB5;go_wp2_with fail
  go_ret;exact⟨ze (by rw[HU.o];rfl),hB6⟩
 ·have HU:Hid (qy l (⟨who,2,kd,nm,tm,vs,hs,sn,hd,to,r,no⟩:Ak)=false):=bFi hu
  clear hu;go_enter Tryz.func169,Tryz.ntmps169;go_wp2_with fail
  obtain⟨W0,hW0,hX0,hY0,hz0,hB0⟩:=zI w #[.l la l.ss.length lca,.l lb l.ms.length lcb,.l lc l.ts.length lcc] #[.s who,.i 2,.s kd,.s nm,.s tm,.l a0 vs.length c0,.l a1 hs.length c1,.i sn,.s hd,.s to,.l a2 r.vs.length c2,.s r.kd,.s r.tm,.s r.px,.i no] 43 107;rw[<- hW0];clear hW0;have hq0:=nSl hz0;refine(zf HN.o (zu who _ HX.o.small.who)).mono ?_;rintro e w1⟨rfl,rfl⟩;go_wp2_with fail
  refine(zf (show within 2 1 6=true from rfl) (yu 2 1 6 _)).mono ?_;rintro e w1⟨rfl,rfl⟩;go_wp2_with fail
  have hX:=za hX0 hq0 (bRf w1.heap.size w1).drew;have hY:=za hY0 hz0 (bRf w1.heap.size w1).drew;have hz:w.heap.size+1<w1.drew.heap.size:=hz0;have hB:=hB0.drew;clear hX0 hY0 hz0 hB0 hq0;have hix:=zf6
  go_region_held3 (fun w'=>(∀j,w'.cell? (aD w.heap.size j)=(#[.l la l.ss.length lca,.l lb l.ms.length lcb,.l lc l.ts.length lcc]:AV)[j]?)/\∀j,w'.cell? (aD (w.heap.size+1) j)=(#[.s who,.i 2,.s kd,.s nm,.s tm,.l a0 vs.length c0,.l a1 hs.length c1,.i sn,.s hd,.s to,.l a2 r.vs.length c2,.s r.kd,.s r.tm,.s r.px,.i no]:AV)[j]?) (exact⟨hX,hY⟩) (first
   | (go_at_call 217;refine(zaa _).mono ?_;rintro e w3⟨rfl,hb⟩;unfold zbn;have hX:=za hX (nSl hz) hb;have hY:=za hY hz hb;have hB:=hB.trans (hb.mono hB.size);have hz:=nLt hz hb.size;clear hb))
  have hm1:=zcr;have hm2:=zcW;have hq:=nSl hz;go_wp2_with fail
  refine(zf HU.o (zfy l la lb lc lca lcb lcc (⟨who,2,kd,nm,tm,vs,hs,sn,hd,to,r,no⟩:Ak) a0 a1 a2 c0 c1 c2 _ (HL.o.mono hB) (HX.o.mono hB))).mono ?_;rintro e w4⟨rfl,hb⟩;have hX4:=za hX hq hb;have hY4:=za hY hz hb;have hz4:=nLt hz hb.size;have hq4:=nLt hq hb.size;have hB4:=hB.trans (hb.mono hB.size);clear hb hX hY hB hz hq;go_wp2_with fail
  go_ret;exact⟨ze (by rw[HU.o];rfl),hB4⟩
set_option maxRecDepth 20000 in
theorem zpE (l:Lw)(la lb lc:OA)(lca lcb lcc:Nat)(who kd nm tm:BA)(vs hs:List BA)(sn:Int)(hd to:BA)(r:Rl)(no:Int)(a0 a1 a2:OA)(c0 c1 c2:Nat)(w:World)(hl:yF w l la lb lc)(hx:je w (⟨who,3,kd,nm,tm,vs,hs,sn,hd,to,r,no⟩:Ak) a0 a1 a2)(hn:zk who=true) :
 Calls Tryz.prog 169 #[.agg (l.cells la lb lc lca lcb lcc),.agg ((⟨who,3,kd,nm,tm,vs,hs,sn,hd,to,r,no⟩:Ak).cells a0 a1 a2 c0 c1 c2)] w fun e w'=>e=.returned (.bool (za8 l (⟨who,3,kd,nm,tm,vs,hs,sn,hd,to,r,no⟩:Ak)&&unused ⟨who,3,ByteArray.empty,ByteArray.empty,tm,vs,hs,0,hd,to,r,no⟩))/\Bw w w':=by
 have HL:Hid (yF w l la lb lc):=hl;have HX:Hid (je w (⟨who,3,kd,nm,tm,vs,hs,sn,hd,to,r,no⟩:Ak) a0 a1 a2):=hx;have HN:Hid (zk who=true):=hn;clear hl hx hn;unfold Ak.cells Lw.cells;dsimp only
 by_cases hu:za8 l (⟨who,3,kd,nm,tm,vs,hs,sn,hd,to,r,no⟩:Ak)=true
 ·have HU:Hid (za8 l (⟨who,3,kd,nm,tm,vs,hs,sn,hd,to,r,no⟩:Ak)=true):=hu
  clear hu;go_enter Tryz.func169,Tryz.ntmps169;go_wp2_with fail
  obtain⟨W0,hW0,hX0,hY0,hz0,hB0⟩:=zI w #[.l la l.ss.length lca,.l lb l.ms.length lcb,.l lc l.ts.length lcc] #[.s who,.i 3,.s kd,.s nm,.s tm,.l a0 vs.length c0,.l a1 hs.length c1,.i sn,.s hd,.s to,.l a2 r.vs.length c2,.s r.kd,.s r.tm,.s r.px,.i no] 43 107;rw[<- hW0];clear hW0;have hq0:=nSl hz0;refine(zf HN.o (zu who _ HX.o.small.who)).mono ?_;rintro e w1⟨rfl,rfl⟩;go_wp2_with fail
  refine(zf (show within 3 1 6=true from rfl) (yu 3 1 6 _)).mono ?_;rintro e w1⟨rfl,rfl⟩;go_wp2_with fail
  have hX:=za hX0 hq0 (bRf w1.heap.size w1).drew;have hY:=za hY0 hz0 (bRf w1.heap.size w1).drew;have hz:w.heap.size+1<w1.drew.heap.size:=hz0;have hB:=hB0.drew;clear hX0 hY0 hz0 hB0 hq0;have hix:=zlw
  go_region_held3 (fun w'=>(∀j,w'.cell? (aD w.heap.size j)=(#[.l la l.ss.length lca,.l lb l.ms.length lcb,.l lc l.ts.length lcc]:AV)[j]?)/\∀j,w'.cell? (aD (w.heap.size+1) j)=(#[.s who,.i 3,.s kd,.s nm,.s tm,.l a0 vs.length c0,.l a1 hs.length c1,.i sn,.s hd,.s to,.l a2 r.vs.length c2,.s r.kd,.s r.tm,.s r.px,.i no]:AV)[j]?) (exact⟨hX,hY⟩) (first
   | (go_at_call 217;refine(zaa _).mono ?_;rintro e w3⟨rfl,hb⟩;unfold zbn;have hX:=za hX (nSl hz) hb;have hY:=za hY hz hb;have hB:=hB.trans (hb.mono hB.size);have hz:=nLt hz hb.size;clear hb))
  have hm1:=zdF;have hm2:=zez;have hq:=nSl hz;go_wp2_with fail
  refine(zf HU.o (zjD l la lb lc lca lcb lcc (⟨who,3,kd,nm,tm,vs,hs,sn,hd,to,r,no⟩:Ak) a0 a1 a2 c0 c1 c2 _ (HL.o.mono hB) (HX.o.mono hB))).mono ?_;rintro e w4⟨rfl,hb⟩;have hX4:=za hX hq hb;have hY4:=za hY hz hb;have hz4:=nLt hz hb.size;have hq4:=nLt hq hb.size;have hB4:=hB.trans (hb.mono hB.size);clear hb hX hY hB hz hq;go_wp2_with fail
  refine(zng (⟨who,3,kd,nm,tm,vs,hs,sn,hd,to,r,no⟩:Ak) a0 a1 a2 c0 c1 c2 _).mono ?_;rintro e w5⟨rfl,hb⟩;have hB5:=hB4.trans (hb.mono hB4.size);clear hb hX4 hY4 hz4 hq4 hB4;go_wp2_with fail
  refine(za5 ⟨who,3,ByteArray.empty,ByteArray.empty,tm,vs,hs,0,hd,to,r,no⟩ _ _ _ _ _ _ _).mono ?_;rintro e w6⟨rfl,hb⟩;have hB6:=hB5.trans (hb.mono hB5.size);clear hb hB5;go_wp2_with fail
  go_ret;exact⟨ze (by rw[HU.o];rfl),hB6⟩
 ·have HU:Hid (za8 l (⟨who,3,kd,nm,tm,vs,hs,sn,hd,to,r,no⟩:Ak)=false):=bFi hu
  clear hu;go_enter Tryz.func169,Tryz.ntmps169;go_wp2_with fail
  obtain⟨W0,hW0,hX0,hY0,hz0,hB0⟩:=zI w #[.l la l.ss.length lca,.l lb l.ms.length lcb,.l lc l.ts.length lcc] #[.s who,.i 3,.s kd,.s nm,.s tm,.l a0 vs.length c0,.l a1 hs.length c1,.i sn,.s hd,.s to,.l a2 r.vs.length c2,.s r.kd,.s r.tm,.s r.px,.i no] 43 107;rw[<- hW0];clear hW0;have hq0:=nSl hz0;refine(zf HN.o (zu who _ HX.o.small.who)).mono ?_;rintro e w1⟨rfl,rfl⟩;go_wp2_with fail
  refine(zf (show within 3 1 6=true from rfl) (yu 3 1 6 _)).mono ?_;rintro e w1⟨rfl,rfl⟩;go_wp2_with fail
  have hX:=za hX0 hq0 (bRf w1.heap.size w1).drew;have hY:=za hY0 hz0 (bRf w1.heap.size w1).drew;have hz:w.heap.size+1<w1.drew.heap.size:=hz0;have hB:=hB0.drew;clear hX0 hY0 hz0 hB0 hq0;have hix:=zlw
  go_region_held3 (fun w'=>(∀j,w'.cell? (aD w.heap.size j)=(#[.l la l.ss.length lca,.l lb l.ms.length lcb,.l lc l.ts.length lcc]:AV)[j]?)/\∀j,w'.cell? (aD (w.heap.size+1) j)=(#[.s who,.i 3,.s kd,.s nm,.s tm,.l a0 vs.length c0,.l a1 hs.length c1,.i sn,.s hd,.s to,.l a2 r.vs.length c2,.s r.kd,.s r.tm,.s r.px,.i no]:AV)[j]?) (exact⟨hX,hY⟩) (first
   | (go_at_call 217;refine(zaa _).mono ?_;rintro e w3⟨rfl,hb⟩;unfold zbn;have hX:=za hX (nSl hz) hb;have hY:=za hY hz hb;have hB:=hB.trans (hb.mono hB.size);have hz:=nLt hz hb.size;clear hb))
  have hm1:=zdF;have hm2:=zez;have hq:=nSl hz;go_wp2_with fail
  refine(zf HU.o (zjD l la lb lc lca lcb lcc (⟨who,3,kd,nm,tm,vs,hs,sn,hd,to,r,no⟩:Ak) a0 a1 a2 c0 c1 c2 _ (HL.o.mono hB) (HX.o.mono hB))).mono ?_;rintro e w4⟨rfl,hb⟩;have hX4:=za hX hq hb;have hY4:=za hY hz hb;have hz4:=nLt hz hb.size;have hq4:=nLt hq hb.size;have hB4:=hB.trans (hb.mono hB.size);clear hb hX hY hB hz hq;go_wp2_with fail
  go_ret;exact⟨ze (by rw[HU.o];rfl),hB4⟩
set_option maxRecDepth 20000 in
theorem znb (l:Lw)(la lb lc:OA)(lca lcb lcc:Nat)(who kd nm tm:BA)(vs hs:List BA)(sn:Int)(hd to:BA)(r:Rl)(no:Int)(a0 a1 a2:OA)(c0 c1 c2:Nat)(w:World)(hl:yF w l la lb lc)(hx:je w (⟨who,4,kd,nm,tm,vs,hs,sn,hd,to,r,no⟩:Ak) a0 a1 a2)(hn:zk who=true) :
 Calls Tryz.prog 169 #[.agg (l.cells la lb lc lca lcb lcc),.agg ((⟨who,4,kd,nm,tm,vs,hs,sn,hd,to,r,no⟩:Ak).cells a0 a1 a2 c0 c1 c2)] w fun e w'=>e=.returned (.bool (jE l (⟨who,4,kd,nm,tm,vs,hs,sn,hd,to,r,no⟩:Ak)&&unused ⟨who,4,ByteArray.empty,ByteArray.empty,tm,vs,hs,sn,ByteArray.empty,to,r,no⟩))/\Bw w w':=by
 have HL:Hid (yF w l la lb lc):=hl;have HX:Hid (je w (⟨who,4,kd,nm,tm,vs,hs,sn,hd,to,r,no⟩:Ak) a0 a1 a2):=hx;have HN:Hid (zk who=true):=hn;clear hl hx hn;unfold Ak.cells Lw.cells;dsimp only
 by_cases hu:jE l (⟨who,4,kd,nm,tm,vs,hs,sn,hd,to,r,no⟩:Ak)=true
 ·have HU:Hid (jE l (⟨who,4,kd,nm,tm,vs,hs,sn,hd,to,r,no⟩:Ak)=true):=hu
  clear hu;go_enter Tryz.func169,Tryz.ntmps169;go_wp2_with fail
  obtain⟨W0,hW0,hX0,hY0,hz0,hB0⟩:=zI w #[.l la l.ss.length lca,.l lb l.ms.length lcb,.l lc l.ts.length lcc] #[.s who,.i 4,.s kd,.s nm,.s tm,.l a0 vs.length c0,.l a1 hs.length c1,.i sn,.s hd,.s to,.l a2 r.vs.length c2,.s r.kd,.s r.tm,.s r.px,.i no] 43 107;rw[<- hW0];clear hW0;have hq0:=nSl hz0;refine(zf HN.o (zu who _ HX.o.small.who)).mono ?_;rintro e w1⟨rfl,rfl⟩;go_wp2_with fail
  refine(zf (show within 4 1 6=true from rfl) (yu 4 1 6 _)).mono ?_;rintro e w1⟨rfl,rfl⟩;go_wp2_with fail
  have hX:=za hX0 hq0 (bRf w1.heap.size w1).drew;have hY:=za hY0 hz0 (bRf w1.heap.size w1).drew;have hz:w.heap.size+1<w1.drew.heap.size:=hz0;have hB:=hB0.drew;clear hX0 hY0 hz0 hB0 hq0;have hix:=zhH
  go_region_held3 (fun w'=>(∀j,w'.cell? (aD w.heap.size j)=(#[.l la l.ss.length lca,.l lb l.ms.length lcb,.l lc l.ts.length lcc]:AV)[j]?)/\∀j,w'.cell? (aD (w.heap.size+1) j)=(#[.s who,.i 4,.s kd,.s nm,.s tm,.l a0 vs.length c0,.l a1 hs.length c1,.i sn,.s hd,.s to,.l a2 r.vs.length c2,.s r.kd,.s r.tm,.s r.px,.i no]:AV)[j]?) (exact⟨hX,hY⟩) (first
   | (go_at_call 217;refine(zaa _).mono ?_;rintro e w3⟨rfl,hb⟩;unfold zbn;have hX:=za hX (nSl hz) hb;have hY:=za hY hz hb;have hB:=hB.trans (hb.mono hB.size);have hz:=nLt hz hb.size;clear hb))
  have hm1:=zcY;have hm2:=zdb;have hq:=nSl hz;go_wp2_with fail
  refine(zf HU.o (zgB l la lb lc lca lcb lcc (⟨who,4,kd,nm,tm,vs,hs,sn,hd,to,r,no⟩:Ak) a0 a1 a2 c0 c1 c2 _ (HL.o.mono hB) (HX.o.mono hB))).mono ?_;rintro e w4⟨rfl,hb⟩;have hX4:=za hX hq hb;have hY4:=za hY hz hb;have hz4:=nLt hz hb.size;have hq4:=nLt hq hb.size;have hB4:=hB.trans (hb.mono hB.size);clear hb hX hY hB hz hq;go_wp2_with fail
  refine(zky (⟨who,4,kd,nm,tm,vs,hs,sn,hd,to,r,no⟩:Ak) a0 a1 a2 c0 c1 c2 _).mono ?_;rintro e w5⟨rfl,hb⟩;have hB5:=hB4.trans (hb.mono hB4.size);clear hb hX4 hY4 hz4 hq4 hB4;go_wp2_with fail
  refine(za5 ⟨who,4,ByteArray.empty,ByteArray.empty,tm,vs,hs,sn,ByteArray.empty,to,r,no⟩ _ _ _ _ _ _ _).mono ?_;rintro e w6⟨rfl,hb⟩;have hB6:=hB5.trans (hb.mono hB5.size);clear hb hB5;go_wp2_with fail
  go_ret;exact⟨ze (by rw[HU.o];rfl),hB6⟩
 ·have HU:Hid (jE l (⟨who,4,kd,nm,tm,vs,hs,sn,hd,to,r,no⟩:Ak)=false):=bFi hu
  clear hu;go_enter Tryz.func169,Tryz.ntmps169;go_wp2_with fail
  obtain⟨W0,hW0,hX0,hY0,hz0,hB0⟩:=zI w #[.l la l.ss.length lca,.l lb l.ms.length lcb,.l lc l.ts.length lcc] #[.s who,.i 4,.s kd,.s nm,.s tm,.l a0 vs.length c0,.l a1 hs.length c1,.i sn,.s hd,.s to,.l a2 r.vs.length c2,.s r.kd,.s r.tm,.s r.px,.i no] 43 107;rw[<- hW0];clear hW0;have hq0:=nSl hz0;refine(zf HN.o (zu who _ HX.o.small.who)).mono ?_;rintro e w1⟨rfl,rfl⟩;go_wp2_with fail
  refine(zf (show within 4 1 6=true from rfl) (yu 4 1 6 _)).mono ?_;rintro e w1⟨rfl,rfl⟩;go_wp2_with fail
  have hX:=za hX0 hq0 (bRf w1.heap.size w1).drew;have hY:=za hY0 hz0 (bRf w1.heap.size w1).drew;have hz:w.heap.size+1<w1.drew.heap.size:=hz0;have hB:=hB0.drew;clear hX0 hY0 hz0 hB0 hq0;have hix:=zhH
  go_region_held3 (fun w'=>(∀j,w'.cell? (aD w.heap.size j)=(#[.l la l.ss.length lca,.l lb l.ms.length lcb,.l lc l.ts.length lcc]:AV)[j]?)/\∀j,w'.cell? (aD (w.heap.size+1) j)=(#[.s who,.i 4,.s kd,.s nm,.s tm,.l a0 vs.length c0,.l a1 hs.length c1,.i sn,.s hd,.s to,.l a2 r.vs.length c2,.s r.kd,.s r.tm,.s r.px,.i no]:AV)[j]?) (exact⟨hX,hY⟩) (first
   | (go_at_call 217;refine(zaa _).mono ?_;rintro e w3⟨rfl,hb⟩;unfold zbn;have hX:=za hX (nSl hz) hb;have hY:=za hY hz hb;have hB:=hB.trans (hb.mono hB.size);have hz:=nLt hz hb.size;clear hb))
  have hm1:=zcY;have hm2:=zdb;have hq:=nSl hz;go_wp2_with fail
  refine(zf HU.o (zgB l la lb lc lca lcb lcc (⟨who,4,kd,nm,tm,vs,hs,sn,hd,to,r,no⟩:Ak) a0 a1 a2 c0 c1 c2 _ (HL.o.mono hB) (HX.o.mono hB))).mono ?_;rintro e w4⟨rfl,hb⟩;have hX4:=za hX hq hb;have hY4:=za hY hz hb;have hz4:=nLt hz hb.size;have hq4:=nLt hq hb.size;have hB4:=hB.trans (hb.mono hB.size);clear hb hX hY hB hz hq;go_wp2_with fail
  go_ret;exact⟨ze (by rw[HU.o];rfl),hB4⟩
set_option maxRecDepth 20000 in
theorem znU (l:Lw)(la lb lc:OA)(lca lcb lcc:Nat)(who kd nm tm:BA)(vs hs:List BA)(sn:Int)(hd to:BA)(r:Rl)(no:Int)(a0 a1 a2:OA)(c0 c1 c2:Nat)(w:World)(hl:yF w l la lb lc)(hx:je w (⟨who,5,kd,nm,tm,vs,hs,sn,hd,to,r,no⟩:Ak) a0 a1 a2)(hn:zk who=true) :
 Calls Tryz.prog 169 #[.agg (l.cells la lb lc lca lcb lcc),.agg ((⟨who,5,kd,nm,tm,vs,hs,sn,hd,to,r,no⟩:Ak).cells a0 a1 a2 c0 c1 c2)] w fun e w'=>e=.returned (.bool (zac (⟨who,5,kd,nm,tm,vs,hs,sn,hd,to,r,no⟩:Ak)&&unused ⟨who,5,kd,nm,tm,vs,hs,sn,hd,ByteArray.empty,zfK,no⟩))/\Bw w w':=by
 have HL:Hid (yF w l la lb lc):=hl;have HX:Hid (je w (⟨who,5,kd,nm,tm,vs,hs,sn,hd,to,r,no⟩:Ak) a0 a1 a2):=hx;have HN:Hid (zk who=true):=hn;clear hl hx hn;unfold Ak.cells Lw.cells;dsimp only
 by_cases hu:zac (⟨who,5,kd,nm,tm,vs,hs,sn,hd,to,r,no⟩:Ak)=true
 ·have HU:Hid (zac (⟨who,5,kd,nm,tm,vs,hs,sn,hd,to,r,no⟩:Ak)=true):=hu
  clear hu;go_enter Tryz.func169,Tryz.ntmps169;go_wp2_with fail
  obtain⟨W0,hW0,hX0,hY0,hz0,hB0⟩:=zI w #[.l la l.ss.length lca,.l lb l.ms.length lcb,.l lc l.ts.length lcc] #[.s who,.i 5,.s kd,.s nm,.s tm,.l a0 vs.length c0,.l a1 hs.length c1,.i sn,.s hd,.s to,.l a2 r.vs.length c2,.s r.kd,.s r.tm,.s r.px,.i no] 43 107;rw[<- hW0];clear hW0;have hq0:=nSl hz0;refine(zf HN.o (zu who _ HX.o.small.who)).mono ?_;rintro e w1⟨rfl,rfl⟩;go_wp2_with fail
  refine(zf (show within 5 1 6=true from rfl) (yu 5 1 6 _)).mono ?_;rintro e w1⟨rfl,rfl⟩;go_wp2_with fail
  have hX:=za hX0 hq0 (bRf w1.heap.size w1).drew;have hY:=za hY0 hz0 (bRf w1.heap.size w1).drew;have hz:w.heap.size+1<w1.drew.heap.size:=hz0;have hB:=hB0.drew;clear hX0 hY0 hz0 hB0 hq0;have hix:=zjY
  go_region_held3 (fun w'=>(∀j,w'.cell? (aD w.heap.size j)=(#[.l la l.ss.length lca,.l lb l.ms.length lcb,.l lc l.ts.length lcc]:AV)[j]?)/\∀j,w'.cell? (aD (w.heap.size+1) j)=(#[.s who,.i 5,.s kd,.s nm,.s tm,.l a0 vs.length c0,.l a1 hs.length c1,.i sn,.s hd,.s to,.l a2 r.vs.length c2,.s r.kd,.s r.tm,.s r.px,.i no]:AV)[j]?) (exact⟨hX,hY⟩) (first
   | (go_at_call 217;refine(zaa _).mono ?_;rintro e w3⟨rfl,hb⟩;unfold zbn;have hX:=za hX (nSl hz) hb;have hY:=za hY hz hb;have hB:=hB.trans (hb.mono hB.size);have hz:=nLt hz hb.size;clear hb))
  have hm1:=zdj;have hm2:=zdE;have hq:=nSl hz;go_wp2_with fail
  refine(zf HU.o (zhC l la lb lc lca lcb lcc (⟨who,5,kd,nm,tm,vs,hs,sn,hd,to,r,no⟩:Ak) a0 a1 a2 c0 c1 c2 _ (HL.o.mono hB) (HX.o.mono hB))).mono ?_;rintro e w4⟨rfl,hb⟩;have hX4:=za hX hq hb;have hY4:=za hY hz hb;have hz4:=nLt hz hb.size;have hq4:=nLt hq hb.size;have hB4:=hB.trans (hb.mono hB.size);clear hb hX hY hB hz hq;go_wp2_with fail
  refine(zma (⟨who,5,kd,nm,tm,vs,hs,sn,hd,to,r,no⟩:Ak) a0 a1 a2 c0 c1 c2 _).mono ?_;rintro e w5⟨rfl,hb⟩;have hB5:=hB4.trans (hb.mono hB4.size);clear hb hX4 hY4 hz4 hq4 hB4;go_wp2_with fail
  refine(za5 ⟨who,5,kd,nm,tm,vs,hs,sn,hd,ByteArray.empty,zfK,no⟩ _ _ _ _ _ _ _).mono ?_;rintro e w6⟨rfl,hb⟩;have hB6:=hB5.trans (hb.mono hB5.size);clear hb hB5;go_wp2_with fail
  go_ret;exact⟨ze (by rw[HU.o];rfl),hB6⟩
 ·have HU:Hid (zac (⟨who,5,kd,nm,tm,vs,hs,sn,hd,to,r,no⟩:Ak)=false):=bFi hu
  clear hu;go_enter Tryz.func169,Tryz.ntmps169;go_wp2_with fail
  obtain⟨W0,hW0,hX0,hY0,hz0,hB0⟩:=zI w #[.l la l.ss.length lca,.l lb l.ms.length lcb,.l lc l.ts.length lcc] #[.s who,.i 5,.s kd,.s nm,.s tm,.l a0 vs.length c0,.l a1 hs.length c1,.i sn,.s hd,.s to,.l a2 r.vs.length c2,.s r.kd,.s r.tm,.s r.px,.i no] 43 107;rw[<- hW0];clear hW0;have hq0:=nSl hz0;refine(zf HN.o (zu who _ HX.o.small.who)).mono ?_;rintro e w1⟨rfl,rfl⟩;go_wp2_with fail
  refine(zf (show within 5 1 6=true from rfl) (yu 5 1 6 _)).mono ?_;rintro e w1⟨rfl,rfl⟩;go_wp2_with fail
  have hX:=za hX0 hq0 (bRf w1.heap.size w1).drew;have hY:=za hY0 hz0 (bRf w1.heap.size w1).drew;have hz:w.heap.size+1<w1.drew.heap.size:=hz0;have hB:=hB0.drew;clear hX0 hY0 hz0 hB0 hq0;have hix:=zjY
  go_region_held3 (fun w'=>(∀j,w'.cell? (aD w.heap.size j)=(#[.l la l.ss.length lca,.l lb l.ms.length lcb,.l lc l.ts.length lcc]:AV)[j]?)/\∀j,w'.cell? (aD (w.heap.size+1) j)=(#[.s who,.i 5,.s kd,.s nm,.s tm,.l a0 vs.length c0,.l a1 hs.length c1,.i sn,.s hd,.s to,.l a2 r.vs.length c2,.s r.kd,.s r.tm,.s r.px,.i no]:AV)[j]?) (exact⟨hX,hY⟩) (first
   | (go_at_call 217;refine(zaa _).mono ?_;rintro e w3⟨rfl,hb⟩;unfold zbn;have hX:=za hX (nSl hz) hb;have hY:=za hY hz hb;have hB:=hB.trans (hb.mono hB.size);have hz:=nLt hz hb.size;clear hb))
  have hm1:=zdj;have hm2:=zdE;have hq:=nSl hz;go_wp2_with fail
  refine(zf HU.o (zhC l la lb lc lca lcb lcc (⟨who,5,kd,nm,tm,vs,hs,sn,hd,to,r,no⟩:Ak) a0 a1 a2 c0 c1 c2 _ (HL.o.mono hB) (HX.o.mono hB))).mono ?_;rintro e w4⟨rfl,hb⟩;have hX4:=za hX hq hb;have hY4:=za hY hz hb;have hz4:=nLt hz hb.size;have hq4:=nLt hq hb.size;have hB4:=hB.trans (hb.mono hB.size);clear hb hX hY hB hz hq;go_wp2_with fail
  go_ret;exact⟨ze (by rw[HU.o];rfl),hB4⟩
set_option maxRecDepth 20000 in
theorem zop (l:Lw)(la lb lc:OA)(lca lcb lcc:Nat)(who kd nm tm:BA)(vs hs:List BA)(sn:Int)(hd to:BA)(r:Rl)(no:Int)(a0 a1 a2:OA)(c0 c1 c2:Nat)(w:World)(hl:yF w l la lb lc)(hx:je w (⟨who,6,kd,nm,tm,vs,hs,sn,hd,to,r,no⟩:Ak) a0 a1 a2)(hn:zk who=true) :
 Calls Tryz.prog 169 #[.agg (l.cells la lb lc lca lcb lcc),.agg ((⟨who,6,kd,nm,tm,vs,hs,sn,hd,to,r,no⟩:Ak).cells a0 a1 a2 c0 c1 c2)] w fun e w'=>e=.returned (.bool (zbA (⟨who,6,kd,nm,tm,vs,hs,sn,hd,to,r,no⟩:Ak)&&unused ⟨who,6,kd,nm,tm,vs,hs,sn,hd,to,r,0⟩))/\Bw w w':=by
 have HL:Hid (yF w l la lb lc):=hl;have HX:Hid (je w (⟨who,6,kd,nm,tm,vs,hs,sn,hd,to,r,no⟩:Ak) a0 a1 a2):=hx;have HN:Hid (zk who=true):=hn;clear hl hx hn;unfold Ak.cells Lw.cells;dsimp only
 by_cases hu:zbA (⟨who,6,kd,nm,tm,vs,hs,sn,hd,to,r,no⟩:Ak)=true
 ·have HU:Hid (zbA (⟨who,6,kd,nm,tm,vs,hs,sn,hd,to,r,no⟩:Ak)=true):=hu
  clear hu;go_enter Tryz.func169,Tryz.ntmps169;go_wp2_with fail
  obtain⟨W0,hW0,hX0,hY0,hz0,hB0⟩:=zI w #[.l la l.ss.length lca,.l lb l.ms.length lcb,.l lc l.ts.length lcc] #[.s who,.i 6,.s kd,.s nm,.s tm,.l a0 vs.length c0,.l a1 hs.length c1,.i sn,.s hd,.s to,.l a2 r.vs.length c2,.s r.kd,.s r.tm,.s r.px,.i no] 43 107;rw[<- hW0];clear hW0;have hq0:=nSl hz0;refine(zf HN.o (zu who _ HX.o.small.who)).mono ?_;rintro e w1⟨rfl,rfl⟩;go_wp2_with fail
  refine(zf (show within 6 1 6=true from rfl) (yu 6 1 6 _)).mono ?_;rintro e w1⟨rfl,rfl⟩;go_wp2_with fail
  have hX:=za hX0 hq0 (bRf w1.heap.size w1).drew;have hY:=za hY0 hz0 (bRf w1.heap.size w1).drew;have hz:w.heap.size+1<w1.drew.heap.size:=hz0;have hB:=hB0.drew;clear hX0 hY0 hz0 hB0 hq0;have hix:=zjh
  go_region_held3 (fun w'=>(∀j,w'.cell? (aD w.heap.size j)=(#[.l la l.ss.length lca,.l lb l.ms.length lcb,.l lc l.ts.length lcc]:AV)[j]?)/\∀j,w'.cell? (aD (w.heap.size+1) j)=(#[.s who,.i 6,.s kd,.s nm,.s tm,.l a0 vs.length c0,.l a1 hs.length c1,.i sn,.s hd,.s to,.l a2 r.vs.length c2,.s r.kd,.s r.tm,.s r.px,.i no]:AV)[j]?) (exact⟨hX,hY⟩) (first
   | (go_at_call 217;refine(zaa _).mono ?_;rintro e w3⟨rfl,hb⟩;unfold zbn;have hX:=za hX (nSl hz) hb;have hY:=za hY hz hb;have hB:=hB.trans (hb.mono hB.size);have hz:=nLt hz hb.size;clear hb))
  have hm1:=zc6;have hm2:=zdA;have hq:=nSl hz;go_wp2_with fail
  refine(zf HU.o (zhL l la lb lc lca lcb lcc (⟨who,6,kd,nm,tm,vs,hs,sn,hd,to,r,no⟩:Ak) a0 a1 a2 c0 c1 c2 _ (HL.o.mono hB) (HX.o.mono hB))).mono ?_;rintro e w4⟨rfl,hb⟩;have hX4:=za hX hq hb;have hY4:=za hY hz hb;have hz4:=nLt hz hb.size;have hq4:=nLt hq hb.size;have hB4:=hB.trans (hb.mono hB.size);clear hb hX hY hB hz hq;go_wp2_with fail
  refine(zlQ (⟨who,6,kd,nm,tm,vs,hs,sn,hd,to,r,no⟩:Ak) a0 a1 a2 c0 c1 c2 _).mono ?_;rintro e w5⟨rfl,hb⟩;have hB5:=hB4.trans (hb.mono hB4.size);clear hb hX4 hY4 hz4 hq4 hB4;go_wp2_with fail
  refine(za5 ⟨who,6,kd,nm,tm,vs,hs,sn,hd,to,r,0⟩ _ _ _ _ _ _ _).mono ?_;rintro e w6⟨rfl,hb⟩;have hB6:=hB5.trans (hb.mono hB5.size);clear hb hB5;go_wp2_with fail
  go_ret;exact⟨ze (by rw[HU.o];rfl),hB6⟩
 ·have HU:Hid (zbA (⟨who,6,kd,nm,tm,vs,hs,sn,hd,to,r,no⟩:Ak)=false):=bFi hu
  clear hu;go_enter Tryz.func169,Tryz.ntmps169;go_wp2_with fail
  obtain⟨W0,hW0,hX0,hY0,hz0,hB0⟩:=zI w #[.l la l.ss.length lca,.l lb l.ms.length lcb,.l lc l.ts.length lcc] #[.s who,.i 6,.s kd,.s nm,.s tm,.l a0 vs.length c0,.l a1 hs.length c1,.i sn,.s hd,.s to,.l a2 r.vs.length c2,.s r.kd,.s r.tm,.s r.px,.i no] 43 107;rw[<- hW0];clear hW0;have hq0:=nSl hz0;refine(zf HN.o (zu who _ HX.o.small.who)).mono ?_;rintro e w1⟨rfl,rfl⟩;go_wp2_with fail
  refine(zf (show within 6 1 6=true from rfl) (yu 6 1 6 _)).mono ?_;rintro e w1⟨rfl,rfl⟩;go_wp2_with fail
  have hX:=za hX0 hq0 (bRf w1.heap.size w1).drew;have hY:=za hY0 hz0 (bRf w1.heap.size w1).drew;have hz:w.heap.size+1<w1.drew.heap.size:=hz0;have hB:=hB0.drew;clear hX0 hY0 hz0 hB0 hq0;have hix:=zjh
  go_region_held3 (fun w'=>(∀j,w'.cell? (aD w.heap.size j)=(#[.l la l.ss.length lca,.l lb l.ms.length lcb,.l lc l.ts.length lcc]:AV)[j]?)/\∀j,w'.cell? (aD (w.heap.size+1) j)=(#[.s who,.i 6,.s kd,.s nm,.s tm,.l a0 vs.length c0,.l a1 hs.length c1,.i sn,.s hd,.s to,.l a2 r.vs.length c2,.s r.kd,.s r.tm,.s r.px,.i no]:AV)[j]?) (exact⟨hX,hY⟩) (first
   | (go_at_call 217;refine(zaa _).mono ?_;rintro e w3⟨rfl,hb⟩;unfold zbn;have hX:=za hX (nSl hz) hb;have hY:=za hY hz hb;have hB:=hB.trans (hb.mono hB.size);have hz:=nLt hz hb.size;clear hb))
  have hm1:=zc6;have hm2:=zdA;have hq:=nSl hz;go_wp2_with fail
  refine(zf HU.o (zhL l la lb lc lca lcb lcc (⟨who,6,kd,nm,tm,vs,hs,sn,hd,to,r,no⟩:Ak) a0 a1 a2 c0 c1 c2 _ (HL.o.mono hB) (HX.o.mono hB))).mono ?_;rintro e w4⟨rfl,hb⟩;have hX4:=za hX hq hb;have hY4:=za hY hz hb;have hz4:=nLt hz hb.size;have hq4:=nLt hq hb.size;have hB4:=hB.trans (hb.mono hB.size);clear hb hX hY hB hz hq;go_wp2_with fail
  go_ret;exact⟨ze (by rw[HU.o];rfl),hB4⟩
end Go.Proofs.YtedangodjiolaaaGreat
