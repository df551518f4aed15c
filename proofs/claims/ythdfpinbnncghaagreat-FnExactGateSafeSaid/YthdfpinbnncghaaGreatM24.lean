import Derived.Test.YthdfpinbnncghaaGreatM20
set_option maxHeartbeats 4000000
namespace Go.Proofs.YthdfpinbnncghaaGreat
open Go.RowKit
theorem zfE (x:Ak)(a0 a1 a2:OA)(c0 c1 c2:Nat)(l:Lw)(la lb lc:OA)(lca lcb lcc:Nat)(w:World)(hs:yR w la l.ss)(hn:x.nm.size<=maxLen) :
 Calls Tryz.prog 302 #[.agg (x.cells a0 a1 a2 c0 c1 c2),.agg (l.cells la lb lc lca lcb lcc)] w fun e w'=>e=.returned (.bool (zah l x))/\Bw w w':=by
 have HS:Hid (yR w la l.ss/\x.nm.size<=maxLen):=⟨hs,hn⟩
 clear hs hn;unfold Ak.cells Lw.cells
 by_cases hk:zC l.ss x.kd=true
 ·have HF:Hid (zah l x=zm x.nm):=by unfold Hid zah;rw[hk];rfl
  have HK:Hid (zC l.ss x.kd=true):=hk;clear hk;go_enter Tryz.func302,Tryz.ntmps302;go_wp2_with fail
  obtain⟨W0,hW0,hX0,hY0,hz0,hB0⟩:=zR w #[.s x.who,.i x.vb,.s x.kd,.s x.nm,.s x.tm,.l a0 x.vs.length c0,.l a1 x.hs.length c1,.i x.sn,.s x.hd,.s x.to,.l a2 x.r.vs.length c2,.s x.r.kd,.s x.r.tm,.s x.r.px,.i x.no] #[.l la l.ss.length lca,.l lb l.ms.length lcb,.l lc l.ts.length lcc] 189 44;rw[<- hW0];clear hW0;refine(qB _ _ l.ss x.kd _ (HS.o.1.mono hB0)).mono ?_;rintro e w1⟨fa,fcap,rfl,_,hb⟩;have hX1:=za hX0 (nSl hz0) hb;have hz1:=nLt hz0 hb.size;have hq1:=nSl hz1;have hB1:=hB0.trans (hb.mono hB0.size);have HBa:Hid (∀o,Bw w (w1.alloc o)):=fun o=>hB1.alloc hB1.size o
  clear hb hX0 hY0 hz0 hB0 hB1;rw[HK.o];go_wp2_with fail
  refine(zB _ _ HS.o.2).mono ?_;rintro e w2⟨rfl,rfl⟩;go_wp2_with fail
  go_ret;exact⟨ze HF.o.symm,HBa.o _⟩
 ·have HF:Hid (zah l x=false):=by unfold Hid zah;rw[bFi hk];rfl
  have HK:Hid (zC l.ss x.kd=false):=bFi hk;clear hk;go_enter Tryz.func302,Tryz.ntmps302;go_wp2_with fail
  obtain⟨W0,hW0,hX0,hY0,hz0,hB0⟩:=zR w #[.s x.who,.i x.vb,.s x.kd,.s x.nm,.s x.tm,.l a0 x.vs.length c0,.l a1 x.hs.length c1,.i x.sn,.s x.hd,.s x.to,.l a2 x.r.vs.length c2,.s x.r.kd,.s x.r.tm,.s x.r.px,.i x.no] #[.l la l.ss.length lca,.l lb l.ms.length lcb,.l lc l.ts.length lcc] 189 44;rw[<- hW0];clear hW0;refine(qB _ _ l.ss x.kd _ (HS.o.1.mono hB0)).mono ?_;rintro e w1⟨fa,fcap,rfl,_,hb⟩;have hX1:=za hX0 (nSl hz0) hb;have hz1:=nLt hz0 hb.size;have hq1:=nSl hz1;have hB1:=hB0.trans (hb.mono hB0.size);have HBa:Hid (∀o,Bw w (w1.alloc o)):=fun o=>hB1.alloc hB1.size o
  clear hb hX0 hY0 hz0 hB0 hB1;rw[HK.o];go_wp2_with fail
  go_ret;exact⟨ze HF.o.symm,HBa.o _⟩
theorem zf0 (x:Ak)(a0 a1 a2:OA)(c0 c1 c2:Nat)(l:Lw)(la lb lc:OA)(lca lcb lcc:Nat)(w:World)(hs:yR w la l.ss)(hn:x.nm.size<=maxLen) :
 Calls Tryz.prog 282 #[.agg (x.cells a0 a1 a2 c0 c1 c2),.agg (l.cells la lb lc lca lcb lcc)] w fun e w'=>e=.returned (.bool (zb4 l x))/\Bw w w':=by
 have HS:Hid (yR w la l.ss/\x.nm.size<=maxLen):=⟨hs,hn⟩
 clear hs hn;unfold Ak.cells Lw.cells;have HF:Hid (((x.vs.length:Int) == ((shapeOf l.ss x.kd).fs.length:Int))=zb4 l x):=by unfold Hid zb4;rw[Bool.eq_iff_iff];simp;omega
 go_enter Tryz.func282,Tryz.ntmps282;go_wp2_with fail
 obtain⟨W0,hW0,hX0,hY0,hz0,hB0⟩:=zR w #[.s x.who,.i x.vb,.s x.kd,.s x.nm,.s x.tm,.l a0 x.vs.length c0,.l a1 x.hs.length c1,.i x.sn,.s x.hd,.s x.to,.l a2 x.r.vs.length c2,.s x.r.kd,.s x.r.tm,.s x.r.px,.i x.no] #[.l la l.ss.length lca,.l lb l.ms.length lcb,.l lc l.ts.length lcc] 189 44;rw[<- hW0];clear hW0;refine(qB _ _ l.ss x.kd _ (HS.o.1.mono hB0)).mono ?_;rintro e w1⟨fa,fcap,rfl,_,hb⟩;have hX1:=za hX0 (nSl hz0) hb;have hz1:=nLt hz0 hb.size;have hq1:=nSl hz1;have hB1:=hB0.trans (hb.mono hB0.size);have HBa:Hid (∀o,Bw w (w1.alloc o)):=fun o=>hB1.alloc hB1.size o
 clear hb hX0 hY0 hz0 hB0 hB1;go_wp2_with fail
 go_ret;exact⟨ze HF.o,HBa.o _⟩
theorem zm5 (l:Lw)(la lb lc:OA)(lca lcb lcc:Nat)(x:Ak)(a0 a1 a2:OA)(c0 c1 c2:Nat)(w:World)(hl:yH w l la lb lc)(hx:jq w x a0 a1 a2) :
 Calls Tryz.prog 299 #[.agg #[],.agg (l.cells la lb lc lca lcb lcc),.agg (x.cells a0 a1 a2 c0 c1 c2)] w fun e w'=>e=.returned (.bool (jk l x))/\Bw w w':=by
 have HL:Hid (yH w l la lb lc):=hl;have HX:Hid (jq w x a0 a1 a2):=hx;clear hl hx;unfold Ak.cells Lw.cells;go_enter Tryz.func299,Tryz.ntmps299
 go_upto_region 1 with fail
 obtain⟨W0,hW0,hY0,hZ0,hz0,hB0⟩:=zbC w #[] #[.l la l.ss.length lca,.l lb l.ms.length lcb,.l lc l.ts.length lcc] #[.s x.who,.i x.vb,.s x.kd,.s x.nm,.s x.tm,.l a0 x.vs.length c0,.l a1 x.hs.length c1,.i x.sn,.s x.hd,.s x.to,.l a2 x.r.vs.length c2,.s x.r.kd,.s x.r.tm,.s x.r.px,.i x.no] 346 44 189;rw[<- hW0];clear hW0;have hq0:=nSl hz0;go_wp2_with fail
 refine(zfE x a0 a1 a2 c0 c1 c2 l la lb lc lca lcb lcc _ (HL.o.ss.mono hB0) HX.o.small.nm).mono ?_;rintro e w1⟨rfl,hb⟩;have hY1:=za hY0 hq0 hb;have hZ1:=za hZ0 hz0 hb;have hz1:=nLt hz0 hb.size;have hB1:=hB0.trans (hb.mono hB0.size);clear hb hY0 hZ0 hz0 hB0 hq0;have hq1:=nSl hz1
 cases h0:zah l x
 ·have HF:Hid (jk l x=false):=by unfold Hid jk;simp[h0]
  clear h0;go_wp2_with fail
  go_ret;exact⟨ze HF.o.symm,hB1⟩
 have H0:=hid h0;clear h0;go_wp2_with fail
 refine(zcc _ _ l.ts x.tm _ (HL.o.ts.mono hB1)).mono ?_;rintro e w2⟨rfl,hb⟩;have hY2:=za hY1 hq1 hb;have hZ2:=za hZ1 hz1 hb;have hz2:=nLt hz1 hb.size;have hB2:=hB1.trans (hb.mono hB1.size);clear hb hY1 hZ1 hz1 hB1 hq1;have hq2:=nSl hz2
 cases h1:yD l.ts x.tm
 ·have HF:Hid (jk l x=false):=by unfold Hid jk;simp[h1]
  clear h1;go_wp2_with fail
  go_ret;exact⟨ze HF.o.symm,hB2⟩
 have H1:=hid h1;clear h1;go_wp2_with fail
 refine(zf0 x a0 a1 a2 c0 c1 c2 l la lb lc lca lcb lcc _ (HL.o.ss.mono hB2) HX.o.small.nm).mono ?_;rintro e w3⟨rfl,hb⟩;have hY3:=za hY2 hq2 hb;have hZ3:=za hZ2 hz2 hb;have hz3:=nLt hz2 hb.size;have hB3:=hB2.trans (hb.mono hB2.size);clear hb hY2 hZ2 hz2 hB2 hq2;have hq3:=nSl hz3
 cases h2:zb4 l x
 ·have HF:Hid (jk l x=false):=by unfold Hid jk;simp[h2]
  clear h2;go_wp2_with fail
  go_ret;exact⟨ze HF.o.symm,hB3⟩
 have H2:=hid h2;clear h2
 by_cases h3:(x.hs.length:Int)<=3
 rotate_left
 ·have HF:Hid (jk l x=false):=by
   have:(decide (x.hs.length<=3))=false:=decide_eq_false (by omega)
   unfold Hid jk;simp[this]
  have g3:decide ((x.hs.length:Int)<=3)=false:=decide_eq_false h3;go_wp2_with fail
  go_ret;exact⟨ze HF.o.symm,hB3⟩
 have H3:Hid ((decide (x.hs.length<=3))=true):=decide_eq_true (by omega);go_wp2_with fail
 refine(zf7 _ _ _ _ (HX.o.hs.mono hB3)).mono ?_;rintro e w4⟨rfl,rfl⟩
 cases h4:asc x.hs
 ·have HF:Hid (jk l x=false):=by unfold Hid jk;simp[h4]
  clear h4;go_wp2_with fail
  go_ret;exact⟨ze HF.o.symm,hB3⟩
 have H4:=hid h4;clear h4;have HF:Hid (jk l x=true):=by unfold Hid jk;simp only[Bool.and_eq_true];exact⟨H0.o,H1.o,H2.o,H3.o,H4.o⟩
 go_wp2_with fail
 go_ret;exact⟨ze HF.o.symm,hB3⟩
theorem zlA (l:Lw)(la lb lc:OA)(lca lcb lcc:Nat)(x:Ak)(a0 a1 a2:OA)(c0 c1 c2:Nat)(w:World)(hl:yH w l la lb lc)(hx:jq w x a0 a1 a2) :
 Calls Tryz.prog 304 #[.agg #[],.agg (l.cells la lb lc lca lcb lcc),.agg (x.cells a0 a1 a2 c0 c1 c2)] w fun e w'=>e=.returned (.bool (qW l x))/\Bw w w':=by
 have HL:Hid (yH w l la lb lc):=hl;have HX:Hid (jq w x a0 a1 a2):=hx;clear hl hx;unfold Ak.cells Lw.cells;go_enter Tryz.func304,Tryz.ntmps304
 go_upto_region 1 with fail
 obtain⟨W0,hW0,hY0,hZ0,hz0,hB0⟩:=zbC w #[] #[.l la l.ss.length lca,.l lb l.ms.length lcb,.l lc l.ts.length lcc] #[.s x.who,.i x.vb,.s x.kd,.s x.nm,.s x.tm,.l a0 x.vs.length c0,.l a1 x.hs.length c1,.i x.sn,.s x.hd,.s x.to,.l a2 x.r.vs.length c2,.s x.r.kd,.s x.r.tm,.s x.r.px,.i x.no] 347 44 189;rw[<- hW0];clear hW0;have hq0:=nSl hz0;go_wp2_with fail
 refine(zfE x a0 a1 a2 c0 c1 c2 l la lb lc lca lcb lcc _ (HL.o.ss.mono hB0) HX.o.small.nm).mono ?_;rintro e w1⟨rfl,hb⟩;have hY1:=za hY0 hq0 hb;have hZ1:=za hZ0 hz0 hb;have hz1:=nLt hz0 hb.size;have hB1:=hB0.trans (hb.mono hB0.size);clear hb hY0 hZ0 hz0 hB0 hq0;have hq1:=nSl hz1
 cases h0:zah l x
 ·have HF:Hid (qW l x=false):=by unfold Hid qW;simp[h0]
  clear h0;go_wp2_with fail
  go_ret;exact⟨ze HF.o.symm,hB1⟩
 have H0:=hid h0;clear h0;go_wp2_with fail
 refine(zf0 x a0 a1 a2 c0 c1 c2 l la lb lc lca lcb lcc _ (HL.o.ss.mono hB1) HX.o.small.nm).mono ?_;rintro e w2⟨rfl,hb⟩;have hY2:=za hY1 hq1 hb;have hZ2:=za hZ1 hz1 hb;have hz2:=nLt hz1 hb.size;have hB2:=hB1.trans (hb.mono hB1.size);clear hb hY1 hZ1 hz1 hB1 hq1;have hq2:=nSl hz2
 cases h1:zb4 l x
 ·have HF:Hid (qW l x=false):=by unfold Hid qW;simp[h1]
  clear h1;go_wp2_with fail
  go_ret;exact⟨ze HF.o.symm,hB2⟩
 have H1:=hid h1;clear h1
 by_cases h2:0<=x.sn
 rotate_left
 ·have HF:Hid (qW l x=false):=by
   have:(decide (0<=x.sn))=false:=decide_eq_false (by omega)
   unfold Hid qW;simp[this]
  have g2:decide (0<=x.sn)=false:=decide_eq_false h2;go_wp2_with fail
  go_ret;exact⟨ze HF.o.symm,hB2⟩
 have H2:Hid ((decide (0<=x.sn))=true):=decide_eq_true (by omega);have HF:Hid (qW l x=true):=by unfold Hid qW;simp only[Bool.and_eq_true];exact⟨H0.o,H1.o,H2.o⟩
 go_wp2_with fail
 go_ret;exact⟨ze HF.o.symm,hB2⟩
theorem zo2 (l:Lw)(la lb lc:OA)(lca lcb lcc:Nat)(x:Ak)(a0 a1 a2:OA)(c0 c1 c2:Nat)(w:World)(hl:yH w l la lb lc)(hx:jq w x a0 a1 a2) :
 Calls Tryz.prog 308 #[.agg #[],.agg (l.cells la lb lc lca lcb lcc),.agg (x.cells a0 a1 a2 c0 c1 c2)] w fun e w'=>e=.returned (.bool (zbQ l x))/\Bw w w':=by
 have HL:Hid (yH w l la lb lc):=hl;have HX:Hid (jq w x a0 a1 a2):=hx;clear hl hx;unfold Ak.cells Lw.cells;go_enter Tryz.func308,Tryz.ntmps308
 go_upto_region 1 with fail
 obtain⟨W0,hW0,hY0,hZ0,hz0,hB0⟩:=zbC w #[] #[.l la l.ss.length lca,.l lb l.ms.length lcb,.l lc l.ts.length lcc] #[.s x.who,.i x.vb,.s x.kd,.s x.nm,.s x.tm,.l a0 x.vs.length c0,.l a1 x.hs.length c1,.i x.sn,.s x.hd,.s x.to,.l a2 x.r.vs.length c2,.s x.r.kd,.s x.r.tm,.s x.r.px,.i x.no] 348 44 189;rw[<- hW0];clear hW0;have hq0:=nSl hz0;go_wp2_with fail
 refine(zfE x a0 a1 a2 c0 c1 c2 l la lb lc lca lcb lcc _ (HL.o.ss.mono hB0) HX.o.small.nm).mono ?_;rintro e w1⟨rfl,hb⟩;have hY1:=za hY0 hq0 hb;have hZ1:=za hZ0 hz0 hb;have hz1:=nLt hz0 hb.size;have hB1:=hB0.trans (hb.mono hB0.size);clear hb hY0 hZ0 hz0 hB0 hq0;have hq1:=nSl hz1
 cases h0:zah l x
 ·have HF:Hid (zbQ l x=false):=by unfold Hid zbQ;simp[h0]
  clear h0;go_wp2_with fail
  go_ret;exact⟨ze HF.o.symm,hB1⟩
 have H0:=hid h0;clear h0
 by_cases h1:0<=x.sn
 rotate_left
 ·have HF:Hid (zbQ l x=false):=by
   have:(decide (0<=x.sn))=false:=decide_eq_false (by omega)
   unfold Hid zbQ;simp[this]
  have g1:decide (0<=x.sn)=false:=decide_eq_false h1;go_wp2_with fail
  go_ret;exact⟨ze HF.o.symm,hB1⟩
 have H1:Hid ((decide (0<=x.sn))=true):=decide_eq_true (by omega);have HF:Hid (zbQ l x=true):=by unfold Hid zbQ;simp only[Bool.and_eq_true];exact⟨H0.o,H1.o⟩
 go_wp2_with fail
 go_ret;exact⟨ze HF.o.symm,hB1⟩
theorem zmW (l:Lw)(la lb lc:OA)(lca lcb lcc:Nat)(x:Ak)(a0 a1 a2:OA)(c0 c1 c2:Nat)(w:World)(hl:yH w l la lb lc)(hx:jq w x a0 a1 a2) :
 Calls Tryz.prog 312 #[.agg #[],.agg (l.cells la lb lc lca lcb lcc),.agg (x.cells a0 a1 a2 c0 c1 c2)] w fun e w'=>e=.returned (.bool (zai l x))/\Bw w w':=by
 have HL:Hid (yH w l la lb lc):=hl;have HX:Hid (jq w x a0 a1 a2):=hx;clear hl hx;unfold Ak.cells Lw.cells;go_enter Tryz.func312,Tryz.ntmps312
 go_upto_region 1 with fail
 obtain⟨W0,hW0,hY0,hZ0,hz0,hB0⟩:=zbC w #[] #[.l la l.ss.length lca,.l lb l.ms.length lcb,.l lc l.ts.length lcc] #[.s x.who,.i x.vb,.s x.kd,.s x.nm,.s x.tm,.l a0 x.vs.length c0,.l a1 x.hs.length c1,.i x.sn,.s x.hd,.s x.to,.l a2 x.r.vs.length c2,.s x.r.kd,.s x.r.tm,.s x.r.px,.i x.no] 349 44 189;rw[<- hW0];clear hW0;have hq0:=nSl hz0;go_wp2_with fail
 refine(zfE x a0 a1 a2 c0 c1 c2 l la lb lc lca lcb lcc _ (HL.o.ss.mono hB0) HX.o.small.nm).mono ?_;rintro e w1⟨rfl,hb⟩;have hY1:=za hY0 hq0 hb;have hZ1:=za hZ0 hz0 hb;have hz1:=nLt hz0 hb.size;have hB1:=hB0.trans (hb.mono hB0.size);clear hb hY0 hZ0 hz0 hB0 hq0;have hq1:=nSl hz1
 cases h0:zah l x
 ·have HF:Hid (zai l x=false):=by unfold Hid zai;simp[h0]
  clear h0;go_wp2_with fail
  go_ret;exact⟨ze HF.o.symm,hB1⟩
 have H0:=hid h0;clear h0;go_wp2_with fail
 refine(zB _ _ HX.o.small.hd).mono ?_;rintro e w2⟨rfl,rfl⟩
 cases h1:zm x.hd
 ·have HF:Hid (zai l x=false):=by unfold Hid zai;simp[h1]
  clear h1;go_wp2_with fail
  go_ret;exact⟨ze HF.o.symm,hB1⟩
 have H1:=hid h1;clear h1;have HF:Hid (zai l x=true):=by unfold Hid zai;simp only[Bool.and_eq_true];exact⟨H0.o,H1.o⟩
 go_wp2_with fail
 go_ret;exact⟨ze HF.o.symm,hB1⟩
theorem znz (l:Lw)(la lb lc:OA)(lca lcb lcc:Nat)(x:Ak)(a0 a1 a2:OA)(c0 c1 c2:Nat)(w:World)(hl:yH w l la lb lc)(hx:jq w x a0 a1 a2) :
 Calls Tryz.prog 316 #[.agg #[],.agg (l.cells la lb lc lca lcb lcc),.agg (x.cells a0 a1 a2 c0 c1 c2)] w fun e w'=>e=.returned (.bool (zaz x))/\Bw w w':=by
 have HL:Hid (yH w l la lb lc):=hl;have HX:Hid (jq w x a0 a1 a2):=hx;clear hl hx;unfold Ak.cells Lw.cells;go_enter Tryz.func316,Tryz.ntmps316
 go_upto_region 1 with fail
 obtain⟨W0,hW0,hY0,hZ0,hz0,hB0⟩:=zbC w #[] #[.l la l.ss.length lca,.l lb l.ms.length lcb,.l lc l.ts.length lcc] #[.s x.who,.i x.vb,.s x.kd,.s x.nm,.s x.tm,.l a0 x.vs.length c0,.l a1 x.hs.length c1,.i x.sn,.s x.hd,.s x.to,.l a2 x.r.vs.length c2,.s x.r.kd,.s x.r.tm,.s x.r.px,.i x.no] 350 44 189;rw[<- hW0];clear hW0;have hq0:=nSl hz0;go_wp2_with fail
 refine(zB _ _ HX.o.small.to).mono ?_;rintro e w1⟨rfl,rfl⟩
 cases h0:zm x.to
 ·have HF:Hid (zaz x=false):=by unfold Hid zaz;simp[h0]
  clear h0;go_wp2_with fail
  go_ret;exact⟨ze HF.o.symm,hB0⟩
 have H0:=hid h0;clear h0;go_wp2_with fail
 refine(zkR x.r _ _ _ HX.o.small.r (HX.o.r.mono hB0)).mono ?_;rintro e w1⟨rfl,hb⟩;have hY1:=za hY0 hq0 hb;have hZ1:=za hZ0 hz0 hb;have hz1:=nLt hz0 hb.size;have hB1:=hB0.trans (hb.mono hB0.size);clear hb hY0 hZ0 hz0 hB0 hq0;have hq1:=nSl hz1
 cases h1:zQ x.r
 ·have HF:Hid (zaz x=false):=by unfold Hid zaz;simp[h1]
  clear h1;go_wp2_with fail
  go_ret;exact⟨ze HF.o.symm,hB1⟩
 have H1:=hid h1;clear h1;have HF:Hid (zaz x=true):=by unfold Hid zaz;simp only[Bool.and_eq_true];exact⟨H0.o,H1.o⟩
 go_wp2_with fail
 go_ret;exact⟨ze HF.o.symm,hB1⟩
theorem znF (l:Lw)(la lb lc:OA)(lca lcb lcc:Nat)(x:Ak)(a0 a1 a2:OA)(c0 c1 c2:Nat)(w:World)(hl:yH w l la lb lc)(hx:jq w x a0 a1 a2) :
 Calls Tryz.prog 320 #[.agg #[],.agg (l.cells la lb lc lca lcb lcc),.agg (x.cells a0 a1 a2 c0 c1 c2)] w fun e w'=>e=.returned (.bool (zcN x))/\Bw w w':=by
 have HL:Hid (yH w l la lb lc):=hl;have HX:Hid (jq w x a0 a1 a2):=hx;clear hl hx;unfold Ak.cells Lw.cells;go_enter Tryz.func320,Tryz.ntmps320
 go_upto_region 1 with fail
 obtain⟨W0,hW0,hY0,hZ0,hz0,hB0⟩:=zbC w #[] #[.l la l.ss.length lca,.l lb l.ms.length lcb,.l lc l.ts.length lcc] #[.s x.who,.i x.vb,.s x.kd,.s x.nm,.s x.tm,.l a0 x.vs.length c0,.l a1 x.hs.length c1,.i x.sn,.s x.hd,.s x.to,.l a2 x.r.vs.length c2,.s x.r.kd,.s x.r.tm,.s x.r.px,.i x.no] 351 44 189;rw[<- hW0];clear hW0;have hq0:=nSl hz0
 by_cases h0:1<=x.no
 rotate_left
 ·have HF:Hid (zcN x=false):=by
   have:(decide (1<=x.no))=false:=decide_eq_false (by omega)
   unfold Hid zcN;simp[this]
  have g0:decide (1<=x.no)=false:=decide_eq_false h0;go_wp2_with fail
  go_ret;exact⟨ze HF.o.symm,hB0⟩
 have H0:Hid ((decide (1<=x.no))=true):=decide_eq_true (by omega);have HF:Hid (zcN x=true):=by unfold Hid zcN;exact H0.o
 go_wp2_with fail
 go_ret;exact⟨ze HF.o.symm,hB0⟩
end Go.Proofs.YthdfpinbnncghaaGreat
