import Derived.Test.YtedangodjiolaaaGreatM20
set_option maxHeartbeats 4000000
namespace Go.Proofs.YtedangodjiolaaaGreat
open Go.RowKit
theorem jc (x:Ak)(a0 a1 a2:OA)(c0 c1 c2:Nat)(l:Lw)(la lb lc:OA)(lca lcb lcc:Nat)(w:World)(hs:yM w la l.ss)(hn:x.nm.size<=maxLen) :
 Calls Tryz.prog 285 #[.agg (x.cells a0 a1 a2 c0 c1 c2),.agg (l.cells la lb lc lca lcb lcc)] w fun e w'=>e=.returned (.bool (qA l x))/\Bw w w':=by
 have HS:Hid (yM w la l.ss/\x.nm.size<=maxLen):=⟨hs,hn⟩
 clear hs hn;unfold Ak.cells Lw.cells
 by_cases hk:zC l.ss x.kd=true
 ·have HF:Hid (qA l x=zk x.nm):=by unfold Hid qA;rw[hk];rfl
  have HK:Hid (zC l.ss x.kd=true):=hk;clear hk;go_enter Tryz.func285,Tryz.ntmps285;go_wp2_with fail
  obtain⟨W0,hW0,hX0,hY0,hz0,hB0⟩:=zI w #[.s x.who,.i x.vb,.s x.kd,.s x.nm,.s x.tm,.l a0 x.vs.length c0,.l a1 x.hs.length c1,.i x.sn,.s x.hd,.s x.to,.l a2 x.r.vs.length c2,.s x.r.kd,.s x.r.tm,.s x.r.px,.i x.no] #[.l la l.ss.length lca,.l lb l.ms.length lcb,.l lc l.ts.length lcc] 107 43;rw[<- hW0];clear hW0;refine(ql _ _ l.ss x.kd _ (HS.o.1.mono hB0)).mono ?_;rintro e w1⟨fa,fcap,rfl,_,hb⟩;have hX1:=za hX0 (nSl hz0) hb;have hz1:=nLt hz0 hb.size;have hq1:=nSl hz1;have hB1:=hB0.trans (hb.mono hB0.size);have HBa:Hid (∀o,Bw w (w1.alloc o)):=fun o=>hB1.alloc hB1.size o
  clear hb hX0 hY0 hz0 hB0 hB1;rw[HK.o];go_wp2_with fail
  refine(zu _ _ HS.o.2).mono ?_;rintro e w2⟨rfl,rfl⟩;go_wp2_with fail
  go_ret;exact⟨ze HF.o.symm,HBa.o _⟩
 ·have HF:Hid (qA l x=false):=by unfold Hid qA;rw[bFi hk];rfl
  have HK:Hid (zC l.ss x.kd=false):=bFi hk;clear hk;go_enter Tryz.func285,Tryz.ntmps285;go_wp2_with fail
  obtain⟨W0,hW0,hX0,hY0,hz0,hB0⟩:=zI w #[.s x.who,.i x.vb,.s x.kd,.s x.nm,.s x.tm,.l a0 x.vs.length c0,.l a1 x.hs.length c1,.i x.sn,.s x.hd,.s x.to,.l a2 x.r.vs.length c2,.s x.r.kd,.s x.r.tm,.s x.r.px,.i x.no] #[.l la l.ss.length lca,.l lb l.ms.length lcb,.l lc l.ts.length lcc] 107 43;rw[<- hW0];clear hW0;refine(ql _ _ l.ss x.kd _ (HS.o.1.mono hB0)).mono ?_;rintro e w1⟨fa,fcap,rfl,_,hb⟩;have hX1:=za hX0 (nSl hz0) hb;have hz1:=nLt hz0 hb.size;have hq1:=nSl hz1;have hB1:=hB0.trans (hb.mono hB0.size);have HBa:Hid (∀o,Bw w (w1.alloc o)):=fun o=>hB1.alloc hB1.size o
  clear hb hX0 hY0 hz0 hB0 hB1;rw[HK.o];go_wp2_with fail
  go_ret;exact⟨ze HF.o.symm,HBa.o _⟩
theorem zae (x:Ak)(a0 a1 a2:OA)(c0 c1 c2:Nat)(l:Lw)(la lb lc:OA)(lca lcb lcc:Nat)(w:World)(hs:yM w la l.ss)(hn:x.nm.size<=maxLen) :
 Calls Tryz.prog 266 #[.agg (x.cells a0 a1 a2 c0 c1 c2),.agg (l.cells la lb lc lca lcb lcc)] w fun e w'=>e=.returned (.bool (jV l x))/\Bw w w':=by
 have HS:Hid (yM w la l.ss/\x.nm.size<=maxLen):=⟨hs,hn⟩
 clear hs hn;unfold Ak.cells Lw.cells;have HF:Hid (((x.vs.length:Int) == ((shapeOf l.ss x.kd).fs.length:Int))=jV l x):=by unfold Hid jV;rw[Bool.eq_iff_iff];simp;omega
 go_enter Tryz.func266,Tryz.ntmps266;go_wp2_with fail
 obtain⟨W0,hW0,hX0,hY0,hz0,hB0⟩:=zI w #[.s x.who,.i x.vb,.s x.kd,.s x.nm,.s x.tm,.l a0 x.vs.length c0,.l a1 x.hs.length c1,.i x.sn,.s x.hd,.s x.to,.l a2 x.r.vs.length c2,.s x.r.kd,.s x.r.tm,.s x.r.px,.i x.no] #[.l la l.ss.length lca,.l lb l.ms.length lcb,.l lc l.ts.length lcc] 107 43;rw[<- hW0];clear hW0;refine(ql _ _ l.ss x.kd _ (HS.o.1.mono hB0)).mono ?_;rintro e w1⟨fa,fcap,rfl,_,hb⟩;have hX1:=za hX0 (nSl hz0) hb;have hz1:=nLt hz0 hb.size;have hq1:=nSl hz1;have hB1:=hB0.trans (hb.mono hB0.size);have HBa:Hid (∀o,Bw w (w1.alloc o)):=fun o=>hB1.alloc hB1.size o
 clear hb hX0 hY0 hz0 hB0 hB1;go_wp2_with fail
 go_ret;exact⟨ze HF.o,HBa.o _⟩
theorem zhM (l:Lw)(la lb lc:OA)(lca lcb lcc:Nat)(x:Ak)(a0 a1 a2:OA)(c0 c1 c2:Nat)(w:World)(hl:yF w l la lb lc)(hx:je w x a0 a1 a2) :
 Calls Tryz.prog 282 #[.agg #[],.agg (l.cells la lb lc lca lcb lcc),.agg (x.cells a0 a1 a2 c0 c1 c2)] w fun e w'=>e=.returned (.bool (qI l x))/\Bw w w':=by
 have HL:Hid (yF w l la lb lc):=hl;have HX:Hid (je w x a0 a1 a2):=hx;clear hl hx;unfold Ak.cells Lw.cells
 by_cases h0:(qA l x)=true
 rotate_left
 ·have HF:Hid (qI l x=false):=by unfold Hid qI;simp[h0]
  have H0:Hid ((qA l x)=false):=bFi h0;clear h0;go_enter Tryz.func282,Tryz.ntmps282;go_wp2_with fail
  obtain⟨W0,hW0,hY0,hZ0,hz0,hB0⟩:=yN w #[] #[.l la l.ss.length lca,.l lb l.ms.length lcb,.l lc l.ts.length lcc] #[.s x.who,.i x.vb,.s x.kd,.s x.nm,.s x.tm,.l a0 x.vs.length c0,.l a1 x.hs.length c1,.i x.sn,.s x.hd,.s x.to,.l a2 x.r.vs.length c2,.s x.r.kd,.s x.r.tm,.s x.r.px,.i x.no] 323 43 107;rw[<- hW0];clear hW0;refine(zf H0.o (jc x a0 a1 a2 c0 c1 c2 l la lb lc lca lcb lcc _ (HL.o.ss.mono hB0) HX.o.small.nm)).mono ?_;rintro e w1⟨rfl,hb⟩;have hY1:=za hY0 (nSl hz0) hb;have hZ1:=za hZ0 hz0 hb;have hz1:=nLt hz0 hb.size;have hB1:=hB0.trans (hb.mono hB0.size);clear hb hY0 hZ0 hz0 hB0;have hq1:=nSl hz1;go_wp2_with fail
  go_ret;exact⟨ze HF.o.symm,hB1⟩
 by_cases h1:(yg l.ts x.tm)=true
 rotate_left
 ·have HF:Hid (qI l x=false):=by unfold Hid qI;simp[h1]
  have H0:Hid ((qA l x)=true):=h0;have H1:Hid ((yg l.ts x.tm)=false):=bFi h1;clear h0 h1;go_enter Tryz.func282,Tryz.ntmps282;go_wp2_with fail
  obtain⟨W0,hW0,hY0,hZ0,hz0,hB0⟩:=yN w #[] #[.l la l.ss.length lca,.l lb l.ms.length lcb,.l lc l.ts.length lcc] #[.s x.who,.i x.vb,.s x.kd,.s x.nm,.s x.tm,.l a0 x.vs.length c0,.l a1 x.hs.length c1,.i x.sn,.s x.hd,.s x.to,.l a2 x.r.vs.length c2,.s x.r.kd,.s x.r.tm,.s x.r.px,.i x.no] 323 43 107;rw[<- hW0];clear hW0;refine(zf H0.o (jc x a0 a1 a2 c0 c1 c2 l la lb lc lca lcb lcc _ (HL.o.ss.mono hB0) HX.o.small.nm)).mono ?_;rintro e w1⟨rfl,hb⟩;have hY1:=za hY0 (nSl hz0) hb;have hZ1:=za hZ0 hz0 hb;have hz1:=nLt hz0 hb.size;have hB1:=hB0.trans (hb.mono hB0.size);clear hb hY0 hZ0 hz0 hB0;have hq1:=nSl hz1;go_wp2_with fail
  refine(zf H1.o (zai _ _ l.ts x.tm _ (HL.o.ts.mono hB1))).mono ?_;rintro e w2⟨rfl,hb⟩;have hY2:=za hY1 (nSl hz1) hb;have hZ2:=za hZ1 hz1 hb;have hz2:=nLt hz1 hb.size;have hB2:=hB1.trans (hb.mono hB1.size);clear hb hY1 hZ1 hz1 hB1;have hq2:=nSl hz2;go_wp2_with fail
  go_ret;exact⟨ze HF.o.symm,hB2⟩
 by_cases h2:(jV l x)=true
 rotate_left
 ·have HF:Hid (qI l x=false):=by unfold Hid qI;simp[h2]
  have H0:Hid ((qA l x)=true):=h0;have H1:Hid ((yg l.ts x.tm)=true):=h1;have H2:Hid ((jV l x)=false):=bFi h2;clear h0 h1 h2;go_enter Tryz.func282,Tryz.ntmps282;go_wp2_with fail
  obtain⟨W0,hW0,hY0,hZ0,hz0,hB0⟩:=yN w #[] #[.l la l.ss.length lca,.l lb l.ms.length lcb,.l lc l.ts.length lcc] #[.s x.who,.i x.vb,.s x.kd,.s x.nm,.s x.tm,.l a0 x.vs.length c0,.l a1 x.hs.length c1,.i x.sn,.s x.hd,.s x.to,.l a2 x.r.vs.length c2,.s x.r.kd,.s x.r.tm,.s x.r.px,.i x.no] 323 43 107;rw[<- hW0];clear hW0;refine(zf H0.o (jc x a0 a1 a2 c0 c1 c2 l la lb lc lca lcb lcc _ (HL.o.ss.mono hB0) HX.o.small.nm)).mono ?_;rintro e w1⟨rfl,hb⟩;have hY1:=za hY0 (nSl hz0) hb;have hZ1:=za hZ0 hz0 hb;have hz1:=nLt hz0 hb.size;have hB1:=hB0.trans (hb.mono hB0.size);clear hb hY0 hZ0 hz0 hB0;have hq1:=nSl hz1;go_wp2_with fail
  refine(zf H1.o (zai _ _ l.ts x.tm _ (HL.o.ts.mono hB1))).mono ?_;rintro e w2⟨rfl,hb⟩;have hY2:=za hY1 (nSl hz1) hb;have hZ2:=za hZ1 hz1 hb;have hz2:=nLt hz1 hb.size;have hB2:=hB1.trans (hb.mono hB1.size);clear hb hY1 hZ1 hz1 hB1;have hq2:=nSl hz2;go_wp2_with fail
  refine(zf H2.o (zae x a0 a1 a2 c0 c1 c2 l la lb lc lca lcb lcc _ (HL.o.ss.mono hB2) HX.o.small.nm)).mono ?_;rintro e w3⟨rfl,hb⟩;have hY3:=za hY2 (nSl hz2) hb;have hZ3:=za hZ2 hz2 hb;have hz3:=nLt hz2 hb.size;have hB3:=hB2.trans (hb.mono hB2.size);clear hb hY2 hZ2 hz2 hB2;have hq3:=nSl hz3;go_wp2_with fail
  go_ret;exact⟨ze HF.o.symm,hB3⟩
 by_cases h3:(decide (x.hs.length<=3))=true
 rotate_left
 ·have HF:Hid (qI l x=false):=by unfold Hid qI;simp[h3]
  have H0:Hid ((qA l x)=true):=h0;have H1:Hid ((yg l.ts x.tm)=true):=h1;have H2:Hid ((jV l x)=true):=h2;have g3:decide ((x.hs.length:Int)<=3)=false:=decide_eq_false (by have:=of_decide_eq_false (bFi h3);omega);clear h0 h1 h2 h3;go_enter Tryz.func282,Tryz.ntmps282;go_wp2_with fail
  obtain⟨W0,hW0,hY0,hZ0,hz0,hB0⟩:=yN w #[] #[.l la l.ss.length lca,.l lb l.ms.length lcb,.l lc l.ts.length lcc] #[.s x.who,.i x.vb,.s x.kd,.s x.nm,.s x.tm,.l a0 x.vs.length c0,.l a1 x.hs.length c1,.i x.sn,.s x.hd,.s x.to,.l a2 x.r.vs.length c2,.s x.r.kd,.s x.r.tm,.s x.r.px,.i x.no] 323 43 107;rw[<- hW0];clear hW0;refine(zf H0.o (jc x a0 a1 a2 c0 c1 c2 l la lb lc lca lcb lcc _ (HL.o.ss.mono hB0) HX.o.small.nm)).mono ?_;rintro e w1⟨rfl,hb⟩;have hY1:=za hY0 (nSl hz0) hb;have hZ1:=za hZ0 hz0 hb;have hz1:=nLt hz0 hb.size;have hB1:=hB0.trans (hb.mono hB0.size);clear hb hY0 hZ0 hz0 hB0;have hq1:=nSl hz1;go_wp2_with fail
  refine(zf H1.o (zai _ _ l.ts x.tm _ (HL.o.ts.mono hB1))).mono ?_;rintro e w2⟨rfl,hb⟩;have hY2:=za hY1 (nSl hz1) hb;have hZ2:=za hZ1 hz1 hb;have hz2:=nLt hz1 hb.size;have hB2:=hB1.trans (hb.mono hB1.size);clear hb hY1 hZ1 hz1 hB1;have hq2:=nSl hz2;go_wp2_with fail
  refine(zf H2.o (zae x a0 a1 a2 c0 c1 c2 l la lb lc lca lcb lcc _ (HL.o.ss.mono hB2) HX.o.small.nm)).mono ?_;rintro e w3⟨rfl,hb⟩;have hY3:=za hY2 (nSl hz2) hb;have hZ3:=za hZ2 hz2 hb;have hz3:=nLt hz2 hb.size;have hB3:=hB2.trans (hb.mono hB2.size);clear hb hY2 hZ2 hz2 hB2;have hq3:=nSl hz3;go_wp2_with fail
  go_ret;exact⟨ze HF.o.symm,hB3⟩
 by_cases h4:(asc x.hs)=true
 rotate_left
 ·have HF:Hid (qI l x=false):=by unfold Hid qI;simp[h4]
  have H0:Hid ((qA l x)=true):=h0;have H1:Hid ((yg l.ts x.tm)=true):=h1;have H2:Hid ((jV l x)=true):=h2;have g3:(x.hs.length:Int)<=3:=by have:=of_decide_eq_true h3;omega
  have H4:Hid ((asc x.hs)=false):=bFi h4;clear h0 h1 h2 h3 h4;go_enter Tryz.func282,Tryz.ntmps282;go_wp2_with fail
  obtain⟨W0,hW0,hY0,hZ0,hz0,hB0⟩:=yN w #[] #[.l la l.ss.length lca,.l lb l.ms.length lcb,.l lc l.ts.length lcc] #[.s x.who,.i x.vb,.s x.kd,.s x.nm,.s x.tm,.l a0 x.vs.length c0,.l a1 x.hs.length c1,.i x.sn,.s x.hd,.s x.to,.l a2 x.r.vs.length c2,.s x.r.kd,.s x.r.tm,.s x.r.px,.i x.no] 323 43 107;rw[<- hW0];clear hW0;refine(zf H0.o (jc x a0 a1 a2 c0 c1 c2 l la lb lc lca lcb lcc _ (HL.o.ss.mono hB0) HX.o.small.nm)).mono ?_;rintro e w1⟨rfl,hb⟩;have hY1:=za hY0 (nSl hz0) hb;have hZ1:=za hZ0 hz0 hb;have hz1:=nLt hz0 hb.size;have hB1:=hB0.trans (hb.mono hB0.size);clear hb hY0 hZ0 hz0 hB0;have hq1:=nSl hz1;go_wp2_with fail
  refine(zf H1.o (zai _ _ l.ts x.tm _ (HL.o.ts.mono hB1))).mono ?_;rintro e w2⟨rfl,hb⟩;have hY2:=za hY1 (nSl hz1) hb;have hZ2:=za hZ1 hz1 hb;have hz2:=nLt hz1 hb.size;have hB2:=hB1.trans (hb.mono hB1.size);clear hb hY1 hZ1 hz1 hB1;have hq2:=nSl hz2;go_wp2_with fail
  refine(zf H2.o (zae x a0 a1 a2 c0 c1 c2 l la lb lc lca lcb lcc _ (HL.o.ss.mono hB2) HX.o.small.nm)).mono ?_;rintro e w3⟨rfl,hb⟩;have hY3:=za hY2 (nSl hz2) hb;have hZ3:=za hZ2 hz2 hb;have hz3:=nLt hz2 hb.size;have hB3:=hB2.trans (hb.mono hB2.size);clear hb hY2 hZ2 hz2 hB2;have hq3:=nSl hz3;go_wp2_with fail
  refine(zf H4.o (zd9 _ _ _ _ (HX.o.hs.mono hB3))).mono ?_;rintro e w4⟨rfl,rfl⟩;have hY4:=hY3;have hZ4:=hZ3;have hz4:=hz3;have hB4:=hB3;clear hY3 hZ3 hz3 hB3;have hq4:=nSl hz4;go_wp2_with fail
  go_ret;exact⟨ze HF.o.symm,hB4⟩
 ·have HF:Hid (qI l x=true):=by unfold Hid qI;simp only[Bool.and_eq_true];exact⟨h0,h1,h2,h3,h4⟩
  have H0:Hid ((qA l x)=true):=h0;have H1:Hid ((yg l.ts x.tm)=true):=h1;have H2:Hid ((jV l x)=true):=h2;have g3:(x.hs.length:Int)<=3:=by have:=of_decide_eq_true h3;omega
  have H4:Hid ((asc x.hs)=true):=h4;clear h0 h1 h2 h3 h4;go_enter Tryz.func282,Tryz.ntmps282;go_wp2_with fail
  obtain⟨W0,hW0,hY0,hZ0,hz0,hB0⟩:=yN w #[] #[.l la l.ss.length lca,.l lb l.ms.length lcb,.l lc l.ts.length lcc] #[.s x.who,.i x.vb,.s x.kd,.s x.nm,.s x.tm,.l a0 x.vs.length c0,.l a1 x.hs.length c1,.i x.sn,.s x.hd,.s x.to,.l a2 x.r.vs.length c2,.s x.r.kd,.s x.r.tm,.s x.r.px,.i x.no] 323 43 107;rw[<- hW0];clear hW0;refine(zf H0.o (jc x a0 a1 a2 c0 c1 c2 l la lb lc lca lcb lcc _ (HL.o.ss.mono hB0) HX.o.small.nm)).mono ?_;rintro e w1⟨rfl,hb⟩;have hY1:=za hY0 (nSl hz0) hb;have hZ1:=za hZ0 hz0 hb;have hz1:=nLt hz0 hb.size;have hB1:=hB0.trans (hb.mono hB0.size);clear hb hY0 hZ0 hz0 hB0;have hq1:=nSl hz1;go_wp2_with fail
  refine(zf H1.o (zai _ _ l.ts x.tm _ (HL.o.ts.mono hB1))).mono ?_;rintro e w2⟨rfl,hb⟩;have hY2:=za hY1 (nSl hz1) hb;have hZ2:=za hZ1 hz1 hb;have hz2:=nLt hz1 hb.size;have hB2:=hB1.trans (hb.mono hB1.size);clear hb hY1 hZ1 hz1 hB1;have hq2:=nSl hz2;go_wp2_with fail
  refine(zf H2.o (zae x a0 a1 a2 c0 c1 c2 l la lb lc lca lcb lcc _ (HL.o.ss.mono hB2) HX.o.small.nm)).mono ?_;rintro e w3⟨rfl,hb⟩;have hY3:=za hY2 (nSl hz2) hb;have hZ3:=za hZ2 hz2 hb;have hz3:=nLt hz2 hb.size;have hB3:=hB2.trans (hb.mono hB2.size);clear hb hY2 hZ2 hz2 hB2;have hq3:=nSl hz3;go_wp2_with fail
  refine(zf H4.o (zd9 _ _ _ _ (HX.o.hs.mono hB3))).mono ?_;rintro e w4⟨rfl,rfl⟩;have hY4:=hY3;have hZ4:=hZ3;have hz4:=hz3;have hB4:=hB3;clear hY3 hZ3 hz3 hB3;have hq4:=nSl hz4;go_wp2_with fail
  go_ret;exact⟨ze HF.o.symm,hB4⟩
theorem zfy (l:Lw)(la lb lc:OA)(lca lcb lcc:Nat)(x:Ak)(a0 a1 a2:OA)(c0 c1 c2:Nat)(w:World)(hl:yF w l la lb lc)(hx:je w x a0 a1 a2) :
 Calls Tryz.prog 287 #[.agg #[],.agg (l.cells la lb lc lca lcb lcc),.agg (x.cells a0 a1 a2 c0 c1 c2)] w fun e w'=>e=.returned (.bool (qy l x))/\Bw w w':=by
 have HL:Hid (yF w l la lb lc):=hl;have HX:Hid (je w x a0 a1 a2):=hx;clear hl hx;unfold Ak.cells Lw.cells
 by_cases h0:(qA l x)=true
 rotate_left
 ·have HF:Hid (qy l x=false):=by unfold Hid qy;simp[h0]
  have H0:Hid ((qA l x)=false):=bFi h0;clear h0;go_enter Tryz.func287,Tryz.ntmps287;go_wp2_with fail
  obtain⟨W0,hW0,hY0,hZ0,hz0,hB0⟩:=yN w #[] #[.l la l.ss.length lca,.l lb l.ms.length lcb,.l lc l.ts.length lcc] #[.s x.who,.i x.vb,.s x.kd,.s x.nm,.s x.tm,.l a0 x.vs.length c0,.l a1 x.hs.length c1,.i x.sn,.s x.hd,.s x.to,.l a2 x.r.vs.length c2,.s x.r.kd,.s x.r.tm,.s x.r.px,.i x.no] 324 43 107;rw[<- hW0];clear hW0;refine(zf H0.o (jc x a0 a1 a2 c0 c1 c2 l la lb lc lca lcb lcc _ (HL.o.ss.mono hB0) HX.o.small.nm)).mono ?_;rintro e w1⟨rfl,hb⟩;have hY1:=za hY0 (nSl hz0) hb;have hZ1:=za hZ0 hz0 hb;have hz1:=nLt hz0 hb.size;have hB1:=hB0.trans (hb.mono hB0.size);clear hb hY0 hZ0 hz0 hB0;have hq1:=nSl hz1;go_wp2_with fail
  go_ret;exact⟨ze HF.o.symm,hB1⟩
 by_cases h1:(jV l x)=true
 rotate_left
 ·have HF:Hid (qy l x=false):=by unfold Hid qy;simp[h1]
  have H0:Hid ((qA l x)=true):=h0;have H1:Hid ((jV l x)=false):=bFi h1;clear h0 h1;go_enter Tryz.func287,Tryz.ntmps287;go_wp2_with fail
  obtain⟨W0,hW0,hY0,hZ0,hz0,hB0⟩:=yN w #[] #[.l la l.ss.length lca,.l lb l.ms.length lcb,.l lc l.ts.length lcc] #[.s x.who,.i x.vb,.s x.kd,.s x.nm,.s x.tm,.l a0 x.vs.length c0,.l a1 x.hs.length c1,.i x.sn,.s x.hd,.s x.to,.l a2 x.r.vs.length c2,.s x.r.kd,.s x.r.tm,.s x.r.px,.i x.no] 324 43 107;rw[<- hW0];clear hW0;refine(zf H0.o (jc x a0 a1 a2 c0 c1 c2 l la lb lc lca lcb lcc _ (HL.o.ss.mono hB0) HX.o.small.nm)).mono ?_;rintro e w1⟨rfl,hb⟩;have hY1:=za hY0 (nSl hz0) hb;have hZ1:=za hZ0 hz0 hb;have hz1:=nLt hz0 hb.size;have hB1:=hB0.trans (hb.mono hB0.size);clear hb hY0 hZ0 hz0 hB0;have hq1:=nSl hz1;go_wp2_with fail
  refine(zf H1.o (zae x a0 a1 a2 c0 c1 c2 l la lb lc lca lcb lcc _ (HL.o.ss.mono hB1) HX.o.small.nm)).mono ?_;rintro e w2⟨rfl,hb⟩;have hY2:=za hY1 (nSl hz1) hb;have hZ2:=za hZ1 hz1 hb;have hz2:=nLt hz1 hb.size;have hB2:=hB1.trans (hb.mono hB1.size);clear hb hY1 hZ1 hz1 hB1;have hq2:=nSl hz2;go_wp2_with fail
  go_ret;exact⟨ze HF.o.symm,hB2⟩
 by_cases h2:(decide (0<=x.sn))=true
 rotate_left
 ·have HF:Hid (qy l x=false):=by unfold Hid qy;simp[h2]
  have H0:Hid ((qA l x)=true):=h0;have H1:Hid ((jV l x)=true):=h1;have g2:decide (0<=x.sn)=false:=decide_eq_false (by have:=of_decide_eq_false (bFi h2);omega);clear h0 h1 h2;go_enter Tryz.func287,Tryz.ntmps287;go_wp2_with fail
  obtain⟨W0,hW0,hY0,hZ0,hz0,hB0⟩:=yN w #[] #[.l la l.ss.length lca,.l lb l.ms.length lcb,.l lc l.ts.length lcc] #[.s x.who,.i x.vb,.s x.kd,.s x.nm,.s x.tm,.l a0 x.vs.length c0,.l a1 x.hs.length c1,.i x.sn,.s x.hd,.s x.to,.l a2 x.r.vs.length c2,.s x.r.kd,.s x.r.tm,.s x.r.px,.i x.no] 324 43 107;rw[<- hW0];clear hW0;refine(zf H0.o (jc x a0 a1 a2 c0 c1 c2 l la lb lc lca lcb lcc _ (HL.o.ss.mono hB0) HX.o.small.nm)).mono ?_;rintro e w1⟨rfl,hb⟩;have hY1:=za hY0 (nSl hz0) hb;have hZ1:=za hZ0 hz0 hb;have hz1:=nLt hz0 hb.size;have hB1:=hB0.trans (hb.mono hB0.size);clear hb hY0 hZ0 hz0 hB0;have hq1:=nSl hz1;go_wp2_with fail
  refine(zf H1.o (zae x a0 a1 a2 c0 c1 c2 l la lb lc lca lcb lcc _ (HL.o.ss.mono hB1) HX.o.small.nm)).mono ?_;rintro e w2⟨rfl,hb⟩;have hY2:=za hY1 (nSl hz1) hb;have hZ2:=za hZ1 hz1 hb;have hz2:=nLt hz1 hb.size;have hB2:=hB1.trans (hb.mono hB1.size);clear hb hY1 hZ1 hz1 hB1;have hq2:=nSl hz2;go_wp2_with fail
  go_ret;exact⟨ze HF.o.symm,hB2⟩
 ·have HF:Hid (qy l x=true):=by unfold Hid qy;simp only[Bool.and_eq_true];exact⟨h0,h1,h2⟩
  have H0:Hid ((qA l x)=true):=h0;have H1:Hid ((jV l x)=true):=h1;have g2:0<=x.sn:=by have:=of_decide_eq_true h2;omega
  clear h0 h1 h2;go_enter Tryz.func287,Tryz.ntmps287;go_wp2_with fail
  obtain⟨W0,hW0,hY0,hZ0,hz0,hB0⟩:=yN w #[] #[.l la l.ss.length lca,.l lb l.ms.length lcb,.l lc l.ts.length lcc] #[.s x.who,.i x.vb,.s x.kd,.s x.nm,.s x.tm,.l a0 x.vs.length c0,.l a1 x.hs.length c1,.i x.sn,.s x.hd,.s x.to,.l a2 x.r.vs.length c2,.s x.r.kd,.s x.r.tm,.s x.r.px,.i x.no] 324 43 107;rw[<- hW0];clear hW0;refine(zf H0.o (jc x a0 a1 a2 c0 c1 c2 l la lb lc lca lcb lcc _ (HL.o.ss.mono hB0) HX.o.small.nm)).mono ?_;rintro e w1⟨rfl,hb⟩;have hY1:=za hY0 (nSl hz0) hb;have hZ1:=za hZ0 hz0 hb;have hz1:=nLt hz0 hb.size;have hB1:=hB0.trans (hb.mono hB0.size);clear hb hY0 hZ0 hz0 hB0;have hq1:=nSl hz1;go_wp2_with fail
  refine(zf H1.o (zae x a0 a1 a2 c0 c1 c2 l la lb lc lca lcb lcc _ (HL.o.ss.mono hB1) HX.o.small.nm)).mono ?_;rintro e w2⟨rfl,hb⟩;have hY2:=za hY1 (nSl hz1) hb;have hZ2:=za hZ1 hz1 hb;have hz2:=nLt hz1 hb.size;have hB2:=hB1.trans (hb.mono hB1.size);clear hb hY1 hZ1 hz1 hB1;have hq2:=nSl hz2;go_wp2_with fail
  go_ret;exact⟨ze HF.o.symm,hB2⟩
theorem zjD (l:Lw)(la lb lc:OA)(lca lcb lcc:Nat)(x:Ak)(a0 a1 a2:OA)(c0 c1 c2:Nat)(w:World)(hl:yF w l la lb lc)(hx:je w x a0 a1 a2) :
 Calls Tryz.prog 291 #[.agg #[],.agg (l.cells la lb lc lca lcb lcc),.agg (x.cells a0 a1 a2 c0 c1 c2)] w fun e w'=>e=.returned (.bool (za8 l x))/\Bw w w':=by
 have HL:Hid (yF w l la lb lc):=hl;have HX:Hid (je w x a0 a1 a2):=hx;clear hl hx;unfold Ak.cells Lw.cells
 by_cases h0:(qA l x)=true
 rotate_left
 ·have HF:Hid (za8 l x=false):=by unfold Hid za8;simp[h0]
  have H0:Hid ((qA l x)=false):=bFi h0;clear h0;go_enter Tryz.func291,Tryz.ntmps291;go_wp2_with fail
  obtain⟨W0,hW0,hY0,hZ0,hz0,hB0⟩:=yN w #[] #[.l la l.ss.length lca,.l lb l.ms.length lcb,.l lc l.ts.length lcc] #[.s x.who,.i x.vb,.s x.kd,.s x.nm,.s x.tm,.l a0 x.vs.length c0,.l a1 x.hs.length c1,.i x.sn,.s x.hd,.s x.to,.l a2 x.r.vs.length c2,.s x.r.kd,.s x.r.tm,.s x.r.px,.i x.no] 325 43 107;rw[<- hW0];clear hW0;refine(zf H0.o (jc x a0 a1 a2 c0 c1 c2 l la lb lc lca lcb lcc _ (HL.o.ss.mono hB0) HX.o.small.nm)).mono ?_;rintro e w1⟨rfl,hb⟩;have hY1:=za hY0 (nSl hz0) hb;have hZ1:=za hZ0 hz0 hb;have hz1:=nLt hz0 hb.size;have hB1:=hB0.trans (hb.mono hB0.size);clear hb hY0 hZ0 hz0 hB0;have hq1:=nSl hz1;go_wp2_with fail
  go_ret;exact⟨ze HF.o.symm,hB1⟩
 by_cases h1:(decide (0<=x.sn))=true
 rotate_left
 ·have HF:Hid (za8 l x=false):=by unfold Hid za8;simp[h1]
  have H0:Hid ((qA l x)=true):=h0;have g1:decide (0<=x.sn)=false:=decide_eq_false (by have:=of_decide_eq_false (bFi h1);omega);clear h0 h1;go_enter Tryz.func291,Tryz.ntmps291;go_wp2_with fail
  obtain⟨W0,hW0,hY0,hZ0,hz0,hB0⟩:=yN w #[] #[.l la l.ss.length lca,.l lb l.ms.length lcb,.l lc l.ts.length lcc] #[.s x.who,.i x.vb,.s x.kd,.s x.nm,.s x.tm,.l a0 x.vs.length c0,.l a1 x.hs.length c1,.i x.sn,.s x.hd,.s x.to,.l a2 x.r.vs.length c2,.s x.r.kd,.s x.r.tm,.s x.r.px,.i x.no] 325 43 107;rw[<- hW0];clear hW0;refine(zf H0.o (jc x a0 a1 a2 c0 c1 c2 l la lb lc lca lcb lcc _ (HL.o.ss.mono hB0) HX.o.small.nm)).mono ?_;rintro e w1⟨rfl,hb⟩;have hY1:=za hY0 (nSl hz0) hb;have hZ1:=za hZ0 hz0 hb;have hz1:=nLt hz0 hb.size;have hB1:=hB0.trans (hb.mono hB0.size);clear hb hY0 hZ0 hz0 hB0;have hq1:=nSl hz1;go_wp2_with fail
  go_ret;exact⟨ze HF.o.symm,hB1⟩
 ·have HF:Hid (za8 l x=true):=by unfold Hid za8;simp only[Bool.and_eq_true];exact⟨h0,h1⟩
  have H0:Hid ((qA l x)=true):=h0;have g1:0<=x.sn:=by have:=of_decide_eq_true h1;omega
  clear h0 h1;go_enter Tryz.func291,Tryz.ntmps291;go_wp2_with fail
  obtain⟨W0,hW0,hY0,hZ0,hz0,hB0⟩:=yN w #[] #[.l la l.ss.length lca,.l lb l.ms.length lcb,.l lc l.ts.length lcc] #[.s x.who,.i x.vb,.s x.kd,.s x.nm,.s x.tm,.l a0 x.vs.length c0,.l a1 x.hs.length c1,.i x.sn,.s x.hd,.s x.to,.l a2 x.r.vs.length c2,.s x.r.kd,.s x.r.tm,.s x.r.px,.i x.no] 325 43 107;rw[<- hW0];clear hW0;refine(zf H0.o (jc x a0 a1 a2 c0 c1 c2 l la lb lc lca lcb lcc _ (HL.o.ss.mono hB0) HX.o.small.nm)).mono ?_;rintro e w1⟨rfl,hb⟩;have hY1:=za hY0 (nSl hz0) hb;have hZ1:=za hZ0 hz0 hb;have hz1:=nLt hz0 hb.size;have hB1:=hB0.trans (hb.mono hB0.size);clear hb hY0 hZ0 hz0 hB0;have hq1:=nSl hz1;go_wp2_with fail
  go_ret;exact⟨ze HF.o.symm,hB1⟩
theorem zgB (l:Lw)(la lb lc:OA)(lca lcb lcc:Nat)(x:Ak)(a0 a1 a2:OA)(c0 c1 c2:Nat)(w:World)(hl:yF w l la lb lc)(hx:je w x a0 a1 a2) :
 Calls Tryz.prog 295 #[.agg #[],.agg (l.cells la lb lc lca lcb lcc),.agg (x.cells a0 a1 a2 c0 c1 c2)] w fun e w'=>e=.returned (.bool (jE l x))/\Bw w w':=by
 have HL:Hid (yF w l la lb lc):=hl;have HX:Hid (je w x a0 a1 a2):=hx;clear hl hx;unfold Ak.cells Lw.cells
 by_cases h0:(qA l x)=true
 rotate_left
 ·have HF:Hid (jE l x=false):=by unfold Hid jE;simp[h0]
  have H0:Hid ((qA l x)=false):=bFi h0;clear h0;go_enter Tryz.func295,Tryz.ntmps295;go_wp2_with fail
  obtain⟨W0,hW0,hY0,hZ0,hz0,hB0⟩:=yN w #[] #[.l la l.ss.length lca,.l lb l.ms.length lcb,.l lc l.ts.length lcc] #[.s x.who,.i x.vb,.s x.kd,.s x.nm,.s x.tm,.l a0 x.vs.length c0,.l a1 x.hs.length c1,.i x.sn,.s x.hd,.s x.to,.l a2 x.r.vs.length c2,.s x.r.kd,.s x.r.tm,.s x.r.px,.i x.no] 326 43 107;rw[<- hW0];clear hW0;refine(zf H0.o (jc x a0 a1 a2 c0 c1 c2 l la lb lc lca lcb lcc _ (HL.o.ss.mono hB0) HX.o.small.nm)).mono ?_;rintro e w1⟨rfl,hb⟩;have hY1:=za hY0 (nSl hz0) hb;have hZ1:=za hZ0 hz0 hb;have hz1:=nLt hz0 hb.size;have hB1:=hB0.trans (hb.mono hB0.size);clear hb hY0 hZ0 hz0 hB0;have hq1:=nSl hz1;go_wp2_with fail
  go_ret;exact⟨ze HF.o.symm,hB1⟩
 by_cases h1:(zk x.hd)=true
 rotate_left
 ·have HF:Hid (jE l x=false):=by unfold Hid jE;simp[h1]
  have H0:Hid ((qA l x)=true):=h0;have H1:Hid ((zk x.hd)=false):=bFi h1;clear h0 h1;go_enter Tryz.func295,Tryz.ntmps295;go_wp2_with fail
  obtain⟨W0,hW0,hY0,hZ0,hz0,hB0⟩:=yN w #[] #[.l la l.ss.length lca,.l lb l.ms.length lcb,.l lc l.ts.length lcc] #[.s x.who,.i x.vb,.s x.kd,.s x.nm,.s x.tm,.l a0 x.vs.length c0,.l a1 x.hs.length c1,.i x.sn,.s x.hd,.s x.to,.l a2 x.r.vs.length c2,.s x.r.kd,.s x.r.tm,.s x.r.px,.i x.no] 326 43 107;rw[<- hW0];clear hW0;refine(zf H0.o (jc x a0 a1 a2 c0 c1 c2 l la lb lc lca lcb lcc _ (HL.o.ss.mono hB0) HX.o.small.nm)).mono ?_;rintro e w1⟨rfl,hb⟩;have hY1:=za hY0 (nSl hz0) hb;have hZ1:=za hZ0 hz0 hb;have hz1:=nLt hz0 hb.size;have hB1:=hB0.trans (hb.mono hB0.size);clear hb hY0 hZ0 hz0 hB0;have hq1:=nSl hz1;go_wp2_with fail
  refine(zf H1.o (zu _ _ HX.o.small.hd)).mono ?_;rintro e w2⟨rfl,rfl⟩;have hY2:=hY1;have hZ2:=hZ1;have hz2:=hz1;have hB2:=hB1;clear hY1 hZ1 hz1 hB1;have hq2:=nSl hz2;go_wp2_with fail
  go_ret;exact⟨ze HF.o.symm,hB2⟩
 ·have HF:Hid (jE l x=true):=by unfold Hid jE;simp only[Bool.and_eq_true];exact⟨h0,h1⟩
  have H0:Hid ((qA l x)=true):=h0;have H1:Hid ((zk x.hd)=true):=h1;clear h0 h1;go_enter Tryz.func295,Tryz.ntmps295;go_wp2_with fail
  obtain⟨W0,hW0,hY0,hZ0,hz0,hB0⟩:=yN w #[] #[.l la l.ss.length lca,.l lb l.ms.length lcb,.l lc l.ts.length lcc] #[.s x.who,.i x.vb,.s x.kd,.s x.nm,.s x.tm,.l a0 x.vs.length c0,.l a1 x.hs.length c1,.i x.sn,.s x.hd,.s x.to,.l a2 x.r.vs.length c2,.s x.r.kd,.s x.r.tm,.s x.r.px,.i x.no] 326 43 107;rw[<- hW0];clear hW0;refine(zf H0.o (jc x a0 a1 a2 c0 c1 c2 l la lb lc lca lcb lcc _ (HL.o.ss.mono hB0) HX.o.small.nm)).mono ?_;rintro e w1⟨rfl,hb⟩;have hY1:=za hY0 (nSl hz0) hb;have hZ1:=za hZ0 hz0 hb;have hz1:=nLt hz0 hb.size;have hB1:=hB0.trans (hb.mono hB0.size);clear hb hY0 hZ0 hz0 hB0;have hq1:=nSl hz1;go_wp2_with fail
  refine(zf H1.o (zu _ _ HX.o.small.hd)).mono ?_;rintro e w2⟨rfl,rfl⟩;have hY2:=hY1;have hZ2:=hZ1;have hz2:=hz1;have hB2:=hB1;clear hY1 hZ1 hz1 hB1;have hq2:=nSl hz2;go_wp2_with fail
  go_ret;exact⟨ze HF.o.symm,hB2⟩
theorem zhC (l:Lw)(la lb lc:OA)(lca lcb lcc:Nat)(x:Ak)(a0 a1 a2:OA)(c0 c1 c2:Nat)(w:World)(hl:yF w l la lb lc)(hx:je w x a0 a1 a2) :
 Calls Tryz.prog 299 #[.agg #[],.agg (l.cells la lb lc lca lcb lcc),.agg (x.cells a0 a1 a2 c0 c1 c2)] w fun e w'=>e=.returned (.bool (zac x))/\Bw w w':=by
 have HL:Hid (yF w l la lb lc):=hl;have HX:Hid (je w x a0 a1 a2):=hx;clear hl hx;unfold Ak.cells Lw.cells
 by_cases h0:(zk x.to)=true
 rotate_left
 ·have HF:Hid (zac x=false):=by unfold Hid zac;simp[h0]
  have H0:Hid ((zk x.to)=false):=bFi h0;clear h0;go_enter Tryz.func299,Tryz.ntmps299;go_wp2_with fail
  obtain⟨W0,hW0,hY0,hZ0,hz0,hB0⟩:=yN w #[] #[.l la l.ss.length lca,.l lb l.ms.length lcb,.l lc l.ts.length lcc] #[.s x.who,.i x.vb,.s x.kd,.s x.nm,.s x.tm,.l a0 x.vs.length c0,.l a1 x.hs.length c1,.i x.sn,.s x.hd,.s x.to,.l a2 x.r.vs.length c2,.s x.r.kd,.s x.r.tm,.s x.r.px,.i x.no] 327 43 107;rw[<- hW0];clear hW0;refine(zf H0.o (zu _ _ HX.o.small.to)).mono ?_;rintro e w1⟨rfl,rfl⟩;have hY1:=hY0;have hZ1:=hZ0;have hz1:=hz0;have hB1:=hB0;clear hY0 hZ0 hz0 hB0;have hq1:=nSl hz1;go_wp2_with fail
  go_ret;exact⟨ze HF.o.symm,hB1⟩
 by_cases h1:(zQ x.r)=true
 rotate_left
 ·have HF:Hid (zac x=false):=by unfold Hid zac;simp[h1]
  have H0:Hid ((zk x.to)=true):=h0;have H1:Hid ((zQ x.r)=false):=bFi h1;clear h0 h1;go_enter Tryz.func299,Tryz.ntmps299;go_wp2_with fail
  obtain⟨W0,hW0,hY0,hZ0,hz0,hB0⟩:=yN w #[] #[.l la l.ss.length lca,.l lb l.ms.length lcb,.l lc l.ts.length lcc] #[.s x.who,.i x.vb,.s x.kd,.s x.nm,.s x.tm,.l a0 x.vs.length c0,.l a1 x.hs.length c1,.i x.sn,.s x.hd,.s x.to,.l a2 x.r.vs.length c2,.s x.r.kd,.s x.r.tm,.s x.r.px,.i x.no] 327 43 107;rw[<- hW0];clear hW0;refine(zf H0.o (zu _ _ HX.o.small.to)).mono ?_;rintro e w1⟨rfl,rfl⟩;have hY1:=hY0;have hZ1:=hZ0;have hz1:=hz0;have hB1:=hB0;clear hY0 hZ0 hz0 hB0;have hq1:=nSl hz1;go_wp2_with fail
  refine(zf H1.o (zfM x.r _ _ _ HX.o.small.r (HX.o.r.mono hB1))).mono ?_;rintro e w2⟨rfl,hb⟩;have hY2:=za hY1 (nSl hz1) hb;have hZ2:=za hZ1 hz1 hb;have hz2:=nLt hz1 hb.size;have hB2:=hB1.trans (hb.mono hB1.size);clear hb hY1 hZ1 hz1 hB1;have hq2:=nSl hz2;go_wp2_with fail
  go_ret;exact⟨ze HF.o.symm,hB2⟩
 ·have HF:Hid (zac x=true):=by unfold Hid zac;simp only[Bool.and_eq_true];exact⟨h0,h1⟩
  have H0:Hid ((zk x.to)=true):=h0;have H1:Hid ((zQ x.r)=true):=h1;clear h0 h1;go_enter Tryz.func299,Tryz.ntmps299;go_wp2_with fail
  obtain⟨W0,hW0,hY0,hZ0,hz0,hB0⟩:=yN w #[] #[.l la l.ss.length lca,.l lb l.ms.length lcb,.l lc l.ts.length lcc] #[.s x.who,.i x.vb,.s x.kd,.s x.nm,.s x.tm,.l a0 x.vs.length c0,.l a1 x.hs.length c1,.i x.sn,.s x.hd,.s x.to,.l a2 x.r.vs.length c2,.s x.r.kd,.s x.r.tm,.s x.r.px,.i x.no] 327 43 107;rw[<- hW0];clear hW0;refine(zf H0.o (zu _ _ HX.o.small.to)).mono ?_;rintro e w1⟨rfl,rfl⟩;have hY1:=hY0;have hZ1:=hZ0;have hz1:=hz0;have hB1:=hB0;clear hY0 hZ0 hz0 hB0;have hq1:=nSl hz1;go_wp2_with fail
  refine(zf H1.o (zfM x.r _ _ _ HX.o.small.r (HX.o.r.mono hB1))).mono ?_;rintro e w2⟨rfl,hb⟩;have hY2:=za hY1 (nSl hz1) hb;have hZ2:=za hZ1 hz1 hb;have hz2:=nLt hz1 hb.size;have hB2:=hB1.trans (hb.mono hB1.size);clear hb hY1 hZ1 hz1 hB1;have hq2:=nSl hz2;go_wp2_with fail
  go_ret;exact⟨ze HF.o.symm,hB2⟩
theorem zhL (l:Lw)(la lb lc:OA)(lca lcb lcc:Nat)(x:Ak)(a0 a1 a2:OA)(c0 c1 c2:Nat)(w:World)(hl:yF w l la lb lc)(hx:je w x a0 a1 a2) :
 Calls Tryz.prog 303 #[.agg #[],.agg (l.cells la lb lc lca lcb lcc),.agg (x.cells a0 a1 a2 c0 c1 c2)] w fun e w'=>e=.returned (.bool (zbA x))/\Bw w w':=by
 have HL:Hid (yF w l la lb lc):=hl;have HX:Hid (je w x a0 a1 a2):=hx;clear hl hx;unfold Ak.cells Lw.cells
 by_cases h0:(decide (1<=x.no))=true
 rotate_left
 ·have HF:Hid (zbA x=false):=by unfold Hid zbA;simp[h0]
  have g0:decide (1<=x.no)=false:=decide_eq_false (by have:=of_decide_eq_false (bFi h0);omega);clear h0;go_enter Tryz.func303,Tryz.ntmps303;go_wp2_with fail
  go_ret;exact⟨ze HF.o.symm,below3' _ _ _ _⟩
 ·have HF:Hid (zbA x=true):=by unfold Hid zbA;exact h0
  have g0:1<=x.no:=by have:=of_decide_eq_true h0;omega
  clear h0;go_enter Tryz.func303,Tryz.ntmps303;go_wp2_with fail
  go_ret;exact⟨ze HF.o.symm,below3' _ _ _ _⟩
end Go.Proofs.YtedangodjiolaaaGreat
