import Derived.Test.YthdfpinbnncghaaGreatM25
import Derived.Test.YthdfpinbnncghaaGreatM13
set_option maxHeartbeats 8000000
namespace Go.Proofs.YthdfpinbnncghaaGreat
open Go.RowKit
theorem zg9 (a:OA)(cap:Nat)(ws:List BA)(w:World)(hw:zJ w a ws) :
 Calls Tryz.prog 136 #[.l a ws.length cap] w fun e w'=>e=.returned (.bool (asc ws))/\Bw w w':=by
 refine(zae a cap ws w hw).mono ?_;rintro e w'⟨rfl,n,rfl⟩;exact⟨rfl,below_drewN (bRf _ _) n⟩
theorem zpQ (l:Lw)(la lb lc:OA)(lca lcb lcc:Nat)(who:BA)(vb:Int)(kd nm tm:BA)(vs hs:List BA)(sn:Int)(hd to:BA)(r:Rl)(no:Int)(a0 a1 a2:OA)(c0 c1 c2:Nat)(w:World)(hl:yH w l la lb lc)(hx:jq w (⟨who,vb,kd,nm,tm,vs,hs,sn,hd,to,r,no⟩:Ak) a0 a1 a2)(hn:zm who=false) :
 Calls Tryz.prog 144 #[.agg (l.cells la lb lc lca lcb lcc),.agg ((⟨who,vb,kd,nm,tm,vs,hs,sn,hd,to,r,no⟩:Ak).cells a0 a1 a2 c0 c1 c2)] w fun e w'=>e=.returned (.bool false)/\Bw w w':=by
 have HL:Hid (yH w l la lb lc):=hl;have HX:Hid (jq w (⟨who,vb,kd,nm,tm,vs,hs,sn,hd,to,r,no⟩:Ak) a0 a1 a2):=hx;clear hl hx;have HN:Hid (zm who=false):=hn;clear hn;unfold Ak.cells Lw.cells;dsimp only;go_enter Tryz.func144,Tryz.ntmps144;go_wp2_with fail
 obtain⟨W0,hW0,hX0,hY0,hz0,hB0⟩:=zR w #[.l la l.ss.length lca,.l lb l.ms.length lcb,.l lc l.ts.length lcc] #[.s who,.i vb,.s kd,.s nm,.s tm,.l a0 vs.length c0,.l a1 hs.length c1,.i sn,.s hd,.s to,.l a2 r.vs.length c2,.s r.kd,.s r.tm,.s r.px,.i no] 44 189;rw[<- hW0];clear hW0;have hq0:=nSl hz0;refine(zf HN.o (zi who _ HX.o.small.who)).mono ?_;rintro e w1⟨rfl,rfl⟩;go_wp2_with fail
 go_ret;exact⟨rfl,hB0⟩
theorem zpg (l:Lw)(la lb lc:OA)(lca lcb lcc:Nat)(who:BA)(vb:Int)(kd nm tm:BA)(vs hs:List BA)(sn:Int)(hd to:BA)(r:Rl)(no:Int)(a0 a1 a2:OA)(c0 c1 c2:Nat)(w:World)(hl:yH w l la lb lc)(hx:jq w (⟨who,vb,kd,nm,tm,vs,hs,sn,hd,to,r,no⟩:Ak) a0 a1 a2)(hn:zm who=true)(hv:within vb 1 6=false) :
 Calls Tryz.prog 144 #[.agg (l.cells la lb lc lca lcb lcc),.agg ((⟨who,vb,kd,nm,tm,vs,hs,sn,hd,to,r,no⟩:Ak).cells a0 a1 a2 c0 c1 c2)] w fun e w'=>e=.returned (.bool false)/\Bw w w':=by
 have HL:Hid (yH w l la lb lc):=hl;have HX:Hid (jq w (⟨who,vb,kd,nm,tm,vs,hs,sn,hd,to,r,no⟩:Ak) a0 a1 a2):=hx;clear hl hx;have HN:Hid (zm who=true):=hn;have HV:Hid (within vb 1 6=false):=hv;clear hn hv;unfold Ak.cells Lw.cells;dsimp only;go_enter Tryz.func144,Tryz.ntmps144;go_wp2_with fail
 obtain⟨W0,hW0,hX0,hY0,hz0,hB0⟩:=zR w #[.l la l.ss.length lca,.l lb l.ms.length lcb,.l lc l.ts.length lcc] #[.s who,.i vb,.s kd,.s nm,.s tm,.l a0 vs.length c0,.l a1 hs.length c1,.i sn,.s hd,.s to,.l a2 r.vs.length c2,.s r.kd,.s r.tm,.s r.px,.i no] 44 189;rw[<- hW0];clear hW0;have hq0:=nSl hz0;refine(zf HN.o (zi who _ HX.o.small.who)).mono ?_;rintro e w1⟨rfl,rfl⟩;go_wp2_with fail
 refine(zf HV.o (zM vb 1 6 _)).mono ?_;rintro e w1⟨rfl,rfl⟩;go_wp2_with fail
 go_ret;exact⟨rfl,hB0⟩
theorem zoL (l:Lw)(la lb lc:OA)(lca lcb lcc:Nat)(who:BA)(vb:Int)(kd nm tm:BA)(vs hs:List BA)(sn:Int)(hd to:BA)(r:Rl)(no:Int)(a0 a1 a2:OA)(c0 c1 c2:Nat)(w:World)(hl:yH w l la lb lc)(hx:jq w (⟨who,vb,kd,nm,tm,vs,hs,sn,hd,to,r,no⟩:Ak) a0 a1 a2)(hn:zm who=true)(hv:within vb 1 6=true)(hu:unused (qE (⟨who,vb,kd,nm,tm,vs,hs,sn,hd,to,r,no⟩:Ak))=false) :
 Calls Tryz.prog 144 #[.agg (l.cells la lb lc lca lcb lcc),.agg ((⟨who,vb,kd,nm,tm,vs,hs,sn,hd,to,r,no⟩:Ak).cells a0 a1 a2 c0 c1 c2)] w fun e w'=>e=.returned (.bool false)/\Bw w w':=by
 have HL:Hid (yH w l la lb lc):=hl;have HX:Hid (jq w (⟨who,vb,kd,nm,tm,vs,hs,sn,hd,to,r,no⟩:Ak) a0 a1 a2):=hx;clear hl hx;have HN:Hid (zm who=true):=hn;have HV:Hid (within vb 1 6=true):=hv;have HU:Hid (unused (qE (⟨who,vb,kd,nm,tm,vs,hs,sn,hd,to,r,no⟩:Ak))=false):=hu;clear hn hv hu;unfold Ak.cells Lw.cells;dsimp only;go_enter Tryz.func144,Tryz.ntmps144;go_wp2_with fail
 obtain⟨W0,hW0,hX0,hY0,hz0,hB0⟩:=zR w #[.l la l.ss.length lca,.l lb l.ms.length lcb,.l lc l.ts.length lcc] #[.s who,.i vb,.s kd,.s nm,.s tm,.l a0 vs.length c0,.l a1 hs.length c1,.i sn,.s hd,.s to,.l a2 r.vs.length c2,.s r.kd,.s r.tm,.s r.px,.i no] 44 189;rw[<- hW0];clear hW0;have hq0:=nSl hz0;refine(zf HN.o (zi who _ HX.o.small.who)).mono ?_;rintro e w1⟨rfl,rfl⟩;go_wp2_with fail
 refine(zf HV.o (zM vb 1 6 _)).mono ?_;rintro e w1⟨rfl,rfl⟩;go_wp2_with fail
 refine(y9 (⟨who,vb,kd,nm,tm,vs,hs,sn,hd,to,r,no⟩:Ak) a0 a1 a2 c0 c1 c2 _ HV.o).mono ?_;rintro e w2⟨y,b0,b1,b2,d0,d1,d2,rfl,hu,hb⟩;have hX1:=za hX0 hq0 hb;have hY1:=za hY0 hz0 hb;have hz1:=nLt hz0 hb.size;have hB1:=hB0.trans (hb.mono hB0.size);have HU0:Hid (unused y=unused (qE (⟨who,vb,kd,nm,tm,vs,hs,sn,hd,to,r,no⟩:Ak))):=hu;clear hb hX0 hY0 hz0 hB0 hq0 hu;have hq1:=nSl hz1;go_wp2_with fail
 refine(zf (HU0.o.trans HU.o) (yC y b0 b1 b2 d0 d1 d2 _)).mono ?_;rintro e w3⟨rfl,hb⟩;have hX3:=za hX1 hq1 hb;have hY3:=za hY1 hz1 hb;have hz3:=nLt hz1 hb.size;have hB3:=hB1.trans (hb.mono hB1.size);clear hb hX1 hY1 hz1 hB1 hq1 HU0;have hq3:=nSl hz3;go_wp2_with fail
 go_ret;exact⟨rfl,hB3⟩
set_option maxRecDepth 20000 in
theorem zrX (l:Lw)(la lb lc:OA)(lca lcb lcc:Nat)(who:BA)(kd nm tm:BA)(vs hs:List BA)(sn:Int)(hd to:BA)(r:Rl)(no:Int)(a0 a1 a2:OA)(c0 c1 c2:Nat)(w:World)(hl:yH w l la lb lc)(hx:jq w (⟨who,1,kd,nm,tm,vs,hs,sn,hd,to,r,no⟩:Ak) a0 a1 a2)(hn:zm who=true)(hu:unused (qE (⟨who,1,kd,nm,tm,vs,hs,sn,hd,to,r,no⟩:Ak))=true) :
 Calls Tryz.prog 144 #[.agg (l.cells la lb lc lca lcb lcc),.agg ((⟨who,1,kd,nm,tm,vs,hs,sn,hd,to,r,no⟩:Ak).cells a0 a1 a2 c0 c1 c2)] w fun e w'=>e=.returned (.bool (jk l (⟨who,1,kd,nm,tm,vs,hs,sn,hd,to,r,no⟩:Ak)))/\Bw w w':=by
 have HL:Hid (yH w l la lb lc):=hl;have HX:Hid (jq w (⟨who,1,kd,nm,tm,vs,hs,sn,hd,to,r,no⟩:Ak) a0 a1 a2):=hx;clear hl hx;have HN:Hid (zm who=true):=hn;have HV:Hid (within 1 1 6=true):=rfl;have HU:Hid (unused (qE (⟨who,1,kd,nm,tm,vs,hs,sn,hd,to,r,no⟩:Ak))=true):=hu;clear hn hu;unfold Ak.cells Lw.cells;dsimp only
 by_cases hk:zC l.ss kd=true
 rotate_left
 ·have HK:Hid (zC l.ss kd=false):=bFi hk
  clear hk;go_enter Tryz.func144,Tryz.ntmps144;go_wp2_with fail
  obtain⟨W0,hW0,hX0,hY0,hz0,hB0⟩:=zR w #[.l la l.ss.length lca,.l lb l.ms.length lcb,.l lc l.ts.length lcc] #[.s who,.i 1,.s kd,.s nm,.s tm,.l a0 vs.length c0,.l a1 hs.length c1,.i sn,.s hd,.s to,.l a2 r.vs.length c2,.s r.kd,.s r.tm,.s r.px,.i no] 44 189;rw[<- hW0];clear hW0;have hq0:=nSl hz0;refine(zf HN.o (zi who _ HX.o.small.who)).mono ?_;rintro e w1⟨rfl,rfl⟩;go_wp2_with fail
  refine(zf HV.o (zM 1 1 6 _)).mono ?_;rintro e w1⟨rfl,rfl⟩;go_wp2_with fail
  refine(y9 (⟨who,1,kd,nm,tm,vs,hs,sn,hd,to,r,no⟩:Ak) a0 a1 a2 c0 c1 c2 _ HV.o).mono ?_;rintro e w2⟨y,b0,b1,b2,d0,d1,d2,rfl,hu,hb⟩;have hX1:=za hX0 hq0 hb;have hY1:=za hY0 hz0 hb;have hz1:=nLt hz0 hb.size;have hB1:=hB0.trans (hb.mono hB0.size);have HU0:Hid (unused y=unused (qE (⟨who,1,kd,nm,tm,vs,hs,sn,hd,to,r,no⟩:Ak))):=hu;clear hb hX0 hY0 hz0 hB0 hq0 hu;have hq1:=nSl hz1;go_wp2_with fail
  refine(zf (HU0.o.trans HU.o) (yC y b0 b1 b2 d0 d1 d2 _)).mono ?_;rintro e w3⟨rfl,hb⟩;have hX3:=za hX1 hq1 hb;have hY3:=za hY1 hz1 hb;have hz3:=nLt hz1 hb.size;have hB3:=hB1.trans (hb.mono hB1.size);clear hb hX1 hY1 hz1 hB1 hq1 HU0;have hq3:=nSl hz3;go_wp2_with fail
  refine(jW _ _ l.ss kd _ (HL.o.ss.mono hB3) HK.o).mono ?_;rintro e w4⟨rfl,rfl⟩;go_wp2_with fail
  go_ret;exact⟨ze (by unfold jk zah;rw[HK.o];rfl),hB3⟩
 have HK:Hid (zC l.ss kd=true):=hk;clear hk
 by_cases hm:zm nm=true
 rotate_left
 ·have HM:Hid (zm nm=false):=bFi hm
  clear hm;go_enter Tryz.func144,Tryz.ntmps144;go_wp2_with fail
  obtain⟨W0,hW0,hX0,hY0,hz0,hB0⟩:=zR w #[.l la l.ss.length lca,.l lb l.ms.length lcb,.l lc l.ts.length lcc] #[.s who,.i 1,.s kd,.s nm,.s tm,.l a0 vs.length c0,.l a1 hs.length c1,.i sn,.s hd,.s to,.l a2 r.vs.length c2,.s r.kd,.s r.tm,.s r.px,.i no] 44 189;rw[<- hW0];clear hW0;have hq0:=nSl hz0;refine(zf HN.o (zi who _ HX.o.small.who)).mono ?_;rintro e w1⟨rfl,rfl⟩;go_wp2_with fail
  refine(zf HV.o (zM 1 1 6 _)).mono ?_;rintro e w1⟨rfl,rfl⟩;go_wp2_with fail
  refine(y9 (⟨who,1,kd,nm,tm,vs,hs,sn,hd,to,r,no⟩:Ak) a0 a1 a2 c0 c1 c2 _ HV.o).mono ?_;rintro e w2⟨y,b0,b1,b2,d0,d1,d2,rfl,hu,hb⟩;have hX1:=za hX0 hq0 hb;have hY1:=za hY0 hz0 hb;have hz1:=nLt hz0 hb.size;have hB1:=hB0.trans (hb.mono hB0.size);have HU0:Hid (unused y=unused (qE (⟨who,1,kd,nm,tm,vs,hs,sn,hd,to,r,no⟩:Ak))):=hu;clear hb hX0 hY0 hz0 hB0 hq0 hu;have hq1:=nSl hz1;go_wp2_with fail
  refine(zf (HU0.o.trans HU.o) (yC y b0 b1 b2 d0 d1 d2 _)).mono ?_;rintro e w3⟨rfl,hb⟩;have hX3:=za hX1 hq1 hb;have hY3:=za hY1 hz1 hb;have hz3:=nLt hz1 hb.size;have hB3:=hB1.trans (hb.mono hB1.size);clear hb hX1 hY1 hz1 hB1 hq1 HU0;have hq3:=nSl hz3;go_wp2_with fail
  refine(yN _ _ l.ss kd _ (HL.o.ss.mono hB3) HK.o).mono ?_;rintro e w4⟨k,hk,rfl,hsh,rfl⟩;go_wp2_with fail
  refine(zf HM.o (zi nm _ HX.o.small.nm)).mono ?_;rintro e w5⟨rfl,rfl⟩;go_wp2_with fail
  go_ret;exact⟨ze (by unfold jk zah;rw[HK.o,HM.o];rfl),hB3⟩
 have HM:Hid (zm nm=true):=hm;clear hm;have HF:Hid (zah l (⟨who,1,kd,nm,tm,vs,hs,sn,hd,to,r,no⟩:Ak)=true):=by unfold Hid zah;rw[HK.o,HM.o];rfl
 go_enter Tryz.func144,Tryz.ntmps144;go_wp2_with fail
 obtain⟨W0,hW0,hX0,hY0,hz0,hB0⟩:=zR w #[.l la l.ss.length lca,.l lb l.ms.length lcb,.l lc l.ts.length lcc] #[.s who,.i 1,.s kd,.s nm,.s tm,.l a0 vs.length c0,.l a1 hs.length c1,.i sn,.s hd,.s to,.l a2 r.vs.length c2,.s r.kd,.s r.tm,.s r.px,.i no] 44 189;rw[<- hW0];clear hW0;have hq0:=nSl hz0;refine(zf HN.o (zi who _ HX.o.small.who)).mono ?_;rintro e w1⟨rfl,rfl⟩;go_wp2_with fail
 refine(zf HV.o (zM 1 1 6 _)).mono ?_;rintro e w1⟨rfl,rfl⟩;go_wp2_with fail
 refine(y9 (⟨who,1,kd,nm,tm,vs,hs,sn,hd,to,r,no⟩:Ak) a0 a1 a2 c0 c1 c2 _ HV.o).mono ?_;rintro e w2⟨y,b0,b1,b2,d0,d1,d2,rfl,hu,hb⟩;have hX1:=za hX0 hq0 hb;have hY1:=za hY0 hz0 hb;have hz1:=nLt hz0 hb.size;have hB1:=hB0.trans (hb.mono hB0.size);have HU0:Hid (unused y=unused (qE (⟨who,1,kd,nm,tm,vs,hs,sn,hd,to,r,no⟩:Ak))):=hu;clear hb hX0 hY0 hz0 hB0 hq0 hu;have hq1:=nSl hz1;go_wp2_with fail
 refine(zf (HU0.o.trans HU.o) (yC y b0 b1 b2 d0 d1 d2 _)).mono ?_;rintro e w3⟨rfl,hb⟩;have hX3:=za hX1 hq1 hb;have hY3:=za hY1 hz1 hb;have hz3:=nLt hz1 hb.size;have hB3:=hB1.trans (hb.mono hB1.size);clear hb hX1 hY1 hz1 hB1 hq1 HU0;have hq3:=nSl hz3;go_wp2_with fail
 refine(yN _ _ l.ss kd _ (HL.o.ss.mono hB3) HK.o).mono ?_;rintro e w4⟨k,hk,rfl,hsh,rfl⟩;go_wp2_with fail
 refine(zf HM.o (zi nm _ HX.o.small.nm)).mono ?_;rintro e w5⟨rfl,rfl⟩;go_wp2_with fail
 have HC:Hid (zb4 l (⟨who,1,kd,nm,tm,vs,hs,sn,hd,to,r,no⟩:Ak)=decide (vs.length=l.ss[k].fs.length)):=by unfold Hid zb4;rw[hsh]
 obtain⟨sb,so,hsa,hsb,hrw⟩:=HL.o.ss.rows (fun e=>by rw[e]at hk;cases hk);obtain⟨fa,fcap,hsi⟩:=hrw k hk;subst hsa;have e1:=(hB3.drew.cell (p:=(aD sb (so+k*2+1))) hsb).trans hsi.list;clear hrw hsi;have hkI:(k:Int)<(l.ss.length:Int):=by omega
 have hX:=za hX3 hq3 (bRf w5.heap.size w5).drew;have hY:=za hY3 hz3 (bRf w5.heap.size w5).drew;have hz:w.heap.size+1<w5.drew.heap.size:=hz3;have hq:w.heap.size<w5.drew.heap.size:=hq3;have hB:=hB3.drew;have hsz:sb<w5.drew.heap.size:=nLt hsb hB.size;have hT0:=HL.o.ts.mono hB;have hH0:=HX.o.hs.mono hB;clear hX3 hY3 hz3 hq3 hB3 hsh;refine wp_region_held_drew (S:=fun w'=>(∀j,w'.cell? (aD w.heap.size j)=(#[.l (some (aD sb so)) l.ss.length lca,.l lb l.ms.length lcb,.l lc l.ts.length lcc]:AV)[j]?)/\(∀j,w'.cell? (aD (w.heap.size+1) j)=(#[.s who,.i 1,.s kd,.s nm,.s tm,.l a0 vs.length c0,.l a1 hs.length c1,.i sn,.s hd,.s to,.l a2 r.vs.length c2,.s r.kd,.s r.tm,.s r.px,.i no]:AV)[j]?)/\w'.cell? (aD sb (so+k*2+1))=some (.l fa l.ss[k].fs.length fcap)) (by kernel_rfl) ⟨hX,hY,e1⟩ (fun H_=>?_);refine tG 0 ?_;refine tG 1 ?_;refine tG 2 ?_;refine tG 3 ?_;refine tG 4 ?_;refine tG 5 ?_;refine tG 6 ?_;refine tG 7 ?_;refine tG 8 ?_;refine tG 9 ?_
 by_cases t1:vs.length=l.ss[k].fs.length
 ·have g1:((vs.length:Int) == (l.ss[k].fs.length:Int))=true:=by simp[t1]
  have HT1:Hid (vs.length=l.ss[k].fs.length):=t1;clear t1;refine tG 10 ?_;refine tG 11 ?_;refine tG 12 ?_;refine tG 13 ?_;refine tG 14 ?_;refine tG 15 ?_
  by_cases t2:yD l.ts tm=true
  ·refine cH 16 rfl fun K hK=>?_
   go_simp
   refine(zf t2 (zb8 _ _ l.ts tm _ hT0)).mono ?_;rintro e w6⟨rfl,rfl⟩
   (try go_wp2_with fail)
   refine hK.out _ _ ?_ (fun H_=>?_)
   ·exact H_
   clear hK K
   (try simp only[Act.put,sA,s0,sS])
   refine tG 17 ?_;refine tG 18 ?_;refine tG 19 ?_;refine tG 20 ?_;refine tG 21 ?_
   by_cases t3:hs.length<=3
   ·have g3:(hs.length:Int)<=3:=by omega
    have HT3:Hid (hs.length<=3):=t3;clear t3;refine tG 22 ?_;refine tG 23 ?_;refine tG 24 ?_;refine tG 25 ?_;refine tG 26 ?_;refine cH 27 rfl fun K hK=>?_
    go_simp
    refine(zg9 _ _ hs _ hH0).mono ?_;rintro e w6⟨rfl,hb⟩;have hX6:=za hX hq hb;have hY6:=za hY hz hb;have e6:=(hb.cell (p:=(aD sb (so+k*2+1))) hsz).trans e1;have hB6:=hB.trans (hb.mono hB.size);clear hb
    (try go_wp2_with fail)
    refine hK.out _ _ ?_ (fun H_=>?_)
    ·exact⟨hX6,hY6,e6⟩
    clear hK K
    (try simp only[Act.put,sA,s0,sS])
    refine tG 28 ?_;refine tG 29 ?_;refine wpAnyH_done (by kernel_rfl) ?_ _;go_wp2_with fail
    go_ret;exact⟨ze (by unfold jk;rw[HF.o,HC.o,decide_eq_true HT1.o];dsimp only;rw[t2,decide_eq_true HT3.o];rfl),hB6⟩
   ·have g3:¬(hs.length:Int)<=3:=by omega
    have HT3:Hid (¬hs.length<=3):=t3;clear t3;refine tG 22 ?_;refine tG 23 ?_;refine tG 24 ?_;refine kG 25 ?_;refine kG 26 ?_;refine kG 27 ?_;refine tG 28 ?_;refine tG 29 ?_;refine wpAnyH_done (by kernel_rfl) ?_ _;go_wp2_with fail
    go_ret;exact⟨ze (by unfold jk;dsimp only;rw[decide_eq_false HT3.o];simp),hB⟩
  ·refine cH 16 rfl fun K hK=>?_
   go_simp
   refine(zf (bFi t2) (zb8 _ _ l.ts tm _ hT0)).mono ?_;rintro e w6⟨rfl,rfl⟩
   (try go_wp2_with fail)
   refine hK.out _ _ ?_ (fun H_=>?_)
   ·exact H_
   clear hK K
   (try simp only[Act.put,sA,s0,sS])
   refine tG 17 ?_;refine tG 18 ?_;refine kG 19 ?_;refine kG 20 ?_;refine kG 21 ?_;refine kG 22 ?_;refine tG 23 ?_;refine tG 24 ?_;refine kG 25 ?_;refine kG 26 ?_;refine kG 27 ?_;refine tG 28 ?_;refine tG 29 ?_;refine wpAnyH_done (by kernel_rfl) ?_ _;go_wp2_with fail
   go_ret;exact⟨ze (by unfold jk;rw[HF.o];dsimp only;rw[bFi t2];rfl),hB⟩
 ·have g1:((vs.length:Int) == (l.ss[k].fs.length:Int))=false:=by simp;omega
  have HT1:Hid (¬vs.length=l.ss[k].fs.length):=t1;clear t1;refine tG 10 ?_;refine tG 11 ?_;refine kG 12 ?_;refine kG 13 ?_;refine kG 14 ?_;refine kG 15 ?_;refine kG 16 ?_;refine tG 17 ?_;refine tG 18 ?_;refine kG 19 ?_;refine kG 20 ?_;refine kG 21 ?_;refine kG 22 ?_;refine tG 23 ?_;refine tG 24 ?_;refine kG 25 ?_;refine kG 26 ?_;refine kG 27 ?_;refine tG 28 ?_;refine tG 29 ?_;refine wpAnyH_done (by kernel_rfl) ?_ _;go_wp2_with fail
  go_ret;exact⟨ze (by unfold jk;rw[HF.o,HC.o,decide_eq_false HT1.o];simp),hB⟩
set_option maxRecDepth 20000 in
theorem zr0 (l:Lw)(la lb lc:OA)(lca lcb lcc:Nat)(who:BA)(kd nm tm:BA)(vs hs:List BA)(sn:Int)(hd to:BA)(r:Rl)(no:Int)(a0 a1 a2:OA)(c0 c1 c2:Nat)(w:World)(hl:yH w l la lb lc)(hx:jq w (⟨who,2,kd,nm,tm,vs,hs,sn,hd,to,r,no⟩:Ak) a0 a1 a2)(hn:zm who=true)(hu:unused (qE (⟨who,2,kd,nm,tm,vs,hs,sn,hd,to,r,no⟩:Ak))=true) :
 Calls Tryz.prog 144 #[.agg (l.cells la lb lc lca lcb lcc),.agg ((⟨who,2,kd,nm,tm,vs,hs,sn,hd,to,r,no⟩:Ak).cells a0 a1 a2 c0 c1 c2)] w fun e w'=>e=.returned (.bool (qW l (⟨who,2,kd,nm,tm,vs,hs,sn,hd,to,r,no⟩:Ak)))/\Bw w w':=by
 have HL:Hid (yH w l la lb lc):=hl;have HX:Hid (jq w (⟨who,2,kd,nm,tm,vs,hs,sn,hd,to,r,no⟩:Ak) a0 a1 a2):=hx;clear hl hx;have HN:Hid (zm who=true):=hn;have HV:Hid (within 2 1 6=true):=rfl;have HU:Hid (unused (qE (⟨who,2,kd,nm,tm,vs,hs,sn,hd,to,r,no⟩:Ak))=true):=hu;clear hn hu;unfold Ak.cells Lw.cells;dsimp only
 by_cases hk:zC l.ss kd=true
 rotate_left
 ·have HK:Hid (zC l.ss kd=false):=bFi hk
  clear hk;go_enter Tryz.func144,Tryz.ntmps144;go_wp2_with fail
  obtain⟨W0,hW0,hX0,hY0,hz0,hB0⟩:=zR w #[.l la l.ss.length lca,.l lb l.ms.length lcb,.l lc l.ts.length lcc] #[.s who,.i 2,.s kd,.s nm,.s tm,.l a0 vs.length c0,.l a1 hs.length c1,.i sn,.s hd,.s to,.l a2 r.vs.length c2,.s r.kd,.s r.tm,.s r.px,.i no] 44 189;rw[<- hW0];clear hW0;have hq0:=nSl hz0;refine(zf HN.o (zi who _ HX.o.small.who)).mono ?_;rintro e w1⟨rfl,rfl⟩;go_wp2_with fail
  refine(zf HV.o (zM 2 1 6 _)).mono ?_;rintro e w1⟨rfl,rfl⟩;go_wp2_with fail
  refine(y9 (⟨who,2,kd,nm,tm,vs,hs,sn,hd,to,r,no⟩:Ak) a0 a1 a2 c0 c1 c2 _ HV.o).mono ?_;rintro e w2⟨y,b0,b1,b2,d0,d1,d2,rfl,hu,hb⟩;have hX1:=za hX0 hq0 hb;have hY1:=za hY0 hz0 hb;have hz1:=nLt hz0 hb.size;have hB1:=hB0.trans (hb.mono hB0.size);have HU0:Hid (unused y=unused (qE (⟨who,2,kd,nm,tm,vs,hs,sn,hd,to,r,no⟩:Ak))):=hu;clear hb hX0 hY0 hz0 hB0 hq0 hu;have hq1:=nSl hz1;go_wp2_with fail
  refine(zf (HU0.o.trans HU.o) (yC y b0 b1 b2 d0 d1 d2 _)).mono ?_;rintro e w3⟨rfl,hb⟩;have hX3:=za hX1 hq1 hb;have hY3:=za hY1 hz1 hb;have hz3:=nLt hz1 hb.size;have hB3:=hB1.trans (hb.mono hB1.size);clear hb hX1 hY1 hz1 hB1 hq1 HU0;have hq3:=nSl hz3;go_wp2_with fail
  refine(jW _ _ l.ss kd _ (HL.o.ss.mono hB3) HK.o).mono ?_;rintro e w4⟨rfl,rfl⟩;go_wp2_with fail
  go_ret;exact⟨ze (by unfold qW zah;rw[HK.o];rfl),hB3⟩
 have HK:Hid (zC l.ss kd=true):=hk;clear hk
 by_cases hm:zm nm=true
 rotate_left
 ·have HM:Hid (zm nm=false):=bFi hm
  clear hm;go_enter Tryz.func144,Tryz.ntmps144;go_wp2_with fail
  obtain⟨W0,hW0,hX0,hY0,hz0,hB0⟩:=zR w #[.l la l.ss.length lca,.l lb l.ms.length lcb,.l lc l.ts.length lcc] #[.s who,.i 2,.s kd,.s nm,.s tm,.l a0 vs.length c0,.l a1 hs.length c1,.i sn,.s hd,.s to,.l a2 r.vs.length c2,.s r.kd,.s r.tm,.s r.px,.i no] 44 189;rw[<- hW0];clear hW0;have hq0:=nSl hz0;refine(zf HN.o (zi who _ HX.o.small.who)).mono ?_;rintro e w1⟨rfl,rfl⟩;go_wp2_with fail
  refine(zf HV.o (zM 2 1 6 _)).mono ?_;rintro e w1⟨rfl,rfl⟩;go_wp2_with fail
  refine(y9 (⟨who,2,kd,nm,tm,vs,hs,sn,hd,to,r,no⟩:Ak) a0 a1 a2 c0 c1 c2 _ HV.o).mono ?_;rintro e w2⟨y,b0,b1,b2,d0,d1,d2,rfl,hu,hb⟩;have hX1:=za hX0 hq0 hb;have hY1:=za hY0 hz0 hb;have hz1:=nLt hz0 hb.size;have hB1:=hB0.trans (hb.mono hB0.size);have HU0:Hid (unused y=unused (qE (⟨who,2,kd,nm,tm,vs,hs,sn,hd,to,r,no⟩:Ak))):=hu;clear hb hX0 hY0 hz0 hB0 hq0 hu;have hq1:=nSl hz1;go_wp2_with fail
  refine(zf (HU0.o.trans HU.o) (yC y b0 b1 b2 d0 d1 d2 _)).mono ?_;rintro e w3⟨rfl,hb⟩;have hX3:=za hX1 hq1 hb;have hY3:=za hY1 hz1 hb;have hz3:=nLt hz1 hb.size;have hB3:=hB1.trans (hb.mono hB1.size);clear hb hX1 hY1 hz1 hB1 hq1 HU0;have hq3:=nSl hz3;go_wp2_with fail
  refine(yN _ _ l.ss kd _ (HL.o.ss.mono hB3) HK.o).mono ?_;rintro e w4⟨k,hk,rfl,hsh,rfl⟩;go_wp2_with fail
  refine(zf HM.o (zi nm _ HX.o.small.nm)).mono ?_;rintro e w5⟨rfl,rfl⟩;go_wp2_with fail
  go_ret;exact⟨ze (by unfold qW zah;rw[HK.o,HM.o];rfl),hB3⟩
 have HM:Hid (zm nm=true):=hm;clear hm;have HF:Hid (zah l (⟨who,2,kd,nm,tm,vs,hs,sn,hd,to,r,no⟩:Ak)=true):=by unfold Hid zah;rw[HK.o,HM.o];rfl
 go_enter Tryz.func144,Tryz.ntmps144;go_wp2_with fail
 obtain⟨W0,hW0,hX0,hY0,hz0,hB0⟩:=zR w #[.l la l.ss.length lca,.l lb l.ms.length lcb,.l lc l.ts.length lcc] #[.s who,.i 2,.s kd,.s nm,.s tm,.l a0 vs.length c0,.l a1 hs.length c1,.i sn,.s hd,.s to,.l a2 r.vs.length c2,.s r.kd,.s r.tm,.s r.px,.i no] 44 189;rw[<- hW0];clear hW0;have hq0:=nSl hz0;refine(zf HN.o (zi who _ HX.o.small.who)).mono ?_;rintro e w1⟨rfl,rfl⟩;go_wp2_with fail
 refine(zf HV.o (zM 2 1 6 _)).mono ?_;rintro e w1⟨rfl,rfl⟩;go_wp2_with fail
 refine(y9 (⟨who,2,kd,nm,tm,vs,hs,sn,hd,to,r,no⟩:Ak) a0 a1 a2 c0 c1 c2 _ HV.o).mono ?_;rintro e w2⟨y,b0,b1,b2,d0,d1,d2,rfl,hu,hb⟩;have hX1:=za hX0 hq0 hb;have hY1:=za hY0 hz0 hb;have hz1:=nLt hz0 hb.size;have hB1:=hB0.trans (hb.mono hB0.size);have HU0:Hid (unused y=unused (qE (⟨who,2,kd,nm,tm,vs,hs,sn,hd,to,r,no⟩:Ak))):=hu;clear hb hX0 hY0 hz0 hB0 hq0 hu;have hq1:=nSl hz1;go_wp2_with fail
 refine(zf (HU0.o.trans HU.o) (yC y b0 b1 b2 d0 d1 d2 _)).mono ?_;rintro e w3⟨rfl,hb⟩;have hX3:=za hX1 hq1 hb;have hY3:=za hY1 hz1 hb;have hz3:=nLt hz1 hb.size;have hB3:=hB1.trans (hb.mono hB1.size);clear hb hX1 hY1 hz1 hB1 hq1 HU0;have hq3:=nSl hz3;go_wp2_with fail
 refine(yN _ _ l.ss kd _ (HL.o.ss.mono hB3) HK.o).mono ?_;rintro e w4⟨k,hk,rfl,hsh,rfl⟩;go_wp2_with fail
 refine(zf HM.o (zi nm _ HX.o.small.nm)).mono ?_;rintro e w5⟨rfl,rfl⟩;go_wp2_with fail
 have HC:Hid (zb4 l (⟨who,2,kd,nm,tm,vs,hs,sn,hd,to,r,no⟩:Ak)=decide (vs.length=l.ss[k].fs.length)):=by unfold Hid zb4;rw[hsh]
 obtain⟨sb,so,hsa,hsb,hrw⟩:=HL.o.ss.rows (fun e=>by rw[e]at hk;cases hk);obtain⟨fa,fcap,hsi⟩:=hrw k hk;subst hsa;have e1:=(hB3.drew.cell (p:=(aD sb (so+k*2+1))) hsb).trans hsi.list;clear hrw hsi;have hkI:(k:Int)<(l.ss.length:Int):=by omega
 have hX:=za hX3 hq3 (bRf w5.heap.size w5).drew;have hY:=za hY3 hz3 (bRf w5.heap.size w5).drew;have hz:w.heap.size+1<w5.drew.heap.size:=hz3;have hq:w.heap.size<w5.drew.heap.size:=hq3;have hB:=hB3.drew;have hsz:sb<w5.drew.heap.size:=nLt hsb hB.size;have hT0:=HL.o.ts.mono hB;have hH0:=HX.o.hs.mono hB;clear hX3 hY3 hz3 hq3 hB3 hsh;refine wp_region_held_drew (S:=fun w'=>(∀j,w'.cell? (aD w.heap.size j)=(#[.l (some (aD sb so)) l.ss.length lca,.l lb l.ms.length lcb,.l lc l.ts.length lcc]:AV)[j]?)/\(∀j,w'.cell? (aD (w.heap.size+1) j)=(#[.s who,.i 2,.s kd,.s nm,.s tm,.l a0 vs.length c0,.l a1 hs.length c1,.i sn,.s hd,.s to,.l a2 r.vs.length c2,.s r.kd,.s r.tm,.s r.px,.i no]:AV)[j]?)/\w'.cell? (aD sb (so+k*2+1))=some (.l fa l.ss[k].fs.length fcap)) (by kernel_rfl) ⟨hX,hY,e1⟩ (fun H_=>?_);refine tG 0 ?_;refine tG 1 ?_;refine tG 2 ?_;refine tG 3 ?_;refine tG 4 ?_;refine tG 5 ?_;refine tG 6 ?_;refine tG 7 ?_;refine tG 8 ?_;refine tG 9 ?_
 by_cases t1:vs.length=l.ss[k].fs.length
 ·have g1:((vs.length:Int) == (l.ss[k].fs.length:Int))=true:=by simp[t1]
  have HT1:Hid (vs.length=l.ss[k].fs.length):=t1;clear t1;refine tG 10 ?_;refine tG 11 ?_;refine tG 12 ?_;refine tG 13 ?_;refine tG 14 ?_;refine tG 15 ?_;refine tG 16 ?_;refine wpAnyH_done (by kernel_rfl) ?_ _;go_wp2_with fail
  go_ret;exact⟨ze (by unfold qW;rw[HF.o,HC.o,decide_eq_true HT1.o];rfl),hB⟩
 ·have g1:((vs.length:Int) == (l.ss[k].fs.length:Int))=false:=by simp;omega
  have HT1:Hid (¬vs.length=l.ss[k].fs.length):=t1;clear t1;refine tG 10 ?_;refine tG 11 ?_;refine kG 12 ?_;refine kG 13 ?_;refine kG 14 ?_;refine tG 15 ?_;refine tG 16 ?_;refine wpAnyH_done (by kernel_rfl) ?_ _;go_wp2_with fail
  go_ret;exact⟨ze (by unfold qW;rw[HF.o,HC.o,decide_eq_false HT1.o];rfl),hB⟩
set_option maxRecDepth 20000 in
theorem zr7 (l:Lw)(la lb lc:OA)(lca lcb lcc:Nat)(who:BA)(kd nm tm:BA)(vs hs:List BA)(sn:Int)(hd to:BA)(r:Rl)(no:Int)(a0 a1 a2:OA)(c0 c1 c2:Nat)(w:World)(hl:yH w l la lb lc)(hx:jq w (⟨who,3,kd,nm,tm,vs,hs,sn,hd,to,r,no⟩:Ak) a0 a1 a2)(hn:zm who=true)(hu:unused (qE (⟨who,3,kd,nm,tm,vs,hs,sn,hd,to,r,no⟩:Ak))=true) :
 Calls Tryz.prog 144 #[.agg (l.cells la lb lc lca lcb lcc),.agg ((⟨who,3,kd,nm,tm,vs,hs,sn,hd,to,r,no⟩:Ak).cells a0 a1 a2 c0 c1 c2)] w fun e w'=>e=.returned (.bool (zbQ l (⟨who,3,kd,nm,tm,vs,hs,sn,hd,to,r,no⟩:Ak)))/\Bw w w':=by
 have HL:Hid (yH w l la lb lc):=hl;have HX:Hid (jq w (⟨who,3,kd,nm,tm,vs,hs,sn,hd,to,r,no⟩:Ak) a0 a1 a2):=hx;clear hl hx;have HN:Hid (zm who=true):=hn;have HV:Hid (within 3 1 6=true):=rfl;have HU:Hid (unused (qE (⟨who,3,kd,nm,tm,vs,hs,sn,hd,to,r,no⟩:Ak))=true):=hu;clear hn hu;unfold Ak.cells Lw.cells;dsimp only
 by_cases hk:zC l.ss kd=true
 rotate_left
 ·have HK:Hid (zC l.ss kd=false):=bFi hk
  clear hk;go_enter Tryz.func144,Tryz.ntmps144;go_wp2_with fail
  obtain⟨W0,hW0,hX0,hY0,hz0,hB0⟩:=zR w #[.l la l.ss.length lca,.l lb l.ms.length lcb,.l lc l.ts.length lcc] #[.s who,.i 3,.s kd,.s nm,.s tm,.l a0 vs.length c0,.l a1 hs.length c1,.i sn,.s hd,.s to,.l a2 r.vs.length c2,.s r.kd,.s r.tm,.s r.px,.i no] 44 189;rw[<- hW0];clear hW0;have hq0:=nSl hz0;refine(zf HN.o (zi who _ HX.o.small.who)).mono ?_;rintro e w1⟨rfl,rfl⟩;go_wp2_with fail
  refine(zf HV.o (zM 3 1 6 _)).mono ?_;rintro e w1⟨rfl,rfl⟩;go_wp2_with fail
  refine(y9 (⟨who,3,kd,nm,tm,vs,hs,sn,hd,to,r,no⟩:Ak) a0 a1 a2 c0 c1 c2 _ HV.o).mono ?_;rintro e w2⟨y,b0,b1,b2,d0,d1,d2,rfl,hu,hb⟩;have hX1:=za hX0 hq0 hb;have hY1:=za hY0 hz0 hb;have hz1:=nLt hz0 hb.size;have hB1:=hB0.trans (hb.mono hB0.size);have HU0:Hid (unused y=unused (qE (⟨who,3,kd,nm,tm,vs,hs,sn,hd,to,r,no⟩:Ak))):=hu;clear hb hX0 hY0 hz0 hB0 hq0 hu;have hq1:=nSl hz1;go_wp2_with fail
  refine(zf (HU0.o.trans HU.o) (yC y b0 b1 b2 d0 d1 d2 _)).mono ?_;rintro e w3⟨rfl,hb⟩;have hX3:=za hX1 hq1 hb;have hY3:=za hY1 hz1 hb;have hz3:=nLt hz1 hb.size;have hB3:=hB1.trans (hb.mono hB1.size);clear hb hX1 hY1 hz1 hB1 hq1 HU0;have hq3:=nSl hz3;go_wp2_with fail
  refine(jW _ _ l.ss kd _ (HL.o.ss.mono hB3) HK.o).mono ?_;rintro e w4⟨rfl,rfl⟩;go_wp2_with fail
  go_ret;exact⟨ze (by unfold zbQ zah;rw[HK.o];rfl),hB3⟩
 have HK:Hid (zC l.ss kd=true):=hk;clear hk
 by_cases hm:zm nm=true
 rotate_left
 ·have HM:Hid (zm nm=false):=bFi hm
  clear hm;go_enter Tryz.func144,Tryz.ntmps144;go_wp2_with fail
  obtain⟨W0,hW0,hX0,hY0,hz0,hB0⟩:=zR w #[.l la l.ss.length lca,.l lb l.ms.length lcb,.l lc l.ts.length lcc] #[.s who,.i 3,.s kd,.s nm,.s tm,.l a0 vs.length c0,.l a1 hs.length c1,.i sn,.s hd,.s to,.l a2 r.vs.length c2,.s r.kd,.s r.tm,.s r.px,.i no] 44 189;rw[<- hW0];clear hW0;have hq0:=nSl hz0;refine(zf HN.o (zi who _ HX.o.small.who)).mono ?_;rintro e w1⟨rfl,rfl⟩;go_wp2_with fail
  refine(zf HV.o (zM 3 1 6 _)).mono ?_;rintro e w1⟨rfl,rfl⟩;go_wp2_with fail
  refine(y9 (⟨who,3,kd,nm,tm,vs,hs,sn,hd,to,r,no⟩:Ak) a0 a1 a2 c0 c1 c2 _ HV.o).mono ?_;rintro e w2⟨y,b0,b1,b2,d0,d1,d2,rfl,hu,hb⟩;have hX1:=za hX0 hq0 hb;have hY1:=za hY0 hz0 hb;have hz1:=nLt hz0 hb.size;have hB1:=hB0.trans (hb.mono hB0.size);have HU0:Hid (unused y=unused (qE (⟨who,3,kd,nm,tm,vs,hs,sn,hd,to,r,no⟩:Ak))):=hu;clear hb hX0 hY0 hz0 hB0 hq0 hu;have hq1:=nSl hz1;go_wp2_with fail
  refine(zf (HU0.o.trans HU.o) (yC y b0 b1 b2 d0 d1 d2 _)).mono ?_;rintro e w3⟨rfl,hb⟩;have hX3:=za hX1 hq1 hb;have hY3:=za hY1 hz1 hb;have hz3:=nLt hz1 hb.size;have hB3:=hB1.trans (hb.mono hB1.size);clear hb hX1 hY1 hz1 hB1 hq1 HU0;have hq3:=nSl hz3;go_wp2_with fail
  refine(yN _ _ l.ss kd _ (HL.o.ss.mono hB3) HK.o).mono ?_;rintro e w4⟨k,hk,rfl,hsh,rfl⟩;go_wp2_with fail
  refine(zf HM.o (zi nm _ HX.o.small.nm)).mono ?_;rintro e w5⟨rfl,rfl⟩;go_wp2_with fail
  go_ret;exact⟨ze (by unfold zbQ zah;rw[HK.o,HM.o];rfl),hB3⟩
 have HM:Hid (zm nm=true):=hm;clear hm;have HF:Hid (zah l (⟨who,3,kd,nm,tm,vs,hs,sn,hd,to,r,no⟩:Ak)=true):=by unfold Hid zah;rw[HK.o,HM.o];rfl
 go_enter Tryz.func144,Tryz.ntmps144;go_wp2_with fail
 obtain⟨W0,hW0,hX0,hY0,hz0,hB0⟩:=zR w #[.l la l.ss.length lca,.l lb l.ms.length lcb,.l lc l.ts.length lcc] #[.s who,.i 3,.s kd,.s nm,.s tm,.l a0 vs.length c0,.l a1 hs.length c1,.i sn,.s hd,.s to,.l a2 r.vs.length c2,.s r.kd,.s r.tm,.s r.px,.i no] 44 189;rw[<- hW0];clear hW0;have hq0:=nSl hz0;refine(zf HN.o (zi who _ HX.o.small.who)).mono ?_;rintro e w1⟨rfl,rfl⟩;go_wp2_with fail
 refine(zf HV.o (zM 3 1 6 _)).mono ?_;rintro e w1⟨rfl,rfl⟩;go_wp2_with fail
 refine(y9 (⟨who,3,kd,nm,tm,vs,hs,sn,hd,to,r,no⟩:Ak) a0 a1 a2 c0 c1 c2 _ HV.o).mono ?_;rintro e w2⟨y,b0,b1,b2,d0,d1,d2,rfl,hu,hb⟩;have hX1:=za hX0 hq0 hb;have hY1:=za hY0 hz0 hb;have hz1:=nLt hz0 hb.size;have hB1:=hB0.trans (hb.mono hB0.size);have HU0:Hid (unused y=unused (qE (⟨who,3,kd,nm,tm,vs,hs,sn,hd,to,r,no⟩:Ak))):=hu;clear hb hX0 hY0 hz0 hB0 hq0 hu;have hq1:=nSl hz1;go_wp2_with fail
 refine(zf (HU0.o.trans HU.o) (yC y b0 b1 b2 d0 d1 d2 _)).mono ?_;rintro e w3⟨rfl,hb⟩;have hX3:=za hX1 hq1 hb;have hY3:=za hY1 hz1 hb;have hz3:=nLt hz1 hb.size;have hB3:=hB1.trans (hb.mono hB1.size);clear hb hX1 hY1 hz1 hB1 hq1 HU0;have hq3:=nSl hz3;go_wp2_with fail
 refine(yN _ _ l.ss kd _ (HL.o.ss.mono hB3) HK.o).mono ?_;rintro e w4⟨k,hk,rfl,hsh,rfl⟩;go_wp2_with fail
 refine(zf HM.o (zi nm _ HX.o.small.nm)).mono ?_;rintro e w5⟨rfl,rfl⟩;go_wp2_with fail
 go_ret;exact⟨ze (by unfold zbQ;rw[HF.o];rfl),hB3⟩
set_option maxRecDepth 20000 in
theorem zr9 (l:Lw)(la lb lc:OA)(lca lcb lcc:Nat)(who:BA)(kd nm tm:BA)(vs hs:List BA)(sn:Int)(hd to:BA)(r:Rl)(no:Int)(a0 a1 a2:OA)(c0 c1 c2:Nat)(w:World)(hl:yH w l la lb lc)(hx:jq w (⟨who,4,kd,nm,tm,vs,hs,sn,hd,to,r,no⟩:Ak) a0 a1 a2)(hn:zm who=true)(hu:unused (qE (⟨who,4,kd,nm,tm,vs,hs,sn,hd,to,r,no⟩:Ak))=true) :
 Calls Tryz.prog 144 #[.agg (l.cells la lb lc lca lcb lcc),.agg ((⟨who,4,kd,nm,tm,vs,hs,sn,hd,to,r,no⟩:Ak).cells a0 a1 a2 c0 c1 c2)] w fun e w'=>e=.returned (.bool (zai l (⟨who,4,kd,nm,tm,vs,hs,sn,hd,to,r,no⟩:Ak)))/\Bw w w':=by
 have HL:Hid (yH w l la lb lc):=hl;have HX:Hid (jq w (⟨who,4,kd,nm,tm,vs,hs,sn,hd,to,r,no⟩:Ak) a0 a1 a2):=hx;clear hl hx;have HN:Hid (zm who=true):=hn;have HV:Hid (within 4 1 6=true):=rfl;have HU:Hid (unused (qE (⟨who,4,kd,nm,tm,vs,hs,sn,hd,to,r,no⟩:Ak))=true):=hu;clear hn hu;unfold Ak.cells Lw.cells;dsimp only
 by_cases hk:zC l.ss kd=true
 rotate_left
 ·have HK:Hid (zC l.ss kd=false):=bFi hk
  clear hk;go_enter Tryz.func144,Tryz.ntmps144;go_wp2_with fail
  obtain⟨W0,hW0,hX0,hY0,hz0,hB0⟩:=zR w #[.l la l.ss.length lca,.l lb l.ms.length lcb,.l lc l.ts.length lcc] #[.s who,.i 4,.s kd,.s nm,.s tm,.l a0 vs.length c0,.l a1 hs.length c1,.i sn,.s hd,.s to,.l a2 r.vs.length c2,.s r.kd,.s r.tm,.s r.px,.i no] 44 189;rw[<- hW0];clear hW0;have hq0:=nSl hz0;refine(zf HN.o (zi who _ HX.o.small.who)).mono ?_;rintro e w1⟨rfl,rfl⟩;go_wp2_with fail
  refine(zf HV.o (zM 4 1 6 _)).mono ?_;rintro e w1⟨rfl,rfl⟩;go_wp2_with fail
  refine(y9 (⟨who,4,kd,nm,tm,vs,hs,sn,hd,to,r,no⟩:Ak) a0 a1 a2 c0 c1 c2 _ HV.o).mono ?_;rintro e w2⟨y,b0,b1,b2,d0,d1,d2,rfl,hu,hb⟩;have hX1:=za hX0 hq0 hb;have hY1:=za hY0 hz0 hb;have hz1:=nLt hz0 hb.size;have hB1:=hB0.trans (hb.mono hB0.size);have HU0:Hid (unused y=unused (qE (⟨who,4,kd,nm,tm,vs,hs,sn,hd,to,r,no⟩:Ak))):=hu;clear hb hX0 hY0 hz0 hB0 hq0 hu;have hq1:=nSl hz1;go_wp2_with fail
  refine(zf (HU0.o.trans HU.o) (yC y b0 b1 b2 d0 d1 d2 _)).mono ?_;rintro e w3⟨rfl,hb⟩;have hX3:=za hX1 hq1 hb;have hY3:=za hY1 hz1 hb;have hz3:=nLt hz1 hb.size;have hB3:=hB1.trans (hb.mono hB1.size);clear hb hX1 hY1 hz1 hB1 hq1 HU0;have hq3:=nSl hz3;go_wp2_with fail
  refine(jW _ _ l.ss kd _ (HL.o.ss.mono hB3) HK.o).mono ?_;rintro e w4⟨rfl,rfl⟩;go_wp2_with fail
  go_ret;exact⟨ze (by unfold zai zah;rw[HK.o];rfl),hB3⟩
 have HK:Hid (zC l.ss kd=true):=hk;clear hk
 by_cases hm:zm nm=true
 rotate_left
 ·have HM:Hid (zm nm=false):=bFi hm
  clear hm;go_enter Tryz.func144,Tryz.ntmps144;go_wp2_with fail
  obtain⟨W0,hW0,hX0,hY0,hz0,hB0⟩:=zR w #[.l la l.ss.length lca,.l lb l.ms.length lcb,.l lc l.ts.length lcc] #[.s who,.i 4,.s kd,.s nm,.s tm,.l a0 vs.length c0,.l a1 hs.length c1,.i sn,.s hd,.s to,.l a2 r.vs.length c2,.s r.kd,.s r.tm,.s r.px,.i no] 44 189;rw[<- hW0];clear hW0;have hq0:=nSl hz0;refine(zf HN.o (zi who _ HX.o.small.who)).mono ?_;rintro e w1⟨rfl,rfl⟩;go_wp2_with fail
  refine(zf HV.o (zM 4 1 6 _)).mono ?_;rintro e w1⟨rfl,rfl⟩;go_wp2_with fail
  refine(y9 (⟨who,4,kd,nm,tm,vs,hs,sn,hd,to,r,no⟩:Ak) a0 a1 a2 c0 c1 c2 _ HV.o).mono ?_;rintro e w2⟨y,b0,b1,b2,d0,d1,d2,rfl,hu,hb⟩;have hX1:=za hX0 hq0 hb;have hY1:=za hY0 hz0 hb;have hz1:=nLt hz0 hb.size;have hB1:=hB0.trans (hb.mono hB0.size);have HU0:Hid (unused y=unused (qE (⟨who,4,kd,nm,tm,vs,hs,sn,hd,to,r,no⟩:Ak))):=hu;clear hb hX0 hY0 hz0 hB0 hq0 hu;have hq1:=nSl hz1;go_wp2_with fail
  refine(zf (HU0.o.trans HU.o) (yC y b0 b1 b2 d0 d1 d2 _)).mono ?_;rintro e w3⟨rfl,hb⟩;have hX3:=za hX1 hq1 hb;have hY3:=za hY1 hz1 hb;have hz3:=nLt hz1 hb.size;have hB3:=hB1.trans (hb.mono hB1.size);clear hb hX1 hY1 hz1 hB1 hq1 HU0;have hq3:=nSl hz3;go_wp2_with fail
  refine(yN _ _ l.ss kd _ (HL.o.ss.mono hB3) HK.o).mono ?_;rintro e w4⟨k,hk,rfl,hsh,rfl⟩;go_wp2_with fail
  refine(zf HM.o (zi nm _ HX.o.small.nm)).mono ?_;rintro e w5⟨rfl,rfl⟩;go_wp2_with fail
  go_ret;exact⟨ze (by unfold zai zah;rw[HK.o,HM.o];rfl),hB3⟩
 have HM:Hid (zm nm=true):=hm;clear hm;have HF:Hid (zah l (⟨who,4,kd,nm,tm,vs,hs,sn,hd,to,r,no⟩:Ak)=true):=by unfold Hid zah;rw[HK.o,HM.o];rfl
 go_enter Tryz.func144,Tryz.ntmps144;go_wp2_with fail
 obtain⟨W0,hW0,hX0,hY0,hz0,hB0⟩:=zR w #[.l la l.ss.length lca,.l lb l.ms.length lcb,.l lc l.ts.length lcc] #[.s who,.i 4,.s kd,.s nm,.s tm,.l a0 vs.length c0,.l a1 hs.length c1,.i sn,.s hd,.s to,.l a2 r.vs.length c2,.s r.kd,.s r.tm,.s r.px,.i no] 44 189;rw[<- hW0];clear hW0;have hq0:=nSl hz0;refine(zf HN.o (zi who _ HX.o.small.who)).mono ?_;rintro e w1⟨rfl,rfl⟩;go_wp2_with fail
 refine(zf HV.o (zM 4 1 6 _)).mono ?_;rintro e w1⟨rfl,rfl⟩;go_wp2_with fail
 refine(y9 (⟨who,4,kd,nm,tm,vs,hs,sn,hd,to,r,no⟩:Ak) a0 a1 a2 c0 c1 c2 _ HV.o).mono ?_;rintro e w2⟨y,b0,b1,b2,d0,d1,d2,rfl,hu,hb⟩;have hX1:=za hX0 hq0 hb;have hY1:=za hY0 hz0 hb;have hz1:=nLt hz0 hb.size;have hB1:=hB0.trans (hb.mono hB0.size);have HU0:Hid (unused y=unused (qE (⟨who,4,kd,nm,tm,vs,hs,sn,hd,to,r,no⟩:Ak))):=hu;clear hb hX0 hY0 hz0 hB0 hq0 hu;have hq1:=nSl hz1;go_wp2_with fail
 refine(zf (HU0.o.trans HU.o) (yC y b0 b1 b2 d0 d1 d2 _)).mono ?_;rintro e w3⟨rfl,hb⟩;have hX3:=za hX1 hq1 hb;have hY3:=za hY1 hz1 hb;have hz3:=nLt hz1 hb.size;have hB3:=hB1.trans (hb.mono hB1.size);clear hb hX1 hY1 hz1 hB1 hq1 HU0;have hq3:=nSl hz3;go_wp2_with fail
 refine(yN _ _ l.ss kd _ (HL.o.ss.mono hB3) HK.o).mono ?_;rintro e w4⟨k,hk,rfl,hsh,rfl⟩;go_wp2_with fail
 refine(zf HM.o (zi nm _ HX.o.small.nm)).mono ?_;rintro e w5⟨rfl,rfl⟩;go_wp2_with fail
 refine(zi hd _ HX.o.small.hd).mono ?_;rintro e w6⟨rfl,rfl⟩;go_wp2_with fail
 go_ret;exact⟨ze (by unfold zai;rw[HF.o];rfl),hB3⟩
set_option maxRecDepth 20000 in
theorem zsa (l:Lw)(la lb lc:OA)(lca lcb lcc:Nat)(who:BA)(kd nm tm:BA)(vs hs:List BA)(sn:Int)(hd to:BA)(r:Rl)(no:Int)(a0 a1 a2:OA)(c0 c1 c2:Nat)(w:World)(hl:yH w l la lb lc)(hx:jq w (⟨who,5,kd,nm,tm,vs,hs,sn,hd,to,r,no⟩:Ak) a0 a1 a2)(hn:zm who=true)(hu:unused (qE (⟨who,5,kd,nm,tm,vs,hs,sn,hd,to,r,no⟩:Ak))=true) :
 Calls Tryz.prog 144 #[.agg (l.cells la lb lc lca lcb lcc),.agg ((⟨who,5,kd,nm,tm,vs,hs,sn,hd,to,r,no⟩:Ak).cells a0 a1 a2 c0 c1 c2)] w fun e w'=>e=.returned (.bool (zaz (⟨who,5,kd,nm,tm,vs,hs,sn,hd,to,r,no⟩:Ak)))/\Bw w w':=by
 have HL:Hid (yH w l la lb lc):=hl;have HX:Hid (jq w (⟨who,5,kd,nm,tm,vs,hs,sn,hd,to,r,no⟩:Ak) a0 a1 a2):=hx;clear hl hx;have HN:Hid (zm who=true):=hn;have HV:Hid (within 5 1 6=true):=rfl;have HU:Hid (unused (qE (⟨who,5,kd,nm,tm,vs,hs,sn,hd,to,r,no⟩:Ak))=true):=hu;clear hn hu;unfold Ak.cells Lw.cells;dsimp only
 by_cases hk:zC l.ss kd=true
 ·have HK:Hid (zC l.ss kd=true):=hk
  clear hk
  by_cases ht:zm to=true
  ·have HT:Hid (zm to=true):=ht
   clear ht;go_enter Tryz.func144,Tryz.ntmps144;go_wp2_with fail
   obtain⟨W0,hW0,hX0,hY0,hz0,hB0⟩:=zR w #[.l la l.ss.length lca,.l lb l.ms.length lcb,.l lc l.ts.length lcc] #[.s who,.i 5,.s kd,.s nm,.s tm,.l a0 vs.length c0,.l a1 hs.length c1,.i sn,.s hd,.s to,.l a2 r.vs.length c2,.s r.kd,.s r.tm,.s r.px,.i no] 44 189;rw[<- hW0];clear hW0;have hq0:=nSl hz0;refine(zf HN.o (zi who _ HX.o.small.who)).mono ?_;rintro e w1⟨rfl,rfl⟩;go_wp2_with fail
   refine(zf HV.o (zM 5 1 6 _)).mono ?_;rintro e w1⟨rfl,rfl⟩;go_wp2_with fail
   refine(y9 (⟨who,5,kd,nm,tm,vs,hs,sn,hd,to,r,no⟩:Ak) a0 a1 a2 c0 c1 c2 _ HV.o).mono ?_;rintro e w2⟨y,b0,b1,b2,d0,d1,d2,rfl,hu,hb⟩;have hX1:=za hX0 hq0 hb;have hY1:=za hY0 hz0 hb;have hz1:=nLt hz0 hb.size;have hB1:=hB0.trans (hb.mono hB0.size);have HU0:Hid (unused y=unused (qE (⟨who,5,kd,nm,tm,vs,hs,sn,hd,to,r,no⟩:Ak))):=hu;clear hb hX0 hY0 hz0 hB0 hq0 hu;have hq1:=nSl hz1;go_wp2_with fail
   refine(zf (HU0.o.trans HU.o) (yC y b0 b1 b2 d0 d1 d2 _)).mono ?_;rintro e w3⟨rfl,hb⟩;have hX3:=za hX1 hq1 hb;have hY3:=za hY1 hz1 hb;have hz3:=nLt hz1 hb.size;have hB3:=hB1.trans (hb.mono hB1.size);clear hb hX1 hY1 hz1 hB1 hq1 HU0;have hq3:=nSl hz3;go_wp2_with fail
   refine(yN _ _ l.ss kd _ (HL.o.ss.mono hB3) HK.o).mono ?_;rintro e w4⟨k,hk,rfl,hsh,rfl⟩;go_wp2_with fail
   refine(zf HT.o (zi to _ HX.o.small.to)).mono ?_;rintro e w5⟨rfl,rfl⟩;go_wp2_with fail
   refine(zba r _ _ _ HX.o.small.r (HX.o.r.mono hB3)).mono ?_;rintro e w6⟨rfl,hb⟩;have hB6:=hB3.trans (hb.mono hB3.size);clear hb;go_wp2_with fail
   go_ret;exact⟨ze (by unfold zaz;rw[HT.o];rfl),hB6⟩
  ·have HT:Hid (zm to=false):=bFi ht
   clear ht;go_enter Tryz.func144,Tryz.ntmps144;go_wp2_with fail
   obtain⟨W0,hW0,hX0,hY0,hz0,hB0⟩:=zR w #[.l la l.ss.length lca,.l lb l.ms.length lcb,.l lc l.ts.length lcc] #[.s who,.i 5,.s kd,.s nm,.s tm,.l a0 vs.length c0,.l a1 hs.length c1,.i sn,.s hd,.s to,.l a2 r.vs.length c2,.s r.kd,.s r.tm,.s r.px,.i no] 44 189;rw[<- hW0];clear hW0;have hq0:=nSl hz0;refine(zf HN.o (zi who _ HX.o.small.who)).mono ?_;rintro e w1⟨rfl,rfl⟩;go_wp2_with fail
   refine(zf HV.o (zM 5 1 6 _)).mono ?_;rintro e w1⟨rfl,rfl⟩;go_wp2_with fail
   refine(y9 (⟨who,5,kd,nm,tm,vs,hs,sn,hd,to,r,no⟩:Ak) a0 a1 a2 c0 c1 c2 _ HV.o).mono ?_;rintro e w2⟨y,b0,b1,b2,d0,d1,d2,rfl,hu,hb⟩;have hX1:=za hX0 hq0 hb;have hY1:=za hY0 hz0 hb;have hz1:=nLt hz0 hb.size;have hB1:=hB0.trans (hb.mono hB0.size);have HU0:Hid (unused y=unused (qE (⟨who,5,kd,nm,tm,vs,hs,sn,hd,to,r,no⟩:Ak))):=hu;clear hb hX0 hY0 hz0 hB0 hq0 hu;have hq1:=nSl hz1;go_wp2_with fail
   refine(zf (HU0.o.trans HU.o) (yC y b0 b1 b2 d0 d1 d2 _)).mono ?_;rintro e w3⟨rfl,hb⟩;have hX3:=za hX1 hq1 hb;have hY3:=za hY1 hz1 hb;have hz3:=nLt hz1 hb.size;have hB3:=hB1.trans (hb.mono hB1.size);clear hb hX1 hY1 hz1 hB1 hq1 HU0;have hq3:=nSl hz3;go_wp2_with fail
   refine(yN _ _ l.ss kd _ (HL.o.ss.mono hB3) HK.o).mono ?_;rintro e w4⟨k,hk,rfl,hsh,rfl⟩;go_wp2_with fail
   refine(zf HT.o (zi to _ HX.o.small.to)).mono ?_;rintro e w5⟨rfl,rfl⟩;go_wp2_with fail
   go_ret;exact⟨ze (by unfold zaz;rw[HT.o];rfl),hB3⟩
 ·have HK:Hid (zC l.ss kd=false):=bFi hk
  clear hk
  by_cases ht:zm to=true
  ·have HT:Hid (zm to=true):=ht
   clear ht;go_enter Tryz.func144,Tryz.ntmps144;go_wp2_with fail
   obtain⟨W0,hW0,hX0,hY0,hz0,hB0⟩:=zR w #[.l la l.ss.length lca,.l lb l.ms.length lcb,.l lc l.ts.length lcc] #[.s who,.i 5,.s kd,.s nm,.s tm,.l a0 vs.length c0,.l a1 hs.length c1,.i sn,.s hd,.s to,.l a2 r.vs.length c2,.s r.kd,.s r.tm,.s r.px,.i no] 44 189;rw[<- hW0];clear hW0;have hq0:=nSl hz0;refine(zf HN.o (zi who _ HX.o.small.who)).mono ?_;rintro e w1⟨rfl,rfl⟩;go_wp2_with fail
   refine(zf HV.o (zM 5 1 6 _)).mono ?_;rintro e w1⟨rfl,rfl⟩;go_wp2_with fail
   refine(y9 (⟨who,5,kd,nm,tm,vs,hs,sn,hd,to,r,no⟩:Ak) a0 a1 a2 c0 c1 c2 _ HV.o).mono ?_;rintro e w2⟨y,b0,b1,b2,d0,d1,d2,rfl,hu,hb⟩;have hX1:=za hX0 hq0 hb;have hY1:=za hY0 hz0 hb;have hz1:=nLt hz0 hb.size;have hB1:=hB0.trans (hb.mono hB0.size);have HU0:Hid (unused y=unused (qE (⟨who,5,kd,nm,tm,vs,hs,sn,hd,to,r,no⟩:Ak))):=hu;clear hb hX0 hY0 hz0 hB0 hq0 hu;have hq1:=nSl hz1;go_wp2_with fail
   refine(zf (HU0.o.trans HU.o) (yC y b0 b1 b2 d0 d1 d2 _)).mono ?_;rintro e w3⟨rfl,hb⟩;have hX3:=za hX1 hq1 hb;have hY3:=za hY1 hz1 hb;have hz3:=nLt hz1 hb.size;have hB3:=hB1.trans (hb.mono hB1.size);clear hb hX1 hY1 hz1 hB1 hq1 HU0;have hq3:=nSl hz3;go_wp2_with fail
   refine(jW _ _ l.ss kd _ (HL.o.ss.mono hB3) HK.o).mono ?_;rintro e w4⟨rfl,rfl⟩;go_wp2_with fail
   refine(zf HT.o (zi to _ HX.o.small.to)).mono ?_;rintro e w5⟨rfl,rfl⟩;go_wp2_with fail
   refine(zba r _ _ _ HX.o.small.r (HX.o.r.mono hB3)).mono ?_;rintro e w6⟨rfl,hb⟩;have hB6:=hB3.trans (hb.mono hB3.size);clear hb;go_wp2_with fail
   go_ret;exact⟨ze (by unfold zaz;rw[HT.o];rfl),hB6⟩
  ·have HT:Hid (zm to=false):=bFi ht
   clear ht;go_enter Tryz.func144,Tryz.ntmps144;go_wp2_with fail
   obtain⟨W0,hW0,hX0,hY0,hz0,hB0⟩:=zR w #[.l la l.ss.length lca,.l lb l.ms.length lcb,.l lc l.ts.length lcc] #[.s who,.i 5,.s kd,.s nm,.s tm,.l a0 vs.length c0,.l a1 hs.length c1,.i sn,.s hd,.s to,.l a2 r.vs.length c2,.s r.kd,.s r.tm,.s r.px,.i no] 44 189;rw[<- hW0];clear hW0;have hq0:=nSl hz0;refine(zf HN.o (zi who _ HX.o.small.who)).mono ?_;rintro e w1⟨rfl,rfl⟩;go_wp2_with fail
   refine(zf HV.o (zM 5 1 6 _)).mono ?_;rintro e w1⟨rfl,rfl⟩;go_wp2_with fail
   refine(y9 (⟨who,5,kd,nm,tm,vs,hs,sn,hd,to,r,no⟩:Ak) a0 a1 a2 c0 c1 c2 _ HV.o).mono ?_;rintro e w2⟨y,b0,b1,b2,d0,d1,d2,rfl,hu,hb⟩;have hX1:=za hX0 hq0 hb;have hY1:=za hY0 hz0 hb;have hz1:=nLt hz0 hb.size;have hB1:=hB0.trans (hb.mono hB0.size);have HU0:Hid (unused y=unused (qE (⟨who,5,kd,nm,tm,vs,hs,sn,hd,to,r,no⟩:Ak))):=hu;clear hb hX0 hY0 hz0 hB0 hq0 hu;have hq1:=nSl hz1;go_wp2_with fail
   refine(zf (HU0.o.trans HU.o) (yC y b0 b1 b2 d0 d1 d2 _)).mono ?_;rintro e w3⟨rfl,hb⟩;have hX3:=za hX1 hq1 hb;have hY3:=za hY1 hz1 hb;have hz3:=nLt hz1 hb.size;have hB3:=hB1.trans (hb.mono hB1.size);clear hb hX1 hY1 hz1 hB1 hq1 HU0;have hq3:=nSl hz3;go_wp2_with fail
   refine(jW _ _ l.ss kd _ (HL.o.ss.mono hB3) HK.o).mono ?_;rintro e w4⟨rfl,rfl⟩;go_wp2_with fail
   refine(zf HT.o (zi to _ HX.o.small.to)).mono ?_;rintro e w5⟨rfl,rfl⟩;go_wp2_with fail
   go_ret;exact⟨ze (by unfold zaz;rw[HT.o];rfl),hB3⟩
set_option maxRecDepth 20000 in
theorem zr5 (l:Lw)(la lb lc:OA)(lca lcb lcc:Nat)(who:BA)(kd nm tm:BA)(vs hs:List BA)(sn:Int)(hd to:BA)(r:Rl)(no:Int)(a0 a1 a2:OA)(c0 c1 c2:Nat)(w:World)(hl:yH w l la lb lc)(hx:jq w (⟨who,6,kd,nm,tm,vs,hs,sn,hd,to,r,no⟩:Ak) a0 a1 a2)(hn:zm who=true)(hu:unused (qE (⟨who,6,kd,nm,tm,vs,hs,sn,hd,to,r,no⟩:Ak))=true) :
 Calls Tryz.prog 144 #[.agg (l.cells la lb lc lca lcb lcc),.agg ((⟨who,6,kd,nm,tm,vs,hs,sn,hd,to,r,no⟩:Ak).cells a0 a1 a2 c0 c1 c2)] w fun e w'=>e=.returned (.bool (zcN (⟨who,6,kd,nm,tm,vs,hs,sn,hd,to,r,no⟩:Ak)))/\Bw w w':=by
 have HL:Hid (yH w l la lb lc):=hl;have HX:Hid (jq w (⟨who,6,kd,nm,tm,vs,hs,sn,hd,to,r,no⟩:Ak) a0 a1 a2):=hx;clear hl hx;have HN:Hid (zm who=true):=hn;have HV:Hid (within 6 1 6=true):=rfl;have HU:Hid (unused (qE (⟨who,6,kd,nm,tm,vs,hs,sn,hd,to,r,no⟩:Ak))=true):=hu;clear hn hu;unfold Ak.cells Lw.cells;dsimp only
 by_cases hk:zC l.ss kd=true
 ·have HK:Hid (zC l.ss kd=true):=hk
  clear hk;go_enter Tryz.func144,Tryz.ntmps144;go_wp2_with fail
  obtain⟨W0,hW0,hX0,hY0,hz0,hB0⟩:=zR w #[.l la l.ss.length lca,.l lb l.ms.length lcb,.l lc l.ts.length lcc] #[.s who,.i 6,.s kd,.s nm,.s tm,.l a0 vs.length c0,.l a1 hs.length c1,.i sn,.s hd,.s to,.l a2 r.vs.length c2,.s r.kd,.s r.tm,.s r.px,.i no] 44 189;rw[<- hW0];clear hW0;have hq0:=nSl hz0;refine(zf HN.o (zi who _ HX.o.small.who)).mono ?_;rintro e w1⟨rfl,rfl⟩;go_wp2_with fail
  refine(zf HV.o (zM 6 1 6 _)).mono ?_;rintro e w1⟨rfl,rfl⟩;go_wp2_with fail
  refine(y9 (⟨who,6,kd,nm,tm,vs,hs,sn,hd,to,r,no⟩:Ak) a0 a1 a2 c0 c1 c2 _ HV.o).mono ?_;rintro e w2⟨y,b0,b1,b2,d0,d1,d2,rfl,hu,hb⟩;have hX1:=za hX0 hq0 hb;have hY1:=za hY0 hz0 hb;have hz1:=nLt hz0 hb.size;have hB1:=hB0.trans (hb.mono hB0.size);have HU0:Hid (unused y=unused (qE (⟨who,6,kd,nm,tm,vs,hs,sn,hd,to,r,no⟩:Ak))):=hu;clear hb hX0 hY0 hz0 hB0 hq0 hu;have hq1:=nSl hz1;go_wp2_with fail
  refine(zf (HU0.o.trans HU.o) (yC y b0 b1 b2 d0 d1 d2 _)).mono ?_;rintro e w3⟨rfl,hb⟩;have hX3:=za hX1 hq1 hb;have hY3:=za hY1 hz1 hb;have hz3:=nLt hz1 hb.size;have hB3:=hB1.trans (hb.mono hB1.size);clear hb hX1 hY1 hz1 hB1 hq1 HU0;have hq3:=nSl hz3;go_wp2_with fail
  refine(yN _ _ l.ss kd _ (HL.o.ss.mono hB3) HK.o).mono ?_;rintro e w4⟨k,hk,rfl,hsh,rfl⟩;go_wp2_with fail
  go_ret;exact⟨rfl,hB3⟩
 ·have HK:Hid (zC l.ss kd=false):=bFi hk
  clear hk;go_enter Tryz.func144,Tryz.ntmps144;go_wp2_with fail
  obtain⟨W0,hW0,hX0,hY0,hz0,hB0⟩:=zR w #[.l la l.ss.length lca,.l lb l.ms.length lcb,.l lc l.ts.length lcc] #[.s who,.i 6,.s kd,.s nm,.s tm,.l a0 vs.length c0,.l a1 hs.length c1,.i sn,.s hd,.s to,.l a2 r.vs.length c2,.s r.kd,.s r.tm,.s r.px,.i no] 44 189;rw[<- hW0];clear hW0;have hq0:=nSl hz0;refine(zf HN.o (zi who _ HX.o.small.who)).mono ?_;rintro e w1⟨rfl,rfl⟩;go_wp2_with fail
  refine(zf HV.o (zM 6 1 6 _)).mono ?_;rintro e w1⟨rfl,rfl⟩;go_wp2_with fail
  refine(y9 (⟨who,6,kd,nm,tm,vs,hs,sn,hd,to,r,no⟩:Ak) a0 a1 a2 c0 c1 c2 _ HV.o).mono ?_;rintro e w2⟨y,b0,b1,b2,d0,d1,d2,rfl,hu,hb⟩;have hX1:=za hX0 hq0 hb;have hY1:=za hY0 hz0 hb;have hz1:=nLt hz0 hb.size;have hB1:=hB0.trans (hb.mono hB0.size);have HU0:Hid (unused y=unused (qE (⟨who,6,kd,nm,tm,vs,hs,sn,hd,to,r,no⟩:Ak))):=hu;clear hb hX0 hY0 hz0 hB0 hq0 hu;have hq1:=nSl hz1;go_wp2_with fail
  refine(zf (HU0.o.trans HU.o) (yC y b0 b1 b2 d0 d1 d2 _)).mono ?_;rintro e w3⟨rfl,hb⟩;have hX3:=za hX1 hq1 hb;have hY3:=za hY1 hz1 hb;have hz3:=nLt hz1 hb.size;have hB3:=hB1.trans (hb.mono hB1.size);clear hb hX1 hY1 hz1 hB1 hq1 HU0;have hq3:=nSl hz3;go_wp2_with fail
  refine(jW _ _ l.ss kd _ (HL.o.ss.mono hB3) HK.o).mono ?_;rintro e w4⟨rfl,rfl⟩;go_wp2_with fail
  go_ret;exact⟨rfl,hB3⟩
theorem zoa (l:Lw)(la lb lc:OA)(lca lcb lcc:Nat)(x:Ak)(a0 a1 a2:OA)(c0 c1 c2:Nat)(w:World)(hl:yH w l la lb lc)(hx:jq w x a0 a1 a2) :
 Calls Tryz.prog 144 #[.agg (l.cells la lb lc lca lcb lcc),.agg (x.cells a0 a1 a2 c0 c1 c2)] w fun e w'=>e=.returned (.bool (zbd l x))/\Bw w w':=by
 obtain⟨who,vb,kd,nm,tm,vs,hs,sn,hd,to,r,no⟩:=x
 by_cases hn:zm who=true
 rotate_left
 ·refine(zpQ l la lb lc lca lcb lcc who vb kd nm tm vs hs sn hd to r no a0 a1 a2 c0 c1 c2 w hl hx (bFi hn)).mono ?_
  rintro e w1⟨rfl,hb⟩;exact⟨ze (by unfold zbd;dsimp only;rw[bFi hn];rfl),hb⟩
 by_cases hv:within vb 1 6=true
 rotate_left
 ·refine(zpg l la lb lc lca lcb lcc who vb kd nm tm vs hs sn hd to r no a0 a1 a2 c0 c1 c2 w hl hx hn (bFi hv)).mono ?_
  rintro e w1⟨rfl,hb⟩;exact⟨ze (by unfold zbd;dsimp only;rw[hn,bFi hv];rfl),hb⟩
 by_cases hu:unused (qE (⟨who,vb,kd,nm,tm,vs,hs,sn,hd,to,r,no⟩:Ak))=true
 rotate_left
 ·refine(zoL l la lb lc lca lcb lcc who vb kd nm tm vs hs sn hd to r no a0 a1 a2 c0 c1 c2 w hl hx hn hv (bFi hu)).mono ?_
  rintro e w1⟨rfl,hb⟩;exact⟨ze (by unfold zbd;rw[bFi hu];simp),hb⟩
 rcases zj5 hv with e|e|e|e|e|e <;> subst e
 ·refine(zrX l la lb lc lca lcb lcc who kd nm tm vs hs sn hd to r no a0 a1 a2 c0 c1 c2 w hl hx hn hu).mono ?_
  rintro e w1⟨rfl,hb⟩;exact⟨ze (by unfold zbd;rw[hu];dsimp only;rw[hn];exact(Bool.and_true _).symm),hb⟩
 ·refine(zr0 l la lb lc lca lcb lcc who kd nm tm vs hs sn hd to r no a0 a1 a2 c0 c1 c2 w hl hx hn hu).mono ?_
  rintro e w1⟨rfl,hb⟩;exact⟨ze (by unfold zbd;rw[hu];dsimp only;rw[hn];exact(Bool.and_true _).symm),hb⟩
 ·refine(zr7 l la lb lc lca lcb lcc who kd nm tm vs hs sn hd to r no a0 a1 a2 c0 c1 c2 w hl hx hn hu).mono ?_
  rintro e w1⟨rfl,hb⟩;exact⟨ze (by unfold zbd;rw[hu];dsimp only;rw[hn];exact(Bool.and_true _).symm),hb⟩
 ·refine(zr9 l la lb lc lca lcb lcc who kd nm tm vs hs sn hd to r no a0 a1 a2 c0 c1 c2 w hl hx hn hu).mono ?_
  rintro e w1⟨rfl,hb⟩;exact⟨ze (by unfold zbd;rw[hu];dsimp only;rw[hn];exact(Bool.and_true _).symm),hb⟩
 ·refine(zsa l la lb lc lca lcb lcc who kd nm tm vs hs sn hd to r no a0 a1 a2 c0 c1 c2 w hl hx hn hu).mono ?_
  rintro e w1⟨rfl,hb⟩;exact⟨ze (by unfold zbd;rw[hu];dsimp only;rw[hn];exact(Bool.and_true _).symm),hb⟩
 ·refine(zr5 l la lb lc lca lcb lcc who kd nm tm vs hs sn hd to r no a0 a1 a2 c0 c1 c2 w hl hx hn hu).mono ?_
  rintro e w1⟨rfl,hb⟩;exact⟨ze (by unfold zbd;rw[hu];dsimp only;rw[hn];exact(Bool.and_true _).symm),hb⟩
end Go.Proofs.YthdfpinbnncghaaGreat
