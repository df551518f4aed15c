import Derived.Test.YtedangodjiolaaaGreatM25
import Derived.Test.YtedangodjiolaaaGreatM13
set_option maxHeartbeats 8000000
namespace Go.Proofs.YtedangodjiolaaaGreat
open Go.RowKit
theorem zf2 (a:OA)(cap:Nat)(ws:List BA)(w:World)(hw:zK w a ws) :
 Calls Tryz.prog 125 #[.l a ws.length cap] w fun e w'=>e=.returned (.bool (asc ws))/\Bw w w':=by
 refine(j5 a cap ws w hw).mono ?_;rintro e w'⟨rfl,n,rfl⟩;exact⟨rfl,below_drewN (bRf _ _) n⟩
theorem zn2 (l:Lw)(la lb lc:OA)(lca lcb lcc:Nat)(who:BA)(vb:Int)(kd nm tm:BA)(vs hs:List BA)(sn:Int)(hd to:BA)(r:Rl)(no:Int)(a0 a1 a2:OA)(c0 c1 c2:Nat)(w:World)(hl:yF w l la lb lc)(hx:je w (⟨who,vb,kd,nm,tm,vs,hs,sn,hd,to,r,no⟩:Ak) a0 a1 a2)(hn:zk who=false) :
 Calls Tryz.prog 90 #[.agg (l.cells la lb lc lca lcb lcc),.agg ((⟨who,vb,kd,nm,tm,vs,hs,sn,hd,to,r,no⟩:Ak).cells a0 a1 a2 c0 c1 c2)] w fun e w'=>e=.returned (.bool false)/\Bw w w':=by
 have HL:Hid (yF w l la lb lc):=hl;have HX:Hid (je w (⟨who,vb,kd,nm,tm,vs,hs,sn,hd,to,r,no⟩:Ak) a0 a1 a2):=hx;clear hl hx;have HN:Hid (zk who=false):=hn;clear hn;unfold Ak.cells Lw.cells;dsimp only;go_enter Tryz.func90,Tryz.ntmps90;go_wp2_with fail
 obtain⟨W0,hW0,hX0,hY0,hz0,hB0⟩:=zI w #[.l la l.ss.length lca,.l lb l.ms.length lcb,.l lc l.ts.length lcc] #[.s who,.i vb,.s kd,.s nm,.s tm,.l a0 vs.length c0,.l a1 hs.length c1,.i sn,.s hd,.s to,.l a2 r.vs.length c2,.s r.kd,.s r.tm,.s r.px,.i no] 43 107;rw[<- hW0];clear hW0;have hq0:=nSl hz0;refine(zf HN.o (zh who _ HX.o.small.who)).mono ?_;rintro e w1⟨rfl,rfl⟩;go_wp2_with fail
 go_ret;exact⟨rfl,hB0⟩
theorem znR (l:Lw)(la lb lc:OA)(lca lcb lcc:Nat)(who:BA)(vb:Int)(kd nm tm:BA)(vs hs:List BA)(sn:Int)(hd to:BA)(r:Rl)(no:Int)(a0 a1 a2:OA)(c0 c1 c2:Nat)(w:World)(hl:yF w l la lb lc)(hx:je w (⟨who,vb,kd,nm,tm,vs,hs,sn,hd,to,r,no⟩:Ak) a0 a1 a2)(hn:zk who=true)(hv:within vb 1 6=false) :
 Calls Tryz.prog 90 #[.agg (l.cells la lb lc lca lcb lcc),.agg ((⟨who,vb,kd,nm,tm,vs,hs,sn,hd,to,r,no⟩:Ak).cells a0 a1 a2 c0 c1 c2)] w fun e w'=>e=.returned (.bool false)/\Bw w w':=by
 have HL:Hid (yF w l la lb lc):=hl;have HX:Hid (je w (⟨who,vb,kd,nm,tm,vs,hs,sn,hd,to,r,no⟩:Ak) a0 a1 a2):=hx;clear hl hx;have HN:Hid (zk who=true):=hn;have HV:Hid (within vb 1 6=false):=hv;clear hn hv;unfold Ak.cells Lw.cells;dsimp only;go_enter Tryz.func90,Tryz.ntmps90;go_wp2_with fail
 obtain⟨W0,hW0,hX0,hY0,hz0,hB0⟩:=zI w #[.l la l.ss.length lca,.l lb l.ms.length lcb,.l lc l.ts.length lcc] #[.s who,.i vb,.s kd,.s nm,.s tm,.l a0 vs.length c0,.l a1 hs.length c1,.i sn,.s hd,.s to,.l a2 r.vs.length c2,.s r.kd,.s r.tm,.s r.px,.i no] 43 107;rw[<- hW0];clear hW0;have hq0:=nSl hz0;refine(zf HN.o (zh who _ HX.o.small.who)).mono ?_;rintro e w1⟨rfl,rfl⟩;go_wp2_with fail
 refine(zf HV.o (zN vb 1 6 _)).mono ?_;rintro e w1⟨rfl,rfl⟩;go_wp2_with fail
 go_ret;exact⟨rfl,hB0⟩
theorem zoN (l:Lw)(la lb lc:OA)(lca lcb lcc:Nat)(who:BA)(vb:Int)(kd nm tm:BA)(vs hs:List BA)(sn:Int)(hd to:BA)(r:Rl)(no:Int)(a0 a1 a2:OA)(c0 c1 c2:Nat)(w:World)(hl:yF w l la lb lc)(hx:je w (⟨who,vb,kd,nm,tm,vs,hs,sn,hd,to,r,no⟩:Ak) a0 a1 a2)(hn:zk who=true)(hv:within vb 1 6=true)(hu:unused (qp (⟨who,vb,kd,nm,tm,vs,hs,sn,hd,to,r,no⟩:Ak))=false) :
 Calls Tryz.prog 90 #[.agg (l.cells la lb lc lca lcb lcc),.agg ((⟨who,vb,kd,nm,tm,vs,hs,sn,hd,to,r,no⟩:Ak).cells a0 a1 a2 c0 c1 c2)] w fun e w'=>e=.returned (.bool false)/\Bw w w':=by
 have HL:Hid (yF w l la lb lc):=hl;have HX:Hid (je w (⟨who,vb,kd,nm,tm,vs,hs,sn,hd,to,r,no⟩:Ak) a0 a1 a2):=hx;clear hl hx;have HN:Hid (zk who=true):=hn;have HV:Hid (within vb 1 6=true):=hv;have HU:Hid (unused (qp (⟨who,vb,kd,nm,tm,vs,hs,sn,hd,to,r,no⟩:Ak))=false):=hu;clear hn hv hu;unfold Ak.cells Lw.cells;dsimp only;go_enter Tryz.func90,Tryz.ntmps90;go_wp2_with fail
 obtain⟨W0,hW0,hX0,hY0,hz0,hB0⟩:=zI w #[.l la l.ss.length lca,.l lb l.ms.length lcb,.l lc l.ts.length lcc] #[.s who,.i vb,.s kd,.s nm,.s tm,.l a0 vs.length c0,.l a1 hs.length c1,.i sn,.s hd,.s to,.l a2 r.vs.length c2,.s r.kd,.s r.tm,.s r.px,.i no] 43 107;rw[<- hW0];clear hW0;have hq0:=nSl hz0;refine(zf HN.o (zh who _ HX.o.small.who)).mono ?_;rintro e w1⟨rfl,rfl⟩;go_wp2_with fail
 refine(zf HV.o (zN vb 1 6 _)).mono ?_;rintro e w1⟨rfl,rfl⟩;go_wp2_with fail
 refine(y5 (⟨who,vb,kd,nm,tm,vs,hs,sn,hd,to,r,no⟩:Ak) a0 a1 a2 c0 c1 c2 _ HV.o).mono ?_;rintro e w2⟨y,b0,b1,b2,d0,d1,d2,rfl,hu,hb⟩;have hX1:=za hX0 hq0 hb;have hY1:=za hY0 hz0 hb;have hz1:=nLt hz0 hb.size;have hB1:=hB0.trans (hb.mono hB0.size);have HU0:Hid (unused y=unused (qp (⟨who,vb,kd,nm,tm,vs,hs,sn,hd,to,r,no⟩:Ak))):=hu;clear hb hX0 hY0 hz0 hB0 hq0 hu;have hq1:=nSl hz1;go_wp2_with fail
 refine(zf (HU0.o.trans HU.o) (yA y b0 b1 b2 d0 d1 d2 _)).mono ?_;rintro e w3⟨rfl,hb⟩;have hX3:=za hX1 hq1 hb;have hY3:=za hY1 hz1 hb;have hz3:=nLt hz1 hb.size;have hB3:=hB1.trans (hb.mono hB1.size);clear hb hX1 hY1 hz1 hB1 hq1 HU0;have hq3:=nSl hz3;go_wp2_with fail
 go_ret;exact⟨rfl,hB3⟩
set_option maxRecDepth 20000 in
theorem zqR (l:Lw)(la lb lc:OA)(lca lcb lcc:Nat)(who:BA)(kd nm tm:BA)(vs hs:List BA)(sn:Int)(hd to:BA)(r:Rl)(no:Int)(a0 a1 a2:OA)(c0 c1 c2:Nat)(w:World)(hl:yF w l la lb lc)(hx:je w (⟨who,1,kd,nm,tm,vs,hs,sn,hd,to,r,no⟩:Ak) a0 a1 a2)(hn:zk who=true)(hu:unused (qp (⟨who,1,kd,nm,tm,vs,hs,sn,hd,to,r,no⟩:Ak))=true) :
 Calls Tryz.prog 90 #[.agg (l.cells la lb lc lca lcb lcc),.agg ((⟨who,1,kd,nm,tm,vs,hs,sn,hd,to,r,no⟩:Ak).cells a0 a1 a2 c0 c1 c2)] w fun e w'=>e=.returned (.bool (qI l (⟨who,1,kd,nm,tm,vs,hs,sn,hd,to,r,no⟩:Ak)))/\Bw w w':=by
 have HL:Hid (yF w l la lb lc):=hl;have HX:Hid (je w (⟨who,1,kd,nm,tm,vs,hs,sn,hd,to,r,no⟩:Ak) a0 a1 a2):=hx;clear hl hx;have HN:Hid (zk who=true):=hn;have HV:Hid (within 1 1 6=true):=rfl;have HU:Hid (unused (qp (⟨who,1,kd,nm,tm,vs,hs,sn,hd,to,r,no⟩:Ak))=true):=hu;clear hn hu;unfold Ak.cells Lw.cells;dsimp only
 by_cases hk:zC l.ss kd=true
 rotate_left
 ·have HK:Hid (zC l.ss kd=false):=bFi hk
  clear hk;go_enter Tryz.func90,Tryz.ntmps90;go_wp2_with fail
  obtain⟨W0,hW0,hX0,hY0,hz0,hB0⟩:=zI w #[.l la l.ss.length lca,.l lb l.ms.length lcb,.l lc l.ts.length lcc] #[.s who,.i 1,.s kd,.s nm,.s tm,.l a0 vs.length c0,.l a1 hs.length c1,.i sn,.s hd,.s to,.l a2 r.vs.length c2,.s r.kd,.s r.tm,.s r.px,.i no] 43 107;rw[<- hW0];clear hW0;have hq0:=nSl hz0;refine(zf HN.o (zh who _ HX.o.small.who)).mono ?_;rintro e w1⟨rfl,rfl⟩;go_wp2_with fail
  refine(zf HV.o (zN 1 1 6 _)).mono ?_;rintro e w1⟨rfl,rfl⟩;go_wp2_with fail
  refine(y5 (⟨who,1,kd,nm,tm,vs,hs,sn,hd,to,r,no⟩:Ak) a0 a1 a2 c0 c1 c2 _ HV.o).mono ?_;rintro e w2⟨y,b0,b1,b2,d0,d1,d2,rfl,hu,hb⟩;have hX1:=za hX0 hq0 hb;have hY1:=za hY0 hz0 hb;have hz1:=nLt hz0 hb.size;have hB1:=hB0.trans (hb.mono hB0.size);have HU0:Hid (unused y=unused (qp (⟨who,1,kd,nm,tm,vs,hs,sn,hd,to,r,no⟩:Ak))):=hu;clear hb hX0 hY0 hz0 hB0 hq0 hu;have hq1:=nSl hz1;go_wp2_with fail
  refine(zf (HU0.o.trans HU.o) (yA y b0 b1 b2 d0 d1 d2 _)).mono ?_;rintro e w3⟨rfl,hb⟩;have hX3:=za hX1 hq1 hb;have hY3:=za hY1 hz1 hb;have hz3:=nLt hz1 hb.size;have hB3:=hB1.trans (hb.mono hB1.size);clear hb hX1 hY1 hz1 hB1 hq1 HU0;have hq3:=nSl hz3;go_wp2_with fail
  refine(jR _ _ l.ss kd _ (HL.o.ss.mono hB3) HK.o).mono ?_;rintro e w4⟨rfl,rfl⟩;go_wp2_with fail
  go_ret;exact⟨ze (by unfold qI qA;rw[HK.o];rfl),hB3⟩
 have HK:Hid (zC l.ss kd=true):=hk;clear hk
 by_cases hm:zk nm=true
 rotate_left
 ·have HM:Hid (zk nm=false):=bFi hm
  clear hm;go_enter Tryz.func90,Tryz.ntmps90;go_wp2_with fail
  obtain⟨W0,hW0,hX0,hY0,hz0,hB0⟩:=zI w #[.l la l.ss.length lca,.l lb l.ms.length lcb,.l lc l.ts.length lcc] #[.s who,.i 1,.s kd,.s nm,.s tm,.l a0 vs.length c0,.l a1 hs.length c1,.i sn,.s hd,.s to,.l a2 r.vs.length c2,.s r.kd,.s r.tm,.s r.px,.i no] 43 107;rw[<- hW0];clear hW0;have hq0:=nSl hz0;refine(zf HN.o (zh who _ HX.o.small.who)).mono ?_;rintro e w1⟨rfl,rfl⟩;go_wp2_with fail
  refine(zf HV.o (zN 1 1 6 _)).mono ?_;rintro e w1⟨rfl,rfl⟩;go_wp2_with fail
  refine(y5 (⟨who,1,kd,nm,tm,vs,hs,sn,hd,to,r,no⟩:Ak) a0 a1 a2 c0 c1 c2 _ HV.o).mono ?_;rintro e w2⟨y,b0,b1,b2,d0,d1,d2,rfl,hu,hb⟩;have hX1:=za hX0 hq0 hb;have hY1:=za hY0 hz0 hb;have hz1:=nLt hz0 hb.size;have hB1:=hB0.trans (hb.mono hB0.size);have HU0:Hid (unused y=unused (qp (⟨who,1,kd,nm,tm,vs,hs,sn,hd,to,r,no⟩:Ak))):=hu;clear hb hX0 hY0 hz0 hB0 hq0 hu;have hq1:=nSl hz1;go_wp2_with fail
  refine(zf (HU0.o.trans HU.o) (yA y b0 b1 b2 d0 d1 d2 _)).mono ?_;rintro e w3⟨rfl,hb⟩;have hX3:=za hX1 hq1 hb;have hY3:=za hY1 hz1 hb;have hz3:=nLt hz1 hb.size;have hB3:=hB1.trans (hb.mono hB1.size);clear hb hX1 hY1 hz1 hB1 hq1 HU0;have hq3:=nSl hz3;go_wp2_with fail
  refine(yJ _ _ l.ss kd _ (HL.o.ss.mono hB3) HK.o).mono ?_;rintro e w4⟨k,hk,rfl,hsh,rfl⟩;go_wp2_with fail
  refine(zf HM.o (zh nm _ HX.o.small.nm)).mono ?_;rintro e w5⟨rfl,rfl⟩;go_wp2_with fail
  go_ret;exact⟨ze (by unfold qI qA;rw[HK.o,HM.o];rfl),hB3⟩
 have HM:Hid (zk nm=true):=hm;clear hm;have HF:Hid (qA l (⟨who,1,kd,nm,tm,vs,hs,sn,hd,to,r,no⟩:Ak)=true):=by unfold Hid qA;rw[HK.o,HM.o];rfl
 go_enter Tryz.func90,Tryz.ntmps90;go_wp2_with fail
 obtain⟨W0,hW0,hX0,hY0,hz0,hB0⟩:=zI w #[.l la l.ss.length lca,.l lb l.ms.length lcb,.l lc l.ts.length lcc] #[.s who,.i 1,.s kd,.s nm,.s tm,.l a0 vs.length c0,.l a1 hs.length c1,.i sn,.s hd,.s to,.l a2 r.vs.length c2,.s r.kd,.s r.tm,.s r.px,.i no] 43 107;rw[<- hW0];clear hW0;have hq0:=nSl hz0;refine(zf HN.o (zh who _ HX.o.small.who)).mono ?_;rintro e w1⟨rfl,rfl⟩;go_wp2_with fail
 refine(zf HV.o (zN 1 1 6 _)).mono ?_;rintro e w1⟨rfl,rfl⟩;go_wp2_with fail
 refine(y5 (⟨who,1,kd,nm,tm,vs,hs,sn,hd,to,r,no⟩:Ak) a0 a1 a2 c0 c1 c2 _ HV.o).mono ?_;rintro e w2⟨y,b0,b1,b2,d0,d1,d2,rfl,hu,hb⟩;have hX1:=za hX0 hq0 hb;have hY1:=za hY0 hz0 hb;have hz1:=nLt hz0 hb.size;have hB1:=hB0.trans (hb.mono hB0.size);have HU0:Hid (unused y=unused (qp (⟨who,1,kd,nm,tm,vs,hs,sn,hd,to,r,no⟩:Ak))):=hu;clear hb hX0 hY0 hz0 hB0 hq0 hu;have hq1:=nSl hz1;go_wp2_with fail
 refine(zf (HU0.o.trans HU.o) (yA y b0 b1 b2 d0 d1 d2 _)).mono ?_;rintro e w3⟨rfl,hb⟩;have hX3:=za hX1 hq1 hb;have hY3:=za hY1 hz1 hb;have hz3:=nLt hz1 hb.size;have hB3:=hB1.trans (hb.mono hB1.size);clear hb hX1 hY1 hz1 hB1 hq1 HU0;have hq3:=nSl hz3;go_wp2_with fail
 refine(yJ _ _ l.ss kd _ (HL.o.ss.mono hB3) HK.o).mono ?_;rintro e w4⟨k,hk,rfl,hsh,rfl⟩;go_wp2_with fail
 refine(zf HM.o (zh nm _ HX.o.small.nm)).mono ?_;rintro e w5⟨rfl,rfl⟩;go_wp2_with fail
 have HC:Hid (jV l (⟨who,1,kd,nm,tm,vs,hs,sn,hd,to,r,no⟩:Ak)=decide (vs.length=l.ss[k].fs.length)):=by unfold Hid jV;rw[hsh]
 obtain⟨sb,so,hsa,hsb,hrw⟩:=HL.o.ss.rows (fun e=>by rw[e]at hk;cases hk);obtain⟨fa,fcap,hsi⟩:=hrw k hk;subst hsa;have e1:=(hB3.drew.cell (p:=(aD sb (so+k*2+1))) hsb).trans hsi.list;clear hrw hsi;have hkI:(k:Int)<(l.ss.length:Int):=by omega
 have hX:=za hX3 hq3 (bRf w5.heap.size w5).drew;have hY:=za hY3 hz3 (bRf w5.heap.size w5).drew;have hz:w.heap.size+1<w5.drew.heap.size:=hz3;have hq:w.heap.size<w5.drew.heap.size:=hq3;have hB:=hB3.drew;have hsz:sb<w5.drew.heap.size:=nLt hsb hB.size;have hT0:=HL.o.ts.mono hB;have hH0:=HX.o.hs.mono hB;clear hX3 hY3 hz3 hq3 hB3 hsh;refine wp_region_held_drew (S:=fun w'=>(∀j,w'.cell? (aD w.heap.size j)=(#[.l (some (aD sb so)) l.ss.length lca,.l lb l.ms.length lcb,.l lc l.ts.length lcc]:AV)[j]?)/\(∀j,w'.cell? (aD (w.heap.size+1) j)=(#[.s who,.i 1,.s kd,.s nm,.s tm,.l a0 vs.length c0,.l a1 hs.length c1,.i sn,.s hd,.s to,.l a2 r.vs.length c2,.s r.kd,.s r.tm,.s r.px,.i no]:AV)[j]?)/\w'.cell? (aD sb (so+k*2+1))=some (.l fa l.ss[k].fs.length fcap)) (by kernel_rfl) ⟨hX,hY,e1⟩ (fun H_=>?_);refine tG 0 ?_;refine tG 1 ?_;refine tG 2 ?_;refine tG 3 ?_;refine tG 4 ?_;refine tG 5 ?_;refine tG 6 ?_;refine tG 7 ?_;refine tG 8 ?_;refine tG 9 ?_
 by_cases t1:vs.length=l.ss[k].fs.length
 ·have g1:((vs.length:Int) == (l.ss[k].fs.length:Int))=true:=by simp[t1]
  have HT1:Hid (vs.length=l.ss[k].fs.length):=t1;clear t1;refine tG 10 ?_;refine tG 11 ?_;refine tG 12 ?_;refine tG 13 ?_;refine tG 14 ?_;refine tG 15 ?_
  by_cases t2:yg l.ts tm=true
  ·refine cH 16 rfl fun K hK=>?_
   go_simp
   refine(zf t2 (zbV _ _ l.ts tm _ hT0)).mono ?_;rintro e w6⟨rfl,rfl⟩
   (try go_wp2_with fail)
   refine hK.out _ _ ?_ (fun H_=>?_)
   ·exact H_
   clear hK K
   (try simp only[Act.put,sA,s0,sS])
   refine tG 17 ?_;refine tG 18 ?_;refine tG 19 ?_;refine tG 20 ?_;refine tG 21 ?_
   by_cases t3:hs.length<=3
   ·have g3:(hs.length:Int)<=3:=by omega
    have HT3:Hid (hs.length<=3):=t3;clear t3;refine tG 22 ?_;refine tG 23 ?_;refine tG 24 ?_;refine tG 25 ?_;refine tG 26 ?_;refine cH 27 rfl fun K hK=>?_
    go_simp
    refine(zf2 _ _ hs _ hH0).mono ?_;rintro e w6⟨rfl,hb⟩;have hX6:=za hX hq hb;have hY6:=za hY hz hb;have e6:=(hb.cell (p:=(aD sb (so+k*2+1))) hsz).trans e1;have hB6:=hB.trans (hb.mono hB.size);clear hb
    (try go_wp2_with fail)
    refine hK.out _ _ ?_ (fun H_=>?_)
    ·exact⟨hX6,hY6,e6⟩
    clear hK K
    (try simp only[Act.put,sA,s0,sS])
    refine tG 28 ?_;refine tG 29 ?_;refine wpAnyH_done (by kernel_rfl) ?_ _;go_wp2_with fail
    go_ret;exact⟨ze (by unfold qI;rw[HF.o,HC.o,decide_eq_true HT1.o];dsimp only;rw[t2,decide_eq_true HT3.o];rfl),hB6⟩
   ·have g3:¬(hs.length:Int)<=3:=by omega
    have HT3:Hid (¬hs.length<=3):=t3;clear t3;refine tG 22 ?_;refine tG 23 ?_;refine tG 24 ?_;refine kG 25 ?_;refine kG 26 ?_;refine kG 27 ?_;refine tG 28 ?_;refine tG 29 ?_;refine wpAnyH_done (by kernel_rfl) ?_ _;go_wp2_with fail
    go_ret;exact⟨ze (by unfold qI;dsimp only;rw[decide_eq_false HT3.o];simp),hB⟩
  ·refine cH 16 rfl fun K hK=>?_
   go_simp
   refine(zf (bFi t2) (zbV _ _ l.ts tm _ hT0)).mono ?_;rintro e w6⟨rfl,rfl⟩
   (try go_wp2_with fail)
   refine hK.out _ _ ?_ (fun H_=>?_)
   ·exact H_
   clear hK K
   (try simp only[Act.put,sA,s0,sS])
   refine tG 17 ?_;refine tG 18 ?_;refine kG 19 ?_;refine kG 20 ?_;refine kG 21 ?_;refine kG 22 ?_;refine tG 23 ?_;refine tG 24 ?_;refine kG 25 ?_;refine kG 26 ?_;refine kG 27 ?_;refine tG 28 ?_;refine tG 29 ?_;refine wpAnyH_done (by kernel_rfl) ?_ _;go_wp2_with fail
   go_ret;exact⟨ze (by unfold qI;rw[HF.o];dsimp only;rw[bFi t2];rfl),hB⟩
 ·have g1:((vs.length:Int) == (l.ss[k].fs.length:Int))=false:=by simp;omega
  have HT1:Hid (¬vs.length=l.ss[k].fs.length):=t1;clear t1;refine tG 10 ?_;refine tG 11 ?_;refine kG 12 ?_;refine kG 13 ?_;refine kG 14 ?_;refine kG 15 ?_;refine kG 16 ?_;refine tG 17 ?_;refine tG 18 ?_;refine kG 19 ?_;refine kG 20 ?_;refine kG 21 ?_;refine kG 22 ?_;refine tG 23 ?_;refine tG 24 ?_;refine kG 25 ?_;refine kG 26 ?_;refine kG 27 ?_;refine tG 28 ?_;refine tG 29 ?_;refine wpAnyH_done (by kernel_rfl) ?_ _;go_wp2_with fail
  go_ret;exact⟨ze (by unfold qI;rw[HF.o,HC.o,decide_eq_false HT1.o];simp),hB⟩
set_option maxRecDepth 20000 in
theorem zqO (l:Lw)(la lb lc:OA)(lca lcb lcc:Nat)(who:BA)(kd nm tm:BA)(vs hs:List BA)(sn:Int)(hd to:BA)(r:Rl)(no:Int)(a0 a1 a2:OA)(c0 c1 c2:Nat)(w:World)(hl:yF w l la lb lc)(hx:je w (⟨who,2,kd,nm,tm,vs,hs,sn,hd,to,r,no⟩:Ak) a0 a1 a2)(hn:zk who=true)(hu:unused (qp (⟨who,2,kd,nm,tm,vs,hs,sn,hd,to,r,no⟩:Ak))=true) :
 Calls Tryz.prog 90 #[.agg (l.cells la lb lc lca lcb lcc),.agg ((⟨who,2,kd,nm,tm,vs,hs,sn,hd,to,r,no⟩:Ak).cells a0 a1 a2 c0 c1 c2)] w fun e w'=>e=.returned (.bool (qy l (⟨who,2,kd,nm,tm,vs,hs,sn,hd,to,r,no⟩:Ak)))/\Bw w w':=by
 have HL:Hid (yF w l la lb lc):=hl;have HX:Hid (je w (⟨who,2,kd,nm,tm,vs,hs,sn,hd,to,r,no⟩:Ak) a0 a1 a2):=hx;clear hl hx;have HN:Hid (zk who=true):=hn;have HV:Hid (within 2 1 6=true):=rfl;have HU:Hid (unused (qp (⟨who,2,kd,nm,tm,vs,hs,sn,hd,to,r,no⟩:Ak))=true):=hu;clear hn hu;unfold Ak.cells Lw.cells;dsimp only
 by_cases hk:zC l.ss kd=true
 rotate_left
 ·have HK:Hid (zC l.ss kd=false):=bFi hk
  clear hk;go_enter Tryz.func90,Tryz.ntmps90;go_wp2_with fail
  obtain⟨W0,hW0,hX0,hY0,hz0,hB0⟩:=zI w #[.l la l.ss.length lca,.l lb l.ms.length lcb,.l lc l.ts.length lcc] #[.s who,.i 2,.s kd,.s nm,.s tm,.l a0 vs.length c0,.l a1 hs.length c1,.i sn,.s hd,.s to,.l a2 r.vs.length c2,.s r.kd,.s r.tm,.s r.px,.i no] 43 107;rw[<- hW0];clear hW0;have hq0:=nSl hz0;refine(zf HN.o (zh who _ HX.o.small.who)).mono ?_;rintro e w1⟨rfl,rfl⟩;go_wp2_with fail
  refine(zf HV.o (zN 2 1 6 _)).mono ?_;rintro e w1⟨rfl,rfl⟩;go_wp2_with fail
  refine(y5 (⟨who,2,kd,nm,tm,vs,hs,sn,hd,to,r,no⟩:Ak) a0 a1 a2 c0 c1 c2 _ HV.o).mono ?_;rintro e w2⟨y,b0,b1,b2,d0,d1,d2,rfl,hu,hb⟩;have hX1:=za hX0 hq0 hb;have hY1:=za hY0 hz0 hb;have hz1:=nLt hz0 hb.size;have hB1:=hB0.trans (hb.mono hB0.size);have HU0:Hid (unused y=unused (qp (⟨who,2,kd,nm,tm,vs,hs,sn,hd,to,r,no⟩:Ak))):=hu;clear hb hX0 hY0 hz0 hB0 hq0 hu;have hq1:=nSl hz1;go_wp2_with fail
  refine(zf (HU0.o.trans HU.o) (yA y b0 b1 b2 d0 d1 d2 _)).mono ?_;rintro e w3⟨rfl,hb⟩;have hX3:=za hX1 hq1 hb;have hY3:=za hY1 hz1 hb;have hz3:=nLt hz1 hb.size;have hB3:=hB1.trans (hb.mono hB1.size);clear hb hX1 hY1 hz1 hB1 hq1 HU0;have hq3:=nSl hz3;go_wp2_with fail
  refine(jR _ _ l.ss kd _ (HL.o.ss.mono hB3) HK.o).mono ?_;rintro e w4⟨rfl,rfl⟩;go_wp2_with fail
  go_ret;exact⟨ze (by unfold qy qA;rw[HK.o];rfl),hB3⟩
 have HK:Hid (zC l.ss kd=true):=hk;clear hk
 by_cases hm:zk nm=true
 rotate_left
 ·have HM:Hid (zk nm=false):=bFi hm
  clear hm;go_enter Tryz.func90,Tryz.ntmps90;go_wp2_with fail
  obtain⟨W0,hW0,hX0,hY0,hz0,hB0⟩:=zI w #[.l la l.ss.length lca,.l lb l.ms.length lcb,.l lc l.ts.length lcc] #[.s who,.i 2,.s kd,.s nm,.s tm,.l a0 vs.length c0,.l a1 hs.length c1,.i sn,.s hd,.s to,.l a2 r.vs.length c2,.s r.kd,.s r.tm,.s r.px,.i no] 43 107;rw[<- hW0];clear hW0;have hq0:=nSl hz0;refine(zf HN.o (zh who _ HX.o.small.who)).mono ?_;rintro e w1⟨rfl,rfl⟩;go_wp2_with fail
  refine(zf HV.o (zN 2 1 6 _)).mono ?_;rintro e w1⟨rfl,rfl⟩;go_wp2_with fail
  refine(y5 (⟨who,2,kd,nm,tm,vs,hs,sn,hd,to,r,no⟩:Ak) a0 a1 a2 c0 c1 c2 _ HV.o).mono ?_;rintro e w2⟨y,b0,b1,b2,d0,d1,d2,rfl,hu,hb⟩;have hX1:=za hX0 hq0 hb;have hY1:=za hY0 hz0 hb;have hz1:=nLt hz0 hb.size;have hB1:=hB0.trans (hb.mono hB0.size);have HU0:Hid (unused y=unused (qp (⟨who,2,kd,nm,tm,vs,hs,sn,hd,to,r,no⟩:Ak))):=hu;clear hb hX0 hY0 hz0 hB0 hq0 hu;have hq1:=nSl hz1;go_wp2_with fail
  refine(zf (HU0.o.trans HU.o) (yA y b0 b1 b2 d0 d1 d2 _)).mono ?_;rintro e w3⟨rfl,hb⟩;have hX3:=za hX1 hq1 hb;have hY3:=za hY1 hz1 hb;have hz3:=nLt hz1 hb.size;have hB3:=hB1.trans (hb.mono hB1.size);clear hb hX1 hY1 hz1 hB1 hq1 HU0;have hq3:=nSl hz3;go_wp2_with fail
  refine(yJ _ _ l.ss kd _ (HL.o.ss.mono hB3) HK.o).mono ?_;rintro e w4⟨k,hk,rfl,hsh,rfl⟩;go_wp2_with fail
  refine(zf HM.o (zh nm _ HX.o.small.nm)).mono ?_;rintro e w5⟨rfl,rfl⟩;go_wp2_with fail
  go_ret;exact⟨ze (by unfold qy qA;rw[HK.o,HM.o];rfl),hB3⟩
 have HM:Hid (zk nm=true):=hm;clear hm;have HF:Hid (qA l (⟨who,2,kd,nm,tm,vs,hs,sn,hd,to,r,no⟩:Ak)=true):=by unfold Hid qA;rw[HK.o,HM.o];rfl
 go_enter Tryz.func90,Tryz.ntmps90;go_wp2_with fail
 obtain⟨W0,hW0,hX0,hY0,hz0,hB0⟩:=zI w #[.l la l.ss.length lca,.l lb l.ms.length lcb,.l lc l.ts.length lcc] #[.s who,.i 2,.s kd,.s nm,.s tm,.l a0 vs.length c0,.l a1 hs.length c1,.i sn,.s hd,.s to,.l a2 r.vs.length c2,.s r.kd,.s r.tm,.s r.px,.i no] 43 107;rw[<- hW0];clear hW0;have hq0:=nSl hz0;refine(zf HN.o (zh who _ HX.o.small.who)).mono ?_;rintro e w1⟨rfl,rfl⟩;go_wp2_with fail
 refine(zf HV.o (zN 2 1 6 _)).mono ?_;rintro e w1⟨rfl,rfl⟩;go_wp2_with fail
 refine(y5 (⟨who,2,kd,nm,tm,vs,hs,sn,hd,to,r,no⟩:Ak) a0 a1 a2 c0 c1 c2 _ HV.o).mono ?_;rintro e w2⟨y,b0,b1,b2,d0,d1,d2,rfl,hu,hb⟩;have hX1:=za hX0 hq0 hb;have hY1:=za hY0 hz0 hb;have hz1:=nLt hz0 hb.size;have hB1:=hB0.trans (hb.mono hB0.size);have HU0:Hid (unused y=unused (qp (⟨who,2,kd,nm,tm,vs,hs,sn,hd,to,r,no⟩:Ak))):=hu;clear hb hX0 hY0 hz0 hB0 hq0 hu;have hq1:=nSl hz1;go_wp2_with fail
 refine(zf (HU0.o.trans HU.o) (yA y b0 b1 b2 d0 d1 d2 _)).mono ?_;rintro e w3⟨rfl,hb⟩;have hX3:=za hX1 hq1 hb;have hY3:=za hY1 hz1 hb;have hz3:=nLt hz1 hb.size;have hB3:=hB1.trans (hb.mono hB1.size);clear hb hX1 hY1 hz1 hB1 hq1 HU0;have hq3:=nSl hz3;go_wp2_with fail
 refine(yJ _ _ l.ss kd _ (HL.o.ss.mono hB3) HK.o).mono ?_;rintro e w4⟨k,hk,rfl,hsh,rfl⟩;go_wp2_with fail
 refine(zf HM.o (zh nm _ HX.o.small.nm)).mono ?_;rintro e w5⟨rfl,rfl⟩;go_wp2_with fail
 have HC:Hid (jV l (⟨who,2,kd,nm,tm,vs,hs,sn,hd,to,r,no⟩:Ak)=decide (vs.length=l.ss[k].fs.length)):=by unfold Hid jV;rw[hsh]
 obtain⟨sb,so,hsa,hsb,hrw⟩:=HL.o.ss.rows (fun e=>by rw[e]at hk;cases hk);obtain⟨fa,fcap,hsi⟩:=hrw k hk;subst hsa;have e1:=(hB3.drew.cell (p:=(aD sb (so+k*2+1))) hsb).trans hsi.list;clear hrw hsi;have hkI:(k:Int)<(l.ss.length:Int):=by omega
 have hX:=za hX3 hq3 (bRf w5.heap.size w5).drew;have hY:=za hY3 hz3 (bRf w5.heap.size w5).drew;have hz:w.heap.size+1<w5.drew.heap.size:=hz3;have hq:w.heap.size<w5.drew.heap.size:=hq3;have hB:=hB3.drew;have hsz:sb<w5.drew.heap.size:=nLt hsb hB.size;have hT0:=HL.o.ts.mono hB;have hH0:=HX.o.hs.mono hB;clear hX3 hY3 hz3 hq3 hB3 hsh;refine wp_region_held_drew (S:=fun w'=>(∀j,w'.cell? (aD w.heap.size j)=(#[.l (some (aD sb so)) l.ss.length lca,.l lb l.ms.length lcb,.l lc l.ts.length lcc]:AV)[j]?)/\(∀j,w'.cell? (aD (w.heap.size+1) j)=(#[.s who,.i 2,.s kd,.s nm,.s tm,.l a0 vs.length c0,.l a1 hs.length c1,.i sn,.s hd,.s to,.l a2 r.vs.length c2,.s r.kd,.s r.tm,.s r.px,.i no]:AV)[j]?)/\w'.cell? (aD sb (so+k*2+1))=some (.l fa l.ss[k].fs.length fcap)) (by kernel_rfl) ⟨hX,hY,e1⟩ (fun H_=>?_);refine tG 0 ?_;refine tG 1 ?_;refine tG 2 ?_;refine tG 3 ?_;refine tG 4 ?_;refine tG 5 ?_;refine tG 6 ?_;refine tG 7 ?_;refine tG 8 ?_;refine tG 9 ?_
 by_cases t1:vs.length=l.ss[k].fs.length
 ·have g1:((vs.length:Int) == (l.ss[k].fs.length:Int))=true:=by simp[t1]
  have HT1:Hid (vs.length=l.ss[k].fs.length):=t1;clear t1;refine tG 10 ?_;refine tG 11 ?_;refine tG 12 ?_;refine tG 13 ?_;refine tG 14 ?_;refine tG 15 ?_;refine tG 16 ?_;refine wpAnyH_done (by kernel_rfl) ?_ _;go_wp2_with fail
  go_ret;exact⟨ze (by unfold qy;rw[HF.o,HC.o,decide_eq_true HT1.o];rfl),hB⟩
 ·have g1:((vs.length:Int) == (l.ss[k].fs.length:Int))=false:=by simp;omega
  have HT1:Hid (¬vs.length=l.ss[k].fs.length):=t1;clear t1;refine tG 10 ?_;refine tG 11 ?_;refine kG 12 ?_;refine kG 13 ?_;refine kG 14 ?_;refine tG 15 ?_;refine tG 16 ?_;refine wpAnyH_done (by kernel_rfl) ?_ _;go_wp2_with fail
  go_ret;exact⟨ze (by unfold qy;rw[HF.o,HC.o,decide_eq_false HT1.o];rfl),hB⟩
set_option maxRecDepth 20000 in
theorem zqJ (l:Lw)(la lb lc:OA)(lca lcb lcc:Nat)(who:BA)(kd nm tm:BA)(vs hs:List BA)(sn:Int)(hd to:BA)(r:Rl)(no:Int)(a0 a1 a2:OA)(c0 c1 c2:Nat)(w:World)(hl:yF w l la lb lc)(hx:je w (⟨who,3,kd,nm,tm,vs,hs,sn,hd,to,r,no⟩:Ak) a0 a1 a2)(hn:zk who=true)(hu:unused (qp (⟨who,3,kd,nm,tm,vs,hs,sn,hd,to,r,no⟩:Ak))=true) :
 Calls Tryz.prog 90 #[.agg (l.cells la lb lc lca lcb lcc),.agg ((⟨who,3,kd,nm,tm,vs,hs,sn,hd,to,r,no⟩:Ak).cells a0 a1 a2 c0 c1 c2)] w fun e w'=>e=.returned (.bool (za8 l (⟨who,3,kd,nm,tm,vs,hs,sn,hd,to,r,no⟩:Ak)))/\Bw w w':=by
 have HL:Hid (yF w l la lb lc):=hl;have HX:Hid (je w (⟨who,3,kd,nm,tm,vs,hs,sn,hd,to,r,no⟩:Ak) a0 a1 a2):=hx;clear hl hx;have HN:Hid (zk who=true):=hn;have HV:Hid (within 3 1 6=true):=rfl;have HU:Hid (unused (qp (⟨who,3,kd,nm,tm,vs,hs,sn,hd,to,r,no⟩:Ak))=true):=hu;clear hn hu;unfold Ak.cells Lw.cells;dsimp only
 by_cases hk:zC l.ss kd=true
 rotate_left
 ·have HK:Hid (zC l.ss kd=false):=bFi hk
  clear hk;go_enter Tryz.func90,Tryz.ntmps90;go_wp2_with fail
  obtain⟨W0,hW0,hX0,hY0,hz0,hB0⟩:=zI w #[.l la l.ss.length lca,.l lb l.ms.length lcb,.l lc l.ts.length lcc] #[.s who,.i 3,.s kd,.s nm,.s tm,.l a0 vs.length c0,.l a1 hs.length c1,.i sn,.s hd,.s to,.l a2 r.vs.length c2,.s r.kd,.s r.tm,.s r.px,.i no] 43 107;rw[<- hW0];clear hW0;have hq0:=nSl hz0;refine(zf HN.o (zh who _ HX.o.small.who)).mono ?_;rintro e w1⟨rfl,rfl⟩;go_wp2_with fail
  refine(zf HV.o (zN 3 1 6 _)).mono ?_;rintro e w1⟨rfl,rfl⟩;go_wp2_with fail
  refine(y5 (⟨who,3,kd,nm,tm,vs,hs,sn,hd,to,r,no⟩:Ak) a0 a1 a2 c0 c1 c2 _ HV.o).mono ?_;rintro e w2⟨y,b0,b1,b2,d0,d1,d2,rfl,hu,hb⟩;have hX1:=za hX0 hq0 hb;have hY1:=za hY0 hz0 hb;have hz1:=nLt hz0 hb.size;have hB1:=hB0.trans (hb.mono hB0.size);have HU0:Hid (unused y=unused (qp (⟨who,3,kd,nm,tm,vs,hs,sn,hd,to,r,no⟩:Ak))):=hu;clear hb hX0 hY0 hz0 hB0 hq0 hu;have hq1:=nSl hz1;go_wp2_with fail
  refine(zf (HU0.o.trans HU.o) (yA y b0 b1 b2 d0 d1 d2 _)).mono ?_;rintro e w3⟨rfl,hb⟩;have hX3:=za hX1 hq1 hb;have hY3:=za hY1 hz1 hb;have hz3:=nLt hz1 hb.size;have hB3:=hB1.trans (hb.mono hB1.size);clear hb hX1 hY1 hz1 hB1 hq1 HU0;have hq3:=nSl hz3;go_wp2_with fail
  refine(jR _ _ l.ss kd _ (HL.o.ss.mono hB3) HK.o).mono ?_;rintro e w4⟨rfl,rfl⟩;go_wp2_with fail
  go_ret;exact⟨ze (by unfold za8 qA;rw[HK.o];rfl),hB3⟩
 have HK:Hid (zC l.ss kd=true):=hk;clear hk
 by_cases hm:zk nm=true
 rotate_left
 ·have HM:Hid (zk nm=false):=bFi hm
  clear hm;go_enter Tryz.func90,Tryz.ntmps90;go_wp2_with fail
  obtain⟨W0,hW0,hX0,hY0,hz0,hB0⟩:=zI w #[.l la l.ss.length lca,.l lb l.ms.length lcb,.l lc l.ts.length lcc] #[.s who,.i 3,.s kd,.s nm,.s tm,.l a0 vs.length c0,.l a1 hs.length c1,.i sn,.s hd,.s to,.l a2 r.vs.length c2,.s r.kd,.s r.tm,.s r.px,.i no] 43 107;rw[<- hW0];clear hW0;have hq0:=nSl hz0;refine(zf HN.o (zh who _ HX.o.small.who)).mono ?_;rintro e w1⟨rfl,rfl⟩;go_wp2_with fail
  refine(zf HV.o (zN 3 1 6 _)).mono ?_;rintro e w1⟨rfl,rfl⟩;go_wp2_with fail
  refine(y5 (⟨who,3,kd,nm,tm,vs,hs,sn,hd,to,r,no⟩:Ak) a0 a1 a2 c0 c1 c2 _ HV.o).mono ?_;rintro e w2⟨y,b0,b1,b2,d0,d1,d2,rfl,hu,hb⟩;have hX1:=za hX0 hq0 hb;have hY1:=za hY0 hz0 hb;have hz1:=nLt hz0 hb.size;have hB1:=hB0.trans (hb.mono hB0.size);have HU0:Hid (unused y=unused (qp (⟨who,3,kd,nm,tm,vs,hs,sn,hd,to,r,no⟩:Ak))):=hu;clear hb hX0 hY0 hz0 hB0 hq0 hu;have hq1:=nSl hz1;go_wp2_with fail
  refine(zf (HU0.o.trans HU.o) (yA y b0 b1 b2 d0 d1 d2 _)).mono ?_;rintro e w3⟨rfl,hb⟩;have hX3:=za hX1 hq1 hb;have hY3:=za hY1 hz1 hb;have hz3:=nLt hz1 hb.size;have hB3:=hB1.trans (hb.mono hB1.size);clear hb hX1 hY1 hz1 hB1 hq1 HU0;have hq3:=nSl hz3;go_wp2_with fail
  refine(yJ _ _ l.ss kd _ (HL.o.ss.mono hB3) HK.o).mono ?_;rintro e w4⟨k,hk,rfl,hsh,rfl⟩;go_wp2_with fail
  refine(zf HM.o (zh nm _ HX.o.small.nm)).mono ?_;rintro e w5⟨rfl,rfl⟩;go_wp2_with fail
  go_ret;exact⟨ze (by unfold za8 qA;rw[HK.o,HM.o];rfl),hB3⟩
 have HM:Hid (zk nm=true):=hm;clear hm;have HF:Hid (qA l (⟨who,3,kd,nm,tm,vs,hs,sn,hd,to,r,no⟩:Ak)=true):=by unfold Hid qA;rw[HK.o,HM.o];rfl
 go_enter Tryz.func90,Tryz.ntmps90;go_wp2_with fail
 obtain⟨W0,hW0,hX0,hY0,hz0,hB0⟩:=zI w #[.l la l.ss.length lca,.l lb l.ms.length lcb,.l lc l.ts.length lcc] #[.s who,.i 3,.s kd,.s nm,.s tm,.l a0 vs.length c0,.l a1 hs.length c1,.i sn,.s hd,.s to,.l a2 r.vs.length c2,.s r.kd,.s r.tm,.s r.px,.i no] 43 107;rw[<- hW0];clear hW0;have hq0:=nSl hz0;refine(zf HN.o (zh who _ HX.o.small.who)).mono ?_;rintro e w1⟨rfl,rfl⟩;go_wp2_with fail
 refine(zf HV.o (zN 3 1 6 _)).mono ?_;rintro e w1⟨rfl,rfl⟩;go_wp2_with fail
 refine(y5 (⟨who,3,kd,nm,tm,vs,hs,sn,hd,to,r,no⟩:Ak) a0 a1 a2 c0 c1 c2 _ HV.o).mono ?_;rintro e w2⟨y,b0,b1,b2,d0,d1,d2,rfl,hu,hb⟩;have hX1:=za hX0 hq0 hb;have hY1:=za hY0 hz0 hb;have hz1:=nLt hz0 hb.size;have hB1:=hB0.trans (hb.mono hB0.size);have HU0:Hid (unused y=unused (qp (⟨who,3,kd,nm,tm,vs,hs,sn,hd,to,r,no⟩:Ak))):=hu;clear hb hX0 hY0 hz0 hB0 hq0 hu;have hq1:=nSl hz1;go_wp2_with fail
 refine(zf (HU0.o.trans HU.o) (yA y b0 b1 b2 d0 d1 d2 _)).mono ?_;rintro e w3⟨rfl,hb⟩;have hX3:=za hX1 hq1 hb;have hY3:=za hY1 hz1 hb;have hz3:=nLt hz1 hb.size;have hB3:=hB1.trans (hb.mono hB1.size);clear hb hX1 hY1 hz1 hB1 hq1 HU0;have hq3:=nSl hz3;go_wp2_with fail
 refine(yJ _ _ l.ss kd _ (HL.o.ss.mono hB3) HK.o).mono ?_;rintro e w4⟨k,hk,rfl,hsh,rfl⟩;go_wp2_with fail
 refine(zf HM.o (zh nm _ HX.o.small.nm)).mono ?_;rintro e w5⟨rfl,rfl⟩;go_wp2_with fail
 go_ret;exact⟨ze (by unfold za8;rw[HF.o];rfl),hB3⟩
set_option maxRecDepth 20000 in
theorem zqX (l:Lw)(la lb lc:OA)(lca lcb lcc:Nat)(who:BA)(kd nm tm:BA)(vs hs:List BA)(sn:Int)(hd to:BA)(r:Rl)(no:Int)(a0 a1 a2:OA)(c0 c1 c2:Nat)(w:World)(hl:yF w l la lb lc)(hx:je w (⟨who,4,kd,nm,tm,vs,hs,sn,hd,to,r,no⟩:Ak) a0 a1 a2)(hn:zk who=true)(hu:unused (qp (⟨who,4,kd,nm,tm,vs,hs,sn,hd,to,r,no⟩:Ak))=true) :
 Calls Tryz.prog 90 #[.agg (l.cells la lb lc lca lcb lcc),.agg ((⟨who,4,kd,nm,tm,vs,hs,sn,hd,to,r,no⟩:Ak).cells a0 a1 a2 c0 c1 c2)] w fun e w'=>e=.returned (.bool (jE l (⟨who,4,kd,nm,tm,vs,hs,sn,hd,to,r,no⟩:Ak)))/\Bw w w':=by
 have HL:Hid (yF w l la lb lc):=hl;have HX:Hid (je w (⟨who,4,kd,nm,tm,vs,hs,sn,hd,to,r,no⟩:Ak) a0 a1 a2):=hx;clear hl hx;have HN:Hid (zk who=true):=hn;have HV:Hid (within 4 1 6=true):=rfl;have HU:Hid (unused (qp (⟨who,4,kd,nm,tm,vs,hs,sn,hd,to,r,no⟩:Ak))=true):=hu;clear hn hu;unfold Ak.cells Lw.cells;dsimp only
 by_cases hk:zC l.ss kd=true
 rotate_left
 ·have HK:Hid (zC l.ss kd=false):=bFi hk
  clear hk;go_enter Tryz.func90,Tryz.ntmps90;go_wp2_with fail
  obtain⟨W0,hW0,hX0,hY0,hz0,hB0⟩:=zI w #[.l la l.ss.length lca,.l lb l.ms.length lcb,.l lc l.ts.length lcc] #[.s who,.i 4,.s kd,.s nm,.s tm,.l a0 vs.length c0,.l a1 hs.length c1,.i sn,.s hd,.s to,.l a2 r.vs.length c2,.s r.kd,.s r.tm,.s r.px,.i no] 43 107;rw[<- hW0];clear hW0;have hq0:=nSl hz0;refine(zf HN.o (zh who _ HX.o.small.who)).mono ?_;rintro e w1⟨rfl,rfl⟩;go_wp2_with fail
  refine(zf HV.o (zN 4 1 6 _)).mono ?_;rintro e w1⟨rfl,rfl⟩;go_wp2_with fail
  refine(y5 (⟨who,4,kd,nm,tm,vs,hs,sn,hd,to,r,no⟩:Ak) a0 a1 a2 c0 c1 c2 _ HV.o).mono ?_;rintro e w2⟨y,b0,b1,b2,d0,d1,d2,rfl,hu,hb⟩;have hX1:=za hX0 hq0 hb;have hY1:=za hY0 hz0 hb;have hz1:=nLt hz0 hb.size;have hB1:=hB0.trans (hb.mono hB0.size);have HU0:Hid (unused y=unused (qp (⟨who,4,kd,nm,tm,vs,hs,sn,hd,to,r,no⟩:Ak))):=hu;clear hb hX0 hY0 hz0 hB0 hq0 hu;have hq1:=nSl hz1;go_wp2_with fail
  refine(zf (HU0.o.trans HU.o) (yA y b0 b1 b2 d0 d1 d2 _)).mono ?_;rintro e w3⟨rfl,hb⟩;have hX3:=za hX1 hq1 hb;have hY3:=za hY1 hz1 hb;have hz3:=nLt hz1 hb.size;have hB3:=hB1.trans (hb.mono hB1.size);clear hb hX1 hY1 hz1 hB1 hq1 HU0;have hq3:=nSl hz3;go_wp2_with fail
  refine(jR _ _ l.ss kd _ (HL.o.ss.mono hB3) HK.o).mono ?_;rintro e w4⟨rfl,rfl⟩;go_wp2_with fail
  go_ret;exact⟨ze (by unfold jE qA;rw[HK.o];rfl),hB3⟩
 have HK:Hid (zC l.ss kd=true):=hk;clear hk
 by_cases hm:zk nm=true
 rotate_left
 ·have HM:Hid (zk nm=false):=bFi hm
  clear hm;go_enter Tryz.func90,Tryz.ntmps90;go_wp2_with fail
  obtain⟨W0,hW0,hX0,hY0,hz0,hB0⟩:=zI w #[.l la l.ss.length lca,.l lb l.ms.length lcb,.l lc l.ts.length lcc] #[.s who,.i 4,.s kd,.s nm,.s tm,.l a0 vs.length c0,.l a1 hs.length c1,.i sn,.s hd,.s to,.l a2 r.vs.length c2,.s r.kd,.s r.tm,.s r.px,.i no] 43 107;rw[<- hW0];clear hW0;have hq0:=nSl hz0;refine(zf HN.o (zh who _ HX.o.small.who)).mono ?_;rintro e w1⟨rfl,rfl⟩;go_wp2_with fail
  refine(zf HV.o (zN 4 1 6 _)).mono ?_;rintro e w1⟨rfl,rfl⟩;go_wp2_with fail
  refine(y5 (⟨who,4,kd,nm,tm,vs,hs,sn,hd,to,r,no⟩:Ak) a0 a1 a2 c0 c1 c2 _ HV.o).mono ?_;rintro e w2⟨y,b0,b1,b2,d0,d1,d2,rfl,hu,hb⟩;have hX1:=za hX0 hq0 hb;have hY1:=za hY0 hz0 hb;have hz1:=nLt hz0 hb.size;have hB1:=hB0.trans (hb.mono hB0.size);have HU0:Hid (unused y=unused (qp (⟨who,4,kd,nm,tm,vs,hs,sn,hd,to,r,no⟩:Ak))):=hu;clear hb hX0 hY0 hz0 hB0 hq0 hu;have hq1:=nSl hz1;go_wp2_with fail
  refine(zf (HU0.o.trans HU.o) (yA y b0 b1 b2 d0 d1 d2 _)).mono ?_;rintro e w3⟨rfl,hb⟩;have hX3:=za hX1 hq1 hb;have hY3:=za hY1 hz1 hb;have hz3:=nLt hz1 hb.size;have hB3:=hB1.trans (hb.mono hB1.size);clear hb hX1 hY1 hz1 hB1 hq1 HU0;have hq3:=nSl hz3;go_wp2_with fail
  refine(yJ _ _ l.ss kd _ (HL.o.ss.mono hB3) HK.o).mono ?_;rintro e w4⟨k,hk,rfl,hsh,rfl⟩;go_wp2_with fail
  refine(zf HM.o (zh nm _ HX.o.small.nm)).mono ?_;rintro e w5⟨rfl,rfl⟩;go_wp2_with fail
  go_ret;exact⟨ze (by unfold jE qA;rw[HK.o,HM.o];rfl),hB3⟩
 have HM:Hid (zk nm=true):=hm;clear hm;have HF:Hid (qA l (⟨who,4,kd,nm,tm,vs,hs,sn,hd,to,r,no⟩:Ak)=true):=by unfold Hid qA;rw[HK.o,HM.o];rfl
 go_enter Tryz.func90,Tryz.ntmps90;go_wp2_with fail
 obtain⟨W0,hW0,hX0,hY0,hz0,hB0⟩:=zI w #[.l la l.ss.length lca,.l lb l.ms.length lcb,.l lc l.ts.length lcc] #[.s who,.i 4,.s kd,.s nm,.s tm,.l a0 vs.length c0,.l a1 hs.length c1,.i sn,.s hd,.s to,.l a2 r.vs.length c2,.s r.kd,.s r.tm,.s r.px,.i no] 43 107;rw[<- hW0];clear hW0;have hq0:=nSl hz0;refine(zf HN.o (zh who _ HX.o.small.who)).mono ?_;rintro e w1⟨rfl,rfl⟩;go_wp2_with fail
 refine(zf HV.o (zN 4 1 6 _)).mono ?_;rintro e w1⟨rfl,rfl⟩;go_wp2_with fail
 refine(y5 (⟨who,4,kd,nm,tm,vs,hs,sn,hd,to,r,no⟩:Ak) a0 a1 a2 c0 c1 c2 _ HV.o).mono ?_;rintro e w2⟨y,b0,b1,b2,d0,d1,d2,rfl,hu,hb⟩;have hX1:=za hX0 hq0 hb;have hY1:=za hY0 hz0 hb;have hz1:=nLt hz0 hb.size;have hB1:=hB0.trans (hb.mono hB0.size);have HU0:Hid (unused y=unused (qp (⟨who,4,kd,nm,tm,vs,hs,sn,hd,to,r,no⟩:Ak))):=hu;clear hb hX0 hY0 hz0 hB0 hq0 hu;have hq1:=nSl hz1;go_wp2_with fail
 refine(zf (HU0.o.trans HU.o) (yA y b0 b1 b2 d0 d1 d2 _)).mono ?_;rintro e w3⟨rfl,hb⟩;have hX3:=za hX1 hq1 hb;have hY3:=za hY1 hz1 hb;have hz3:=nLt hz1 hb.size;have hB3:=hB1.trans (hb.mono hB1.size);clear hb hX1 hY1 hz1 hB1 hq1 HU0;have hq3:=nSl hz3;go_wp2_with fail
 refine(yJ _ _ l.ss kd _ (HL.o.ss.mono hB3) HK.o).mono ?_;rintro e w4⟨k,hk,rfl,hsh,rfl⟩;go_wp2_with fail
 refine(zf HM.o (zh nm _ HX.o.small.nm)).mono ?_;rintro e w5⟨rfl,rfl⟩;go_wp2_with fail
 refine(zh hd _ HX.o.small.hd).mono ?_;rintro e w6⟨rfl,rfl⟩;go_wp2_with fail
 go_ret;exact⟨ze (by unfold jE;rw[HF.o];rfl),hB3⟩
set_option maxRecDepth 20000 in
theorem zq2 (l:Lw)(la lb lc:OA)(lca lcb lcc:Nat)(who:BA)(kd nm tm:BA)(vs hs:List BA)(sn:Int)(hd to:BA)(r:Rl)(no:Int)(a0 a1 a2:OA)(c0 c1 c2:Nat)(w:World)(hl:yF w l la lb lc)(hx:je w (⟨who,5,kd,nm,tm,vs,hs,sn,hd,to,r,no⟩:Ak) a0 a1 a2)(hn:zk who=true)(hu:unused (qp (⟨who,5,kd,nm,tm,vs,hs,sn,hd,to,r,no⟩:Ak))=true) :
 Calls Tryz.prog 90 #[.agg (l.cells la lb lc lca lcb lcc),.agg ((⟨who,5,kd,nm,tm,vs,hs,sn,hd,to,r,no⟩:Ak).cells a0 a1 a2 c0 c1 c2)] w fun e w'=>e=.returned (.bool (zac (⟨who,5,kd,nm,tm,vs,hs,sn,hd,to,r,no⟩:Ak)))/\Bw w w':=by
 have HL:Hid (yF w l la lb lc):=hl;have HX:Hid (je w (⟨who,5,kd,nm,tm,vs,hs,sn,hd,to,r,no⟩:Ak) a0 a1 a2):=hx;clear hl hx;have HN:Hid (zk who=true):=hn;have HV:Hid (within 5 1 6=true):=rfl;have HU:Hid (unused (qp (⟨who,5,kd,nm,tm,vs,hs,sn,hd,to,r,no⟩:Ak))=true):=hu;clear hn hu;unfold Ak.cells Lw.cells;dsimp only
 by_cases hk:zC l.ss kd=true
 ·have HK:Hid (zC l.ss kd=true):=hk
  clear hk
  by_cases ht:zk to=true
  ·have HT:Hid (zk to=true):=ht
   clear ht;go_enter Tryz.func90,Tryz.ntmps90;go_wp2_with fail
   obtain⟨W0,hW0,hX0,hY0,hz0,hB0⟩:=zI w #[.l la l.ss.length lca,.l lb l.ms.length lcb,.l lc l.ts.length lcc] #[.s who,.i 5,.s kd,.s nm,.s tm,.l a0 vs.length c0,.l a1 hs.length c1,.i sn,.s hd,.s to,.l a2 r.vs.length c2,.s r.kd,.s r.tm,.s r.px,.i no] 43 107;rw[<- hW0];clear hW0;have hq0:=nSl hz0;refine(zf HN.o (zh who _ HX.o.small.who)).mono ?_;rintro e w1⟨rfl,rfl⟩;go_wp2_with fail
   refine(zf HV.o (zN 5 1 6 _)).mono ?_;rintro e w1⟨rfl,rfl⟩;go_wp2_with fail
   refine(y5 (⟨who,5,kd,nm,tm,vs,hs,sn,hd,to,r,no⟩:Ak) a0 a1 a2 c0 c1 c2 _ HV.o).mono ?_;rintro e w2⟨y,b0,b1,b2,d0,d1,d2,rfl,hu,hb⟩;have hX1:=za hX0 hq0 hb;have hY1:=za hY0 hz0 hb;have hz1:=nLt hz0 hb.size;have hB1:=hB0.trans (hb.mono hB0.size);have HU0:Hid (unused y=unused (qp (⟨who,5,kd,nm,tm,vs,hs,sn,hd,to,r,no⟩:Ak))):=hu;clear hb hX0 hY0 hz0 hB0 hq0 hu;have hq1:=nSl hz1;go_wp2_with fail
   refine(zf (HU0.o.trans HU.o) (yA y b0 b1 b2 d0 d1 d2 _)).mono ?_;rintro e w3⟨rfl,hb⟩;have hX3:=za hX1 hq1 hb;have hY3:=za hY1 hz1 hb;have hz3:=nLt hz1 hb.size;have hB3:=hB1.trans (hb.mono hB1.size);clear hb hX1 hY1 hz1 hB1 hq1 HU0;have hq3:=nSl hz3;go_wp2_with fail
   refine(yJ _ _ l.ss kd _ (HL.o.ss.mono hB3) HK.o).mono ?_;rintro e w4⟨k,hk,rfl,hsh,rfl⟩;go_wp2_with fail
   refine(zf HT.o (zh to _ HX.o.small.to)).mono ?_;rintro e w5⟨rfl,rfl⟩;go_wp2_with fail
   refine(za3 r _ _ _ HX.o.small.r (HX.o.r.mono hB3)).mono ?_;rintro e w6⟨rfl,hb⟩;have hB6:=hB3.trans (hb.mono hB3.size);clear hb;go_wp2_with fail
   go_ret;exact⟨ze (by unfold zac;rw[HT.o];rfl),hB6⟩
  ·have HT:Hid (zk to=false):=bFi ht
   clear ht;go_enter Tryz.func90,Tryz.ntmps90;go_wp2_with fail
   obtain⟨W0,hW0,hX0,hY0,hz0,hB0⟩:=zI w #[.l la l.ss.length lca,.l lb l.ms.length lcb,.l lc l.ts.length lcc] #[.s who,.i 5,.s kd,.s nm,.s tm,.l a0 vs.length c0,.l a1 hs.length c1,.i sn,.s hd,.s to,.l a2 r.vs.length c2,.s r.kd,.s r.tm,.s r.px,.i no] 43 107;rw[<- hW0];clear hW0;have hq0:=nSl hz0;refine(zf HN.o (zh who _ HX.o.small.who)).mono ?_;rintro e w1⟨rfl,rfl⟩;go_wp2_with fail
   refine(zf HV.o (zN 5 1 6 _)).mono ?_;rintro e w1⟨rfl,rfl⟩;go_wp2_with fail
   refine(y5 (⟨who,5,kd,nm,tm,vs,hs,sn,hd,to,r,no⟩:Ak) a0 a1 a2 c0 c1 c2 _ HV.o).mono ?_;rintro e w2⟨y,b0,b1,b2,d0,d1,d2,rfl,hu,hb⟩;have hX1:=za hX0 hq0 hb;have hY1:=za hY0 hz0 hb;have hz1:=nLt hz0 hb.size;have hB1:=hB0.trans (hb.mono hB0.size);have HU0:Hid (unused y=unused (qp (⟨who,5,kd,nm,tm,vs,hs,sn,hd,to,r,no⟩:Ak))):=hu;clear hb hX0 hY0 hz0 hB0 hq0 hu;have hq1:=nSl hz1;go_wp2_with fail
   refine(zf (HU0.o.trans HU.o) (yA y b0 b1 b2 d0 d1 d2 _)).mono ?_;rintro e w3⟨rfl,hb⟩;have hX3:=za hX1 hq1 hb;have hY3:=za hY1 hz1 hb;have hz3:=nLt hz1 hb.size;have hB3:=hB1.trans (hb.mono hB1.size);clear hb hX1 hY1 hz1 hB1 hq1 HU0;have hq3:=nSl hz3;go_wp2_with fail
   refine(yJ _ _ l.ss kd _ (HL.o.ss.mono hB3) HK.o).mono ?_;rintro e w4⟨k,hk,rfl,hsh,rfl⟩;go_wp2_with fail
   refine(zf HT.o (zh to _ HX.o.small.to)).mono ?_;rintro e w5⟨rfl,rfl⟩;go_wp2_with fail
   go_ret;exact⟨ze (by unfold zac;rw[HT.o];rfl),hB3⟩
 ·have HK:Hid (zC l.ss kd=false):=bFi hk
  clear hk
  by_cases ht:zk to=true
  ·have HT:Hid (zk to=true):=ht
   clear ht;go_enter Tryz.func90,Tryz.ntmps90;go_wp2_with fail
   obtain⟨W0,hW0,hX0,hY0,hz0,hB0⟩:=zI w #[.l la l.ss.length lca,.l lb l.ms.length lcb,.l lc l.ts.length lcc] #[.s who,.i 5,.s kd,.s nm,.s tm,.l a0 vs.length c0,.l a1 hs.length c1,.i sn,.s hd,.s to,.l a2 r.vs.length c2,.s r.kd,.s r.tm,.s r.px,.i no] 43 107;rw[<- hW0];clear hW0;have hq0:=nSl hz0;refine(zf HN.o (zh who _ HX.o.small.who)).mono ?_;rintro e w1⟨rfl,rfl⟩;go_wp2_with fail
   refine(zf HV.o (zN 5 1 6 _)).mono ?_;rintro e w1⟨rfl,rfl⟩;go_wp2_with fail
   refine(y5 (⟨who,5,kd,nm,tm,vs,hs,sn,hd,to,r,no⟩:Ak) a0 a1 a2 c0 c1 c2 _ HV.o).mono ?_;rintro e w2⟨y,b0,b1,b2,d0,d1,d2,rfl,hu,hb⟩;have hX1:=za hX0 hq0 hb;have hY1:=za hY0 hz0 hb;have hz1:=nLt hz0 hb.size;have hB1:=hB0.trans (hb.mono hB0.size);have HU0:Hid (unused y=unused (qp (⟨who,5,kd,nm,tm,vs,hs,sn,hd,to,r,no⟩:Ak))):=hu;clear hb hX0 hY0 hz0 hB0 hq0 hu;have hq1:=nSl hz1;go_wp2_with fail
   refine(zf (HU0.o.trans HU.o) (yA y b0 b1 b2 d0 d1 d2 _)).mono ?_;rintro e w3⟨rfl,hb⟩;have hX3:=za hX1 hq1 hb;have hY3:=za hY1 hz1 hb;have hz3:=nLt hz1 hb.size;have hB3:=hB1.trans (hb.mono hB1.size);clear hb hX1 hY1 hz1 hB1 hq1 HU0;have hq3:=nSl hz3;go_wp2_with fail
   refine(jR _ _ l.ss kd _ (HL.o.ss.mono hB3) HK.o).mono ?_;rintro e w4⟨rfl,rfl⟩;go_wp2_with fail
   refine(zf HT.o (zh to _ HX.o.small.to)).mono ?_;rintro e w5⟨rfl,rfl⟩;go_wp2_with fail
   refine(za3 r _ _ _ HX.o.small.r (HX.o.r.mono hB3)).mono ?_;rintro e w6⟨rfl,hb⟩;have hB6:=hB3.trans (hb.mono hB3.size);clear hb;go_wp2_with fail
   go_ret;exact⟨ze (by unfold zac;rw[HT.o];rfl),hB6⟩
  ·have HT:Hid (zk to=false):=bFi ht
   clear ht;go_enter Tryz.func90,Tryz.ntmps90;go_wp2_with fail
   obtain⟨W0,hW0,hX0,hY0,hz0,hB0⟩:=zI w #[.l la l.ss.length lca,.l lb l.ms.length lcb,.l lc l.ts.length lcc] #[.s who,.i 5,.s kd,.s nm,.s tm,.l a0 vs.length c0,.l a1 hs.length c1,.i sn,.s hd,.s to,.l a2 r.vs.length c2,.s r.kd,.s r.tm,.s r.px,.i no] 43 107;rw[<- hW0];clear hW0;have hq0:=nSl hz0;refine(zf HN.o (zh who _ HX.o.small.who)).mono ?_;rintro e w1⟨rfl,rfl⟩;go_wp2_with fail
   refine(zf HV.o (zN 5 1 6 _)).mono ?_;rintro e w1⟨rfl,rfl⟩;go_wp2_with fail
   refine(y5 (⟨who,5,kd,nm,tm,vs,hs,sn,hd,to,r,no⟩:Ak) a0 a1 a2 c0 c1 c2 _ HV.o).mono ?_;rintro e w2⟨y,b0,b1,b2,d0,d1,d2,rfl,hu,hb⟩;have hX1:=za hX0 hq0 hb;have hY1:=za hY0 hz0 hb;have hz1:=nLt hz0 hb.size;have hB1:=hB0.trans (hb.mono hB0.size);have HU0:Hid (unused y=unused (qp (⟨who,5,kd,nm,tm,vs,hs,sn,hd,to,r,no⟩:Ak))):=hu;clear hb hX0 hY0 hz0 hB0 hq0 hu;have hq1:=nSl hz1;go_wp2_with fail
   refine(zf (HU0.o.trans HU.o) (yA y b0 b1 b2 d0 d1 d2 _)).mono ?_;rintro e w3⟨rfl,hb⟩;have hX3:=za hX1 hq1 hb;have hY3:=za hY1 hz1 hb;have hz3:=nLt hz1 hb.size;have hB3:=hB1.trans (hb.mono hB1.size);clear hb hX1 hY1 hz1 hB1 hq1 HU0;have hq3:=nSl hz3;go_wp2_with fail
   refine(jR _ _ l.ss kd _ (HL.o.ss.mono hB3) HK.o).mono ?_;rintro e w4⟨rfl,rfl⟩;go_wp2_with fail
   refine(zf HT.o (zh to _ HX.o.small.to)).mono ?_;rintro e w5⟨rfl,rfl⟩;go_wp2_with fail
   go_ret;exact⟨ze (by unfold zac;rw[HT.o];rfl),hB3⟩
set_option maxRecDepth 20000 in
theorem zqV (l:Lw)(la lb lc:OA)(lca lcb lcc:Nat)(who:BA)(kd nm tm:BA)(vs hs:List BA)(sn:Int)(hd to:BA)(r:Rl)(no:Int)(a0 a1 a2:OA)(c0 c1 c2:Nat)(w:World)(hl:yF w l la lb lc)(hx:je w (⟨who,6,kd,nm,tm,vs,hs,sn,hd,to,r,no⟩:Ak) a0 a1 a2)(hn:zk who=true)(hu:unused (qp (⟨who,6,kd,nm,tm,vs,hs,sn,hd,to,r,no⟩:Ak))=true) :
 Calls Tryz.prog 90 #[.agg (l.cells la lb lc lca lcb lcc),.agg ((⟨who,6,kd,nm,tm,vs,hs,sn,hd,to,r,no⟩:Ak).cells a0 a1 a2 c0 c1 c2)] w fun e w'=>e=.returned (.bool (zbA (⟨who,6,kd,nm,tm,vs,hs,sn,hd,to,r,no⟩:Ak)))/\Bw w w':=by
 have HL:Hid (yF w l la lb lc):=hl;have HX:Hid (je w (⟨who,6,kd,nm,tm,vs,hs,sn,hd,to,r,no⟩:Ak) a0 a1 a2):=hx;clear hl hx;have HN:Hid (zk who=true):=hn;have HV:Hid (within 6 1 6=true):=rfl;have HU:Hid (unused (qp (⟨who,6,kd,nm,tm,vs,hs,sn,hd,to,r,no⟩:Ak))=true):=hu;clear hn hu;unfold Ak.cells Lw.cells;dsimp only
 by_cases hk:zC l.ss kd=true
 ·have HK:Hid (zC l.ss kd=true):=hk
  clear hk;go_enter Tryz.func90,Tryz.ntmps90;go_wp2_with fail
  obtain⟨W0,hW0,hX0,hY0,hz0,hB0⟩:=zI w #[.l la l.ss.length lca,.l lb l.ms.length lcb,.l lc l.ts.length lcc] #[.s who,.i 6,.s kd,.s nm,.s tm,.l a0 vs.length c0,.l a1 hs.length c1,.i sn,.s hd,.s to,.l a2 r.vs.length c2,.s r.kd,.s r.tm,.s r.px,.i no] 43 107;rw[<- hW0];clear hW0;have hq0:=nSl hz0;refine(zf HN.o (zh who _ HX.o.small.who)).mono ?_;rintro e w1⟨rfl,rfl⟩;go_wp2_with fail
  refine(zf HV.o (zN 6 1 6 _)).mono ?_;rintro e w1⟨rfl,rfl⟩;go_wp2_with fail
  refine(y5 (⟨who,6,kd,nm,tm,vs,hs,sn,hd,to,r,no⟩:Ak) a0 a1 a2 c0 c1 c2 _ HV.o).mono ?_;rintro e w2⟨y,b0,b1,b2,d0,d1,d2,rfl,hu,hb⟩;have hX1:=za hX0 hq0 hb;have hY1:=za hY0 hz0 hb;have hz1:=nLt hz0 hb.size;have hB1:=hB0.trans (hb.mono hB0.size);have HU0:Hid (unused y=unused (qp (⟨who,6,kd,nm,tm,vs,hs,sn,hd,to,r,no⟩:Ak))):=hu;clear hb hX0 hY0 hz0 hB0 hq0 hu;have hq1:=nSl hz1;go_wp2_with fail
  refine(zf (HU0.o.trans HU.o) (yA y b0 b1 b2 d0 d1 d2 _)).mono ?_;rintro e w3⟨rfl,hb⟩;have hX3:=za hX1 hq1 hb;have hY3:=za hY1 hz1 hb;have hz3:=nLt hz1 hb.size;have hB3:=hB1.trans (hb.mono hB1.size);clear hb hX1 hY1 hz1 hB1 hq1 HU0;have hq3:=nSl hz3;go_wp2_with fail
  refine(yJ _ _ l.ss kd _ (HL.o.ss.mono hB3) HK.o).mono ?_;rintro e w4⟨k,hk,rfl,hsh,rfl⟩;go_wp2_with fail
  go_ret;exact⟨rfl,hB3⟩
 ·have HK:Hid (zC l.ss kd=false):=bFi hk
  clear hk;go_enter Tryz.func90,Tryz.ntmps90;go_wp2_with fail
  obtain⟨W0,hW0,hX0,hY0,hz0,hB0⟩:=zI w #[.l la l.ss.length lca,.l lb l.ms.length lcb,.l lc l.ts.length lcc] #[.s who,.i 6,.s kd,.s nm,.s tm,.l a0 vs.length c0,.l a1 hs.length c1,.i sn,.s hd,.s to,.l a2 r.vs.length c2,.s r.kd,.s r.tm,.s r.px,.i no] 43 107;rw[<- hW0];clear hW0;have hq0:=nSl hz0;refine(zf HN.o (zh who _ HX.o.small.who)).mono ?_;rintro e w1⟨rfl,rfl⟩;go_wp2_with fail
  refine(zf HV.o (zN 6 1 6 _)).mono ?_;rintro e w1⟨rfl,rfl⟩;go_wp2_with fail
  refine(y5 (⟨who,6,kd,nm,tm,vs,hs,sn,hd,to,r,no⟩:Ak) a0 a1 a2 c0 c1 c2 _ HV.o).mono ?_;rintro e w2⟨y,b0,b1,b2,d0,d1,d2,rfl,hu,hb⟩;have hX1:=za hX0 hq0 hb;have hY1:=za hY0 hz0 hb;have hz1:=nLt hz0 hb.size;have hB1:=hB0.trans (hb.mono hB0.size);have HU0:Hid (unused y=unused (qp (⟨who,6,kd,nm,tm,vs,hs,sn,hd,to,r,no⟩:Ak))):=hu;clear hb hX0 hY0 hz0 hB0 hq0 hu;have hq1:=nSl hz1;go_wp2_with fail
  refine(zf (HU0.o.trans HU.o) (yA y b0 b1 b2 d0 d1 d2 _)).mono ?_;rintro e w3⟨rfl,hb⟩;have hX3:=za hX1 hq1 hb;have hY3:=za hY1 hz1 hb;have hz3:=nLt hz1 hb.size;have hB3:=hB1.trans (hb.mono hB1.size);clear hb hX1 hY1 hz1 hB1 hq1 HU0;have hq3:=nSl hz3;go_wp2_with fail
  refine(jR _ _ l.ss kd _ (HL.o.ss.mono hB3) HK.o).mono ?_;rintro e w4⟨rfl,rfl⟩;go_wp2_with fail
  go_ret;exact⟨rfl,hB3⟩
theorem zc9 (l:Lw)(la lb lc:OA)(lca lcb lcc:Nat)(x:Ak)(a0 a1 a2:OA)(c0 c1 c2:Nat)(w:World)(hl:yF w l la lb lc)(hx:je w x a0 a1 a2) :
 Calls Tryz.prog 90 #[.agg (l.cells la lb lc lca lcb lcc),.agg (x.cells a0 a1 a2 c0 c1 c2)] w fun e w'=>e=.returned (.bool (zao l x))/\Bw w w':=by
 obtain⟨who,vb,kd,nm,tm,vs,hs,sn,hd,to,r,no⟩:=x
 by_cases hn:zk who=true
 rotate_left
 ·refine(zn2 l la lb lc lca lcb lcc who vb kd nm tm vs hs sn hd to r no a0 a1 a2 c0 c1 c2 w hl hx (bFi hn)).mono ?_
  rintro e w1⟨rfl,hb⟩;exact⟨ze (by unfold zao;dsimp only;rw[bFi hn];rfl),hb⟩
 by_cases hv:within vb 1 6=true
 rotate_left
 ·refine(znR l la lb lc lca lcb lcc who vb kd nm tm vs hs sn hd to r no a0 a1 a2 c0 c1 c2 w hl hx hn (bFi hv)).mono ?_
  rintro e w1⟨rfl,hb⟩;exact⟨ze (by unfold zao;dsimp only;rw[hn,bFi hv];rfl),hb⟩
 by_cases hu:unused (qp (⟨who,vb,kd,nm,tm,vs,hs,sn,hd,to,r,no⟩:Ak))=true
 rotate_left
 ·refine(zoN l la lb lc lca lcb lcc who vb kd nm tm vs hs sn hd to r no a0 a1 a2 c0 c1 c2 w hl hx hn hv (bFi hu)).mono ?_
  rintro e w1⟨rfl,hb⟩;exact⟨ze (by unfold zao;rw[bFi hu];simp),hb⟩
 rcases zjG hv with e|e|e|e|e|e <;> subst e
 ·refine(zqR l la lb lc lca lcb lcc who kd nm tm vs hs sn hd to r no a0 a1 a2 c0 c1 c2 w hl hx hn hu).mono ?_
  rintro e w1⟨rfl,hb⟩;exact⟨ze (by unfold zao;rw[hu];dsimp only;rw[hn];exact(Bool.and_true _).symm),hb⟩
 ·refine(zqO l la lb lc lca lcb lcc who kd nm tm vs hs sn hd to r no a0 a1 a2 c0 c1 c2 w hl hx hn hu).mono ?_
  rintro e w1⟨rfl,hb⟩;exact⟨ze (by unfold zao;rw[hu];dsimp only;rw[hn];exact(Bool.and_true _).symm),hb⟩
 ·refine(zqJ l la lb lc lca lcb lcc who kd nm tm vs hs sn hd to r no a0 a1 a2 c0 c1 c2 w hl hx hn hu).mono ?_
  rintro e w1⟨rfl,hb⟩;exact⟨ze (by unfold zao;rw[hu];dsimp only;rw[hn];exact(Bool.and_true _).symm),hb⟩
 ·refine(zqX l la lb lc lca lcb lcc who kd nm tm vs hs sn hd to r no a0 a1 a2 c0 c1 c2 w hl hx hn hu).mono ?_
  rintro e w1⟨rfl,hb⟩;exact⟨ze (by unfold zao;rw[hu];dsimp only;rw[hn];exact(Bool.and_true _).symm),hb⟩
 ·refine(zq2 l la lb lc lca lcb lcc who kd nm tm vs hs sn hd to r no a0 a1 a2 c0 c1 c2 w hl hx hn hu).mono ?_
  rintro e w1⟨rfl,hb⟩;exact⟨ze (by unfold zao;rw[hu];dsimp only;rw[hn];exact(Bool.and_true _).symm),hb⟩
 ·refine(zqV l la lb lc lca lcb lcc who kd nm tm vs hs sn hd to r no a0 a1 a2 c0 c1 c2 w hl hx hn hu).mono ?_
  rintro e w1⟨rfl,hb⟩;exact⟨ze (by unfold zao;rw[hu];dsimp only;rw[hn];exact(Bool.and_true _).symm),hb⟩
end Go.Proofs.YtedangodjiolaaaGreat
