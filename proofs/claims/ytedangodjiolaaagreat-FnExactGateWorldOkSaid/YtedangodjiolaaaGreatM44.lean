import Derived.Test.YtedangodjiolaaaGreatM42
set_option maxHeartbeats 4000000
namespace Go.Proofs.YtedangodjiolaaaGreat
open Go.RowKit
theorem zlZ (l:Lw)(la lb lc:OA)(lca lcb lcc:Nat)(s:Sl)(a0 a1 a2 a3:OA)(c0 c1 c2 c3:Nat)(w:World)(hl:yF w l la lb lc)(hs:zc3 w s a0 a1 a2 a3) :
 Calls Tryz.prog 45 #[.agg (l.cells la lb lc lca lcb lcc),.agg (s.cells a0 a1 a2 a3 c0 c1 c2 c3)] w fun e w'=>e=.returned (.bool (zaH l s))/\Bw w w':=by
 have HL:Hid (yF w l la lb lc):=hl;have HS:Hid (zc3 w s a0 a1 a2 a3):=hs;have hln:=hs.ws.len;unfold maxLen at hln;clear hl hs;unfold Sl.cells Lw.cells
 by_cases hn:zk s.dr=true
 rotate_left
 ·have HN:Hid (zk s.dr=false):=bFi hn
  clear hn;go_enter Tryz.func45,Tryz.ntmps45;go_wp2_with fail
  obtain⟨W0,hW0,hX0,hY0,hz0,hB0⟩:=zI w #[.l la l.ss.length lca,.l lb l.ms.length lcb,.l lc l.ts.length lcc] #[.s s.dr,.s s.x.who,.i s.x.vb,.s s.x.kd,.s s.x.nm,.s s.x.tm,.l a0 s.x.vs.length c0,.l a1 s.x.hs.length c1,.i s.x.sn,.s s.x.hd,.s s.x.to,.l a2 s.x.r.vs.length c2,.s s.x.r.kd,.s s.x.r.tm,.s s.x.r.px,.i s.x.no,.i s.gv,.l a3 s.ws.length c3] 43 110;rw[<- hW0];clear hW0;have hq0:=nSl hz0;refine(zf HN.o (zh s.dr _ HS.o.dr)).mono ?_;rintro e w1⟨rfl,rfl⟩;go_wp2_with fail
  go_ret;exact⟨ze (by unfold zaH;rw[HN.o];rfl),hB0⟩
 have HN:Hid (zk s.dr=true):=hn;clear hn
 by_cases ha:zao l s.x=true
 rotate_left
 ·have HA:Hid (zao l s.x=false):=bFi ha
  clear ha;go_enter Tryz.func45,Tryz.ntmps45;go_wp2_with fail
  obtain⟨W0,hW0,hX0,hY0,hz0,hB0⟩:=zI w #[.l la l.ss.length lca,.l lb l.ms.length lcb,.l lc l.ts.length lcc] #[.s s.dr,.s s.x.who,.i s.x.vb,.s s.x.kd,.s s.x.nm,.s s.x.tm,.l a0 s.x.vs.length c0,.l a1 s.x.hs.length c1,.i s.x.sn,.s s.x.hd,.s s.x.to,.l a2 s.x.r.vs.length c2,.s s.x.r.kd,.s s.x.r.tm,.s s.x.r.px,.i s.x.no,.i s.gv,.l a3 s.ws.length c3] 43 110;rw[<- hW0];clear hW0;have hq0:=nSl hz0;refine(zf HN.o (zh s.dr _ HS.o.dr)).mono ?_;rintro e w1⟨rfl,rfl⟩;go_wp2_with fail
  refine(zf HA.o (zc9 l la lb lc lca lcb lcc s.x a0 a1 a2 c0 c1 c2 _ (HL.o.mono hB0) (HS.o.x.mono hB0))).mono ?_;rintro e w1⟨rfl,hb⟩;have hX1:=za hX0 hq0 hb;have hY1:=za hY0 hz0 hb;have hz1:=nLt hz0 hb.size;have hB1:=hB0.trans (hb.mono hB0.size);clear hb hX0 hY0 hz0 hB0 hq0;have hq1:=nSl hz1;go_wp2_with fail
  go_ret;exact⟨ze (by unfold zaH;rw[HN.o,HA.o];rfl),hB1⟩
 have HA:Hid (zao l s.x=true):=ha;clear ha
 by_cases hg:0<=s.gv
 rotate_left
 ·have hgd:decide (s.gv<0)=true:=by simp;omega
  have HG:Hid (decide (0<=s.gv)=false):=decide_eq_false hg;clear hg;go_enter Tryz.func45,Tryz.ntmps45;go_wp2_with fail
  obtain⟨W0,hW0,hX0,hY0,hz0,hB0⟩:=zI w #[.l la l.ss.length lca,.l lb l.ms.length lcb,.l lc l.ts.length lcc] #[.s s.dr,.s s.x.who,.i s.x.vb,.s s.x.kd,.s s.x.nm,.s s.x.tm,.l a0 s.x.vs.length c0,.l a1 s.x.hs.length c1,.i s.x.sn,.s s.x.hd,.s s.x.to,.l a2 s.x.r.vs.length c2,.s s.x.r.kd,.s s.x.r.tm,.s s.x.r.px,.i s.x.no,.i s.gv,.l a3 s.ws.length c3] 43 110;rw[<- hW0];clear hW0;have hq0:=nSl hz0;refine(zf HN.o (zh s.dr _ HS.o.dr)).mono ?_;rintro e w1⟨rfl,rfl⟩;go_wp2_with fail
  refine(zf HA.o (zc9 l la lb lc lca lcb lcc s.x a0 a1 a2 c0 c1 c2 _ (HL.o.mono hB0) (HS.o.x.mono hB0))).mono ?_;rintro e w1⟨rfl,hb⟩;have hX1:=za hX0 hq0 hb;have hY1:=za hY0 hz0 hb;have hz1:=nLt hz0 hb.size;have hB1:=hB0.trans (hb.mono hB0.size);clear hb hX0 hY0 hz0 hB0 hq0;have hq1:=nSl hz1;go_wp2_with fail
  go_ret;exact⟨ze (by unfold zaH;rw[HN.o,HA.o,HG.o];rfl),hB1⟩
 have hgd:decide (s.gv<0)=false:=by simp;omega
 have HG:Hid (decide (0<=s.gv)=true):=decide_eq_true hg;clear hg
 by_cases hk:s.ws.length<=8
 rotate_left
 ·have hkd:decide ((8:Int)<(s.ws.length:Int))=true:=by simp;omega
  have HK:Hid (decide (s.ws.length<=8)=false):=decide_eq_false hk;clear hk;go_enter Tryz.func45,Tryz.ntmps45;go_wp2_with fail
  obtain⟨W0,hW0,hX0,hY0,hz0,hB0⟩:=zI w #[.l la l.ss.length lca,.l lb l.ms.length lcb,.l lc l.ts.length lcc] #[.s s.dr,.s s.x.who,.i s.x.vb,.s s.x.kd,.s s.x.nm,.s s.x.tm,.l a0 s.x.vs.length c0,.l a1 s.x.hs.length c1,.i s.x.sn,.s s.x.hd,.s s.x.to,.l a2 s.x.r.vs.length c2,.s s.x.r.kd,.s s.x.r.tm,.s s.x.r.px,.i s.x.no,.i s.gv,.l a3 s.ws.length c3] 43 110;rw[<- hW0];clear hW0;have hq0:=nSl hz0;refine(zf HN.o (zh s.dr _ HS.o.dr)).mono ?_;rintro e w1⟨rfl,rfl⟩;go_wp2_with fail
  refine(zf HA.o (zc9 l la lb lc lca lcb lcc s.x a0 a1 a2 c0 c1 c2 _ (HL.o.mono hB0) (HS.o.x.mono hB0))).mono ?_;rintro e w1⟨rfl,hb⟩;have hX1:=za hX0 hq0 hb;have hY1:=za hY0 hz0 hb;have hz1:=nLt hz0 hb.size;have hB1:=hB0.trans (hb.mono hB0.size);clear hb hX0 hY0 hz0 hB0 hq0;have hq1:=nSl hz1;go_wp2_with fail
  go_ret;exact⟨ze (by unfold zaH;rw[HN.o,HA.o,HG.o,HK.o];rfl),hB1⟩
 ·have hkd:decide ((8:Int)<(s.ws.length:Int))=false:=by simp;omega
  have HK:Hid (decide (s.ws.length<=8)=true):=decide_eq_true hk;clear hk;go_enter Tryz.func45,Tryz.ntmps45;go_wp2_with fail
  obtain⟨W0,hW0,hX0,hY0,hz0,hB0⟩:=zI w #[.l la l.ss.length lca,.l lb l.ms.length lcb,.l lc l.ts.length lcc] #[.s s.dr,.s s.x.who,.i s.x.vb,.s s.x.kd,.s s.x.nm,.s s.x.tm,.l a0 s.x.vs.length c0,.l a1 s.x.hs.length c1,.i s.x.sn,.s s.x.hd,.s s.x.to,.l a2 s.x.r.vs.length c2,.s s.x.r.kd,.s s.x.r.tm,.s s.x.r.px,.i s.x.no,.i s.gv,.l a3 s.ws.length c3] 43 110;rw[<- hW0];clear hW0;have hq0:=nSl hz0;refine(zf HN.o (zh s.dr _ HS.o.dr)).mono ?_;rintro e w1⟨rfl,rfl⟩;go_wp2_with fail
  refine(zf HA.o (zc9 l la lb lc lca lcb lcc s.x a0 a1 a2 c0 c1 c2 _ (HL.o.mono hB0) (HS.o.x.mono hB0))).mono ?_;rintro e w1⟨rfl,hb⟩;have hX1:=za hX0 hq0 hb;have hY1:=za hY0 hz0 hb;have hz1:=nLt hz0 hb.size;have hB1:=hB0.trans (hb.mono hB0.size);clear hb hX0 hY0 hz0 hB0 hq0;have hq1:=nSl hz1;go_wp2_with fail
  have HW:Hid (zcs w1 a3 s.ws):=HS.o.ws.mono hB1;have hXk:∀wr,Bw w1 wr->∀j,wr.cell? (aD (w.heap.size+1) j)=(#[.s s.dr,.s s.x.who,.i s.x.vb,.s s.x.kd,.s s.x.nm,.s s.x.tm,.l a0 s.x.vs.length c0,.l a1 s.x.hs.length c1,.i s.x.sn,.s s.x.hd,.s s.x.to,.l a2 s.x.r.vs.length c2,.s s.x.r.kd,.s s.x.r.tm,.s s.x.r.px,.i s.x.no,.i s.gv,.l a3 s.ws.length c3]:AV)[j]?:=fun wr hb=>za hY1 hz1 hb
  go_loopw [5] (fun i wr=>∃k:Nat,k<=s.ws.length/\i=.i k/\(s.ws.take k).any qH=false/\Bw w1 wr) (fun i _=>s.ws.length-(intOf i).toNat)
  case atStart=>exact⟨0,Nat.zero_le _,rfl,rfl,bRf _ _⟩
  case round=>
   obtain⟨k,hk,rfl,hno,hB⟩:=hrel;have hY:=hXk wr hB;have hzr:w.heap.size+1<wr.heap.size:=nLt hz1 hB.size;clear hX1 hY1 hXk
   by_cases hlt:k<s.ws.length
   ·obtain⟨b,off,rfl,hb,c0,c1,c2⟩:=HW.o.load hB k hlt
    have hltI:(k:Int)<(s.ws.length:Int):=by omega
    have hsm:=HW.o.small k hlt;have HSM:Hid s.ws[k].Small:=hsm;clear hsm
    by_cases g1:zk s.ws[k].kd=true
    rotate_left
    ·have G1:Hid (zk s.ws[k].kd=false):=bFi g1
     have HE:Hid (s.ws.any qH=true):=zcm _ s.ws k hlt (by unfold qH;rw[G1.out];rfl);clear g1 hno;go_wp2_with fail
     refine(zf G1.out (zh _ _ HSM.o.kd)).mono ?_;rintro e w2⟨rfl,rfl⟩;go_wp2_with fail
     go_ret;exact⟨ze (by unfold zaH;rw[HN.o,HA.o,HG.o,HK.o,HE.o];rfl),hB1.trans (hB.mono hB1.size)⟩
    have G1:Hid (zk s.ws[k].kd=true):=g1;clear g1
    by_cases g2:zk s.ws[k].nm=true
    rotate_left
    ·have G2:Hid (zk s.ws[k].nm=false):=bFi g2
     have HE:Hid (s.ws.any qH=true):=zcm _ s.ws k hlt (by unfold qH;rw[G1.out,G2.out];rfl);clear g2 hno;go_wp2_with fail
     refine(zf G1.out (zh _ _ HSM.o.kd)).mono ?_;rintro e w2⟨rfl,rfl⟩;go_wp2_with fail
     refine(zf G2.out (zh _ _ HSM.o.nm)).mono ?_;rintro e w2⟨rfl,rfl⟩;go_wp2_with fail
     go_ret;exact⟨ze (by unfold zaH;rw[HN.o,HA.o,HG.o,HK.o,HE.o];rfl),hB1.trans (hB.mono hB1.size)⟩
    have G2:Hid (zk s.ws[k].nm=true):=g2;clear g2
    by_cases g3:s.ws[k].vn<0
    ·have hvd:decide (s.ws[k].vn<0)=true:=decide_eq_true g3
     have HE:Hid (s.ws.any qH=true):=zcm _ s.ws k hlt (by unfold qH;rw[G1.out,G2.out,hvd];rfl);clear g3 hno;go_wp2_with fail
     refine(zf G1.out (zh _ _ HSM.o.kd)).mono ?_;rintro e w2⟨rfl,rfl⟩;go_wp2_with fail
     refine(zf G2.out (zh _ _ HSM.o.nm)).mono ?_;rintro e w2⟨rfl,rfl⟩;go_wp2_with fail
     go_ret;exact⟨ze (by unfold zaH;rw[HN.o,HA.o,HG.o,HK.o,HE.o];rfl),hB1.trans (hB.mono hB1.size)⟩
    ·have hvd:decide (s.ws[k].vn<0)=false:=decide_eq_false g3
     have HE:Hid ((s.ws.take (k+1)).any qH=false):=by unfold Hid;rw[jo _ s.ws k hlt,hno];unfold qH;rw[G1.out,G2.out,hvd];rfl
     clear g3 hno;go_wp2_with fail
     refine(zf G1.out (zh _ _ HSM.o.kd)).mono ?_;rintro e w2⟨rfl,rfl⟩;go_wp2_with fail
     refine(zf G2.out (zh _ _ HSM.o.nm)).mono ?_;rintro e w2⟨rfl,rfl⟩;go_wp2_with fail
     exact⟨⟨k+1,by omega,by go_num,HE.o,hB⟩,by simp[intOf];omega⟩
   ·have HE:Hid (s.ws.any qH=false):=by unfold Hid;rw[<- hno,tOl (by omega)]
    clear hno;go_wp2_with fail
    go_ret;exact⟨ze (by unfold zaH;rw[HN.o,HA.o,HG.o,HK.o,HE.o];rfl),hB1.trans (hB.mono hB1.size)⟩
end Go.Proofs.YtedangodjiolaaaGreat
