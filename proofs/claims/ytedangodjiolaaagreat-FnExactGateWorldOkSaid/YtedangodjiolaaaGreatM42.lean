import Derived.Test.YtedangodjiolaaaGreatM41
set_option maxHeartbeats 4000000
namespace Go.Proofs.YtedangodjiolaaaGreat
open Go.RowKit
def qH (m:Wt):Bool:=!zk m.kd||(!zk m.nm||decide (m.vn<0))
def zaH (l:Lw)(s:Sl):Bool:=zk s.dr&&(zao l s.x&&(decide (0<=s.gv)&&(decide (s.ws.length<=8)&&!s.ws.any qH)))
theorem zlU (m:Wt)(w:World)(hm:m.Small) :
 Calls Tryz.prog 171 #[.agg m.cells] w fun e w'=>e=.returned (.bool (qH m))/\Bw w w':=by
 have HM:Hid m.Small:=hm;clear hm;unfold Wt.cells;have hB:∀ob,Bw w (w.alloc ob):=fun ob=>bAl _ _
 by_cases h1:zk m.kd=true
 rotate_left
 ·have H1:Hid (zk m.kd=false):=bFi h1
  clear h1;go_enter Tryz.func171,Tryz.ntmps171;go_wp2_with fail
  refine(zf H1.o (zu m.kd _ HM.o.kd)).mono ?_;rintro e w1⟨rfl,rfl⟩;go_wp2_with fail
  go_ret;exact⟨ze (by unfold qH;rw[H1.o];rfl),hB _⟩
 have H1:Hid (zk m.kd=true):=h1;clear h1
 by_cases h2:zk m.nm=true
 rotate_left
 ·have H2:Hid (zk m.nm=false):=bFi h2
  clear h2;go_enter Tryz.func171,Tryz.ntmps171;go_wp2_with fail
  refine(zf H1.o (zu m.kd _ HM.o.kd)).mono ?_;rintro e w1⟨rfl,rfl⟩;go_wp2_with fail
  refine(zf H2.o (zu m.nm _ HM.o.nm)).mono ?_;rintro e w1⟨rfl,rfl⟩;go_wp2_with fail
  go_ret;exact⟨ze (by unfold qH;rw[H1.o,H2.o];rfl),hB _⟩
 ·have H2:Hid (zk m.nm=true):=h2
  clear h2;go_enter Tryz.func171,Tryz.ntmps171;go_wp2_with fail
  refine(zf H1.o (zu m.kd _ HM.o.kd)).mono ?_;rintro e w1⟨rfl,rfl⟩;go_wp2_with fail
  refine(zf H2.o (zu m.nm _ HM.o.nm)).mono ?_;rintro e w1⟨rfl,rfl⟩;go_wp2_with fail
  go_ret;exact⟨ze (by unfold qH;rw[H1.o,H2.o];rfl),hB _⟩
theorem zi6 (a:OA)(cap:Nat)(ms:List Wt)(w:World)(hw:zcs w a ms) :
 Calls Tryz.prog 219 #[.l a ms.length cap,.func (.func 171) #[] #[]] w fun e w'=>∃r:Int,e=.returned (.i r)/\decide (0<=r)=ms.any qH/\Bw w w':=by
 have hl:=hw.len;unfold maxLen at hl;go_enter Tryz.func219,Tryz.ntmps219;go_wp2_with fail
 go_loopw [8] (fun i wr=>∃k:Nat,k<=ms.length/\i=.i k/\(ms.take k).any qH=false/\Bw w wr) (fun i _=>ms.length-(intOf i).toNat)
 case atStart=>exact⟨0,Nat.zero_le _,rfl,rfl,bRf _ _⟩
 case round=>
  obtain⟨k,hk,rfl,hno,hB⟩:=hrel
  by_cases hlt:k<ms.length
  ·obtain⟨b,off,rfl,hb,c0,c1,c2⟩:=hw.load hB k hlt
   have hltI:(k:Int)<(ms.length:Int):=by omega
   have hc:=zlU ms[k] wr (hw.small k hlt);clear hw
   by_cases he:qH ms[k]=true
   ·have HA:Hid (ms.any qH=true):=zcm _ ms k hlt he
    have HE:Hid (qH ms[k]=true):=he;clear he hno;go_wp2_with fail
    refine(zf HE.o hc).mono ?_;rintro e w2⟨rfl,hb2⟩;go_wp2_with fail
    go_ret;exact⟨_,rfl,by rw[HA.o];simp,hB.trans (hb2.mono hB.size)⟩
   ·have he':qH ms[k]=false:=by simpa using he
    have HS:Hid ((ms.take (k+1)).any qH=false):=by unfold Hid;rw[jo _ ms k hlt,hno,he'];rfl
    have HE:Hid (qH ms[k]=false):=he';clear he he' hno;go_wp2_with fail
    refine(zf HE.o hc).mono ?_;rintro e w2⟨rfl,hb2⟩;go_wp2_with fail
    exact⟨⟨k+1,by omega,by go_num,HS.o,hB.trans (hb2.mono hB.size)⟩,by simp[intOf];omega⟩
  ·have HA:Hid (ms.any qH=false):=by unfold Hid;rw[<- hno,tOl (by omega)]
   clear hno hw;go_wp2_with fail
   go_ret;exact⟨_,rfl,by rw[HA.o];rfl,hB⟩
theorem zgv (a:OA)(cap:Nat)(ms:List Wt)(w:World)(hw:zcs w a ms) :
 Calls Tryz.prog 170 #[.l a ms.length cap,.func (.func 171) #[] #[]] w fun e w'=>e=.returned (.bool (ms.any qH))/\Bw w w':=by
 go_enter Tryz.func170,Tryz.ntmps170;go_wp2_with fail
 refine(zi6 _ _ _ _ hw).mono ?_;rintro e w2⟨r,rfl,hr,hb2⟩;go_wp2_with fail
 go_ret;exact⟨rfl,hb2⟩
theorem znN (l:Lw)(la lb lc:OA)(lca lcb lcc:Nat)(s:Sl)(a0 a1 a2 a3:OA)(c0 c1 c2 c3:Nat)(w:World)(hl:yF w l la lb lc)(hs:zc3 w s a0 a1 a2 a3) :
 Calls Tryz.prog 110 #[.agg (l.cells la lb lc lca lcb lcc),.agg (s.cells a0 a1 a2 a3 c0 c1 c2 c3)] w fun e w'=>e=.returned (.bool (zaH l s))/\Bw w w':=by
 have HL:Hid (yF w l la lb lc):=hl;have HS:Hid (zc3 w s a0 a1 a2 a3):=hs;have hln:=hs.ws.len;unfold maxLen at hln;clear hl hs;unfold Sl.cells Lw.cells
 by_cases hn:zk s.dr=true
 rotate_left
 ·have HN:Hid (zk s.dr=false):=bFi hn
  clear hn;go_enter Tryz.func110,Tryz.ntmps110;go_wp2_with fail
  obtain⟨W0,hW0,hX0,hY0,hz0,hB0⟩:=zI w #[.l la l.ss.length lca,.l lb l.ms.length lcb,.l lc l.ts.length lcc] #[.s s.dr,.s s.x.who,.i s.x.vb,.s s.x.kd,.s s.x.nm,.s s.x.tm,.l a0 s.x.vs.length c0,.l a1 s.x.hs.length c1,.i s.x.sn,.s s.x.hd,.s s.x.to,.l a2 s.x.r.vs.length c2,.s s.x.r.kd,.s s.x.r.tm,.s s.x.r.px,.i s.x.no,.i s.gv,.l a3 s.ws.length c3] 43 110;rw[<- hW0];clear hW0;have hq0:=nSl hz0;refine(zf HN.o (zu s.dr _ HS.o.dr)).mono ?_;rintro e w1⟨rfl,rfl⟩;go_wp2_with fail
  go_ret;exact⟨ze (by unfold zaH;rw[HN.o];rfl),hB0⟩
 have HN:Hid (zk s.dr=true):=hn;clear hn
 by_cases ha:zao l s.x=true
 rotate_left
 ·have HA:Hid (zao l s.x=false):=bFi ha
  clear ha;go_enter Tryz.func110,Tryz.ntmps110;go_wp2_with fail
  obtain⟨W0,hW0,hX0,hY0,hz0,hB0⟩:=zI w #[.l la l.ss.length lca,.l lb l.ms.length lcb,.l lc l.ts.length lcc] #[.s s.dr,.s s.x.who,.i s.x.vb,.s s.x.kd,.s s.x.nm,.s s.x.tm,.l a0 s.x.vs.length c0,.l a1 s.x.hs.length c1,.i s.x.sn,.s s.x.hd,.s s.x.to,.l a2 s.x.r.vs.length c2,.s s.x.r.kd,.s s.x.r.tm,.s s.x.r.px,.i s.x.no,.i s.gv,.l a3 s.ws.length c3] 43 110;rw[<- hW0];clear hW0;have hq0:=nSl hz0;refine(zf HN.o (zu s.dr _ HS.o.dr)).mono ?_;rintro e w1⟨rfl,rfl⟩;go_wp2_with fail
  refine(zf HA.o (zfs l la lb lc lca lcb lcc s.x a0 a1 a2 c0 c1 c2 _ (HL.o.mono hB0) (HS.o.x.mono hB0))).mono ?_;rintro e w1⟨rfl,hb⟩;have hX1:=za hX0 hq0 hb;have hY1:=za hY0 hz0 hb;have hz1:=nLt hz0 hb.size;have hB1:=hB0.trans (hb.mono hB0.size);clear hb hX0 hY0 hz0 hB0 hq0;have hq1:=nSl hz1;go_wp2_with fail
  go_ret;exact⟨ze (by unfold zaH;rw[HN.o,HA.o];rfl),hB1⟩
 have HA:Hid (zao l s.x=true):=ha;clear ha
 by_cases hg:0<=s.gv
 rotate_left
 ·have hgd:decide (s.gv<0)=true:=by simp;omega
  have HG:Hid (decide (0<=s.gv)=false):=decide_eq_false hg;clear hg;go_enter Tryz.func110,Tryz.ntmps110;go_wp2_with fail
  obtain⟨W0,hW0,hX0,hY0,hz0,hB0⟩:=zI w #[.l la l.ss.length lca,.l lb l.ms.length lcb,.l lc l.ts.length lcc] #[.s s.dr,.s s.x.who,.i s.x.vb,.s s.x.kd,.s s.x.nm,.s s.x.tm,.l a0 s.x.vs.length c0,.l a1 s.x.hs.length c1,.i s.x.sn,.s s.x.hd,.s s.x.to,.l a2 s.x.r.vs.length c2,.s s.x.r.kd,.s s.x.r.tm,.s s.x.r.px,.i s.x.no,.i s.gv,.l a3 s.ws.length c3] 43 110;rw[<- hW0];clear hW0;have hq0:=nSl hz0;refine(zf HN.o (zu s.dr _ HS.o.dr)).mono ?_;rintro e w1⟨rfl,rfl⟩;go_wp2_with fail
  refine(zf HA.o (zfs l la lb lc lca lcb lcc s.x a0 a1 a2 c0 c1 c2 _ (HL.o.mono hB0) (HS.o.x.mono hB0))).mono ?_;rintro e w1⟨rfl,hb⟩;have hX1:=za hX0 hq0 hb;have hY1:=za hY0 hz0 hb;have hz1:=nLt hz0 hb.size;have hB1:=hB0.trans (hb.mono hB0.size);clear hb hX0 hY0 hz0 hB0 hq0;have hq1:=nSl hz1;go_wp2_with fail
  go_ret;exact⟨ze (by unfold zaH;rw[HN.o,HA.o,HG.o];rfl),hB1⟩
 have hgd:decide (s.gv<0)=false:=by simp;omega
 have HG:Hid (decide (0<=s.gv)=true):=decide_eq_true hg;clear hg
 by_cases hk:s.ws.length<=8
 rotate_left
 ·have hkd:decide ((8:Int)<(s.ws.length:Int))=true:=by simp;omega
  have HK:Hid (decide (s.ws.length<=8)=false):=decide_eq_false hk;clear hk;go_enter Tryz.func110,Tryz.ntmps110;go_wp2_with fail
  obtain⟨W0,hW0,hX0,hY0,hz0,hB0⟩:=zI w #[.l la l.ss.length lca,.l lb l.ms.length lcb,.l lc l.ts.length lcc] #[.s s.dr,.s s.x.who,.i s.x.vb,.s s.x.kd,.s s.x.nm,.s s.x.tm,.l a0 s.x.vs.length c0,.l a1 s.x.hs.length c1,.i s.x.sn,.s s.x.hd,.s s.x.to,.l a2 s.x.r.vs.length c2,.s s.x.r.kd,.s s.x.r.tm,.s s.x.r.px,.i s.x.no,.i s.gv,.l a3 s.ws.length c3] 43 110;rw[<- hW0];clear hW0;have hq0:=nSl hz0;refine(zf HN.o (zu s.dr _ HS.o.dr)).mono ?_;rintro e w1⟨rfl,rfl⟩;go_wp2_with fail
  refine(zf HA.o (zfs l la lb lc lca lcb lcc s.x a0 a1 a2 c0 c1 c2 _ (HL.o.mono hB0) (HS.o.x.mono hB0))).mono ?_;rintro e w1⟨rfl,hb⟩;have hX1:=za hX0 hq0 hb;have hY1:=za hY0 hz0 hb;have hz1:=nLt hz0 hb.size;have hB1:=hB0.trans (hb.mono hB0.size);clear hb hX0 hY0 hz0 hB0 hq0;have hq1:=nSl hz1;go_wp2_with fail
  go_ret;exact⟨ze (by unfold zaH;rw[HN.o,HA.o,HG.o,HK.o];rfl),hB1⟩
 ·have hkd:decide ((8:Int)<(s.ws.length:Int))=false:=by simp;omega
  have HK:Hid (decide (s.ws.length<=8)=true):=decide_eq_true hk;clear hk;go_enter Tryz.func110,Tryz.ntmps110;go_wp2_with fail
  obtain⟨W0,hW0,hX0,hY0,hz0,hB0⟩:=zI w #[.l la l.ss.length lca,.l lb l.ms.length lcb,.l lc l.ts.length lcc] #[.s s.dr,.s s.x.who,.i s.x.vb,.s s.x.kd,.s s.x.nm,.s s.x.tm,.l a0 s.x.vs.length c0,.l a1 s.x.hs.length c1,.i s.x.sn,.s s.x.hd,.s s.x.to,.l a2 s.x.r.vs.length c2,.s s.x.r.kd,.s s.x.r.tm,.s s.x.r.px,.i s.x.no,.i s.gv,.l a3 s.ws.length c3] 43 110;rw[<- hW0];clear hW0;have hq0:=nSl hz0;refine(zf HN.o (zu s.dr _ HS.o.dr)).mono ?_;rintro e w1⟨rfl,rfl⟩;go_wp2_with fail
  refine(zf HA.o (zfs l la lb lc lca lcb lcc s.x a0 a1 a2 c0 c1 c2 _ (HL.o.mono hB0) (HS.o.x.mono hB0))).mono ?_;rintro e w1⟨rfl,hb⟩;have hX1:=za hX0 hq0 hb;have hY1:=za hY0 hz0 hb;have hz1:=nLt hz0 hb.size;have hB1:=hB0.trans (hb.mono hB0.size);clear hb hX0 hY0 hz0 hB0 hq0;have hq1:=nSl hz1;go_wp2_with fail
  refine(zgv _ _ s.ws _ (HS.o.ws.mono hB1)).mono ?_;rintro e w2⟨rfl,hb⟩;have hB2:=hB1.trans (hb.mono hB1.size);clear hb;go_wp2_with fail
  go_ret;exact⟨ze (by unfold zaH;rw[HN.o,HA.o,HG.o,HK.o];simp),hB2⟩
end Go.Proofs.YtedangodjiolaaaGreat
