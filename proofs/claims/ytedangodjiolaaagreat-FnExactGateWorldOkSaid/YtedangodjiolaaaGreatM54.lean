import Derived.Test.YtedangodjiolaaaGreatM53
set_option maxHeartbeats 8000000
namespace Go.Proofs.YtedangodjiolaaaGreat
open Go.RowKit
theorem zp0 {ds:List Dor}{m k:Nat}(hm:m<ds.length)(hk:k=m+1)(hl:k<ds.length)(h:jY jB ds k):(¬less ds[m].nm ds[k].nm=true->zaS jB ds=false)/\(less ds[m].nm ds[k].nm=true->jY jB ds (k+1)):=by
 subst hk;have hv:=zj8 ds[m].nm ds[m+1].nm;refine⟨fun hn=>zec hl ?_,fun hy=>zbW h hl ?_⟩
 ·intro hlt
  rw[zeQ,decide_eq_true_eq]at hn;unfold jB at hlt;omega
 ·rw[zeQ,decide_eq_true_eq]at hy
  show key _ _<0
  omega
theorem ziQ (l:Lw)(la lb lc:OA)(lca lcb lcc:Nat)(x:Wd)(a0 a1 a2 a3 a4:OA)(c0 c1 c2 c3 c4:Nat)(w:World)(hl:yF w l la lb lc)(hx:zgp True w x a0 a1 a2 a3 a4)(hf:x.Few) :
 Calls Tryz.prog 6 #[.agg (l.cells la lb lc lca lcb lcc),.agg (x.cells a0 a1 a2 a3 a4 c0 c1 c2 c3 c4)] w fun e w'=>e=.returned (.bool (zcA l x))/\Bw w w':=by
 have hln:=hx.ds.len;have HD:=ji hx hl;have HF0:=hid hf;clear hx hl hf;unfold maxLen at hln;unfold Lw.cells Wd.cells;go_enter Tryz.func6,Tryz.ntmps6
 go_upto_region 1 with fail
 obtain⟨W0,hW0,hX0,hY0,hz0,hB0⟩:=zI w #[.l la l.ss.length lca,.l lb l.ms.length lcb,.l lc l.ts.length lcc] #[.i x.b.now,.i x.b.tick,.i x.b.given,.l a0 x.b.os.length c0,.l a1 x.b.gs.length c1,.l a2 x.b.ls.length c2,.l a3 x.b.ps.length c3,.l a4 x.ds.length c4] 43 53;rw[<- hW0];clear hW0;go_wp2_with fail
 refine(zeZ l la lb lc lca lcb lcc x.b a0 a1 a2 a3 c0 c1 c2 c3 _ (HD.o.2.mono hB0) (HD.o.1.b.mono hB0) ((HD.o.1.has trivial).mono hB0) HF0.o.b HF0.o.z).mono ?_;rintro e w2⟨rfl,hb⟩;have hX1:=za hX0 (by omega) hb;have hY1:=za hY0 hz0 hb;have hz1:=nLt hz0 hb.size;have hB1:=hB0.trans (hb.mono hB0.size);clear hb hX0 hY0 hz0 hB0
 cases hk:zaf l x.b
 ·have HK:=hid hk
  clear hk;go_wp2_with fail
  go_ret;exact⟨ze (by unfold zcA;rw[HK.o];rfl),hB1⟩
 have HFIN:Hid (zcA l x=zaz l x):=by unfold Hid zcA;rw[hk];rfl
 have HF:Hid (zbu l=true/\True/\x.Few):=by unfold zaf at hk;simp only[Bool.and_eq_true]at hk;exact⟨hk.1,trivial,HF0.o⟩
 clear hk HF0
 by_cases h4:x.ds.length<=4
 rotate_left
 ·have h4d:decide ((4:Int)<(x.ds.length:Int))=true:=by simp;omega
  have H4:Hid (decide (x.ds.length<=4)=false):=decide_eq_false h4;clear h4;go_wp2_with fail
  go_ret;exact⟨ze (by rw[HFIN.o];unfold zaz;rw[H4.o];rfl),hB1⟩
 have h4d:decide ((4:Int)<(x.ds.length:Int))=false:=by simp;omega
 have H4:Hid (decide (x.ds.length<=4)=true):=decide_eq_true h4;clear h4
 go_upto_region 3 with fail
 clear h4d;go_wp2_with fail
 go_loopw [5] (fun i wr=>∃k:Nat,k<=x.ds.length/\i=.i k/\Hid ((x.ds.take k).any (fun d=>!jq l x.b.now d)=false/\jY jB x.ds k)/\Bw w2 wr) (fun i _=>x.ds.length-(intOf i).toNat)
 case atStart=>exact⟨0,Nat.zero_le _,rfl,⟨rfl,fun i h h'=>by omega⟩,bRf _ _⟩
 case round=>
  obtain⟨k,hk,rfl,HNO,hB⟩:=hrel;have hX2:=za hX1 (by omega) hB.drew;have hY2:=za hY1 hz1 hB.drew;have hXl:w.heap.size<wr.drew.heap.size:=nLt (by omega) hB.drew.size;have hYl:w.heap.size+1<wr.drew.heap.size:=nLt hz1 hB.drew.size;have hY3:=za hY1 hz1 hB
  by_cases hlt:k<x.ds.length
  ·obtain⟨b,off,p0,p1,p2,p3,p4,q0,q1,q2,q3,q4,ha,hb,hs,hr⟩:=(HD.o.1.ds.mono hB1).range hB.drew k hlt
   have hc0:wr.drew.cell? (aD b (off+k*10))=some (.s x.ds[k].nm):=hr 0 _ rfl;have hltI:(k:Int)<(x.ds.length:Int):=by omega
   have hb1:=nLt hb hB.drew.size;have HS:=ji hs hr;have HLW:=hid ((HD.o.2.mono hB1).mono hB.drew);clear hs hr
   rcases Nat.eq_zero_or_pos k with hz|hk0
   ·have hk0:¬0<k:=by omega
    subst ha;clear hz;go_wp2_with fail
    clear hY3;refine wp_region_held_drew (S:=fun w'=>(∀j,w'.cell? (aD w.heap.size j)=(#[.l la l.ss.length lca,.l lb l.ms.length lcb,.l lc l.ts.length lcc]:AV)[j]?)/\(∀j,w'.cell? (aD (w.heap.size+1) j)=(#[.i x.b.now,.i x.b.tick,.i x.b.given,.l a0 x.b.os.length c0,.l a1 x.b.gs.length c1,.l a2 x.b.ls.length c2,.l a3 x.b.ps.length c3,.l (some (aD b off)) x.ds.length c4]:AV)[j]?)/\w'.rangeAt b (off+k*10) (x.ds[k].cells p0 p1 p2 p3 p4 q0 q1 q2 q3 q4).toList/\w'.cell? (aD b (off+k*10))=some (.s x.ds[k].nm)) (by kernel_rfl) ⟨hX2,hY2,HS.o.2,hc0⟩ (fun H_=>?_);refine tG 0 ?_;refine tG 1 ?_;refine tG 2 ?_;refine tG 3 ?_;refine tG 4 ?_;refine tG 5 ?_;refine mH 6 rfl H_ (fun _ h=>h.2.2.1) Tryz.underlying67 rfl (by kernel_rfl) ?_;refine cH 7 rfl fun K hK=>?_
    go_simp
    refine(zfw l la lb lc lca lcb lcc x _ _ _ _ _ _ _ _ _ _ x.ds[k] p0 p1 p2 p3 p4 q0 q1 q2 q3 q4 _ HLW.o HS.o.1 HF.o.1 (HF.o.2.2.ds.2 k hlt)).mono ?_;rintro e w3⟨rfl,hbb⟩;have hB3:=hB.drew.trans (hbb.mono hB.drew.size);have HSN:Hid ((∀j,w3.cell? (aD w.heap.size j)=(#[.l la l.ss.length lca,.l lb l.ms.length lcb,.l lc l.ts.length lcc]:AV)[j]?)/\(∀j,w3.cell? (aD (w.heap.size+1) j)=(#[.i x.b.now,.i x.b.tick,.i x.b.given,.l a0 x.b.os.length c0,.l a1 x.b.gs.length c1,.l a2 x.b.ls.length c2,.l a3 x.b.ps.length c3,.l (some (aD b off)) x.ds.length c4]:AV)[j]?)/\w3.rangeAt b (off+k*10) (x.ds[k].cells p0 p1 p2 p3 p4 q0 q1 q2 q3 q4).toList/\w3.cell? (aD b (off+k*10))=some (.s x.ds[k].nm)):=⟨za hX2 hXl hbb,za hY2 hYl hbb,jy HS.o.2 hb1 hbb,(hbb.cell (p:=(aD b (off+k*10))) hb1).trans hc0⟩
    clear hX2 hY2 hc0 hbb
    (try go_wp2_with fail)
    refine hK.out _ _ ?_ (fun H_=>?_)
    ·exact HSN.o
    clear hK K HSN
    (try simp only[Act.put,sA,s0,sS])
    cases hq:jq l x.b.now x.ds[k]
    ·have HA:Hid (zaz l x=false):=by
      have h:x.ds.any (fun d=>!jq l x.b.now d)=true:=zcm _ x.ds k hlt (by rw[hq];rfl);unfold Hid zaz;rw[h];simp
     clear hq;refine tG 8 ?_;refine tG 9 ?_;refine kG 10 ?_;refine kG 11 ?_;refine kG 12 ?_;refine kG 13 ?_;refine kG 14 ?_;refine kG 15 ?_;refine kG 16 ?_;refine kG 17 ?_;refine kG 18 ?_;refine kG 19 ?_;refine kG 20 ?_;refine kG 21 ?_;refine kG 22 ?_;refine kG 23 ?_;refine kG 24 ?_;refine kG 25 ?_;refine kG 26 ?_;refine kG 27 ?_;refine tG 28 ?_;refine wpAnyH_done (by kernel_rfl) ?_ _;go_wp2_with fail
     go_ret;exact⟨ze (by rw[HFIN.o,HA.o]),hB1.trans (hB3.mono hB1.size)⟩
    have HDK:Hid ((x.ds.take (k+1)).any (fun d=>!jq l x.b.now d)=false):=by unfold Hid;rw[jo _ x.ds k hlt,HNO.o.1,hq];rfl
    clear hq;have HA:Hid (jY jB x.ds (k+1)):=fun i h h'=>by omega
    refine tG 8 ?_;refine tG 9 ?_;refine tG 10 ?_;refine tG 11 ?_;refine tG 12 ?_;refine kG 13 ?_;refine kG 14 ?_;refine kG 15 ?_;refine kG 16 ?_;refine kG 17 ?_;refine kG 18 ?_;refine kG 19 ?_;refine kG 20 ?_;refine kG 21 ?_;refine kG 22 ?_;refine kG 23 ?_;refine kG 24 ?_;refine kG 25 ?_;refine kG 26 ?_;refine tG 27 ?_;refine tG 28 ?_;refine wpAnyH_done (by kernel_rfl) ?_ _;go_wp2_with fail
    exact⟨⟨k+1,by omega,by go_num,⟨HDK.o,HA.o⟩,hB3⟩,by simp[intOf];omega⟩
   ·obtain⟨m,hkm⟩:∃m,k=m+1:=⟨k-1,by omega⟩
    have hm:m<x.ds.length:=by omega
    obtain⟨b',off',_,_,_,_,_,_,_,_,_,_,ha',_,_,hrm⟩:=(HD.o.1.ds.mono hB1).range hB.drew m hm;subst ha;obtain⟨rfl,rfl⟩:b=b'/\off=off':=by simpa using ha'
    have hcm:wr.drew.cell? (aD b (off+m*10))=some (.s x.ds[m].nm):=hrm 0 _ rfl;have hsub:IntKind.i64.wrap ((k:Int)-1)=(m:Int):=by rw[IntKind.wrap_i64];omega
    have h0m:(0:Int)<=(m:Int):=by omega
    have hmI:(m:Int)<(x.ds.length:Int):=by omega
    have HKM:=hid (zp0 hm hkm hlt HNO.o.2);clear hrm ha' hkm;go_wp2_with fail
    clear hY3;refine wp_region_held_drew (S:=fun w'=>(∀j,w'.cell? (aD w.heap.size j)=(#[.l la l.ss.length lca,.l lb l.ms.length lcb,.l lc l.ts.length lcc]:AV)[j]?)/\(∀j,w'.cell? (aD (w.heap.size+1) j)=(#[.i x.b.now,.i x.b.tick,.i x.b.given,.l a0 x.b.os.length c0,.l a1 x.b.gs.length c1,.l a2 x.b.ls.length c2,.l a3 x.b.ps.length c3,.l (some (aD b off)) x.ds.length c4]:AV)[j]?)/\w'.rangeAt b (off+k*10) (x.ds[k].cells p0 p1 p2 p3 p4 q0 q1 q2 q3 q4).toList/\w'.cell? (aD b (off+k*10))=some (.s x.ds[k].nm)/\w'.cell? (aD b (off+m*10))=some (.s x.ds[m].nm)) (by kernel_rfl) ⟨hX2,hY2,HS.o.2,hc0,hcm⟩ (fun H_=>?_);refine tG 0 ?_;refine tG 1 ?_;refine tG 2 ?_;refine tG 3 ?_;refine tG 4 ?_;refine tG 5 ?_;refine mH 6 rfl H_ (fun _ h=>h.2.2.1) Tryz.underlying67 rfl (by kernel_rfl) ?_;refine cH 7 rfl fun K hK=>?_
    go_simp
    refine(zfw l la lb lc lca lcb lcc x _ _ _ _ _ _ _ _ _ _ x.ds[k] p0 p1 p2 p3 p4 q0 q1 q2 q3 q4 _ HLW.o HS.o.1 HF.o.1 (HF.o.2.2.ds.2 k hlt)).mono ?_;rintro e w3⟨rfl,hbb⟩;have hB3:=hB.drew.trans (hbb.mono hB.drew.size);have HSN:Hid ((∀j,w3.cell? (aD w.heap.size j)=(#[.l la l.ss.length lca,.l lb l.ms.length lcb,.l lc l.ts.length lcc]:AV)[j]?)/\(∀j,w3.cell? (aD (w.heap.size+1) j)=(#[.i x.b.now,.i x.b.tick,.i x.b.given,.l a0 x.b.os.length c0,.l a1 x.b.gs.length c1,.l a2 x.b.ls.length c2,.l a3 x.b.ps.length c3,.l (some (aD b off)) x.ds.length c4]:AV)[j]?)/\w3.rangeAt b (off+k*10) (x.ds[k].cells p0 p1 p2 p3 p4 q0 q1 q2 q3 q4).toList/\w3.cell? (aD b (off+k*10))=some (.s x.ds[k].nm)/\w3.cell? (aD b (off+m*10))=some (.s x.ds[m].nm)):=⟨za hX2 hXl hbb,za hY2 hYl hbb,jy HS.o.2 hb1 hbb,(hbb.cell (p:=(aD b (off+k*10))) hb1).trans hc0,(hbb.cell (p:=(aD b (off+m*10))) hb1).trans hcm⟩
    clear hX2 hY2 hc0 hcm hbb
    (try go_wp2_with fail)
    refine hK.out _ _ ?_ (fun H_=>?_)
    ·exact HSN.o
    clear hK K HSN
    (try simp only[Act.put,sA,s0,sS])
    cases hq:jq l x.b.now x.ds[k]
    ·have HA:Hid (zaz l x=false):=by
      have h:x.ds.any (fun d=>!jq l x.b.now d)=true:=zcm _ x.ds k hlt (by rw[hq];rfl);unfold Hid zaz;rw[h];simp
     clear hq;refine tG 8 ?_;refine tG 9 ?_;refine kG 10 ?_;refine kG 11 ?_;refine kG 12 ?_;refine kG 13 ?_;refine kG 14 ?_;refine kG 15 ?_;refine kG 16 ?_;refine kG 17 ?_;refine kG 18 ?_;refine kG 19 ?_;refine kG 20 ?_;refine kG 21 ?_;refine kG 22 ?_;refine kG 23 ?_;refine kG 24 ?_;refine kG 25 ?_;refine kG 26 ?_;refine kG 27 ?_;refine tG 28 ?_;refine wpAnyH_done (by kernel_rfl) ?_ _;go_wp2_with fail
     go_ret;exact⟨ze (by rw[HFIN.o,HA.o]),hB1.trans (hB3.mono hB1.size)⟩
    have HDK:Hid ((x.ds.take (k+1)).any (fun d=>!jq l x.b.now d)=false):=by unfold Hid;rw[jo _ x.ds k hlt,HNO.o.1,hq];rfl
    clear hq
    by_cases hls:less x.ds[m].nm x.ds[k].nm=true
    ·have e2:Op.bytesLess x.ds[m].nm.toList x.ds[k].nm.toList=true:=hls
     have HA:Hid (jY jB x.ds (k+1)):=HKM.o.2 hls;clear hls;refine tG 8 ?_;refine tG 9 ?_;refine tG 10 ?_;refine tG 11 ?_;refine tG 12 ?_;refine tG 13 ?_;refine tG 14 ?_;refine tG 15 ?_;refine tG 16 ?_;refine tG 17 ?_;refine tG 18 ?_;refine tG 19 ?_;refine tG 20 ?_;refine tG 21 ?_;refine tG 22 ?_;refine tG 23 ?_;refine tG 24 ?_;refine tG 25 ?_;refine tG 26 ?_;refine tG 27 ?_;refine tG 28 ?_;refine wpAnyH_done (by kernel_rfl) ?_ _;go_wp2_with fail
     exact⟨⟨k+1,by omega,by go_num,⟨HDK.o,HA.o⟩,hB3⟩,by simp[intOf];omega⟩
    ·have e2:Op.bytesLess x.ds[m].nm.toList x.ds[k].nm.toList=false:=by simpa[less] using hls
     have HA:Hid (zaz l x=false):=by
      unfold Hid zaz;rw[HKM.o.1 hls];simp
     clear hls;refine tG 8 ?_;refine tG 9 ?_;refine tG 10 ?_;refine tG 11 ?_;refine tG 12 ?_;refine tG 13 ?_;refine tG 14 ?_;refine tG 15 ?_;refine tG 16 ?_;refine tG 17 ?_;refine tG 18 ?_;refine tG 19 ?_;refine tG 20 ?_;refine tG 21 ?_;refine tG 22 ?_;refine tG 23 ?_;refine tG 24 ?_;refine tG 25 ?_;refine tG 26 ?_;refine tG 27 ?_;refine tG 28 ?_;refine wpAnyH_done (by kernel_rfl) ?_ _;go_wp2_with fail
     go_ret;exact⟨ze (by rw[HFIN.o,HA.o]),hB1.trans (hB3.mono hB1.size)⟩
  ·have HA:Hid (zaz l x=true):=by
    have h1:=HNO.o.1;rw[tOl (by omega)]at h1;have h2:zaS jB x.ds=true:=(zjs _ _).2 fun i hi=>HNO.o.2 i hi (by omega)
    unfold Hid zaz;rw[H4.o,h1,h2];rfl
   clear hX2 hY2;go_wp2_with fail
   go_ret;exact⟨ze (by rw[HFIN.o,HA.o]),hB1.trans (hB.mono hB1.size)⟩
theorem zj6 (l:Lw)(la lb lc:OA)(lca lcb lcc:Nat)(x:Wd)(a0 a1 a2 a3 a4:OA)(c0 c1 c2 c3 c4:Nat)(w:World)(hl:yF w l la lb lc)(ho:zgp False w x a0 a1 a2 a3 a4) :
 Calls Tryz.prog 3 #[.agg (l.cells la lb lc lca lcb lcc),.agg (x.cells a0 a1 a2 a3 a4 c0 c1 c2 c3 c4)] w fun e w'=>e=.returned (.bool true)/\Bw w w':=by
 have HL:Hid (yF w l la lb lc):=hl;have HO:Hid (zgp False w x a0 a1 a2 a3 a4):=ho;clear hl ho;unfold Lw.cells Wd.cells;go_enter Tryz.func3,Tryz.ntmps3;go_wp2_with fail
 obtain⟨hX0,hO0⟩:=q9 w #[.l la l.ss.length lca,.l lb l.ms.length lcb,.l lc l.ts.length lcc] #[.i x.b.now,.i x.b.tick,.i x.b.given,.l a0 x.b.os.length c0,.l a1 x.b.gs.length c1,.l a2 x.b.ls.length c2,.l a3 x.b.ps.length c3,.l a4 x.ds.length c4] 26 35;have hB0:=zx w (.cells #[.l la l.ss.length lca,.l lb l.ms.length lcb,.l lc l.ts.length lcc] 26) (.cells #[.i x.b.now,.i x.b.tick,.i x.b.given,.l a0 x.b.os.length c0,.l a1 x.b.gs.length c1,.l a2 x.b.ls.length c2,.l a3 x.b.ps.length c3,.l a4 x.ds.length c4] 35);obtain⟨W0,hW0⟩:=xN ((w.alloc (.cells #[.l la l.ss.length lca,.l lb l.ms.length lcb,.l lc l.ts.length lcc] 26)).alloc (.cells #[.i x.b.now,.i x.b.tick,.i x.b.given,.l a0 x.b.os.length c0,.l a1 x.b.gs.length c1,.l a2 x.b.ls.length c2,.l a3 x.b.ps.length c3,.l a4 x.ds.length c4] 35));have zX0:w.heap.size<W0.heap.size:=by rw[hW0];simp;omega
 have zO0:w.heap.size+1<W0.heap.size:=by rw[hW0];simp
 rw[<- hW0]at hB0 hX0 hO0 ⊢;clear hW0;refine(zkD l _ _ _ _ _ _ _ _ (HL.o.mono hB0) (by omega) (by omega)).mono ?_;rintro e w1⟨rfl,hb⟩;have hX1:=za hX0 zX0 hb;have zX1:=nLt zX0 hb.size;have hO1:=za hO0 zO0 hb;have zO1:=nLt zO0 hb.size;have hB1:=hB0.trans (hb.mono hB0.size);clear hb hX0 zX0 hO0 zO0 hB0
 by_cases hsz:(l.sz:Int)<=1048576
 rotate_left
 ·rw[zq (by omega)]
  go_wp2_with fail
  go_ret;exact⟨rfl,hB1⟩
 have HF:Hid l.Few:=Lw.few hsz;have hneg:decide (1048576-(l.sz:Int)<0)=false:=by simp;omega
 rw[zF hsz];go_wp2_with fail
 refine(ziB False x _ _ _ _ _ _ _ _ _ _ _ _ (HO.o.mono hB1) (by omega) (by omega)).mono ?_;rintro e w2⟨rfl,hb⟩;have hX2:=za hX1 zX1 hb;have zX2:=nLt zX1 hb.size;have hO2:=za hO1 zO1 hb;have zO2:=nLt zO1 hb.size;have hB2:=hB1.trans (hb.mono hB1.size);clear hb hX1 zX1 hO1 zO1 hB1
 by_cases hoz:(x.sz:Int)<=1048576-(l.sz:Int)
 rotate_left
 ·rw[zq (by omega)]
  go_wp2_with fail
  go_ret;exact⟨rfl,hB2⟩
 have HG:Hid x.Few:=Wd.few (by omega);have hneg2:decide (1048576-(l.sz:Int)-(x.sz:Int)<0)=false:=by simp;omega
 rw[zF hoz];go_wp2_with fail
 have hX:=za hX2 zX2 (bRf w2.heap.size w2).drew;have zX:w.heap.size<w2.drew.heap.size:=zX2;have hO:=za hO2 zO2 (bRf w2.heap.size w2).drew;have zO:w.heap.size+1<w2.drew.heap.size:=zO2;have hB:=hB2.drew;clear hX2 zX2 hO2 zO2 hB2
 go_region_held3 (fun w'=>(∀j,w'.cell? (aD w.heap.size j)=(#[.l la l.ss.length lca,.l lb l.ms.length lcb,.l lc l.ts.length lcc]:AV)[j]?)/\(∀j,w'.cell? (aD (w.heap.size+1) j)=(#[.i x.b.now,.i x.b.tick,.i x.b.given,.l a0 x.b.os.length c0,.l a1 x.b.gs.length c1,.l a2 x.b.ls.length c2,.l a3 x.b.ps.length c3,.l a4 x.ds.length c4]:AV)[j]?)) (exact⟨hX,hO⟩) (first
  | (go_at_call 7;refine(zdx l _ _ _ _ _ _ _ (by exact HL.o.mono hB) HF.o).mono ?_;rintro e w3⟨pa,pb,pc,rfl,hl30,hb⟩;unfold Lw.cells;have hl3:=hl30;have hX:=za hX zX hb;have hO:=za hO zO hb;have hB:=hB.trans (hb.mono hB.size);have zX:=nLt zX hb.size;have zO:=nLt zO hb.size;clear hb)
  | (go_at_call 8;refine(zck False x _ _ _ _ _ _ _ _ _ _ _ (by exact HO.o.mono hB) HG.o).mono ?_;rintro e w3⟨pd,pe,pf,pg,ph,rfl,ho30,hb⟩;unfold Wd.cells;have ho3:=ho30;have hX:=za hX zX hb;have hO:=za hO zO hb;have hl3:=hl3.mono hb;have hB:=hB.trans (hb.mono hB.size);have zX:=nLt zX hb.size;have zO:=nLt zO hb.size;clear hb)
  | (go_at_call 6;refine(ziQ l _ _ _ _ _ _ x _ _ _ _ _ _ _ _ _ _ _ (by exact hl3) (by exact ho3) HG.o).mono ?_;rintro e w3⟨rfl,hb⟩;clear hl3;clear ho3;have hX:=za hX zX hb;have hO:=za hO zO hb;have hB:=hB.trans (hb.mono hB.size);have zX:=nLt zX hb.size;have zO:=nLt zO hb.size;clear hb))
 have hX3:=hX;have zX3:=zX;have hO3:=hO;have zO3:=zO;have hB3:=hB;clear hX zX hO zO hB;go_wp2_with fail
 refine(zdx l _ _ _ _ _ _ _ (HL.o.mono hB3) HF.o).mono ?_;rintro e w4⟨l4a,l4b,l4c,rfl,hl,hb⟩;have kl4:=hl;have hX4:=za hX3 zX3 hb;have zX4:=nLt zX3 hb.size;have hO4:=za hO3 zO3 hb;have zO4:=nLt zO3 hb.size;have hB4:=hB3.trans (hb.mono hB3.size);clear hb hX3 zX3 hO3 zO3 hB3 hl;unfold Lw.cells;go_wp2_with fail
 have hb:Bw w4 (w4.alloc (.cells #[.l l4a l.ss.length l.ss.length,.l l4b l.ms.length l.ms.length,.l l4c l.ts.length l.ts.length] 43)):=bAl _ _;have hN:=zn w4 #[.l l4a l.ss.length l.ss.length,.l l4b l.ms.length l.ms.length,.l l4c l.ts.length l.ts.length] 43;obtain⟨w5,hN0⟩:=xN (w4.alloc (.cells #[.l l4a l.ss.length l.ss.length,.l l4b l.ms.length l.ms.length,.l l4c l.ts.length l.ts.length] 43));have hNz:w4.heap.size<w5.heap.size:=by rw[hN0];simp
 rw[<- hN0]at hb hN ⊢;clear hN0;have hX5:=za hX4 zX4 hb;have zX5:=nLt zX4 hb.size;have hO5:=za hO4 zO4 hb;have zO5:=nLt zO4 hb.size;have kl5:=kl4.mono hb;have hB5:=hB4.trans (hb.mono hB4.size);clear hb hX4 zX4 hO4 zO4 kl4 hB4;have hV5:=hN;have zV5:=hNz;clear hN hNz;refine(zck False x _ _ _ _ _ _ _ _ _ _ _ (HO.o.mono hB5) HG.o).mono ?_;rintro e w6⟨b0,b1,b2,b3,b4,rfl,hl,hb⟩;have ko6:=hl;have hX6:=za hX5 zX5 hb;have zX6:=nLt zX5 hb.size;have hO6:=za hO5 zO5 hb;have zO6:=nLt zO5 hb.size;have hV6:=za hV5 zV5 hb;have zV6:=nLt zV5 hb.size;have kl6:=kl5.mono hb;have hB6:=hB5.trans (hb.mono hB5.size);clear hb hX5 zX5 hO5 zO5 hV5 zV5 kl5 hB5 hl;unfold Wd.cells;go_wp2_with fail
 have hb:Bw w6 (w6.alloc (.cells #[.i x.b.now,.i x.b.tick,.i x.b.given,.l b0 x.b.os.length x.b.os.length,.l b1 x.b.gs.length x.b.gs.length,.l b2 x.b.ls.length x.b.ls.length,.l b3 x.b.ps.length x.b.ps.length,.l b4 x.ds.length x.ds.length] 53)):=bAl _ _;have hN:=zn w6 #[.i x.b.now,.i x.b.tick,.i x.b.given,.l b0 x.b.os.length x.b.os.length,.l b1 x.b.gs.length x.b.gs.length,.l b2 x.b.ls.length x.b.ls.length,.l b3 x.b.ps.length x.b.ps.length,.l b4 x.ds.length x.ds.length] 53;obtain⟨w7,hN0⟩:=xN (w6.alloc (.cells #[.i x.b.now,.i x.b.tick,.i x.b.given,.l b0 x.b.os.length x.b.os.length,.l b1 x.b.gs.length x.b.gs.length,.l b2 x.b.ls.length x.b.ls.length,.l b3 x.b.ps.length x.b.ps.length,.l b4 x.ds.length x.ds.length] 53));have hNz:w6.heap.size<w7.heap.size:=by rw[hN0];simp
 rw[<- hN0]at hb hN ⊢;clear hN0;have hX7:=za hX6 zX6 hb;have zX7:=nLt zX6 hb.size;have hO7:=za hO6 zO6 hb;have zO7:=nLt zO6 hb.size;have hV7:=za hV6 zV6 hb;have zV7:=nLt zV6 hb.size;have kl7:=kl6.mono hb;have ko7:=ko6.mono hb;have hB7:=hB6.trans (hb.mono hB6.size);clear hb hX6 zX6 hO6 zO6 hV6 zV6 kl6 ko6 hB6;have hU7:=hN;have zU7:=hNz;clear hN hNz;refine(zh1 l _ _ _ _ _ _ x _ _ _ _ _ _ _ _ _ _ _ kl7 ko7 HF.o HG.o).mono ?_;rintro e w8⟨rfl,hb⟩;have hX8:=za hX7 zX7 hb;have zX8:=nLt zX7 hb.size;have hO8:=za hO7 zO7 hb;have zO8:=nLt zO7 hb.size;have hV8:=za hV7 zV7 hb;have zV8:=nLt zV7 hb.size;have hU8:=za hU7 zU7 hb;have zU8:=nLt zU7 hb.size;have kl8:=kl7.mono hb;have ko8:=ko7.mono hb;have hB8:=hB7.trans (hb.mono hB7.size);clear hb hX7 zX7 hO7 zO7 hV7 zV7 hU7 zU7 kl7 ko7 hB7;have hnn:(zcA l x != zcA l x)=false:=by simp
 go_wp2_with fail
 have hX:=za hX8 zX8 (bRf w8.heap.size w8).drew;have zX:w.heap.size<w8.drew.heap.size:=zX8;have hO:=za hO8 zO8 (bRf w8.heap.size w8).drew;have zO:w.heap.size+1<w8.drew.heap.size:=zO8;have hV:=za hV8 zV8 (bRf w8.heap.size w8).drew;have zV:w4.heap.size<w8.drew.heap.size:=zV8;have hU:=za hU8 zU8 (bRf w8.heap.size w8).drew;have zU:w6.heap.size<w8.drew.heap.size:=zU8;have kl:=kl8.mono (bRf w8.heap.size w8).drew;have ko:=ko8.mono (bRf w8.heap.size w8).drew;have hB:=hB8.drew;clear hX8 zX8 hO8 zO8 hV8 zV8 hU8 zU8 kl8 ko8 hB8
 go_region_held3 (fun w'=>(∀j,w'.cell? (aD w.heap.size j)=(#[.l la l.ss.length lca,.l lb l.ms.length lcb,.l lc l.ts.length lcc]:AV)[j]?)/\(∀j,w'.cell? (aD (w.heap.size+1) j)=(#[.i x.b.now,.i x.b.tick,.i x.b.given,.l a0 x.b.os.length c0,.l a1 x.b.gs.length c1,.l a2 x.b.ls.length c2,.l a3 x.b.ps.length c3,.l a4 x.ds.length c4]:AV)[j]?)/\(∀j,w'.cell? (aD w4.heap.size j)=(#[.l l4a l.ss.length l.ss.length,.l l4b l.ms.length l.ms.length,.l l4c l.ts.length l.ts.length]:AV)[j]?)/\(∀j,w'.cell? (aD w6.heap.size j)=(#[.i x.b.now,.i x.b.tick,.i x.b.given,.l b0 x.b.os.length x.b.os.length,.l b1 x.b.gs.length x.b.gs.length,.l b2 x.b.ls.length x.b.ls.length,.l b3 x.b.ps.length x.b.ps.length,.l b4 x.ds.length x.ds.length]:AV)[j]?)) (exact⟨hX,hO,hV,hU⟩) (first
  | (go_at_call 7;refine(zdx l _ _ _ _ _ _ _ (by exact HL.o.mono hB) HF.o).mono ?_;rintro e w9⟨qa,qb,qc,rfl,hl90,hb⟩;unfold Lw.cells;have hl9:=hl90;have hX:=za hX zX hb;have hO:=za hO zO hb;have hV:=za hV zV hb;have hU:=za hU zU hb;have kl:=kl.mono hb;have ko:=ko.mono hb;have hB:=hB.trans (hb.mono hB.size);have zX:=nLt zX hb.size;have zO:=nLt zO hb.size;have zV:=nLt zV hb.size;have zU:=nLt zU hb.size;clear hb)
  | (go_at_call 10;refine(zkw l _ _ _ _ _ _ _ _ _ _ _ _ _ (by exact kl) (by exact hl9)).mono ?_;rintro e w9⟨rfl,hb⟩;clear hl9;have hX:=za hX zX hb;have hO:=za hO zO hb;have hV:=za hV zV hb;have hU:=za hU zU hb;have kl:=kl.mono hb;have ko:=ko.mono hb;have hB:=hB.trans (hb.mono hB.size);have zX:=nLt zX hb.size;have zO:=nLt zO hb.size;have zV:=nLt zV hb.size;have zU:=nLt zU hb.size;clear hb))
 have hX9:=hX;have zX9:=zX;have hO9:=hO;have zO9:=zO;have hV9:=hV;have zV9:=zV;have hU9:=hU;have zU9:=zU;have kl9:=kl;have ko9:=ko;have hB9:=hB;clear hX zX hO zO hV zV hU zU kl ko hB;go_wp2_with fail
 have hX:=za hX9 zX9 (bRf w9.heap.size w9).drew;have zX:w.heap.size<w9.drew.heap.size:=zX9;have hO:=za hO9 zO9 (bRf w9.heap.size w9).drew;have zO:w.heap.size+1<w9.drew.heap.size:=zO9;have hV:=za hV9 zV9 (bRf w9.heap.size w9).drew;have zV:w4.heap.size<w9.drew.heap.size:=zV9;have hU:=za hU9 zU9 (bRf w9.heap.size w9).drew;have zU:w6.heap.size<w9.drew.heap.size:=zU9;have kl:=kl9.mono (bRf w9.heap.size w9).drew;have ko:=ko9.mono (bRf w9.heap.size w9).drew;have hB:=hB9.drew;clear hX9 zX9 hO9 zO9 hV9 zV9 hU9 zU9 kl9 ko9 hB9
 go_region_held3 (fun w'=>(∀j,w'.cell? (aD w.heap.size j)=(#[.l la l.ss.length lca,.l lb l.ms.length lcb,.l lc l.ts.length lcc]:AV)[j]?)/\(∀j,w'.cell? (aD (w.heap.size+1) j)=(#[.i x.b.now,.i x.b.tick,.i x.b.given,.l a0 x.b.os.length c0,.l a1 x.b.gs.length c1,.l a2 x.b.ls.length c2,.l a3 x.b.ps.length c3,.l a4 x.ds.length c4]:AV)[j]?)/\(∀j,w'.cell? (aD w4.heap.size j)=(#[.l l4a l.ss.length l.ss.length,.l l4b l.ms.length l.ms.length,.l l4c l.ts.length l.ts.length]:AV)[j]?)/\(∀j,w'.cell? (aD w6.heap.size j)=(#[.i x.b.now,.i x.b.tick,.i x.b.given,.l b0 x.b.os.length x.b.os.length,.l b1 x.b.gs.length x.b.gs.length,.l b2 x.b.ls.length x.b.ls.length,.l b3 x.b.ps.length x.b.ps.length,.l b4 x.ds.length x.ds.length]:AV)[j]?)) (exact⟨hX,hO,hV,hU⟩) (first
  | (go_at_call 8;refine(zck False x _ _ _ _ _ _ _ _ _ _ _ (by exact HO.o.mono hB) HG.o).mono ?_;rintro e wA⟨qd,qe,qf,qg,qh,rfl,hoA0,hb⟩;unfold Wd.cells;have hoA:=hoA0;have hX:=za hX zX hb;have hO:=za hO zO hb;have hV:=za hV zV hb;have hU:=za hU zU hb;have kl:=kl.mono hb;have ko:=ko.mono hb;have hB:=hB.trans (hb.mono hB.size);have zX:=nLt zX hb.size;have zO:=nLt zO hb.size;have zV:=nLt zV hb.size;have zU:=nLt zU hb.size;clear hb)
  | (go_at_call 11;refine(zio True True x _ _ _ _ _ _ _ _ _ _ _ _ _ _ _ _ _ _ _ _ _ (by exact ko) (by exact hoA)).mono ?_;rintro e wA⟨rfl,hb⟩;clear hoA;have hX:=za hX zX hb;have hO:=za hO zO hb;have hV:=za hV zV hb;have hU:=za hU zU hb;have kl:=kl.mono hb;have ko:=ko.mono hb;have hB:=hB.trans (hb.mono hB.size);have zX:=nLt zX hb.size;have zO:=nLt zO hb.size;have zV:=nLt zV hb.size;have zU:=nLt zU hb.size;clear hb))
 have hX10:=hX;have zX10:=zX;have hO10:=hO;have zO10:=zO;have hV10:=hV;have zV10:=zV;have hU10:=hU;have zU10:=zU;have kl10:=kl;have ko10:=ko;have hB10:=hB;clear hX zX hO zO hV zV hU zU kl ko hB;go_wp2_with fail
 go_ret;exact⟨rfl,hB10⟩
end Go.Proofs.YtedangodjiolaaaGreat
