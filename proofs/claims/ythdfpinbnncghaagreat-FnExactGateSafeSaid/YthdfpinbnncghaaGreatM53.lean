import Derived.Test.YthdfpinbnncghaaGreatM52
set_option maxHeartbeats 8000000
namespace Go.Proofs.YthdfpinbnncghaaGreat
open Go.RowKit
theorem zr2 {l:Lw}(h:zbi l=true)(b:Bk):jy l b=zar l b:=by unfold jy;rw[h];rfl
theorem zfP (l:Lw)(la lb lc:OA)(lca lcb lcc:Nat)(x:Wd)(a0 a1 a2 a3 a4:OA)(c0 c1 c2 c3 c4:Nat)(d:Dor)(b0 b1 b2 b3 b4:OA)(e0 e1 e2 e3 e4:Nat)(w:World)(hl:yH w l la lb lc)(hd:zbX True w d b0 b1 b2 b3 b4)(hlw:zbi l=true)(hf:d.Few) :
 Calls Tryz.prog 61 #[.agg (l.cells la lb lc lca lcb lcc),.agg (x.cells a0 a1 a2 a3 a4 c0 c1 c2 c3 c4),.agg (d.cells b0 b1 b2 b3 b4 e0 e1 e2 e3 e4)] w fun e w'=>e=.returned (.bool (jF l x.b.now d))/\Bw w w':=by
 have hln:=hd.ss.len;have HL:=hid hl;have HD:=hid hd;have HF:=ji hlw hf;clear hl hd hlw hf;unfold maxLen at hln;unfold Lw.cells Wd.cells Dor.cells;go_enter Tryz.func61,Tryz.ntmps61
 go_upto_region 1 with fail
 obtain⟨W0,hW0,hX0,hY0,hZ0,hz0,hB0⟩:=zd6 w #[.l la l.ss.length lca,.l lb l.ms.length lcb,.l lc l.ts.length lcc] #[.i x.b.now,.i x.b.tick,.i x.b.given,.l a0 x.b.os.length c0,.l a1 x.b.gs.length c1,.l a2 x.b.ls.length c2,.l a3 x.b.ps.length c3,.l a4 x.ds.length c4] #[.s d.nm,.bool d.up,.i d.v.now,.i d.v.tick,.i d.v.given,.l b0 d.v.os.length e0,.l b1 d.v.gs.length e1,.l b2 d.v.ls.length e2,.l b3 d.v.ps.length e3,.l b4 d.ss.length e4] 44 55 133;rw[<- hW0];clear hW0;go_wp2_with fail
 refine(zi d.nm _ HD.o.nm).mono ?_;rintro e w1⟨rfl,rfl⟩
 cases hn:zm d.nm
 ·have HN:=hid hn
  clear hn;go_wp2_with fail
  go_ret;exact⟨ze (by unfold jF;rw[HN.o];rfl),hB0⟩
 have HN:=hid hn;clear hn;go_wp2_with fail
 refine(zdb l la lb lc lca lcb lcc d.v b0 b1 b2 b3 e0 e1 e2 e3 _ (HL.o.mono hB0) (HD.o.v.mono hB0) ((HD.o.has trivial).mono hB0) HF.o.2.v HF.o.2.z).mono ?_;rw[zr2 HF.o.1];rintro e w2⟨rfl,hb⟩;have hX1:=za hX0 (by omega) hb;have hY1:=za hY0 (by omega) hb;have hZ1:=za hZ0 hz0 hb;have hz1:=nLt hz0 hb.size;have hB1:=hB0.trans (hb.mono hB0.size);clear hb hX0 hY0 hZ0 hz0 hB0
 cases hk:zar l d.v
 ·have HK:=hid hk
  clear hk;go_wp2_with fail
  go_ret;exact⟨ze (by unfold jF;rw[HN.o,HK.o];rfl),hB1⟩
 have HK:=hid hk;clear hk
 by_cases hv:d.v.now<=x.b.now
 rotate_left
 ·have hvd:decide (x.b.now<d.v.now)=true:=by simp;omega
  have HV:Hid (decide (d.v.now<=x.b.now)=false):=decide_eq_false hv;clear hv;go_wp2_with fail
  go_ret;exact⟨ze (by unfold jF;rw[HN.o,HK.o,HV.o];rfl),hB1⟩
 have hvd:decide (x.b.now<d.v.now)=false:=by simp;omega
 have HV:Hid (decide (d.v.now<=x.b.now)=true):=decide_eq_true hv;clear hv
 by_cases h6:d.ss.length<=6
 rotate_left
 ·have h6d:decide ((6:Int)<(d.ss.length:Int))=true:=by simp;omega
  have H6:Hid (decide (d.ss.length<=6)=false):=decide_eq_false h6;clear h6;go_wp2_with fail
  go_ret;exact⟨ze (by unfold jF;rw[HN.o,HK.o,HV.o,H6.o];rfl),hB1⟩
 have h6d:decide ((6:Int)<(d.ss.length:Int))=false:=by simp;omega
 have H6:Hid (decide (d.ss.length<=6)=true):=decide_eq_true h6;clear h6
 by_cases hu:(d.up||decide (d.ss.length=0))=true
 rotate_left
 ·have hu1:d.up=false/\¬d.ss.length=0:=by simpa using hu
  have hu2:=hu1.1;have hu3:0<d.ss.length:=by have:=hu1.2;omega
  have HU:Hid ((d.up||decide (d.ss.length=0))=false):=bFi hu;clear hu hu1;go_wp2_with fail
  go_ret;exact⟨ze (by unfold jF;rw[HN.o,HK.o,HV.o,H6.o,HU.o];rfl),hB1⟩
 have HU:Hid ((d.up||decide (d.ss.length=0))=true):=hu;have HFIN:Hid (jF l x.b.now d=!d.ss.any (j5 l d.nm)):=by unfold Hid jF;rw[HN.o,HK.o,HV.o,H6.o,HU.o];simp
 clear HN HK HV H6
 have hup:d.up=true \/ (d.up=false/\¬0<d.ss.length):=by
  cases hq:d.up
  ·rw[hq]at hu;simp at hu;exact Or.inr ⟨rfl,by simp[hu]⟩
  ·exact Or.inl rfl
 clear hu HU
 rcases hup with hu1|⟨hu1,hu3⟩
 all_goals
  go_upto_region 3 with fail
  (try clear hu3)
  clear hu1 h6d hvd;go_wp2_with fail
  go_loopw [7] (fun i wr=>∃k:Nat,k<=d.ss.length/\i=.i k/\Hid ((d.ss.take k).any (j5 l d.nm)=false)/\Bw w2 wr) (fun i _=>d.ss.length-(intOf i).toNat)
  case atStart=>exact⟨0,Nat.zero_le _,rfl,rfl,bRf _ _⟩
  case round=>
   obtain⟨k,hk,rfl,HNO,hB⟩:=hrel;have hX2:=za hX1 (by omega) hB.drew;have hZ2:=za hZ1 hz1 hB.drew;have hXl:w.heap.size<wr.drew.heap.size:=nLt (by omega) hB.drew.size;have hZl:w.heap.size+1+1<wr.drew.heap.size:=nLt hz1 hB.drew.size;have hZ3:=za hZ1 hz1 hB
   by_cases hlt:k<d.ss.length
   ·obtain⟨b,off,p0,p1,p2,p3,q0,q1,q2,q3,rfl,hb,hs,hr⟩:=(HD.o.ss.mono hB1).range hB.drew k hlt
    have hc0:wr.drew.cell? (aD b (off+k*18))=some (.s d.ss[k].dr):=hr 0 _ rfl;have hltI:(k:Int)<(d.ss.length:Int):=by omega
    have hb1:=nLt hb hB.drew.size;have HS:=ji hs hr;have HLW:=hid ((HL.o.mono hB1).mono hB.drew);clear hs hr;go_wp2_with fail
    clear hZ3;refine wp_region_held_drew (S:=fun w'=>(∀j,w'.cell? (aD w.heap.size j)=(#[.l la l.ss.length lca,.l lb l.ms.length lcb,.l lc l.ts.length lcc]:AV)[j]?)/\(∀j,w'.cell? (aD (w.heap.size+1+1) j)=(#[.s d.nm,.bool d.up,.i d.v.now,.i d.v.tick,.i d.v.given,.l b0 d.v.os.length e0,.l b1 d.v.gs.length e1,.l b2 d.v.ls.length e2,.l b3 d.v.ps.length e3,.l (some (aD b off)) d.ss.length e4]:AV)[j]?)/\w'.rangeAt b (off+k*18) (d.ss[k].cells p0 p1 p2 p3 q0 q1 q2 q3).toList/\w'.cell? (aD b (off+k*18))=some (.s d.ss[k].dr)) (by kernel_rfl) ⟨hX2,hZ2,HS.o.2,hc0⟩ (fun H_=>?_);refine tG 0 ?_;refine tG 1 ?_;refine tG 2 ?_;refine tG 3 ?_;refine tG 4 ?_;refine mH 5 rfl H_ (fun _ h=>h.2.2.1) Tryz.underlying192 rfl (by kernel_rfl) ?_;refine cH 6 rfl fun K hK=>?_
    go_simp
    refine(zmz l la lb lc lca lcb lcc d.ss[k] p0 p1 p2 p3 q0 q1 q2 q3 _ HLW.o HS.o.1).mono ?_;rintro e w3⟨rfl,hbb⟩;have hB3:=hB.drew.trans (hbb.mono hB.drew.size);have HSN:Hid ((∀j,w3.cell? (aD w.heap.size j)=(#[.l la l.ss.length lca,.l lb l.ms.length lcb,.l lc l.ts.length lcc]:AV)[j]?)/\(∀j,w3.cell? (aD (w.heap.size+1+1) j)=(#[.s d.nm,.bool d.up,.i d.v.now,.i d.v.tick,.i d.v.given,.l b0 d.v.os.length e0,.l b1 d.v.gs.length e1,.l b2 d.v.ls.length e2,.l b3 d.v.ps.length e3,.l (some (aD b off)) d.ss.length e4]:AV)[j]?)/\w3.rangeAt b (off+k*18) (d.ss[k].cells p0 p1 p2 p3 q0 q1 q2 q3).toList/\w3.cell? (aD b (off+k*18))=some (.s d.ss[k].dr)):=⟨za hX2 hXl hbb,za hZ2 hZl hbb,qX HS.o.2 hb1 hbb,(hbb.cell (p:=(aD b (off+k*18))) hb1).trans hc0⟩
    clear hX2 hZ2 hc0 hbb
    (try go_wp2_with fail)
    refine hK.out _ _ ?_ (fun H_=>?_)
    ·exact HSN.o
    clear hK K HSN
    (try simp only[Act.put,sA,s0,sS])
    cases hq:zaK l d.ss[k]
    ·have HA:Hid (d.ss.any (j5 l d.nm)=true):=zcd _ d.ss k hlt (by unfold j5;rw[hq];simp)
     clear hq;refine tG 7 ?_;refine tG 8 ?_;refine kG 9 ?_;refine kG 10 ?_;refine kG 11 ?_;refine kG 12 ?_;refine kG 13 ?_;refine kG 14 ?_;refine kG 15 ?_;refine kG 16 ?_;refine kG 17 ?_;refine tG 18 ?_;refine wpAnyH_done (by kernel_rfl) ?_ _;go_wp2_with fail
     go_ret;exact⟨ze (by rw[HFIN.o,HA.o];rfl),hB1.trans (hB3.mono hB1.size)⟩
    ·by_cases he:d.ss[k].dr=d.nm
     ·have e2:(d.ss[k].dr.toList == d.nm.toList)=true:=by rw[beq_toList];simpa using he
      have HA:Hid ((d.ss.take (k+1)).any (j5 l d.nm)=false):=by unfold Hid;rw[qO _ d.ss k hlt,HNO.o];unfold j5;rw[hq,e2];rfl
      clear hq he;refine tG 7 ?_;refine tG 8 ?_;refine tG 9 ?_;refine tG 10 ?_;refine tG 11 ?_;refine tG 12 ?_;refine tG 13 ?_;refine tG 14 ?_;refine tG 15 ?_;refine tG 16 ?_;refine tG 17 ?_;refine tG 18 ?_;refine wpAnyH_done (by kernel_rfl) ?_ _;go_wp2_with fail
      exact⟨⟨k+1,by omega,by go_num,HA.o,hB3⟩,by simp[intOf];omega⟩
     ·have e2:(d.ss[k].dr.toList == d.nm.toList)=false:=by rw[beq_toList];simpa using he
      have HA:Hid (d.ss.any (j5 l d.nm)=true):=zcd _ d.ss k hlt (by unfold j5;rw[e2];rfl);clear hq he;refine tG 7 ?_;refine tG 8 ?_;refine tG 9 ?_;refine tG 10 ?_;refine tG 11 ?_;refine tG 12 ?_;refine tG 13 ?_;refine tG 14 ?_;refine tG 15 ?_;refine tG 16 ?_;refine tG 17 ?_;refine tG 18 ?_;refine wpAnyH_done (by kernel_rfl) ?_ _;go_wp2_with fail
      go_ret;exact⟨ze (by rw[HFIN.o,HA.o];rfl),hB1.trans (hB3.mono hB1.size)⟩
   ·have HA:Hid (d.ss.any (j5 l d.nm)=false):=by have:=HNO.o;rw[tOl (by omega)]at this;exact this
    clear hX2 hZ2;go_wp2_with fail
    go_ret;exact⟨ze (by rw[HFIN.o,HA.o];rfl),hB1.trans (hB.mono hB1.size)⟩
end Go.Proofs.YthdfpinbnncghaaGreat
