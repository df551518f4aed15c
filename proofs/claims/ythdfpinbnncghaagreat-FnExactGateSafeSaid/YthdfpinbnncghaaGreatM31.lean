import Derived.Test.YthdfpinbnncghaaGreatM27
set_option maxHeartbeats 40000000
namespace Go.Proofs.YthdfpinbnncghaaGreat
open Go.RowKit
theorem zqT {ts:List Tm}{rs:List Rl}{r:Rl}{k:Nat}(h:k<r.vs.length)(hb:((r.vs.take k).all fun v=>rs.any fun q=>yX ts r q v)=true)(hn:(rs.any fun q=>yX ts r q r.vs[k])=false):zby ts rs r=r.vs[k]:=by
 unfold zby
 have hnone:(r.vs.take k).find? (fun v=>!(rs.any fun q=>yX ts r q v))=none:=by
  rw[List.find?_eq_none];intro x hx;rw[List.all_eq_true]at hb;rw[hb x hx];simp
 have hf:r.vs.find? (fun v=>!(rs.any fun q=>yX ts r q v))=some r.vs[k]:=by
  conv=>lhs;rw[<- List.take_append_drop k r.vs]
  rw[List.find?_append,hnone,List.drop_eq_getElem_cons h,List.find?_cons_of_pos (by rw[hn];rfl)];rfl
 rw[hf];rfl
theorem zpI {ts:List Tm}{rs:List Rl}{r:Rl}(hb:(r.vs.all fun v=>rs.any fun q=>yX ts r q v)=true):zby ts rs r=0:=by
 unfold zby
 have hf:r.vs.find? (fun v=>!(rs.any fun q=>yX ts r q v))=none:=by
  rw[List.find?_eq_none];intro x hx;rw[List.all_eq_true]at hb;rw[hb x hx];simp
 rw[hf];rfl
theorem zou (ta:OA)(tcap:Nat)(ts:List Tm)(ra:OA)(rcap:Nat)(rs:List Rl)(r:Rl)(a:OA)(cap:Nat)(w:World)(hw:jB w ta ts)(hr:zcC w ra rs)(hm:r.Small)(hi:yJ w a r.vs) :
 Calls Tryz.prog 25 #[.l ta ts.length tcap,.l ra rs.length rcap,.agg (r.cells a cap)] w fun e w'=>e=.returned (.i (zby ts rs r))/\Bw w w':=by
 have hl:=hr.len;have hvl:=hi.len;unfold maxLen at hl hvl;have HT:Hid (jB w ta ts):=hw;have HR:Hid (zcC w ra rs):=hr;have HI:Hid (yJ w a r.vs):=hi;have HM:Hid r.Small:=hm;clear hw hr hi hm;unfold Rl.cells;go_enter Tryz.func25,Tryz.ntmps25;go_wp2_with fail
 have hB0:Bw w (w.alloc (.cells #[.l a r.vs.length cap,.s r.kd,.s r.tm,.s r.px] 74)):=bAl _ _;have hX0:=zn w #[.l a r.vs.length cap,.s r.kd,.s r.tm,.s r.px] 74;obtain⟨W0,hW0⟩:=xN (w.alloc (.cells #[.l a r.vs.length cap,.s r.kd,.s r.tm,.s r.px] 74));have hz0:w.heap.size<W0.heap.size:=by rw[hW0];simp
 rw[<- hW0]at hB0 hX0 ⊢;clear hW0
 go_loopw [7] (fun i wr=>∃k:Nat,k<=r.vs.length/\i=.i k/\((r.vs.take k).all fun v=>rs.any fun q=>yX ts r q v)=true/\Bw W0 wr) (fun i _=>r.vs.length-(intOf i).toNat)
 case atStart=>exact⟨0,Nat.zero_le _,rfl,rfl,bRf _ _⟩
 case round=>
  obtain⟨k,hk,rfl,hall,hB1⟩:=hrel;obtain⟨W1,rfl⟩:∃W1,W1=wr:=⟨wr,rfl⟩
  have hB2:=hB0.trans (hB1.mono (by omega));have hX2:=za hX0 hz0 hB1;have hz2:=nLt hz0 hB1.size;have HB1:Hid (Bw W0 W1):=hB1;have HB2:Hid (Bw w W1):=hB2;have HZ0:Hid (W0.heap.size<=W1.heap.size):=hB1.size;clear hX0 hB1
  by_cases hlt:k<r.vs.length
  ·have hltI:(k:Int)<(r.vs.length:Int):=by omega
   obtain⟨vb,voff,rfl,hvb,cv⟩:=HI.o.load hB2 k hlt;have HAll:Hid (((r.vs.take k).all fun v=>rs.any fun q=>yX ts r q v)=true):=hall;clear hall;go_wp2_with fail
   go_loopw [8,9] (fun f i wi=>∃n:Nat,n<=rs.length/\i=.i n/\f=.bool ((rs.take n).any fun q=>yX ts r q r.vs[k])/\Bw W1 wi) (fun _ i _=>rs.length-(intOf i).toNat)
   case atStart=>exact⟨0,Nat.zero_le _,rfl,rfl,bRf _ _⟩
   case round=>
    obtain⟨n,hn,rfl,rfl,hB3⟩:=hrel;obtain⟨W3,rfl⟩:∃W3,W3=wr:=⟨wr,rfl⟩
    by_cases hnl:n<rs.length
    ·have hnI:(n:Int)<(rs.length:Int):=by omega
     have hB4:=hB2.trans (hB3.mono hB2.size);obtain⟨b,off,va,vcap,rfl,hb,hsm,hI,c0,c1,c2,c3⟩:=HR.o.load hB4 n hnl;have hbr:b<W3.heap.size:=nLt hb hB4.size;have hX4:=za hX2 hz2 hB3;have hz4:=nLt hz2 hB3.size;have cv4:W3.cell? (aD vb (voff+k))=some (.i r.vs[k]):=(hB3.cell (p:=(aD vb (voff+k))) (nLt hvb hB2.size)).trans cv;go_wp2_with fail
     have hb5:Bw W3 (W3.alloc (.cells #[.l va rs[n].vs.length vcap,.s rs[n].kd,.s rs[n].tm,.s rs[n].px] 74)):=bAl _ _;have hY0:=zn W3 #[.l va rs[n].vs.length vcap,.s rs[n].kd,.s rs[n].tm,.s rs[n].px] 74;obtain⟨W5,hW5⟩:=xN (W3.alloc (.cells #[.l va rs[n].vs.length vcap,.s rs[n].kd,.s rs[n].tm,.s rs[n].px] 74));have hy0:W3.heap.size<W5.heap.size:=by rw[hW5];simp
     rw[<- hW5]at hb5 hY0 ⊢;clear hW5 c0 c1 c2 c3;have hX:=za (za hX4 hz4 hb5) (by omega) (bRf W5.heap.size W5).drew;have hY:=za hY0 hy0 (bRf W5.heap.size W5).drew;have hvw:vb<W3.heap.size:=nLt hvb hB4.size;have hV:W5.drew.cell? (aD vb (voff+k))=some (.i r.vs[k]):=(hb5.cell (p:=(aD vb (voff+k))) hvw).trans cv4;have hz:w.heap.size<W5.drew.heap.size:=nLt hz4 hb5.size;have hy:W3.heap.size<W5.drew.heap.size:=hy0;have hvz:vb<W5.drew.heap.size:=nLt hvw hb5.size;have hB:=(hB3.trans (hb5.mono hB3.size)).drew;have hBw:=(hB4.trans (hb5.mono hB4.size)).drew;have hIq:=(hI.mono hb5).mono (bRf W5.heap.size W5).drew
     have HCS:Hid (yX ts r rs[n] r.vs[k]=(yG rs[n].vs r.vs[k]&&((rs[n].kd.toList.isEmpty||(rs[n].kd.toList == r.kd.toList))&&((rs[n].tm.toList.isEmpty||(!r.tm.toList.isEmpty&&under ts 4 r.tm rs[n].tm))&&begins r.px rs[n].px)))):=by
      unfold Hid yX zl9;rw[beq_toList]
     have HSN:Hid (((rs.take (n+1)).any fun q=>yX ts r q r.vs[k])=(((rs.take n).any fun q=>yX ts r q r.vs[k])||yX ts r rs[n] r.vs[k])):=qO _ rs n hnl;clear hX2 hX4 hY0 hy0 hb5 hB4 hz4 hI hB3 cv cv4 hB2 hz2 hB0 hz0 hvw
     by_cases hvt:yG rs[n].vs r.vs[k]=true
     rotate_left
     ·have HVB:Hid (yG rs[n].vs r.vs[k]=false):=by simpa[Hid] using hvt
      clear hvt;have HC:Hid (yX ts r rs[n] r.vs[k]=false):=by rw[Hid,HCS.o,HVB.o];simp
      have HS:Hid (((rs.take (n+1)).any fun q=>yX ts r q r.vs[k])=((rs.take n).any fun q=>yX ts r q r.vs[k])):=by rw[Hid,HSN.o,HC.o,Bool.or_false]
      refine wp_region_held_drew (S:=fun w'=>(∀j,w'.cell? (aD w.heap.size j)=(#[.l (some (aD vb voff)) r.vs.length cap,.s r.kd,.s r.tm,.s r.px]:AV)[j]?)/\(∀j,w'.cell? (aD W3.heap.size j)=(#[.l va rs[n].vs.length vcap,.s rs[n].kd,.s rs[n].tm,.s rs[n].px]:AV)[j]?)/\w'.cell? (aD vb (voff+k))=some (.i r.vs[k])) (by kernel_rfl) ⟨hX,hY,hV⟩ (fun H_=>?_);refine tG 0 ?_;refine tG 1 ?_;refine tG 2 ?_;refine tG 3 ?_;refine tG 4 ?_;refine tG 5 ?_;refine cH 6 rfl fun K hK=>?_
      go_simp
      refine(zf HVB.o (zal rs[n] _ _ _ _ hIq)).mono ?_;rintro e w6⟨rfl,hb⟩;have hX6:=za hX hz hb;have hY6:=za hY hy hb;have hV6:=(hb.cell (p:=(aD vb (voff+k))) hvz).trans hV;have hB6:=hB.trans (hb.mono hB.size);have hBw6:=hBw.trans (hb.mono hBw.size);have hz6:=nLt hz hb.size;have hy6:=nLt hy hb.size;clear hb hX hY hV hz hy hvz hB hBw hIq
      (try go_wp2_with fail)
      refine hK.out _ _ ?_ (fun H_=>?_)
      ·exact⟨hX6,hY6,hV6⟩
      clear hK K
      (try simp only[Act.put,sA,s0,sS])
      refine tG 7 ?_;refine kG 8 ?_;refine kG 9 ?_;refine kG 10 ?_;refine kG 11 ?_;refine kG 12 ?_;refine kG 13 ?_;refine kG 14 ?_;refine kG 15 ?_;refine kG 16 ?_;refine kG 17 ?_;refine tG 18 ?_;refine tG 19 ?_;refine kG 20 ?_;refine kG 21 ?_;refine kG 22 ?_;refine kG 23 ?_;refine kG 24 ?_;refine kG 25 ?_;refine kG 26 ?_;refine kG 27 ?_;refine kG 28 ?_;refine kG 29 ?_;refine kG 30 ?_;refine kG 31 ?_;refine kG 32 ?_;refine kG 33 ?_;refine kG 34 ?_;refine kG 35 ?_;refine tG 36 ?_;refine tG 37 ?_;refine kG 38 ?_;refine kG 39 ?_;refine kG 40 ?_;refine kG 41 ?_;refine kG 42 ?_;refine tG 43 ?_;refine wpAnyH_done (by kernel_rfl) ?_ _;go_wp2_with fail
      exact⟨⟨n+1,by omega,by go_num,by rw[HS.o],hB6⟩,by simp[intOf];omega⟩
     have HVB:Hid (yG rs[n].vs r.vs[k]=true):=hvt;clear hvt
     have hkc:(rs[n].kd.toList.isEmpty=true) \/ (rs[n].kd.toList.isEmpty=false/\(rs[n].kd.toList == r.kd.toList)=true) \/ (rs[n].kd.toList.isEmpty=false/\(rs[n].kd.toList == r.kd.toList)=false):=by
      cases rs[n].kd.toList.isEmpty <;> cases (rs[n].kd.toList == r.kd.toList) <;> simp
     have htc:(rs[n].tm.toList.isEmpty=true) \/ (rs[n].tm.toList.isEmpty=false/\r.tm.toList.isEmpty=true) \/ (rs[n].tm.toList.isEmpty=false/\r.tm.toList.isEmpty=false/\Hid (under ts 4 r.tm rs[n].tm=true)) \/ (rs[n].tm.toList.isEmpty=false/\r.tm.toList.isEmpty=false/\Hid (under ts 4 r.tm rs[n].tm=false)):=by
      unfold Hid
      cases rs[n].tm.toList.isEmpty <;> cases r.tm.toList.isEmpty <;> cases under ts 4 r.tm rs[n].tm <;> simp
     rcases hkc with hk|⟨hk,hke⟩|⟨hk,hke⟩
     ·rcases htc with ht|⟨ht,hrt⟩|⟨ht,hrt,HU⟩|⟨ht,hrt,HU⟩
      ·have HC:Hid (yX ts r rs[n] r.vs[k]=begins r.px rs[n].px):=by rw[Hid,HCS.o,HVB.o,hk,ht];simp
       refine wp_region_held_drew (S:=fun w'=>(∀j,w'.cell? (aD w.heap.size j)=(#[.l (some (aD vb voff)) r.vs.length cap,.s r.kd,.s r.tm,.s r.px]:AV)[j]?)/\(∀j,w'.cell? (aD W3.heap.size j)=(#[.l va rs[n].vs.length vcap,.s rs[n].kd,.s rs[n].tm,.s rs[n].px]:AV)[j]?)/\w'.cell? (aD vb (voff+k))=some (.i r.vs[k])) (by kernel_rfl) ⟨hX,hY,hV⟩ (fun H_=>?_);refine tG 0 ?_;refine tG 1 ?_;refine tG 2 ?_;refine tG 3 ?_;refine tG 4 ?_;refine tG 5 ?_;refine cH 6 rfl fun K hK=>?_
       go_simp
       refine(zf HVB.o (zal rs[n] _ _ _ _ hIq)).mono ?_;rintro e w6⟨rfl,hb⟩;have hX6:=za hX hz hb;have hY6:=za hY hy hb;have hV6:=(hb.cell (p:=(aD vb (voff+k))) hvz).trans hV;have hB6:=hB.trans (hb.mono hB.size);have hBw6:=hBw.trans (hb.mono hBw.size);have hz6:=nLt hz hb.size;have hy6:=nLt hy hb.size;clear hb hX hY hV hz hy hvz hB hBw hIq
       (try go_wp2_with fail)
       refine hK.out _ _ ?_ (fun H_=>?_)
       ·exact⟨hX6,hY6,hV6⟩
       clear hK K
       (try simp only[Act.put,sA,s0,sS])
       refine tG 7 ?_;refine tG 8 ?_;refine tG 9 ?_;refine tG 10 ?_;refine tG 11 ?_;refine kG 12 ?_;refine kG 13 ?_;refine kG 14 ?_;refine kG 15 ?_;refine kG 16 ?_;refine tG 17 ?_;refine tG 18 ?_;refine tG 19 ?_;refine tG 20 ?_;refine tG 21 ?_;refine tG 22 ?_;refine tG 23 ?_;refine kG 24 ?_;refine kG 25 ?_;refine kG 26 ?_;refine kG 27 ?_;refine kG 28 ?_;refine kG 29 ?_;refine kG 30 ?_;refine kG 31 ?_;refine kG 32 ?_;refine kG 33 ?_;refine kG 34 ?_;refine tG 35 ?_;refine tG 36 ?_;refine tG 37 ?_;refine tG 38 ?_;refine tG 39 ?_;refine tG 40 ?_;refine tG 41 ?_;refine cH 42 rfl fun K hK=>?_
       go_simp
       refine(zcQ r.px rs[n].px _ HM.o.px hsm.px).mono ?_;rintro e w8⟨rfl,rfl⟩
       (try go_wp2_with fail)
       refine hK.out _ _ ?_ (fun H_=>?_)
       ·exact⟨hX6,hY6,hV6⟩
       clear hK K
       (try simp only[Act.put,sA,s0,sS])
       refine tG 43 ?_;refine wpAnyH_done (by kernel_rfl) ?_ _
       by_cases hbg:begins r.px rs[n].px=true
       ·have HS:Hid (((rs.take (n+1)).any fun q=>yX ts r q r.vs[k])=true):=by rw[Hid,HSN.o,HC.o,hbg,Bool.or_true]
        rw[hbg];go_wp2_with fail
        exact⟨⟨n+1,by omega,by go_num,by rw[HS.o],hB6⟩,by simp[intOf];omega⟩
       ·have hbf:begins r.px rs[n].px=false:=by simpa using hbg
        have HS:Hid (((rs.take (n+1)).any fun q=>yX ts r q r.vs[k])=((rs.take n).any fun q=>yX ts r q r.vs[k])):=by rw[Hid,HSN.o,HC.o,hbf,Bool.or_false]
        rw[hbf];go_wp2_with fail
        exact⟨⟨n+1,by omega,by go_num,by rw[HS.o],hB6⟩,by simp[intOf];omega⟩
      ·have HC:Hid (yX ts r rs[n] r.vs[k]=false):=by rw[Hid,HCS.o,HVB.o,hk,ht,hrt];simp
       have HS:Hid (((rs.take (n+1)).any fun q=>yX ts r q r.vs[k])=((rs.take n).any fun q=>yX ts r q r.vs[k])):=by rw[Hid,HSN.o,HC.o,Bool.or_false]
       refine wp_region_held_drew (S:=fun w'=>(∀j,w'.cell? (aD w.heap.size j)=(#[.l (some (aD vb voff)) r.vs.length cap,.s r.kd,.s r.tm,.s r.px]:AV)[j]?)/\(∀j,w'.cell? (aD W3.heap.size j)=(#[.l va rs[n].vs.length vcap,.s rs[n].kd,.s rs[n].tm,.s rs[n].px]:AV)[j]?)/\w'.cell? (aD vb (voff+k))=some (.i r.vs[k])) (by kernel_rfl) ⟨hX,hY,hV⟩ (fun H_=>?_);refine tG 0 ?_;refine tG 1 ?_;refine tG 2 ?_;refine tG 3 ?_;refine tG 4 ?_;refine tG 5 ?_;refine cH 6 rfl fun K hK=>?_
       go_simp
       refine(zf HVB.o (zal rs[n] _ _ _ _ hIq)).mono ?_;rintro e w6⟨rfl,hb⟩;have hX6:=za hX hz hb;have hY6:=za hY hy hb;have hV6:=(hb.cell (p:=(aD vb (voff+k))) hvz).trans hV;have hB6:=hB.trans (hb.mono hB.size);have hBw6:=hBw.trans (hb.mono hBw.size);have hz6:=nLt hz hb.size;have hy6:=nLt hy hb.size;clear hb hX hY hV hz hy hvz hB hBw hIq
       (try go_wp2_with fail)
       refine hK.out _ _ ?_ (fun H_=>?_)
       ·exact⟨hX6,hY6,hV6⟩
       clear hK K
       (try simp only[Act.put,sA,s0,sS])
       refine tG 7 ?_;refine tG 8 ?_;refine tG 9 ?_;refine tG 10 ?_;refine tG 11 ?_;refine kG 12 ?_;refine kG 13 ?_;refine kG 14 ?_;refine kG 15 ?_;refine kG 16 ?_;refine tG 17 ?_;refine tG 18 ?_;refine tG 19 ?_;refine tG 20 ?_;refine tG 21 ?_;refine tG 22 ?_;refine tG 23 ?_;refine tG 24 ?_;refine tG 25 ?_;refine tG 26 ?_;refine tG 27 ?_;refine kG 28 ?_;refine kG 29 ?_;refine kG 30 ?_;refine kG 31 ?_;refine kG 32 ?_;refine kG 33 ?_;refine tG 34 ?_;refine tG 35 ?_;refine tG 36 ?_;refine tG 37 ?_;refine kG 38 ?_;refine kG 39 ?_;refine kG 40 ?_;refine kG 41 ?_;refine kG 42 ?_;refine tG 43 ?_;refine wpAnyH_done (by kernel_rfl) ?_ _;go_wp2_with fail
       exact⟨⟨n+1,by omega,by go_num,by rw[HS.o],hB6⟩,by simp[intOf];omega⟩
      ·have HC:Hid (yX ts r rs[n] r.vs[k]=begins r.px rs[n].px):=by rw[Hid,HCS.o,HVB.o,hk,ht,hrt,HU.o];simp
       refine wp_region_held_drew (S:=fun w'=>(∀j,w'.cell? (aD w.heap.size j)=(#[.l (some (aD vb voff)) r.vs.length cap,.s r.kd,.s r.tm,.s r.px]:AV)[j]?)/\(∀j,w'.cell? (aD W3.heap.size j)=(#[.l va rs[n].vs.length vcap,.s rs[n].kd,.s rs[n].tm,.s rs[n].px]:AV)[j]?)/\w'.cell? (aD vb (voff+k))=some (.i r.vs[k])) (by kernel_rfl) ⟨hX,hY,hV⟩ (fun H_=>?_);refine tG 0 ?_;refine tG 1 ?_;refine tG 2 ?_;refine tG 3 ?_;refine tG 4 ?_;refine tG 5 ?_;refine cH 6 rfl fun K hK=>?_
       go_simp
       refine(zf HVB.o (zal rs[n] _ _ _ _ hIq)).mono ?_;rintro e w6⟨rfl,hb⟩;have hX6:=za hX hz hb;have hY6:=za hY hy hb;have hV6:=(hb.cell (p:=(aD vb (voff+k))) hvz).trans hV;have hB6:=hB.trans (hb.mono hB.size);have hBw6:=hBw.trans (hb.mono hBw.size);have hz6:=nLt hz hb.size;have hy6:=nLt hy hb.size;clear hb hX hY hV hz hy hvz hB hBw hIq
       (try go_wp2_with fail)
       refine hK.out _ _ ?_ (fun H_=>?_)
       ·exact⟨hX6,hY6,hV6⟩
       clear hK K
       (try simp only[Act.put,sA,s0,sS])
       refine tG 7 ?_;refine tG 8 ?_;refine tG 9 ?_;refine tG 10 ?_;refine tG 11 ?_;refine kG 12 ?_;refine kG 13 ?_;refine kG 14 ?_;refine kG 15 ?_;refine kG 16 ?_;refine tG 17 ?_;refine tG 18 ?_;refine tG 19 ?_;refine tG 20 ?_;refine tG 21 ?_;refine tG 22 ?_;refine tG 23 ?_;refine tG 24 ?_;refine tG 25 ?_;refine tG 26 ?_;refine tG 27 ?_;refine tG 28 ?_;refine tG 29 ?_;refine tG 30 ?_;refine tG 31 ?_;refine tG 32 ?_;refine cH 33 rfl fun K hK=>?_
       go_simp
       refine(zf HU.o (zbg _ _ ts r.tm rs[n].tm _ (HT.o.mono hBw6))).mono ?_;rintro e w7⟨rfl,rfl⟩
       (try go_wp2_with fail)
       refine hK.out _ _ ?_ (fun H_=>?_)
       ·exact⟨hX6,hY6,hV6⟩
       clear hK K
       (try simp only[Act.put,sA,s0,sS])
       refine tG 34 ?_;refine tG 35 ?_;refine tG 36 ?_;refine tG 37 ?_;refine tG 38 ?_;refine tG 39 ?_;refine tG 40 ?_;refine tG 41 ?_;refine cH 42 rfl fun K hK=>?_
       go_simp
       refine(zcQ r.px rs[n].px _ HM.o.px hsm.px).mono ?_;rintro e w8⟨rfl,rfl⟩
       (try go_wp2_with fail)
       refine hK.out _ _ ?_ (fun H_=>?_)
       ·exact⟨hX6,hY6,hV6⟩
       clear hK K
       (try simp only[Act.put,sA,s0,sS])
       refine tG 43 ?_;refine wpAnyH_done (by kernel_rfl) ?_ _
       by_cases hbg:begins r.px rs[n].px=true
       ·have HS:Hid (((rs.take (n+1)).any fun q=>yX ts r q r.vs[k])=true):=by rw[Hid,HSN.o,HC.o,hbg,Bool.or_true]
        rw[hbg];go_wp2_with fail
        exact⟨⟨n+1,by omega,by go_num,by rw[HS.o],hB6⟩,by simp[intOf];omega⟩
       ·have hbf:begins r.px rs[n].px=false:=by simpa using hbg
        have HS:Hid (((rs.take (n+1)).any fun q=>yX ts r q r.vs[k])=((rs.take n).any fun q=>yX ts r q r.vs[k])):=by rw[Hid,HSN.o,HC.o,hbf,Bool.or_false]
        rw[hbf];go_wp2_with fail
        exact⟨⟨n+1,by omega,by go_num,by rw[HS.o],hB6⟩,by simp[intOf];omega⟩
      ·have HC:Hid (yX ts r rs[n] r.vs[k]=false):=by rw[Hid,HCS.o,HVB.o,hk,ht,hrt,HU.o];simp
       have HS:Hid (((rs.take (n+1)).any fun q=>yX ts r q r.vs[k])=((rs.take n).any fun q=>yX ts r q r.vs[k])):=by rw[Hid,HSN.o,HC.o,Bool.or_false]
       refine wp_region_held_drew (S:=fun w'=>(∀j,w'.cell? (aD w.heap.size j)=(#[.l (some (aD vb voff)) r.vs.length cap,.s r.kd,.s r.tm,.s r.px]:AV)[j]?)/\(∀j,w'.cell? (aD W3.heap.size j)=(#[.l va rs[n].vs.length vcap,.s rs[n].kd,.s rs[n].tm,.s rs[n].px]:AV)[j]?)/\w'.cell? (aD vb (voff+k))=some (.i r.vs[k])) (by kernel_rfl) ⟨hX,hY,hV⟩ (fun H_=>?_);refine tG 0 ?_;refine tG 1 ?_;refine tG 2 ?_;refine tG 3 ?_;refine tG 4 ?_;refine tG 5 ?_;refine cH 6 rfl fun K hK=>?_
       go_simp
       refine(zf HVB.o (zal rs[n] _ _ _ _ hIq)).mono ?_;rintro e w6⟨rfl,hb⟩;have hX6:=za hX hz hb;have hY6:=za hY hy hb;have hV6:=(hb.cell (p:=(aD vb (voff+k))) hvz).trans hV;have hB6:=hB.trans (hb.mono hB.size);have hBw6:=hBw.trans (hb.mono hBw.size);have hz6:=nLt hz hb.size;have hy6:=nLt hy hb.size;clear hb hX hY hV hz hy hvz hB hBw hIq
       (try go_wp2_with fail)
       refine hK.out _ _ ?_ (fun H_=>?_)
       ·exact⟨hX6,hY6,hV6⟩
       clear hK K
       (try simp only[Act.put,sA,s0,sS])
       refine tG 7 ?_;refine tG 8 ?_;refine tG 9 ?_;refine tG 10 ?_;refine tG 11 ?_;refine kG 12 ?_;refine kG 13 ?_;refine kG 14 ?_;refine kG 15 ?_;refine kG 16 ?_;refine tG 17 ?_;refine tG 18 ?_;refine tG 19 ?_;refine tG 20 ?_;refine tG 21 ?_;refine tG 22 ?_;refine tG 23 ?_;refine tG 24 ?_;refine tG 25 ?_;refine tG 26 ?_;refine tG 27 ?_;refine tG 28 ?_;refine tG 29 ?_;refine tG 30 ?_;refine tG 31 ?_;refine tG 32 ?_;refine cH 33 rfl fun K hK=>?_
       go_simp
       refine(zf HU.o (zbg _ _ ts r.tm rs[n].tm _ (HT.o.mono hBw6))).mono ?_;rintro e w7⟨rfl,rfl⟩
       (try go_wp2_with fail)
       refine hK.out _ _ ?_ (fun H_=>?_)
       ·exact⟨hX6,hY6,hV6⟩
       clear hK K
       (try simp only[Act.put,sA,s0,sS])
       refine tG 34 ?_;refine tG 35 ?_;refine tG 36 ?_;refine tG 37 ?_;refine kG 38 ?_;refine kG 39 ?_;refine kG 40 ?_;refine kG 41 ?_;refine kG 42 ?_;refine tG 43 ?_;refine wpAnyH_done (by kernel_rfl) ?_ _;go_wp2_with fail
       exact⟨⟨n+1,by omega,by go_num,by rw[HS.o],hB6⟩,by simp[intOf];omega⟩
     ·rcases htc with ht|⟨ht,hrt⟩|⟨ht,hrt,HU⟩|⟨ht,hrt,HU⟩
      ·have HC:Hid (yX ts r rs[n] r.vs[k]=begins r.px rs[n].px):=by rw[Hid,HCS.o,HVB.o,hk,hke,ht];simp
       refine wp_region_held_drew (S:=fun w'=>(∀j,w'.cell? (aD w.heap.size j)=(#[.l (some (aD vb voff)) r.vs.length cap,.s r.kd,.s r.tm,.s r.px]:AV)[j]?)/\(∀j,w'.cell? (aD W3.heap.size j)=(#[.l va rs[n].vs.length vcap,.s rs[n].kd,.s rs[n].tm,.s rs[n].px]:AV)[j]?)/\w'.cell? (aD vb (voff+k))=some (.i r.vs[k])) (by kernel_rfl) ⟨hX,hY,hV⟩ (fun H_=>?_);refine tG 0 ?_;refine tG 1 ?_;refine tG 2 ?_;refine tG 3 ?_;refine tG 4 ?_;refine tG 5 ?_;refine cH 6 rfl fun K hK=>?_
       go_simp
       refine(zf HVB.o (zal rs[n] _ _ _ _ hIq)).mono ?_;rintro e w6⟨rfl,hb⟩;have hX6:=za hX hz hb;have hY6:=za hY hy hb;have hV6:=(hb.cell (p:=(aD vb (voff+k))) hvz).trans hV;have hB6:=hB.trans (hb.mono hB.size);have hBw6:=hBw.trans (hb.mono hBw.size);have hz6:=nLt hz hb.size;have hy6:=nLt hy hb.size;clear hb hX hY hV hz hy hvz hB hBw hIq
       (try go_wp2_with fail)
       refine hK.out _ _ ?_ (fun H_=>?_)
       ·exact⟨hX6,hY6,hV6⟩
       clear hK K
       (try simp only[Act.put,sA,s0,sS])
       refine tG 7 ?_;refine tG 8 ?_;refine tG 9 ?_;refine tG 10 ?_;refine tG 11 ?_;refine tG 12 ?_;refine tG 13 ?_;refine tG 14 ?_;refine tG 15 ?_;refine tG 16 ?_;refine tG 17 ?_;refine tG 18 ?_;refine tG 19 ?_;refine tG 20 ?_;refine tG 21 ?_;refine tG 22 ?_;refine tG 23 ?_;refine kG 24 ?_;refine kG 25 ?_;refine kG 26 ?_;refine kG 27 ?_;refine kG 28 ?_;refine kG 29 ?_;refine kG 30 ?_;refine kG 31 ?_;refine kG 32 ?_;refine kG 33 ?_;refine kG 34 ?_;refine tG 35 ?_;refine tG 36 ?_;refine tG 37 ?_;refine tG 38 ?_;refine tG 39 ?_;refine tG 40 ?_;refine tG 41 ?_;refine cH 42 rfl fun K hK=>?_
       go_simp
       refine(zcQ r.px rs[n].px _ HM.o.px hsm.px).mono ?_;rintro e w8⟨rfl,rfl⟩
       (try go_wp2_with fail)
       refine hK.out _ _ ?_ (fun H_=>?_)
       ·exact⟨hX6,hY6,hV6⟩
       clear hK K
       (try simp only[Act.put,sA,s0,sS])
       refine tG 43 ?_;refine wpAnyH_done (by kernel_rfl) ?_ _
       by_cases hbg:begins r.px rs[n].px=true
       ·have HS:Hid (((rs.take (n+1)).any fun q=>yX ts r q r.vs[k])=true):=by rw[Hid,HSN.o,HC.o,hbg,Bool.or_true]
        rw[hbg];go_wp2_with fail
        exact⟨⟨n+1,by omega,by go_num,by rw[HS.o],hB6⟩,by simp[intOf];omega⟩
       ·have hbf:begins r.px rs[n].px=false:=by simpa using hbg
        have HS:Hid (((rs.take (n+1)).any fun q=>yX ts r q r.vs[k])=((rs.take n).any fun q=>yX ts r q r.vs[k])):=by rw[Hid,HSN.o,HC.o,hbf,Bool.or_false]
        rw[hbf];go_wp2_with fail
        exact⟨⟨n+1,by omega,by go_num,by rw[HS.o],hB6⟩,by simp[intOf];omega⟩
      ·have HC:Hid (yX ts r rs[n] r.vs[k]=false):=by rw[Hid,HCS.o,HVB.o,hk,hke,ht,hrt];simp
       have HS:Hid (((rs.take (n+1)).any fun q=>yX ts r q r.vs[k])=((rs.take n).any fun q=>yX ts r q r.vs[k])):=by rw[Hid,HSN.o,HC.o,Bool.or_false]
       refine wp_region_held_drew (S:=fun w'=>(∀j,w'.cell? (aD w.heap.size j)=(#[.l (some (aD vb voff)) r.vs.length cap,.s r.kd,.s r.tm,.s r.px]:AV)[j]?)/\(∀j,w'.cell? (aD W3.heap.size j)=(#[.l va rs[n].vs.length vcap,.s rs[n].kd,.s rs[n].tm,.s rs[n].px]:AV)[j]?)/\w'.cell? (aD vb (voff+k))=some (.i r.vs[k])) (by kernel_rfl) ⟨hX,hY,hV⟩ (fun H_=>?_);refine tG 0 ?_;refine tG 1 ?_;refine tG 2 ?_;refine tG 3 ?_;refine tG 4 ?_;refine tG 5 ?_;refine cH 6 rfl fun K hK=>?_
       go_simp
       refine(zf HVB.o (zal rs[n] _ _ _ _ hIq)).mono ?_;rintro e w6⟨rfl,hb⟩;have hX6:=za hX hz hb;have hY6:=za hY hy hb;have hV6:=(hb.cell (p:=(aD vb (voff+k))) hvz).trans hV;have hB6:=hB.trans (hb.mono hB.size);have hBw6:=hBw.trans (hb.mono hBw.size);have hz6:=nLt hz hb.size;have hy6:=nLt hy hb.size;clear hb hX hY hV hz hy hvz hB hBw hIq
       (try go_wp2_with fail)
       refine hK.out _ _ ?_ (fun H_=>?_)
       ·exact⟨hX6,hY6,hV6⟩
       clear hK K
       (try simp only[Act.put,sA,s0,sS])
       refine tG 7 ?_;refine tG 8 ?_;refine tG 9 ?_;refine tG 10 ?_;refine tG 11 ?_;refine tG 12 ?_;refine tG 13 ?_;refine tG 14 ?_;refine tG 15 ?_;refine tG 16 ?_;refine tG 17 ?_;refine tG 18 ?_;refine tG 19 ?_;refine tG 20 ?_;refine tG 21 ?_;refine tG 22 ?_;refine tG 23 ?_;refine tG 24 ?_;refine tG 25 ?_;refine tG 26 ?_;refine tG 27 ?_;refine kG 28 ?_;refine kG 29 ?_;refine kG 30 ?_;refine kG 31 ?_;refine kG 32 ?_;refine kG 33 ?_;refine tG 34 ?_;refine tG 35 ?_;refine tG 36 ?_;refine tG 37 ?_;refine kG 38 ?_;refine kG 39 ?_;refine kG 40 ?_;refine kG 41 ?_;refine kG 42 ?_;refine tG 43 ?_;refine wpAnyH_done (by kernel_rfl) ?_ _;go_wp2_with fail
       exact⟨⟨n+1,by omega,by go_num,by rw[HS.o],hB6⟩,by simp[intOf];omega⟩
      ·have HC:Hid (yX ts r rs[n] r.vs[k]=begins r.px rs[n].px):=by rw[Hid,HCS.o,HVB.o,hk,hke,ht,hrt,HU.o];simp
       refine wp_region_held_drew (S:=fun w'=>(∀j,w'.cell? (aD w.heap.size j)=(#[.l (some (aD vb voff)) r.vs.length cap,.s r.kd,.s r.tm,.s r.px]:AV)[j]?)/\(∀j,w'.cell? (aD W3.heap.size j)=(#[.l va rs[n].vs.length vcap,.s rs[n].kd,.s rs[n].tm,.s rs[n].px]:AV)[j]?)/\w'.cell? (aD vb (voff+k))=some (.i r.vs[k])) (by kernel_rfl) ⟨hX,hY,hV⟩ (fun H_=>?_);refine tG 0 ?_;refine tG 1 ?_;refine tG 2 ?_;refine tG 3 ?_;refine tG 4 ?_;refine tG 5 ?_;refine cH 6 rfl fun K hK=>?_
       go_simp
       refine(zf HVB.o (zal rs[n] _ _ _ _ hIq)).mono ?_;rintro e w6⟨rfl,hb⟩;have hX6:=za hX hz hb;have hY6:=za hY hy hb;have hV6:=(hb.cell (p:=(aD vb (voff+k))) hvz).trans hV;have hB6:=hB.trans (hb.mono hB.size);have hBw6:=hBw.trans (hb.mono hBw.size);have hz6:=nLt hz hb.size;have hy6:=nLt hy hb.size;clear hb hX hY hV hz hy hvz hB hBw hIq
       (try go_wp2_with fail)
       refine hK.out _ _ ?_ (fun H_=>?_)
       ·exact⟨hX6,hY6,hV6⟩
       clear hK K
       (try simp only[Act.put,sA,s0,sS])
       refine tG 7 ?_;refine tG 8 ?_;refine tG 9 ?_;refine tG 10 ?_;refine tG 11 ?_;refine tG 12 ?_;refine tG 13 ?_;refine tG 14 ?_;refine tG 15 ?_;refine tG 16 ?_;refine tG 17 ?_;refine tG 18 ?_;refine tG 19 ?_;refine tG 20 ?_;refine tG 21 ?_;refine tG 22 ?_;refine tG 23 ?_;refine tG 24 ?_;refine tG 25 ?_;refine tG 26 ?_;refine tG 27 ?_;refine tG 28 ?_;refine tG 29 ?_;refine tG 30 ?_;refine tG 31 ?_;refine tG 32 ?_;refine cH 33 rfl fun K hK=>?_
       go_simp
       refine(zf HU.o (zbg _ _ ts r.tm rs[n].tm _ (HT.o.mono hBw6))).mono ?_;rintro e w7⟨rfl,rfl⟩
       (try go_wp2_with fail)
       refine hK.out _ _ ?_ (fun H_=>?_)
       ·exact⟨hX6,hY6,hV6⟩
       clear hK K
       (try simp only[Act.put,sA,s0,sS])
       refine tG 34 ?_;refine tG 35 ?_;refine tG 36 ?_;refine tG 37 ?_;refine tG 38 ?_;refine tG 39 ?_;refine tG 40 ?_;refine tG 41 ?_;refine cH 42 rfl fun K hK=>?_
       go_simp
       refine(zcQ r.px rs[n].px _ HM.o.px hsm.px).mono ?_;rintro e w8⟨rfl,rfl⟩
       (try go_wp2_with fail)
       refine hK.out _ _ ?_ (fun H_=>?_)
       ·exact⟨hX6,hY6,hV6⟩
       clear hK K
       (try simp only[Act.put,sA,s0,sS])
       refine tG 43 ?_;refine wpAnyH_done (by kernel_rfl) ?_ _
       by_cases hbg:begins r.px rs[n].px=true
       ·have HS:Hid (((rs.take (n+1)).any fun q=>yX ts r q r.vs[k])=true):=by rw[Hid,HSN.o,HC.o,hbg,Bool.or_true]
        rw[hbg];go_wp2_with fail
        exact⟨⟨n+1,by omega,by go_num,by rw[HS.o],hB6⟩,by simp[intOf];omega⟩
       ·have hbf:begins r.px rs[n].px=false:=by simpa using hbg
        have HS:Hid (((rs.take (n+1)).any fun q=>yX ts r q r.vs[k])=((rs.take n).any fun q=>yX ts r q r.vs[k])):=by rw[Hid,HSN.o,HC.o,hbf,Bool.or_false]
        rw[hbf];go_wp2_with fail
        exact⟨⟨n+1,by omega,by go_num,by rw[HS.o],hB6⟩,by simp[intOf];omega⟩
      ·have HC:Hid (yX ts r rs[n] r.vs[k]=false):=by rw[Hid,HCS.o,HVB.o,hk,hke,ht,hrt,HU.o];simp
       have HS:Hid (((rs.take (n+1)).any fun q=>yX ts r q r.vs[k])=((rs.take n).any fun q=>yX ts r q r.vs[k])):=by rw[Hid,HSN.o,HC.o,Bool.or_false]
       refine wp_region_held_drew (S:=fun w'=>(∀j,w'.cell? (aD w.heap.size j)=(#[.l (some (aD vb voff)) r.vs.length cap,.s r.kd,.s r.tm,.s r.px]:AV)[j]?)/\(∀j,w'.cell? (aD W3.heap.size j)=(#[.l va rs[n].vs.length vcap,.s rs[n].kd,.s rs[n].tm,.s rs[n].px]:AV)[j]?)/\w'.cell? (aD vb (voff+k))=some (.i r.vs[k])) (by kernel_rfl) ⟨hX,hY,hV⟩ (fun H_=>?_);refine tG 0 ?_;refine tG 1 ?_;refine tG 2 ?_;refine tG 3 ?_;refine tG 4 ?_;refine tG 5 ?_;refine cH 6 rfl fun K hK=>?_
       go_simp
       refine(zf HVB.o (zal rs[n] _ _ _ _ hIq)).mono ?_;rintro e w6⟨rfl,hb⟩;have hX6:=za hX hz hb;have hY6:=za hY hy hb;have hV6:=(hb.cell (p:=(aD vb (voff+k))) hvz).trans hV;have hB6:=hB.trans (hb.mono hB.size);have hBw6:=hBw.trans (hb.mono hBw.size);have hz6:=nLt hz hb.size;have hy6:=nLt hy hb.size;clear hb hX hY hV hz hy hvz hB hBw hIq
       (try go_wp2_with fail)
       refine hK.out _ _ ?_ (fun H_=>?_)
       ·exact⟨hX6,hY6,hV6⟩
       clear hK K
       (try simp only[Act.put,sA,s0,sS])
       refine tG 7 ?_;refine tG 8 ?_;refine tG 9 ?_;refine tG 10 ?_;refine tG 11 ?_;refine tG 12 ?_;refine tG 13 ?_;refine tG 14 ?_;refine tG 15 ?_;refine tG 16 ?_;refine tG 17 ?_;refine tG 18 ?_;refine tG 19 ?_;refine tG 20 ?_;refine tG 21 ?_;refine tG 22 ?_;refine tG 23 ?_;refine tG 24 ?_;refine tG 25 ?_;refine tG 26 ?_;refine tG 27 ?_;refine tG 28 ?_;refine tG 29 ?_;refine tG 30 ?_;refine tG 31 ?_;refine tG 32 ?_;refine cH 33 rfl fun K hK=>?_
       go_simp
       refine(zf HU.o (zbg _ _ ts r.tm rs[n].tm _ (HT.o.mono hBw6))).mono ?_;rintro e w7⟨rfl,rfl⟩
       (try go_wp2_with fail)
       refine hK.out _ _ ?_ (fun H_=>?_)
       ·exact⟨hX6,hY6,hV6⟩
       clear hK K
       (try simp only[Act.put,sA,s0,sS])
       refine tG 34 ?_;refine tG 35 ?_;refine tG 36 ?_;refine tG 37 ?_;refine kG 38 ?_;refine kG 39 ?_;refine kG 40 ?_;refine kG 41 ?_;refine kG 42 ?_;refine tG 43 ?_;refine wpAnyH_done (by kernel_rfl) ?_ _;go_wp2_with fail
       exact⟨⟨n+1,by omega,by go_num,by rw[HS.o],hB6⟩,by simp[intOf];omega⟩
     ·clear htc
      have HC:Hid (yX ts r rs[n] r.vs[k]=false):=by rw[Hid,HCS.o,HVB.o,hk,hke];simp
      have HS:Hid (((rs.take (n+1)).any fun q=>yX ts r q r.vs[k])=((rs.take n).any fun q=>yX ts r q r.vs[k])):=by rw[Hid,HSN.o,HC.o,Bool.or_false]
      refine wp_region_held_drew (S:=fun w'=>(∀j,w'.cell? (aD w.heap.size j)=(#[.l (some (aD vb voff)) r.vs.length cap,.s r.kd,.s r.tm,.s r.px]:AV)[j]?)/\(∀j,w'.cell? (aD W3.heap.size j)=(#[.l va rs[n].vs.length vcap,.s rs[n].kd,.s rs[n].tm,.s rs[n].px]:AV)[j]?)/\w'.cell? (aD vb (voff+k))=some (.i r.vs[k])) (by kernel_rfl) ⟨hX,hY,hV⟩ (fun H_=>?_);refine tG 0 ?_;refine tG 1 ?_;refine tG 2 ?_;refine tG 3 ?_;refine tG 4 ?_;refine tG 5 ?_;refine cH 6 rfl fun K hK=>?_
      go_simp
      refine(zf HVB.o (zal rs[n] _ _ _ _ hIq)).mono ?_;rintro e w6⟨rfl,hb⟩;have hX6:=za hX hz hb;have hY6:=za hY hy hb;have hV6:=(hb.cell (p:=(aD vb (voff+k))) hvz).trans hV;have hB6:=hB.trans (hb.mono hB.size);have hBw6:=hBw.trans (hb.mono hBw.size);have hz6:=nLt hz hb.size;have hy6:=nLt hy hb.size;clear hb hX hY hV hz hy hvz hB hBw hIq
      (try go_wp2_with fail)
      refine hK.out _ _ ?_ (fun H_=>?_)
      ·exact⟨hX6,hY6,hV6⟩
      clear hK K
      (try simp only[Act.put,sA,s0,sS])
      refine tG 7 ?_;refine tG 8 ?_;refine tG 9 ?_;refine tG 10 ?_;refine tG 11 ?_;refine tG 12 ?_;refine tG 13 ?_;refine tG 14 ?_;refine tG 15 ?_;refine tG 16 ?_;refine tG 17 ?_;refine tG 18 ?_;refine tG 19 ?_;refine kG 20 ?_;refine kG 21 ?_;refine kG 22 ?_;refine kG 23 ?_;refine kG 24 ?_;refine kG 25 ?_;refine kG 26 ?_;refine kG 27 ?_;refine kG 28 ?_;refine kG 29 ?_;refine kG 30 ?_;refine kG 31 ?_;refine kG 32 ?_;refine kG 33 ?_;refine kG 34 ?_;refine kG 35 ?_;refine tG 36 ?_;refine tG 37 ?_;refine kG 38 ?_;refine kG 39 ?_;refine kG 40 ?_;refine kG 41 ?_;refine kG 42 ?_;refine tG 43 ?_;refine wpAnyH_done (by kernel_rfl) ?_ _;go_wp2_with fail
      exact⟨⟨n+1,by omega,by go_num,by rw[HS.o],hB6⟩,by simp[intOf];omega⟩
    ·have hnI:¬(n:Int)<(rs.length:Int):=by omega
     have hF:((rs.take n).any fun q=>yX ts r q r.vs[k])=(rs.any fun q=>yX ts r q r.vs[k]):=by rw[tOl (by omega)]
     have HBe:Hid (Bw W0 W3):=HB1.o.trans (hB3.mono HZ0.o);have HBe':Hid (Bw w W3):=HB2.o.trans (hB3.mono HB2.o.size);have hX4:=za hX2 hz2 hB3;have hz4:=nLt hz2 hB3.size;have cv4:W3.cell? (aD vb (voff+k))=some (.i r.vs[k]):=(hB3.cell (p:=(aD vb (voff+k))) (nLt hvb HB2.o.size)).trans cv;clear hB3 hX2 hB2 hz2 cv hB0 hz0
     by_cases hc:(rs.any fun q=>yX ts r q r.vs[k])=true
     ·have HS:Hid (((r.vs.take (k+1)).all fun v=>rs.any fun q=>yX ts r q v)=true):=by rw[Hid,qM _ r.vs k hlt,HAll.o,hc];rfl
      rw[hF,hc];clear hF hc;go_wp2_with fail
      exact⟨⟨k+1,by omega,by go_num,HS.o,HBe.o⟩,by simp[intOf];omega⟩
     ·have hc':(rs.any fun q=>yX ts r q r.vs[k])=false:=by simpa using hc
      have HS:Hid (zby ts rs r=r.vs[k]):=zqT hlt HAll.o hc';rw[hF,hc'];clear hF hc hc';go_wp2_with fail
      go_ret;exact⟨zk HS.o.symm,HBe'.out⟩
  ·have HS:Hid (zby ts rs r=0):=zpI (by rw[<- hall,tOl (by omega)])
   have hltI:¬(k:Int)<(r.vs.length:Int):=by omega
   clear hall;go_wp2_with fail
   go_ret;exact⟨zk HS.o.symm,HB2.o⟩
end Go.Proofs.YthdfpinbnncghaaGreat
