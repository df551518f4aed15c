import Derived.Test.YtjnpjkigofldlaaGreatM45
set_option maxRecDepth 20000
set_option maxHeartbeats 40000000
namespace Go.Proofs.YtjnpjkigofldlaaGreat
open Go.RowKit
variable {l:Lw}{o:Ob}{os:List Ob}{k:Nat}{fs:List Fld}
theorem zcQ (l:Lw)(b:Bk)(o:Ob):yL l b o=(within o.vr 1 b.now&&(yD l.ts o.tm&&((decide ((yI l.ss o).1=0)&&decide (zct l o=o.vs))&&zaD l b.os o))):=rfl
theorem zmj (hok:yj l.ss l.ms=true)(h:(yI l.ss o).1=0):zb5 l.ss l.ms o=zct l o:=by
 unfold zb5 zct;rw[if_pos (zay hok h)]
noncomputable def qO (l:Lw)(os:List Ob)(o:Ob)(k:Nat):Bool:=(yt (shapeOf l.ss o.kd).fs o.vs k).all fun x=>os.any (jC x.to x.nm)
theorem zpp (hk:k<=(shapeOf l.ss o.kd).fs.length)(h:qO l os o k=false):zaD l os o=false:=by
 unfold qO at h;unfold zaD;obtain⟨t,ht⟩:=zbB (shapeOf l.ss o.kd).fs o.vs hk;rw[<- ht,List.all_append,h];rfl
theorem zms (hk:k<(shapeOf l.ss o.kd).fs.length)(hv:k<o.vs.length)(h:¬((shapeOf l.ss o.kd).fs[k].kd=4/\o.vs[k].toList.isEmpty=false)):qO l os o (k+1)=qO l os o k:=by
 unfold qO;rw[ji,List.all_append]
 have:zdk (shapeOf l.ss o.kd).fs o.vs k=[]:=by
  unfold zdk;rw[List.getElem?_eq_getElem hk,List.getElem?_eq_getElem hv];exact dif_neg (fun h'=>h h'.1)
 rw[this];simp
theorem znK (hk:k<(shapeOf l.ss o.kd).fs.length)(hv:k<o.vs.length)(h1:(shapeOf l.ss o.kd).fs[k].kd=4)(h2:o.vs[k].toList.isEmpty=false)(hs1:(shapeOf l.ss o.kd).fs[k].to.size<=maxLen)(hs2:o.vs[k].size<=maxLen):qO l os o (k+1)=(qO l os o k&&os.any (jC (shapeOf l.ss o.kd).fs[k].to o.vs[k])):=by
 unfold qO;rw[ji,List.all_append]
 have:zdk (shapeOf l.ss o.kd).fs o.vs k=[⟨k,(shapeOf l.ss o.kd).fs[k].rl,(shapeOf l.ss o.kd).fs[k].to,o.vs[k],hs1,hs2⟩]:=by
  unfold zdk;rw[List.getElem?_eq_getElem hk,List.getElem?_eq_getElem hv];exact dif_pos ⟨⟨h1,h2⟩,hs1,hs2⟩
 rw[this];simp
theorem zfn (e:fs=(shapeOf l.ss o.kd).fs)(hk:k<fs.length)(hv:k<o.vs.length)(h:¬(fs[k].kd=4/\o.vs[k].toList.isEmpty=false)):qO l os o (k+1)=qO l os o k:=by
 subst e;exact zms hk hv h
theorem zgm (e:fs=(shapeOf l.ss o.kd).fs)(hk:k<fs.length)(hv:k<o.vs.length)(h1:fs[k].kd=4)(h2:o.vs[k].toList.isEmpty=false)(hs1:fs[k].to.size<=maxLen)(hs2:o.vs[k].size<=maxLen):qO l os o (k+1)=(qO l os o k&&os.any (jC fs[k].to o.vs[k])):=by
 subst e;exact znK hk hv h1 h2 hs1 hs2
theorem zof (e:fs=(shapeOf l.ss o.kd).fs)(h:qO l os o fs.length=true):zaD l os o=true:=by
 subst e;exact h
theorem znq (e:fs=(shapeOf l.ss o.kd).fs)(hk:k<=fs.length)(h:qO l os o k=false):zaD l os o=false:=by
 subst e;exact zpp hk h
theorem zjk (l:Lw)(la lb lc:OA)(lca lcb lcc:Nat)(b:Bk)(a0 a1 a2 a3:OA)(c0 c1 c2 c3:Nat)(w:World)(hl:qp w l la lb lc)(hb:qj w b a0 a1 a2 a3)(hh:zb1 w a0 b.os)(hok:yj l.ss l.ms=true)(hfw:∀i (h:i<b.os.length),b.os[i].vs.length<=1048576/\b.os[i].hs.length<=1048576) :
 Calls Tryz.prog 64 #[.agg (l.cells la lb lc lca lcb lcc),.agg (b.cells a0 a1 a2 a3 c0 c1 c2 c3)] w fun e w'=>e=.returned (.bool (zM l b))/\Bw w w':=by
 have HK:=hid hb;have HL:=hid hl;have HH:=hid hh;have HF0:Hid (yj l.ss l.ms=true/\∀i (h:i<b.os.length),b.os[i].vs.length<=1048576/\b.os[i].hs.length<=1048576):=⟨hok,hfw⟩
 clear hb hl hh hok hfw;unfold Lw.cells Bk.cells
 by_cases hln:b.os.length<=40
 rotate_left
 ·have HF:Hid (zM l b=false):=by unfold Hid zM;rw[decide_eq_false hln];rfl
  have hg:(40:Int)<(b.os.length:Int):=by omega
  go_in;go_wp2
  go_ret;exact⟨ze HF.o.symm,zo _ _ _⟩
 have hg:decide ((40:Int)<(b.os.length:Int))=false:=by simp;omega
 have HLN:Hid (b.os.length<=40):=hln;clear hln;go_in;go_wp2_with fail
 clear hg;obtain⟨hL0,hX0⟩:=qB w (lC l la lb lc lca lcb lcc) (bC b a0 a1 a2 a3 c0 c1 c2 c3) 47 40;have HB0:Hid (Bw w ((w.alloc (.cells (lC l la lb lc lca lcb lcc) 47)).alloc (.cells (bC b a0 a1 a2 a3 c0 c1 c2 c3) 40))):=zo w _ _;obtain⟨W0,hW0⟩:=xN ((w.alloc (.cells (lC l la lb lc lca lcb lcc) 47)).alloc (.cells (bC b a0 a1 a2 a3 c0 c1 c2 c3) 40));have hz0:w.heap.size+1<W0.heap.size:=by rw[hW0];simp
 rw[<- hW0]at HB0 hX0 hL0 ⊢;clear hW0
 go_loopw [5] (fun iv wr=>∃k:Nat,k<=b.os.length/\iv=.i k/\Hid ((b.os.take k).all (yL l b)=true/\za1 zbG b.os k/\Bw W0 wr)) (fun iv _=>b.os.length-(intOf iv).toNat)
 case atStart=>exact⟨0,Nat.zero_le _,rfl,by simp,fun i _ h=>by omega,bRf _ _⟩
 case round=>
  obtain⟨k,hk,rfl,HQ⟩:=hrel;have hkn:k<=40:=by have:=HLN.o;omega
  have hX1:=za hX0 hz0 HQ.o.2.2;have hL1:=za hL0 (nSl hz0) HQ.o.2.2;have hz1:=nLt hz0 HQ.o.2.2.size;have hq1:=nSl hz1;have HBq:Hid (Bw w wr):=HB0.o.trans (HQ.o.2.2.mono HB0.o.size)
  by_cases hlt:k<b.os.length
  ·obtain⟨ob,off,g0,g1,q0,q1,rfl,hob,hsm,hs0,hs1,d0,d1,d2,d3,d4,d5,d6⟩:=HH.o.load HBq.o k hlt
   have hob':ob<wr.heap.size:=nLt hob HBq.o.size;have hltI:(k:Int)<(b.os.length:Int):=by omega
   have HSn:Hid ((b.os.take (k+1)).all (yL l b)=((b.os.take k).all (yL l b)&&(yL l b) b.os[k])):=qM _ _ _ hlt;have HBo:Hid (∀ob,Bw W0 (wr.alloc ob)):=fun ob=>HQ.o.2.2.alloc HQ.o.2.2.size _
   have HBw:Hid (∀W,Bw W0 W->Bw w W):=fun W hW=>HB0.o.trans (hW.mono HB0.o.size)
   have HNo:Hid ((yL l b) b.os[k]=false->zM l b=false):=fun h=>by unfold zM;rw[zaE _ _ _ hlt h];simp
   have HNa:Hid (0<k->0<=zbG (b.os[k-1]'(by omega)) b.os[k]->zM l b=false):=fun h0 h=>by unfold zM;rw[zeI hlt h0 (Int.not_lt.2 h)];simp
   have HYes:Hid ((yL l b) b.os[k]=true->(∀m (e:k=m+1),zbG (b.os[m]'(by omega)) b.os[k]<0)->(b.os.take (k+1)).all (yL l b)=true/\za1 zbG b.os (k+1)):=fun h h'=>⟨by rw[HSn.o,HQ.o.1,h];rfl,zfY HQ.o.2.1 hlt h'⟩
   have HIt:Hid (qY wr b.os[k] (some (aD g0 0)) (some (aD g1 0))):=⟨hsm,hs0,hs1⟩
   have HFk:Hid (b.os[k].vs.length<=1048576/\b.os[k].hs.length<=1048576):=HF0.o.2 k hlt;clear hsm hs0 hs1;go_wp2_with fail
   have hY0:=zI wr (oC b.os[k] (some (aD g0 0)) (some (aD g1 0)) q0 q1) 116;have hb5:Bw wr (wr.alloc (.cells (oC b.os[k] (some (aD g0 0)) (some (aD g1 0)) q0 q1) 116)):=bAl _ _;have HBe:=HBo.o (.cells (oC b.os[k] (some (aD g0 0)) (some (aD g1 0)) q0 q1) 116);obtain⟨W5,hW5⟩:=xN (wr.alloc (.cells (oC b.os[k] (some (aD g0 0)) (some (aD g1 0)) q0 q1) 116));have hy5:wr.heap.size<W5.heap.size:=by rw[hW5];simp
   rw[<- hW5]at hb5 hY0 HBe ⊢;clear hW5 d0 d1 d2 d3 d4 d5 d6;have hX5:=za hX1 hz1 hb5;have hL5:=za hL1 (nSl hz1) hb5;have hz5:w.heap.size+1<W5.heap.size:=nLt hz1 hb5.size;have hq5:=nSl hz5;have HBe5:Hid (Bw W0 W5):=HBe;have HO5:Hid (qY W5 b.os[k] (some (aD g0 0)) (some (aD g1 0))):=HIt.o.mono hb5;have hobz5:=nLt hob' hb5.size;clear hX1 hz1 hb5 HBo hX0 hz0 hL0 hL1 hob hob' HSn HBe;refine(zoH _ _ l.ss b.os[k] _ _ _ _ _ (HL.o.ss.mono (HBw.o _ HBe5.o)) HO5.o).mono ?_;rintro e w6⟨rfl,hb6⟩;have hX6:=za hX5 hz5 hb6;have hL6:=za hL5 (nSl hz5) hb6;have hY6:=za hY0 hy5 hb6;have hz6:=nLt hz5 hb6.size;have hq6:=nSl hz6;have hy6:=nLt hy5 hb6.size;have hobz6:=nLt hobz5 hb6.size;have HBe6:=hid (HBe5.o.trans (hb6.mono HBe5.o.size));have HO6:=hid (HO5.o.mono hb6);clear hb6 hX5 hL5 hY0 hz5 hq5 hy5 hobz5 HBe5 HO5
   by_cases t1:(yI l.ss b.os[k]).1=0
   rotate_left
   ·have HF:Hid (zM l b=false):=HNo.o (by rw[zcQ,decide_eq_false t1];simp)
    have hd:decide ((yI l.ss b.os[k]).1=0)=false:=decide_eq_false t1;go_wp2
    go_ret;exact⟨ze HF.o.symm,HBw.o _ HBe6.o⟩
   have HT1:Hid ((yI l.ss b.os[k]).1=0):=t1;rw[t1];clear t1;go_wp2_with fail
   refine(zek _ _ l.ts b.os[k].tm _ (HL.o.ts.mono (HBw.o _ HBe6.o))).mono ?_;rintro e w7⟨rfl,rfl⟩
   by_cases t2:yD l.ts b.os[k].tm=true
   rotate_left
   ·have HF:Hid (zM l b=false):=HNo.o (by rw[zcQ,bFi t2];simp)
    rw[bFi t2];clear t2;go_wp2
    go_ret;exact⟨ze HF.o.symm,HBw.o _ HBe6.o⟩
   have HT2:Hid (yD l.ts b.os[k].tm=true):=t2;rw[t2];clear t2;go_wp2_with fail
   refine(zah b.os[k].vr 1 b.now _).mono ?_;rintro e w7⟨rfl,rfl⟩
   by_cases t3:(decide (1<=b.os[k].vr)&&decide (b.os[k].vr<=b.now))=true
   rotate_left
   ·have HF:Hid (zM l b=false):=HNo.o (by rw[zcQ];unfold within;rw[bFi t3];simp)
    rw[bFi t3];clear t3;go_wp2
    go_ret;exact⟨ze HF.o.symm,HBw.o _ HBe6.o⟩
   have HT3:Hid (within b.os[k].vr 1 b.now=true):=t3;rw[t3];clear t3;go_wp2_with fail
   have HP:Hid (∀h0:0<k,w7.cell? (aD ob (off+(k-1)*7))=some (.s (b.os[k-1]'(by omega)).kd)/\w7.cell? (aD ob (off+(k-1)*7+1))=some (.s (b.os[k-1]'(by omega)).nm)):=fun h0=>by
    obtain⟨ob',off',g0',g1',q0',q1',e',hob'',_,_,_,e0,e1,_⟩:=HH.o.load (HBw.o _ HBe6.o) (k-1) (by omega)
    cases e'
    exact⟨e0,e1⟩
   obtain⟨v,hvE⟩:∃v:Ob,∀h0:0<k,v=b.os[k-1]'(by omega):=by
    by_cases h0:0<k
    ·exact⟨b.os[k-1]'(by omega),fun _=>rfl⟩
    ·exact⟨b.os[k],fun h=>absurd h h0⟩
   have HVE:=hid hvE;have HPV:Hid (0<k->w7.drew.cell? (aD ob (off+(k-1)*7))=some (.s v.kd)/\w7.drew.cell? (aD ob (off+(k-1)*7+1))=some (.s v.nm)):=fun h0=>by rw[HVE.o h0];exact HP.o h0
   have hkw:IntKind.i64.wrap ((k:Int)-1)=(k:Int)-1:=by rw[IntKind.wrap_i64];omega
   have HKI:Hid (decide (0<k)=true->0<k/\(0:Int)<=(k:Int)-1/\(k:Int)-1<(b.os.length:Int)/\((k:Int)-1).toNat=k-1/\(1:Int)<=(k:Int)):=fun h=>by have h:=of_decide_eq_true h;omega
   clear HP hvE;refine wp_region_held_drew (S:=fun w'=>(∀j,w'.cell? (aD (w.heap.size+1) j)=(bC b (some (aD ob off)) a1 a2 a3 c0 c1 c2 c3)[j]?)/\(∀j,w'.cell? (aD wr.heap.size j)=(oC b.os[k] (some (aD g0 0)) (some (aD g1 0)) q0 q1)[j]?)/\(0<k->w'.cell? (aD ob (off+(k-1)*7))=some (.s v.kd)/\w'.cell? (aD ob (off+(k-1)*7+1))=some (.s v.nm))) (by kernel_rfl) ⟨za hX6 hz6 (bRf w7.heap.size w7).drew,za hY6 hy6 (bRf w7.heap.size w7).drew,HPV.o⟩ (fun H_=>?_);refine tG 0 ?_;refine tG 1 ?_;refine tG 2 ?_;refine sT 3 ?_;refine sT 4 ?_;refine sT 5 ?_;refine sT 6 ?_
   refine sT 7 ?_ (hy:=by
    intro hg w hSw;obtain⟨-,h1,h2,h3,h4⟩:=HKI.o hg
    go_simp
    try with_reducible rfl)
   refine sT 8 ?_
   refine sT (v:=.s v.kd) 9 ?_ (hy:=by
    intro hg w hSw;obtain⟨h0,h1,h2,h3,h4⟩:=HKI.o hg;obtain⟨e0,e1⟩:=hSw.2.2 h0
    go_simp)
   refine sT 10 ?_;refine sT 11 ?_;refine sT 12 ?_;refine sT 13 ?_
   refine sT 14 ?_ (hy:=by
    intro hg w hSw;obtain⟨-,h1,h2,h3,h4⟩:=HKI.o hg
    go_simp
    try with_reducible rfl)
   refine sT 15 ?_
   refine sT (v:=.s v.nm) 16 ?_ (hy:=by
    intro hg w hSw;obtain⟨h0,h1,h2,h3,h4⟩:=HKI.o hg;obtain⟨e0,e1⟩:=hSw.2.2 h0
    go_simp)
   refine sT 17 ?_;refine sT 18 ?_;refine sT 19 ?_;refine sT 20 ?_;refine cT 21 (.i (key2 v.kd v.nm b.os[k].kd b.os[k].nm)) (fun W=>W=w7.drew) (fun hg K hK=>?_) ?_ rfl
   ·go_simp
    refine(zis v.kd v.nm _ _ _).mono ?_;rintro e w8⟨rfl,rfl⟩
    (try go_wp2_with fail)
    first|exact⟨rfl,hK.out _ H_ rfl⟩|exact hK.out _ H_ rfl
   rintro _ rfl H_
   (try simp only[Act.put,sA,s0,sS])
   refine sT 22 ?_;refine tG (v:=.bool (decide (0<k)&&decide (0<=key2 v.kd v.nm b.os[k].kd b.os[k].nm))) 23 ?_ (hy:=by intro w hSw;cases h:decide (0<k) <;> go_simp);refine wpAnyH_done (by kernel_rfl) ?_ _;clear H_ HKI HPV hkw
   rcases hT:(decide (0<k)&&decide (0<=key2 v.kd v.nm b.os[k].kd b.os[k].nm)) with _|_
   rotate_left
   ·have HF:Hid (zM l b=false):=by
     simp only[Bool.and_eq_true,decide_eq_true_eq]at hT;exact HNa.o hT.1 (by rw[<- HVE.o hT.1];exact hT.2)
    go_wp2
    go_ret;exact⟨ze HF.o.symm,HBw.o _ HBe6.o.drew⟩
   have HT4:Hid (∀m (e:k=m+1),zbG (b.os[m]'(by omega)) b.os[k]<0):=zj6 hlt fun h0=>by
    rw[decide_eq_true h0,Bool.true_and]at hT;rw[<- HVE.o h0];exact Int.not_le.1 (of_decide_eq_false hT)
   clear hT HVE;go_wp2_with fail
   have hXD:=za hX6 hz6 (bRf w7.heap.size w7).drew.drew;have hLD:=za hL6 (nSl hz6) (bRf w7.heap.size w7).drew.drew;have hYD:=za hY6 hy6 (bRf w7.heap.size w7).drew.drew;have hzD:=hz6;have hyD:=hy6;have hqD:=hq6;have HBeD:=hid HBe6.o.drew.drew;have HOD:=hid (HO6.o.mono (bRf w7.heap.size w7).drew.drew);have hfd:∀(s0 s1 s2:BA) (x y:OA) (n m p q:Nat) (t:Bool) (v:Int) (wf:World),(Instr.field 116 (.agg #[.s s0,.s s1,.s s2,.l x n p,.bool t,.l y m q,.i v]) 3).run Tryz.prog wf=.ok (.l x n p) wf:=fun s0 s1 s2 x y n m p q t v wf=>by kernel_rfl
   refine wp_region_held_drew (S:=fun w'=>(∀j,w'.cell? (aD w.heap.size j)=(lC l la lb lc lca lcb lcc)[j]?)/\(∀j,w'.cell? (aD (w.heap.size+1) j)=(bC b (some (aD ob off)) a1 a2 a3 c0 c1 c2 c3)[j]?)/\(∀j,w'.cell? (aD wr.heap.size j)=(oC b.os[k] (some (aD g0 0)) (some (aD g1 0)) q0 q1)[j]?)) (by kernel_rfl) ⟨hLD,hXD,hYD⟩ (fun H_=>?_);refine tG 0 ?_;refine tG 1 ?_;refine tG 2 ?_;refine tG 3 ?_;refine tG 4 ?_;refine tG 7 ?_;refine tG 8 ?_;refine cH 5 rfl fun K hK=>?_
   go_simp
   refine(znz _ _ _ _ l.ss l.ms b.os[k] _ _ _ _ _ _ _ (HL.o.ss.mono (HBw.o _ HBeD.o)) (HL.o.ms.mono (HBw.o _ HBeD.o)) HOD.o HFk.o.1 HFk.o.2 HF0.o.1).mono ?_;rintro e w8⟨sa,sdap,sa',sdap',sm,rfl,hown,_,_,_,hb8⟩;have hX8:=za hXD hzD hb8;have hL8:=za hLD (nSl hzD) hb8;have hY8:=za hYD hyD hb8;have hz8:=nLt hzD hb8.size;have hq8:=nSl hz8;have hy8:=nLt hyD hb8.size;have HBe8:=hid (HBeD.o.trans (hb8.mono HBeD.o.size));have HO8:=hid (HOD.o.mono hb8)
   have HSh:Hid (zD w8 sa (zct l b.os[k])/\(zct l b.os[k]).length=b.os[k].vs.length):=by
    have hmd:=zay HF0.o.1 HT1.o;rw[zmj HF0.o.1 HT1.o]at hown;exact⟨ziT hown hmd HOD.o.vals.len (zg2 hmd HL.o.ss.smalls HL.o.ms.small HOD.o.vals.small),zeo hmd⟩
   clear hb8 hown
   (try go_wp2_with fail)
   refine hK.out _ _ ?_ (fun H_=>?_)
   ·exact⟨hL8,hX8,hY8⟩
   clear hK K
   (try simp only[Act.put,sA,s0,sS])
   refine tG 6 ?_;refine cH 9 rfl fun K hK=>?_
   go_simp
   have hsame:=zjF sa (some (aD g0 0)) sdap q0 _ _ _ HSh.o.1 HO8.o.vals (by rw[HSh.o.2];exact HFk.o.1) HFk.o.1;rw[HSh.o.2]at hsame;refine hsame.mono ?_;rintro e w9⟨rfl,hb9⟩;have hX9:=za hX8 hz8 hb9;have hL9:=za hL8 (nSl hz8) hb9;have hY9:=za hY8 hy8 hb9;have hz9:=nLt hz8 hb9.size;have hq9:=nSl hz9;have hy9:=nLt hy8 hb9.size;have HBe9:=hid (HBe8.o.trans (hb9.mono HBe8.o.size));have HO9:=hid (HO8.o.mono hb9);clear hb9 hsame
   (try go_wp2_with fail)
   refine hK.out _ _ ?_ (fun H_=>?_)
   ·exact⟨hL9,hX9,hY9⟩
   clear hK K
   (try simp only[Act.put,sA,s0,sS])
   refine tG 10 ?_;refine wpAnyH_done (by kernel_rfl) ?_ _
   by_cases t5:zct l b.os[k]=b.os[k].vs
   rotate_left
   ·have HF:Hid (zM l b=false):=HNo.o (by rw[zcQ,decide_eq_false t5];simp)
    rw[decide_eq_false t5];clear t5;go_wp2
    go_ret;exact⟨ze HF.o.symm,HBw.o _ HBe9.o⟩
   have HT5:=hid t5;rw[decide_eq_true t5];clear t5 HSh;go_wp2_with fail
   have HWc:Hid (zq l.ss b.os[k]=true):=by
    have:=zbt (o:=b.os[k]) HF0.o.1
    rw[Hid,<- this];exact zay HF0.o.1 HT1.o
   refine(zbI _ _ l.ss b.os[k] _ _ _ _ _ (HL.o.ss.mono (HBw.o _ HBe9.o)) HO9.o HWc.o).mono ?_;rintro e w10⟨fa,fcap,rfl,hfa,hb10⟩;have hX10:=za hX9 hz9 hb10;have hL10:=za hL9 (nSl hz9) hb10;have hY10:=za hY9 hy9 hb10;have hz10:=nLt hz9 hb10.size;have hq10:=nSl hz10;have hy10:=nLt hy9 hb10.size;have HBe10:=hid (HBe9.o.trans (hb10.mono HBe9.o.size));have HO10:Hid (qY w10 b.os[k] (some (aD g0 0)) (some (aD g1 0))):=HO9.o.mono hb10;have HFa:Hid (yw w10 fa (shapeOf l.ss b.os[k].kd).fs):=hfa.mono hb10;have HLv:Hid ((shapeOf l.ss b.os[k].kd).fs.length=b.os[k].vs.length):=by have:=HWc.o;unfold zq at this;simp only[Bool.and_eq_true,decide_eq_true_eq]at this;exact this.2.symm
   have HBm:Hid (Bw W0 w10):=HBe10.o;clear hfa hb10 hfd hXD hLD hYD hzD hyD hqD hX6 hL6 hY6 hz6 hy6 hq6 hX8 hL8 hY8 hz8 hy8 hq8 hX9 hL9 hY9 hz9 hy9 hq9 HBe9 HBe8 HBeD HO8 HO9 HOD;obtain⟨fs,hfs⟩:=xN ((shapeOf l.ss b.os[k].kd).fs);have HFS:Hid (fs=(shapeOf l.ss b.os[k].kd).fs):=hfs;rw[<- hfs]at HFa HLv ⊢;clear hfs;go_wp2_with fail
   obtain⟨bo,hbo⟩:=xN (wr.heap.size);rw[<- hbo]at hY10 hy10 ⊢;clear hbo
   go_loopw [11] (fun jv wi=>∃m:Nat,m<=fs.length/\jv=.i m/\Hid (qO l b.os b.os[k] m=true/\Bw w10 wi)) (fun jv _=>fs.length-(intOf jv).toNat)
   case atStart=>exact⟨0,Nat.zero_le _,rfl,by simp[qO,yt],bRf _ _⟩
   case round=>
    obtain⟨m,hm,rfl,HR⟩:=hrel;have hfl:fs.length<=1048576:=by have:=HLv.o;have:=HFk.o.1;omega
    have hXm:=za hX10 hz10 HR.o.2;have hYm:=za hY10 hy10 HR.o.2;have hzm:=nLt hz10 HR.o.2.size;have hqm:=nLt hq10 HR.o.2.size;have hym:=nLt hy10 HR.o.2.size;have HBm:Hid (Bw W0 wr):=HBe10.o.trans (HR.o.2.mono HBe10.o.size)
    by_cases hml:m<fs.length
    ·have hmI:(m:Int)<(fs.length:Int):=by omega
     have hmv:m<b.os[k].vs.length:=by have:=HLv.o;omega
     have hmvI:(m:Int)<(b.os[k].vs.length:Int):=by omega
     obtain⟨fb,foff,fw,fc,rfl,hfb,hfi⟩:=znu HFa.o HR.o.2 m hml;obtain⟨d0,d1,d2,d3,d4,d5,d6,d7,d8,d9,d10⟩:=hfi.load;obtain⟨hvb,cv⟩:=zt0 HO10.o.vals HR.o.2 m hmv;have HSt:Hid (fs[m].to.size<=maxLen/\b.os[k].vs[m].size<=maxLen):=⟨hfi.small.to,HO10.o.vals.small _ (List.getElem_mem _)⟩
     clear d0 d2 d3 d4 d6 d7 d8 d9 d10 hfi;have hfz:=nLt hfb HR.o.2.size;have hvz:=nLt hvb HR.o.2.size;have hXd:=za hXm hzm (bRf wr.heap.size wr).drew;have hYd:=za hYm hym (bRf wr.heap.size wr).drew;have HKd:=hid (HK.o.mono (HBw.o _ HBm.o.drew));have HRd:=hid HR.o.2.drew;clear hX10 hY10 hz10 hq10 hy10 hL10 hXm hYm hfb hvb;go_wp2_with fail
     refine wp_region_held_drew (S:=fun w'=>(∀j,w'.cell? (aD (w.heap.size+1) j)=(bC b (some (aD ob off)) a1 a2 a3 c0 c1 c2 c3)[j]?)/\(∀j,w'.cell? (aD bo j)=(oC b.os[k] (some (aD g0 0)) (some (aD g1 0)) q0 q1)[j]?)/\w'.cell? (aD fb (foff+m*11+1))=some (.i fs[m].kd)/\w'.cell? (aD fb (foff+m*11+5))=some (.s fs[m].to)/\w'.cell? (aD g0 m)=some (.s b.os[k].vs[m])) (by kernel_rfl) ⟨hXd,hYd,d1,d5,cv⟩ (fun H_=>?_);refine tG 0 ?_;refine tG 1 ?_;refine tG 2 ?_;refine tG 3 ?_;refine tG 4 ?_
     by_cases t6:fs[m].kd=4
     ·have hd6:=decide_eq_true t6
      have HT6:=hid t6;have hd6b:(fs[m].kd == 4)=true:=by rw[t6];rfl
      clear t6;refine tG 5 ?_;refine tG 6 ?_;refine tG 7 ?_;refine tG 8 ?_;refine tG 9 ?_;refine tG 10 ?_;refine tG 11 ?_
      by_cases t7:b.os[k].vs[m].toList.isEmpty=false
      ·have HT7:=hid t7
       refine tG 12 ?_;refine tG 13 ?_;refine tG 14 ?_;refine tG 15 ?_;refine tG 16 ?_;refine tG 17 ?_;refine tG 18 ?_;refine tG 19 ?_;refine tG 20 ?_;refine tG 21 ?_;refine tG 22 ?_;refine tG 23 ?_;refine tG 24 ?_;refine tG 25 ?_;refine cH 26 rfl fun K hK=>?_
       go_simp
       refine(zoS b (some (aD ob off)) a1 a2 a3 c0 c1 c2 c3 _ _ _ HKd.o (by have:=HLN.o;omega)).mono ?_;rintro e w11⟨rfl,hb11⟩;have hXe:=za hXd hzm hb11;have hYe:=za hYd hym hb11;have d1e:=(hb11.cell (p:=(aD fb (foff+m*11+1))) hfz).trans d1;have d5e:=(hb11.cell (p:=(aD fb (foff+m*11+5))) hfz).trans d5;have cve:=(hb11.cell (p:=(aD g0 m)) hvz).trans cv;have HRe:=hid (HRd.o.trans (hb11.mono HRd.o.size));have HBe11:=hid (HBe10.o.trans (HRe.o.mono HBe10.o.size));clear hb11
       (try go_wp2_with fail)
       refine hK.out _ _ ?_ (fun H_=>?_)
       ·exact⟨hXe,hYe,d1e,d5e,cve⟩
       clear hK K
       (try simp only[Act.put,sA,s0,sS])
       by_cases t8:zep (jC fs[m].to b.os[k].vs[m]) b.os<0
       ·have hd8:=decide_eq_true t8
        have HAn:Hid (b.os.any (jC fs[m].to b.os[k].vs[m])=false):=(zhk _ _).1 t8;clear t8;refine tG 27 ?_;refine tG 28 ?_;refine wpAnyH_done (by kernel_rfl) ?_ _;have HF:Hid (zM l b=false):=HNo.o (by rw[zcQ,znq (k:=m+1) HFS.o hml (by rw[zgm HFS.o hml hmv HT6.o HT7.o HSt.o.1 HSt.o.2,HAn.o];simp)];simp);go_wp2
        go_ret;exact⟨ze HF.o.symm,HBw.o _ HBe11.o⟩
       ·have hd8:decide (zep (jC fs[m].to b.os[k].vs[m]) b.os<0)=false:=decide_eq_false t8
        have HAn:Hid (b.os.any (jC fs[m].to b.os[k].vs[m])=true):=by
         unfold Hid
         cases hq:b.os.any (jC fs[m].to b.os[k].vs[m]) with
         | true=>rfl
         | false=>exact absurd ((zhk _ _).2 hq) t8
        clear t8;refine tG 27 ?_;refine tG 28 ?_;refine wpAnyH_done (by kernel_rfl) ?_ _;have HS:Hid (qO l b.os b.os[k] (m+1)=true):=by rw[Hid,zgm HFS.o hml hmv HT6.o HT7.o HSt.o.1 HSt.o.2,HAn.o,HR.o.1];rfl
        go_wp2
        exact⟨⟨m+1,by omega,by go_num,HS.o,HRe.o⟩,by simp[intOf];omega⟩
      ·have t7:b.os[k].vs[m].toList.isEmpty=true:=by simpa using t7
       have HT7:Hid (b.os[k].vs[m].toList.isEmpty=true):=t7;refine tG 12 ?_;refine tG 13 ?_;refine tG 14 ?_;refine kG 15 ?_;refine kG 16 ?_;refine kG 17 ?_;refine kG 18 ?_;refine kG 19 ?_;refine kG 20 ?_;refine kG 21 ?_;refine kG 22 ?_;refine kG 23 ?_;refine kG 24 ?_;refine kG 25 ?_;refine kG 26 ?_;refine kG 27 ?_;refine tG 28 ?_;refine wpAnyH_done (by kernel_rfl) ?_ _;have HS:Hid (qO l b.os b.os[k] (m+1)=true):=by rw[Hid,zfn HFS.o hml hmv (fun h=>by have:=h.2;rw[HT7.o]at this;cases this)];exact HR.o.1
       go_wp2
       exact⟨⟨m+1,by omega,by go_num,HS.o,HRd.o⟩,by simp[intOf];omega⟩
     ·have hd6:decide (fs[m].kd=4)=false:=decide_eq_false t6
      have HT6:Hid (¬fs[m].kd=4):=t6;have hd6b:(fs[m].kd == 4)=false:=by simpa using t6
      clear t6;refine tG 5 ?_;refine tG 6 ?_;refine kG 7 ?_;refine kG 8 ?_;refine kG 9 ?_;refine kG 10 ?_;refine kG 11 ?_;refine kG 12 ?_;refine tG 13 ?_;refine tG 14 ?_;refine kG 15 ?_;refine kG 16 ?_;refine kG 17 ?_;refine kG 18 ?_;refine kG 19 ?_;refine kG 20 ?_;refine kG 21 ?_;refine kG 22 ?_;refine kG 23 ?_;refine kG 24 ?_;refine kG 25 ?_;refine kG 26 ?_;refine kG 27 ?_;refine tG 28 ?_;refine wpAnyH_done (by kernel_rfl) ?_ _;have HS:Hid (qO l b.os b.os[k] (m+1)=true):=by rw[Hid,zfn HFS.o hml hmv (fun h=>HT6.o h.1)];exact HR.o.1
      go_wp2
      exact⟨⟨m+1,by omega,by go_num,HS.o,HRd.o⟩,by simp[intOf];omega⟩
    ·have e:m=fs.length:=by omega
     subst e;have HLk:Hid (zaD l b.os b.os[k]=true):=zof HFS.o HR.o.1;have HOa:Hid (yL l b b.os[k]=true):=by rw[Hid,zcQ,HT3.o,HT2.o,HT1.o,HT5.o,HLk.o];simp
     have HD:=hid (HYes.o HOa.o HT4.o);clear hX10 hY10 hz10 hq10 hy10 hL10 HR;go_wp2
     exact⟨⟨k+1,by omega,by go_num,HD.o.1,HD.o.2,HBm.o⟩,by simp[intOf];omega⟩
  ·have e:k=b.os.length:=by omega
   subst e
   have HE:Hid (zM l b=true):=by
    unfold Hid zM;have h1:=HQ.o.1;rw[tOl (Nat.le_refl _)]at h1;rw[zg1 HQ.o.2.1 (Nat.le_refl _),decide_eq_true HLN.o,h1];rfl
   clear HQ hlt hk hX0 hL0;go_wp2
   go_ret;exact⟨ze HE.o.symm,HBq.o⟩
end Go.Proofs.YtjnpjkigofldlaaGreat
