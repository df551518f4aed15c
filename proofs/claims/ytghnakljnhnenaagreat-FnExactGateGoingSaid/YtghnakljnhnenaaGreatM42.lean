import Derived.Test.YtghnakljnhnenaaGreatM39
import Derived.Test.YtghnakljnhnenaaGreatM41
set_option maxHeartbeats 40000000
namespace Go.Proofs.YtghnakljnhnenaaGreat
open Go.RowKit
namespace Gate
theorem zaW (l:Lw) (b:Bk) (o:Ob):yJ l b o=(within o.vr 1 b.now && (yA l.ts o.tm && ((decide ((yH l.ss o).1=0) && decide (zaH l o=o.vs)) && zaj l b.os o))):=rfl
theorem zfc {l:Lw} {o:Ob} (hok:yt l.ss l.ms=true) (h:(yH l.ss o).1=0):zbO l.ss l.ms o=zaH l o:=by
 unfold zbO zaH;rw [if_pos (jE hok h)]
noncomputable def ql (l:Lw) (os:List Ob) (o:Ob) (k:Nat):Bool:=(qH (shapeOf l.ss o.kd).fs o.vs k).all fun x=>os.any (jL x.to x.nm)
theorem znf {l:Lw} {os:List Ob} {o:Ob} {k:Nat} (hk:k<=(shapeOf l.ss o.kd).fs.length) (h:ql l os o k=false):zaj l os o=false:=by
 unfold ql at h;unfold zaj;obtain ⟨t,ht⟩:=zcu (shapeOf l.ss o.kd).fs o.vs hk;rw [<- ht,List.all_append,h];rfl
theorem zj1 {l:Lw} {os:List Ob} {o:Ob} {k:Nat} (hk:k < (shapeOf l.ss o.kd).fs.length) (hv:k < o.vs.length) (h:¬ ((shapeOf l.ss o.kd).fs[k].kd=4/\o.vs[k].toList.isEmpty=false)):ql l os o (k+1)=ql l os o k:=by
 unfold ql;rw [zan,List.all_append]
 have:zeF (shapeOf l.ss o.kd).fs o.vs k=[]:=by
  unfold zeF;rw [List.getElem?_eq_getElem hk,List.getElem?_eq_getElem hv];exact dif_neg (fun h'=>h h'.1)
 rw [this];simp
theorem zlI {l:Lw} {os:List Ob} {o:Ob} {k:Nat} (hk:k < (shapeOf l.ss o.kd).fs.length) (hv:k < o.vs.length) (h1:(shapeOf l.ss o.kd).fs[k].kd=4) (h2:o.vs[k].toList.isEmpty=false) (hs1:(shapeOf l.ss o.kd).fs[k].to.size<=maxLen) (hs2:o.vs[k].size<=maxLen):ql l os o (k+1)=(ql l os o k && os.any (jL (shapeOf l.ss o.kd).fs[k].to o.vs[k])):=by
 unfold ql;rw [zan,List.all_append]
 have:zeF (shapeOf l.ss o.kd).fs o.vs k=[⟨k,(shapeOf l.ss o.kd).fs[k].rl,(shapeOf l.ss o.kd).fs[k].to,o.vs[k],hs1,hs2⟩]:=by
  unfold zeF;rw [List.getElem?_eq_getElem hk,List.getElem?_eq_getElem hv];exact dif_pos ⟨⟨h1,h2⟩,hs1,hs2⟩
 rw [this];simp
theorem zbD {l:Lw} {os:List Ob} {o:Ob} {fs:List Fld} (e:fs=(shapeOf l.ss o.kd).fs) {k:Nat} (hk:k < fs.length) (hv:k < o.vs.length) (h:¬ (fs[k].kd=4/\o.vs[k].toList.isEmpty=false)):ql l os o (k+1)=ql l os o k:=by
 subst e;exact zj1 hk hv h
theorem zb7 {l:Lw} {os:List Ob} {o:Ob} {fs:List Fld} (e:fs=(shapeOf l.ss o.kd).fs) {k:Nat} (hk:k < fs.length) (hv:k < o.vs.length) (h1:fs[k].kd=4) (h2:o.vs[k].toList.isEmpty=false) (hs1:fs[k].to.size<=maxLen) (hs2:o.vs[k].size<=maxLen):ql l os o (k+1)=(ql l os o k && os.any (jL fs[k].to o.vs[k])):=by
 subst e;exact zlI hk hv h1 h2 hs1 hs2
theorem zfZ {l:Lw} {os:List Ob} {o:Ob} {fs:List Fld} (e:fs=(shapeOf l.ss o.kd).fs) (h:ql l os o fs.length=true):zaj l os o=true:=by
 subst e;exact h
theorem zfX {l:Lw} {os:List Ob} {o:Ob} {fs:List Fld} (e:fs=(shapeOf l.ss o.kd).fs) {k:Nat} (hk:k<=fs.length) (h:ql l os o k=false):zaj l os o=false:=by
 subst e;exact znf hk h
end Gate
set_option maxRecDepth 20000 in
theorem zhY (l:Lw) (la lb lc:Option Addr) (lca lcb lcc:Nat) (b:Bk) (a0 a1 a2 a3:Option Addr) (c0 c1 c2 c3:Nat) (w:World) (hl:y9 w l la lb lc) (hb:y7 w b a0 a1 a2 a3) (hh:zbT w a0 b.os) (hok:Gate.yt l.ss l.ms=true) (hfw:∀ i (h:i < b.os.length),b.os[i].vs.length<=1048576/\b.os[i].hs.length<=1048576) :
 Calls Tryz.prog 60 #[.agg (l.cells la lb lc lca lcb lcc),.agg (b.cells a0 a1 a2 a3 c0 c1 c2 c3)] w fun e w'=>e = .returned (.bool (Gate.zH l b))/\Below w.heap.size w w':=by
 have HK:Hid (y7 w b a0 a1 a2 a3):=hb;have HL:Hid (y9 w l la lb lc):=hl;have HH:Hid (zbT w a0 b.os):=hh;have HF0:Hid (Gate.yt l.ss l.ms=true/\∀ i (h:i < b.os.length),b.os[i].vs.length<=1048576/\b.os[i].hs.length<=1048576):=⟨hok,hfw⟩
 clear hb hl hh hok hfw;unfold Lw.cells Bk.cells
 by_cases hln:b.os.length<=40
 rotate_left
 ·have HF:Hid (Gate.zH l b=false):=by unfold Hid Gate.zH;rw [decide_eq_false hln];rfl
  have hg:(40:Int) < (b.os.length:Int):=by omega
  go_enter Tryz.func60,Tryz.ntmps60;go_wp2_with fail
  go_ret;exact ⟨ze HF.out.symm,zA _ _ _⟩
 have hg:decide ((40:Int) < (b.os.length:Int))=false:=by simp;omega
 have HLN:Hid (b.os.length<=40):=hln;clear hln;go_enter Tryz.func60,Tryz.ntmps60;go_wp2_with fail
 clear hg;obtain ⟨hL0,hX0⟩:=qw w #[.slice la l.ss.length lca,.slice lb l.ms.length lcb,.slice lc l.ts.length lcc] #[.int .i64 b.now,.int .i64 b.tick,.int .i64 b.given,.slice a0 b.os.length c0,.slice a1 b.gs.length c1,.slice a2 b.ls.length c2,.slice a3 b.ps.length c3] 41 48;have HB0:Hid (Below w.heap.size w ((w.alloc (.cells #[.slice la l.ss.length lca,.slice lb l.ms.length lcb,.slice lc l.ts.length lcc] 41)).alloc (.cells #[.int .i64 b.now,.int .i64 b.tick,.int .i64 b.given,.slice a0 b.os.length c0,.slice a1 b.gs.length c1,.slice a2 b.ls.length c2,.slice a3 b.ps.length c3] 48))):=zA w _ _;obtain ⟨W0,hW0⟩:∃ W0,W0=(w.alloc (.cells #[.slice la l.ss.length lca,.slice lb l.ms.length lcb,.slice lc l.ts.length lcc] 41)).alloc (.cells #[.int .i64 b.now,.int .i64 b.tick,.int .i64 b.given,.slice a0 b.os.length c0,.slice a1 b.gs.length c1,.slice a2 b.ls.length c2,.slice a3 b.ps.length c3] 48):=⟨_,rfl⟩
 have hz0:w.heap.size+1 < W0.heap.size:=by rw [hW0];simp
 rw [<- hW0] at HB0 hX0 hL0 ⊢;clear hW0
 go_loopw [5] (fun iv wr=>∃ k:Nat,k<=b.os.length/\iv = .int .i64 k/\Hid ((b.os.take k).all (Gate.yJ l b)=true/\Gate.jI Gate.zax b.os k/\Below W0.heap.size W0 wr)) (fun iv _=>b.os.length - (intOf iv).toNat)
 case atStart=>exact ⟨0,Nat.zero_le _,rfl,by simp,fun i _ h=>by omega,bRf _ _⟩
 case round =>
  obtain ⟨k,hk,rfl,HQ⟩:=hrel;have hkn:k<=40:=by have:=HLN.out;omega
  have hX1:=za hX0 hz0 HQ.out.2.2;have hL1:=za hL0 (nSl hz0) HQ.out.2.2;have hz1:=nLt hz0 HQ.out.2.2.size;have hq1:=nSl hz1;have HBq:Hid (Below w.heap.size w wr):=HB0.out.trans (HQ.out.2.2.mono HB0.out.size)
  by_cases hlt:k < b.os.length
  ·obtain ⟨ob,off,g0,g1,q0,q1,rfl,hob,hsm,hs0,hs1,d0,d1,d2,d3,d4,d5,d6⟩:=HH.out.load HBq.out k hlt
   have hob':ob < wr.heap.size:=nLt hob HBq.out.size;have hltI:(k:Int) < (b.os.length:Int):=by omega
   have HSn:Hid ((b.os.take (k+1)).all (Gate.yJ l b)=((b.os.take k).all (Gate.yJ l b) && (Gate.yJ l b) b.os[k])):=Gate.qU _ _ _ hlt;have HBo:Hid (∀ ob,Below W0.heap.size W0 (wr.alloc ob)):=fun ob=>HQ.out.2.2.alloc HQ.out.2.2.size _
   have HBw:Hid (∀ W,Below W0.heap.size W0 W->Below w.heap.size w W):=fun W hW=>HB0.out.trans (hW.mono HB0.out.size)
   have HNo:Hid ((Gate.yJ l b) b.os[k]=false->Gate.zH l b=false):=fun h=>by unfold Gate.zH;rw [Gate.zaC _ _ _ hlt h];simp
   have HNa:Hid (0 < k->0<=Gate.zax (b.os[k - 1]'(by omega)) b.os[k]->Gate.zH l b=false):=fun h0 h=>by unfold Gate.zH;rw [Gate.zdG hlt h0 (Int.not_lt.2 h)];simp
   have HYes:Hid ((Gate.yJ l b) b.os[k]=true->(∀ m (e:k=m+1),Gate.zax (b.os[m]'(by omega)) b.os[k] < 0)->(b.os.take (k+1)).all (Gate.yJ l b)=true/\Gate.jI Gate.zax b.os (k+1)):=fun h h'=>⟨by rw [HSn.out,HQ.out.1,h];rfl,Gate.ze1 HQ.out.2.1 hlt h'⟩
   have HIt:Hid (qB wr b.os[k] (some ⟨g0,0,none⟩) (some ⟨g1,0,none⟩)):=⟨hsm,hs0,hs1⟩
   have HFk:Hid (b.os[k].vs.length<=1048576/\b.os[k].hs.length<=1048576):=HF0.out.2 k hlt;clear hsm hs0 hs1;go_wp2_with fail
   have hY0:=zm wr #[.string b.os[k].kd,.string b.os[k].nm,.string b.os[k].tm,.slice (some ⟨g0,0,none⟩) b.os[k].vs.length q0,.bool b.os[k].en,.slice (some ⟨g1,0,none⟩) b.os[k].hs.length q1,.int .i64 b.os[k].vr] 119;have hb5:Below wr.heap.size wr (wr.alloc (.cells #[.string b.os[k].kd,.string b.os[k].nm,.string b.os[k].tm,.slice (some ⟨g0,0,none⟩) b.os[k].vs.length q0,.bool b.os[k].en,.slice (some ⟨g1,0,none⟩) b.os[k].hs.length q1,.int .i64 b.os[k].vr] 119)):=bAl _ _;have HBe:=HBo.out (.cells #[.string b.os[k].kd,.string b.os[k].nm,.string b.os[k].tm,.slice (some ⟨g0,0,none⟩) b.os[k].vs.length q0,.bool b.os[k].en,.slice (some ⟨g1,0,none⟩) b.os[k].hs.length q1,.int .i64 b.os[k].vr] 119);obtain ⟨W5,hW5⟩:∃ W5,W5=wr.alloc (.cells #[.string b.os[k].kd,.string b.os[k].nm,.string b.os[k].tm,.slice (some ⟨g0,0,none⟩) b.os[k].vs.length q0,.bool b.os[k].en,.slice (some ⟨g1,0,none⟩) b.os[k].hs.length q1,.int .i64 b.os[k].vr] 119):=⟨_,rfl⟩
   have hy5:wr.heap.size < W5.heap.size:=by rw [hW5];simp
   rw [<- hW5] at hb5 hY0 HBe ⊢;clear hW5 d0 d1 d2 d3 d4 d5 d6;have hX5:=za hX1 hz1 hb5;have hL5:=za hL1 (nSl hz1) hb5;have hz5:w.heap.size+1 < W5.heap.size:=nLt hz1 hb5.size;have hq5:=nSl hz5;have HBe5:Hid (Below W0.heap.size W0 W5):=HBe;have HO5:Hid (qB W5 b.os[k] (some ⟨g0,0,none⟩) (some ⟨g1,0,none⟩)):=HIt.out.mono hb5;have hobz5:ob < W5.heap.size:=nLt hob' hb5.size;clear hX1 hz1 hb5 HBo hX0 hz0 hL0 hL1 hob hob' HSn HBe;refine (zmy _ _ l.ss b.os[k] _ _ _ _ _ (HL.out.ss.mono (HBw.out _ HBe5.out)) HO5.out).mono ?_;rintro e w6 ⟨rfl,hb6⟩;have hX6:=za hX5 hz5 hb6;have hL6:=za hL5 (nSl hz5) hb6;have hY6:=za hY0 hy5 hb6;have hz6:=nLt hz5 hb6.size;have hq6:=nSl hz6;have hy6:=nLt hy5 hb6.size;have hobz6:=nLt hobz5 hb6.size;have HBe6:Hid (Below W0.heap.size W0 w6):=HBe5.out.trans (hb6.mono HBe5.out.size);have HO6:Hid (qB w6 b.os[k] (some ⟨g0,0,none⟩) (some ⟨g1,0,none⟩)):=HO5.out.mono hb6;clear hb6 hX5 hL5 hY0 hz5 hq5 hy5 hobz5 HBe5 HO5
   by_cases t1:(Gate.yH l.ss b.os[k]).1=0
   rotate_left
   ·have HF:Hid (Gate.zH l b=false):=HNo.out (by rw [Gate.zaW,decide_eq_false t1];simp)
    have hd:decide ((Gate.yH l.ss b.os[k]).1=0)=false:=decide_eq_false t1;go_wp2_with fail
    go_ret;exact ⟨ze HF.out.symm,HBw.out _ HBe6.out⟩
   have HT1:Hid ((Gate.yH l.ss b.os[k]).1=0):=t1;rw [t1];clear t1;go_wp2_with fail
   refine (zbR _ _ l.ts b.os[k].tm _ (HL.out.ts.mono (HBw.out _ HBe6.out))).mono ?_;rintro e w7 ⟨rfl,rfl⟩
   by_cases t2:Gate.yA l.ts b.os[k].tm=true
   rotate_left
   ·have HF:Hid (Gate.zH l b=false):=HNo.out (by rw [Gate.zaW,bFi t2];simp)
    rw [bFi t2];clear t2;go_wp2_with fail
    go_ret;exact ⟨ze HF.out.symm,HBw.out _ HBe6.out⟩
   have HT2:Hid (Gate.yA l.ts b.os[k].tm=true):=t2;rw [t2];clear t2;go_wp2_with fail
   refine (yD b.os[k].vr 1 b.now _).mono ?_;rintro e w7 ⟨rfl,rfl⟩
   by_cases t3:(decide (1<=b.os[k].vr) && decide (b.os[k].vr<=b.now))=true
   rotate_left
   ·have HF:Hid (Gate.zH l b=false):=HNo.out (by rw [Gate.zaW];unfold Gate.within;rw [bFi t3];simp)
    rw [bFi t3];clear t3;go_wp2_with fail
    go_ret;exact ⟨ze HF.out.symm,HBw.out _ HBe6.out⟩
   have HT3:Hid (Gate.within b.os[k].vr 1 b.now=true):=t3;rw [t3];clear t3;go_wp2_with fail
   have HP:Hid (∀ h0:0 < k,w7.cell? ⟨ob,off+(k - 1) * 7,none⟩=some (.string (b.os[k - 1]'(by omega)).kd)/\w7.cell? ⟨ob,off+(k - 1) * 7+1,none⟩=some (.string (b.os[k - 1]'(by omega)).nm)):=fun h0=>by
    obtain ⟨ob',off',g0',g1',q0',q1',e',hob'',_,_,_,e0,e1,_⟩:=HH.out.load (HBw.out _ HBe6.out) (k - 1) (by omega)
    cases e'
    exact ⟨e0,e1⟩
   by_cases hk0:0 < k
   ·have hk1:(0:Int)<=(k:Int) - 1:=by omega
    have hk2:(k:Int) - 1 < (b.os.length:Int):=by omega
    have hg:decide (0 < k)=true:=decide_eq_true hk0;have hkw:IntKind.i64.wrap ((k:Int) - 1)=(k:Int) - 1:=by rw [IntKind.wrap_i64];omega
    have hkN:((k:Int) - 1).toNat=k - 1:=by omega
    have hk3:(1:Int)<=(k:Int):=by omega
    obtain ⟨hP0,hP1⟩:=HP.out hk0;clear HP;refine wp_region_held_drew (S:=fun w'=>(∀ j,w'.cell? ⟨w.heap.size+1,j,none⟩=(#[.int .i64 b.now,.int .i64 b.tick,.int .i64 b.given,.slice (some ⟨ob,off,none⟩) b.os.length c0,.slice a1 b.gs.length c1,.slice a2 b.ls.length c2,.slice a3 b.ps.length c3]:Array Value)[j]?)/\(∀ j,w'.cell? ⟨wr.heap.size,j,none⟩=(#[.string b.os[k].kd,.string b.os[k].nm,.string b.os[k].tm,.slice (some ⟨g0,0,none⟩) b.os[k].vs.length q0,.bool b.os[k].en,.slice (some ⟨g1,0,none⟩) b.os[k].hs.length q1,.int .i64 b.os[k].vr]:Array Value)[j]?)/\w'.cell? ⟨ob,off+(k - 1) * 7,none⟩=some (.string (b.os[k - 1]'(by omega)).kd)/\w'.cell? ⟨ob,off+(k - 1) * 7+1,none⟩=some (.string (b.os[k - 1]'(by omega)).nm)) (by kernel_rfl) ⟨za hX6 hz6 (bRf w7.heap.size w7).drew,za hY6 hy6 (bRf w7.heap.size w7).drew,hP0,hP1⟩ (fun H_=>?_);refine tH 0 rfl H_ ?_;refine tH 1 rfl H_ ?_;refine tH 2 rfl H_ ?_;refine tH 3 rfl H_ ?_;refine tH 4 rfl H_ ?_;refine tH 5 rfl H_ ?_;refine tH 6 rfl H_ ?_;refine tH 7 rfl H_ ?_;refine tH 8 rfl H_ ?_;refine tH 9 rfl H_ ?_;refine tH 10 rfl H_ ?_;refine tH 11 rfl H_ ?_;refine tH 12 rfl H_ ?_;refine tH 13 rfl H_ ?_;refine tH 14 rfl H_ ?_;refine tH 15 rfl H_ ?_;refine tH 16 rfl H_ ?_;refine tH 17 rfl H_ ?_;refine tH 18 rfl H_ ?_;refine tH 19 rfl H_ ?_;refine tH 20 rfl H_ ?_;refine cH 21 rfl fun K hK=>?_
    go_simp
    refine (zhe _ _ _ _ _).mono ?_;rintro e w8 ⟨rfl,rfl⟩
    (try go_wp2_with fail)
    refine hK.out _ _ ?_ (fun H_=>?_)
    ·exact H_
    clear hK K
    (try simp only [Act.put,sA,s0,sS])
    by_cases t4:Gate.key2 (b.os[k - 1]'(by omega)).kd (b.os[k - 1]'(by omega)).nm b.os[k].kd b.os[k].nm < 0
    ·have hd4:decide (0<=Gate.key2 (b.os[k - 1]'(by omega)).kd (b.os[k - 1]'(by omega)).nm b.os[k].kd b.os[k].nm)=false:=decide_eq_false (by omega)
     refine tH 22 rfl H_ ?_;refine tH 23 rfl H_ ?_;refine wpAnyH_done (by kernel_rfl) ?_ _;have HT4:Hid (∀ m (e:k=m+1),Gate.zax (b.os[m]'(by omega)) b.os[k] < 0):=Gate.zfK hlt (fun _=>t4);clear t4 hd4;go_wp2_with fail
     have hXD:=za hX6 hz6 (bRf w7.heap.size w7).drew.drew;have hLD:=za hL6 (nSl hz6) (bRf w7.heap.size w7).drew.drew;have hYD:=za hY6 hy6 (bRf w7.heap.size w7).drew.drew;have hzD:w.heap.size+1 < w7.drew.drew.heap.size:=hz6;have hyD:wr.heap.size < w7.drew.drew.heap.size:=hy6;have hqD:w.heap.size < w7.drew.drew.heap.size:=hq6;have HBeD:Hid (Below W0.heap.size W0 w7.drew.drew):=HBe6.out.drew.drew;have HOD:Hid (qB w7.drew.drew b.os[k] (some ⟨g0,0,none⟩) (some ⟨g1,0,none⟩)):=HO6.out.mono (bRf w7.heap.size w7).drew.drew;have hfd:∀ (s0 s1 s2:ByteArray) (x y:Option Addr) (n m p q:Nat) (t:Bool) (v:Int) (wf:World),(Instr.field 119 (.agg #[.string s0,.string s1,.string s2,.slice x n p,.bool t,.slice y m q,.int .i64 v]) 3).run Tryz.prog wf = .ok (.slice x n p) wf:=fun s0 s1 s2 x y n m p q t v wf=>by kernel_rfl
     refine wp_region_held_drew (S:=fun w'=>(∀ j,w'.cell? ⟨w.heap.size,j,none⟩=(#[.slice la l.ss.length lca,.slice lb l.ms.length lcb,.slice lc l.ts.length lcc]:Array Value)[j]?)/\(∀ j,w'.cell? ⟨w.heap.size+1,j,none⟩=(#[.int .i64 b.now,.int .i64 b.tick,.int .i64 b.given,.slice (some ⟨ob,off,none⟩) b.os.length c0,.slice a1 b.gs.length c1,.slice a2 b.ls.length c2,.slice a3 b.ps.length c3]:Array Value)[j]?)/\(∀ j,w'.cell? ⟨wr.heap.size,j,none⟩=(#[.string b.os[k].kd,.string b.os[k].nm,.string b.os[k].tm,.slice (some ⟨g0,0,none⟩) b.os[k].vs.length q0,.bool b.os[k].en,.slice (some ⟨g1,0,none⟩) b.os[k].hs.length q1,.int .i64 b.os[k].vr]:Array Value)[j]?)) (by kernel_rfl) ⟨hLD,hXD,hYD⟩ (fun H_=>?_);refine tH 0 rfl H_ ?_;refine tH 1 rfl H_ ?_;refine tH 2 rfl H_ ?_;refine tH 3 rfl H_ ?_;refine tH 4 rfl H_ ?_;refine tH 7 rfl H_ ?_;refine tH 8 rfl H_ ?_;refine cH 5 rfl fun K hK=>?_
     go_simp
     refine (zgz _ _ _ _ l.ss l.ms b.os[k] _ _ _ _ _ _ _ (HL.out.ss.mono (HBw.out _ HBeD.out)) (HL.out.ms.mono (HBw.out _ HBeD.out)) HOD.out HFk.out.1 HFk.out.2 HF0.out.1).mono ?_;rintro e w8 ⟨sa,sdap,sa',sdap',sm,rfl,hown,_,_,_,hb8⟩;have hX8:=za hXD hzD hb8;have hL8:=za hLD (nSl hzD) hb8;have hY8:=za hYD hyD hb8;have hz8:=nLt hzD hb8.size;have hq8:=nSl hz8;have hy8:=nLt hyD hb8.size;have HBe8:Hid (Below W0.heap.size W0 w8):=HBeD.out.trans (hb8.mono HBeD.out.size);have HO8:Hid (qB w8 b.os[k] (some ⟨g0,0,none⟩) (some ⟨g1,0,none⟩)):=HOD.out.mono hb8
     have HSh:Hid (zD w8 sa (Gate.zaH l b.os[k])/\(Gate.zaH l b.os[k]).length=b.os[k].vs.length):=by
      have hmd:=Gate.jE HF0.out.1 HT1.out;rw [Gate.zfc HF0.out.1 HT1.out] at hown;exact ⟨zeN hown hmd HOD.out.vals.len (zd2 hmd HL.out.ss.smalls HL.out.ms.small HOD.out.vals.small),zcp hmd⟩
     clear hb8 hown
     (try go_wp2_with fail)
     refine hK.out _ _ ?_ (fun H_=>?_)
     ·exact ⟨hL8,hX8,hY8⟩
     clear hK K
     (try simp only [Act.put,sA,s0,sS])
     refine tH 6 rfl H_ ?_;refine cH 9 rfl fun K hK=>?_
     go_simp
     have hsame:=zeg sa (some ⟨g0,0,none⟩) sdap q0 _ _ _ HSh.out.1 HO8.out.vals (by rw [HSh.out.2];exact HFk.out.1) HFk.out.1;rw [HSh.out.2] at hsame;refine hsame.mono ?_;rintro e w9 ⟨rfl,hb9⟩;have hX9:=za hX8 hz8 hb9;have hL9:=za hL8 (nSl hz8) hb9;have hY9:=za hY8 hy8 hb9;have hz9:=nLt hz8 hb9.size;have hq9:=nSl hz9;have hy9:=nLt hy8 hb9.size;have HBe9:Hid (Below W0.heap.size W0 w9):=HBe8.out.trans (hb9.mono HBe8.out.size);have HO9:Hid (qB w9 b.os[k] (some ⟨g0,0,none⟩) (some ⟨g1,0,none⟩)):=HO8.out.mono hb9;clear hb9 hsame
     (try go_wp2_with fail)
     refine hK.out _ _ ?_ (fun H_=>?_)
     ·exact ⟨hL9,hX9,hY9⟩
     clear hK K
     (try simp only [Act.put,sA,s0,sS])
     refine tH 10 rfl H_ ?_;refine wpAnyH_done (by kernel_rfl) ?_ _
     by_cases t5:Gate.zaH l b.os[k]=b.os[k].vs
     rotate_left
     ·have HF:Hid (Gate.zH l b=false):=HNo.out (by rw [Gate.zaW,decide_eq_false t5];simp)
      rw [decide_eq_false t5];clear t5;go_wp2_with fail
      go_ret;exact ⟨ze HF.out.symm,HBw.out _ HBe9.out⟩
     have HT5:Hid (Gate.zaH l b.os[k]=b.os[k].vs):=t5;rw [decide_eq_true t5];clear t5 HSh;go_wp2_with fail
     have HWc:Hid (Gate.zx l.ss b.os[k]=true):=by
      have:=Gate.zaV (o:=b.os[k]) HF0.out.1
      rw [Hid,<- this];exact Gate.jE HF0.out.1 HT1.out
     refine (qY _ _ l.ss b.os[k] _ _ _ _ _ (HL.out.ss.mono (HBw.out _ HBe9.out)) HO9.out HWc.out).mono ?_;rintro e w10 ⟨fa,fcap,rfl,hfa,hb10⟩;have hX10:=za hX9 hz9 hb10;have hL10:=za hL9 (nSl hz9) hb10;have hY10:=za hY9 hy9 hb10;have hz10:=nLt hz9 hb10.size;have hq10:=nSl hz10;have hy10:=nLt hy9 hb10.size;have HBe10:Hid (Below W0.heap.size W0 w10):=HBe9.out.trans (hb10.mono HBe9.out.size);have HO10:Hid (qB w10 b.os[k] (some ⟨g0,0,none⟩) (some ⟨g1,0,none⟩)):=HO9.out.mono hb10;have HFa:Hid (zP w10 fa (Gate.shapeOf l.ss b.os[k].kd).fs):=hfa.mono hb10;have HLv:Hid ((Gate.shapeOf l.ss b.os[k].kd).fs.length=b.os[k].vs.length):=by have:=HWc.out;unfold Gate.zx at this;simp only [Bool.and_eq_true,decide_eq_true_eq] at this;exact this.2.symm
     have HBm:Hid (Below W0.heap.size W0 w10):=HBe10.out;clear hfa hb10 hfd hXD hLD hYD hzD hyD hqD hX6 hL6 hY6 hz6 hy6 hq6 hX8 hL8 hY8 hz8 hy8 hq8 hX9 hL9 hY9 hz9 hy9 hq9 HBe9 HBe8 HBeD HO8 HO9 HOD;obtain ⟨fs,hfs⟩:∃ fs,fs=(Gate.shapeOf l.ss b.os[k].kd).fs:=⟨_,rfl⟩
     have HFS:Hid (fs=(Gate.shapeOf l.ss b.os[k].kd).fs):=hfs;rw [<- hfs] at HFa HLv ⊢;clear hfs;go_wp2_with fail
     obtain ⟨bo,hbo⟩:∃ bo,bo=wr.heap.size:=⟨_,rfl⟩
     rw [<- hbo] at hY10 hy10 ⊢;clear hbo
     go_loopw [11] (fun jv wi=>∃ m:Nat,m<=fs.length/\jv = .int .i64 m/\Hid (Gate.ql l b.os b.os[k] m=true/\Below w10.heap.size w10 wi)) (fun jv _=>fs.length - (intOf jv).toNat)
     case atStart=>exact ⟨0,Nat.zero_le _,rfl,by simp [Gate.ql,qH],bRf _ _⟩
     case round =>
      obtain ⟨m,hm,rfl,HR⟩:=hrel;have hfl:fs.length<=1048576:=by have:=HLv.out;have:=HFk.out.1;omega
      have hXm:=za hX10 hz10 HR.out.2;have hYm:=za hY10 hy10 HR.out.2;have hzm:=nLt hz10 HR.out.2.size;have hqm:=nLt hq10 HR.out.2.size;have hym:=nLt hy10 HR.out.2.size;have HBm:Hid (Below W0.heap.size W0 wr):=HBe10.out.trans (HR.out.2.mono HBe10.out.size)
      by_cases hml:m < fs.length
      ·have hmI:(m:Int) < (fs.length:Int):=by omega
       have hmv:m < b.os[k].vs.length:=by have:=HLv.out;omega
       have hmvI:(m:Int) < (b.os[k].vs.length:Int):=by omega
       obtain ⟨fb,foff,fw,fc,rfl,hfb,hfi⟩:=zlj HFa.out HR.out.2 m hml;obtain ⟨d0,d1,d2,d3,d4,d5,d6,d7,d8,d9,d10⟩:=hfi.load;obtain ⟨hvb,cv⟩:=zok HO10.out.vals HR.out.2 m hmv;have HSt:Hid (fs[m].to.size<=maxLen/\b.os[k].vs[m].size<=maxLen):=⟨hfi.small.to,HO10.out.vals.small _ (List.getElem_mem _)⟩
       clear d0 d2 d3 d4 d6 d7 d8 d9 d10 hfi;have hfz:fb < wr.drew.heap.size:=nLt hfb HR.out.2.size;have hvz:g0 < wr.drew.heap.size:=nLt hvb HR.out.2.size;have hXd:=za hXm hzm (bRf wr.heap.size wr).drew;have hYd:=za hYm hym (bRf wr.heap.size wr).drew;have HKd:Hid (y7 wr.drew b (some ⟨ob,off,none⟩) a1 a2 a3):=HK.out.mono (HBw.out _ HBm.out.drew);have HRd:Hid (Below w10.heap.size w10 wr.drew):=HR.out.2.drew;clear hX10 hY10 hz10 hq10 hy10 hL10 hXm hYm hfb hvb;go_wp2_with fail
       refine wp_region_held_drew (S:=fun w'=>(∀ j,w'.cell? ⟨w.heap.size+1,j,none⟩=(#[.int .i64 b.now,.int .i64 b.tick,.int .i64 b.given,.slice (some ⟨ob,off,none⟩) b.os.length c0,.slice a1 b.gs.length c1,.slice a2 b.ls.length c2,.slice a3 b.ps.length c3]:Array Value)[j]?)/\(∀ j,w'.cell? ⟨bo,j,none⟩=(#[.string b.os[k].kd,.string b.os[k].nm,.string b.os[k].tm,.slice (some ⟨g0,0,none⟩) b.os[k].vs.length q0,.bool b.os[k].en,.slice (some ⟨g1,0,none⟩) b.os[k].hs.length q1,.int .i64 b.os[k].vr]:Array Value)[j]?)/\w'.cell? ⟨fb,foff+m * 11+1,none⟩=some (.int .i64 fs[m].kd)/\w'.cell? ⟨fb,foff+m * 11+5,none⟩=some (.string fs[m].to)/\w'.cell? ⟨g0,m,none⟩=some (.string b.os[k].vs[m])) (by kernel_rfl) ⟨hXd,hYd,d1,d5,cv⟩ (fun H_=>?_);refine tH 0 rfl H_ ?_;refine tH 1 rfl H_ ?_;refine tH 2 rfl H_ ?_;refine tH 3 rfl H_ ?_;refine tH 4 rfl H_ ?_
       by_cases t6:fs[m].kd=4
       ·have hd6:decide (fs[m].kd=4)=true:=decide_eq_true t6
        have HT6:Hid (fs[m].kd=4):=t6;have hd6b:(fs[m].kd == 4)=true:=by rw [t6];rfl
        clear t6;refine tH 5 rfl H_ ?_;refine tH 6 rfl H_ ?_;refine tH 7 rfl H_ ?_;refine tH 8 rfl H_ ?_;refine tH 9 rfl H_ ?_;refine tH 10 rfl H_ ?_;refine tH 11 rfl H_ ?_
        by_cases t7:b.os[k].vs[m].toList.isEmpty=false
        ·have HT7:Hid (b.os[k].vs[m].toList.isEmpty=false):=t7
         refine tH 12 rfl H_ ?_;refine tH 13 rfl H_ ?_;refine tH 14 rfl H_ ?_;refine tH 15 rfl H_ ?_;refine tH 16 rfl H_ ?_;refine tH 17 rfl H_ ?_;refine tH 18 rfl H_ ?_;refine tH 19 rfl H_ ?_;refine tH 20 rfl H_ ?_;refine tH 21 rfl H_ ?_;refine tH 22 rfl H_ ?_;refine tH 23 rfl H_ ?_;refine tH 24 rfl H_ ?_;refine tH 25 rfl H_ ?_;refine cH 26 rfl fun K hK=>?_
         go_simp
         refine (zl4 b (some ⟨ob,off,none⟩) a1 a2 a3 c0 c1 c2 c3 _ _ _ HKd.out (by have:=HLN.out;omega)).mono ?_;rintro e w11 ⟨rfl,hb11⟩;have hXe:=za hXd hzm hb11;have hYe:=za hYd hym hb11;have d1e:=(hb11.cell (p:=⟨fb,foff+m * 11+1,none⟩) hfz).trans d1;have d5e:=(hb11.cell (p:=⟨fb,foff+m * 11+5,none⟩) hfz).trans d5;have cve:=(hb11.cell (p:=⟨g0,m,none⟩) hvz).trans cv;have HRe:Hid (Below w10.heap.size w10 w11):=HRd.out.trans (hb11.mono HRd.out.size);have HBe11:Hid (Below W0.heap.size W0 w11):=HBe10.out.trans (HRe.out.mono HBe10.out.size);clear hb11
         (try go_wp2_with fail)
         refine hK.out _ _ ?_ (fun H_=>?_)
         ·exact ⟨hXe,hYe,d1e,d5e,cve⟩
         clear hK K
         (try simp only [Act.put,sA,s0,sS])
         by_cases t8:Gate.zct (Gate.jL fs[m].to b.os[k].vs[m]) b.os < 0
         ·have hd8:decide (Gate.zct (Gate.jL fs[m].to b.os[k].vs[m]) b.os < 0)=true:=decide_eq_true t8
          have HAn:Hid (b.os.any (Gate.jL fs[m].to b.os[k].vs[m])=false):=(Gate.zcb _ _).1 t8;clear t8;refine tH 27 rfl H_ ?_;refine tH 28 rfl H_ ?_;refine wpAnyH_done (by kernel_rfl) ?_ _;have HF:Hid (Gate.zH l b=false):=HNo.out (by rw [Gate.zaW,Gate.zfX (k:=m+1) HFS.out hml (by rw [Gate.zb7 HFS.out hml hmv HT6.out HT7.out HSt.out.1 HSt.out.2,HAn.out];simp)];simp);go_wp2_with fail
          go_ret;exact ⟨ze HF.out.symm,HBw.out _ HBe11.out⟩
         ·have hd8:decide (Gate.zct (Gate.jL fs[m].to b.os[k].vs[m]) b.os < 0)=false:=decide_eq_false t8
          have HAn:Hid (b.os.any (Gate.jL fs[m].to b.os[k].vs[m])=true):=by
           unfold Hid
           cases hq:b.os.any (Gate.jL fs[m].to b.os[k].vs[m]) with
           | true=>rfl
           | false=>exact absurd ((Gate.zcb _ _).2 hq) t8
          clear t8;refine tH 27 rfl H_ ?_;refine tH 28 rfl H_ ?_;refine wpAnyH_done (by kernel_rfl) ?_ _;have HS:Hid (Gate.ql l b.os b.os[k] (m+1)=true):=by rw [Hid,Gate.zb7 HFS.out hml hmv HT6.out HT7.out HSt.out.1 HSt.out.2,HAn.out,HR.out.1];rfl
          go_wp2_with fail
          exact ⟨⟨m+1,by omega,by go_num,HS.out,HRe.out⟩,by simp [intOf];omega⟩
        ·have t7:b.os[k].vs[m].toList.isEmpty=true:=by simpa using t7
         have HT7:Hid (b.os[k].vs[m].toList.isEmpty=true):=t7;refine tH 12 rfl H_ ?_;refine tH 13 rfl H_ ?_;refine tH 14 rfl H_ ?_;refine kH 15 rfl H_ ?_;refine kH 16 rfl H_ ?_;refine kH 17 rfl H_ ?_;refine kH 18 rfl H_ ?_;refine kH 19 rfl H_ ?_;refine kH 20 rfl H_ ?_;refine kH 21 rfl H_ ?_;refine kH 22 rfl H_ ?_;refine kH 23 rfl H_ ?_;refine kH 24 rfl H_ ?_;refine kH 25 rfl H_ ?_;refine kH 26 rfl H_ ?_;refine kH 27 rfl H_ ?_;refine tH 28 rfl H_ ?_;refine wpAnyH_done (by kernel_rfl) ?_ _;have HS:Hid (Gate.ql l b.os b.os[k] (m+1)=true):=by rw [Hid,Gate.zbD HFS.out hml hmv (fun h=>by have:=h.2;rw [HT7.out] at this;cases this)];exact HR.out.1
         go_wp2_with fail
         exact ⟨⟨m+1,by omega,by go_num,HS.out,HRd.out⟩,by simp [intOf];omega⟩
       ·have hd6:decide (fs[m].kd=4)=false:=decide_eq_false t6
        have HT6:Hid (¬ fs[m].kd=4):=t6;have hd6b:(fs[m].kd == 4)=false:=by simpa using t6
        clear t6;refine tH 5 rfl H_ ?_;refine tH 6 rfl H_ ?_;refine kH 7 rfl H_ ?_;refine kH 8 rfl H_ ?_;refine kH 9 rfl H_ ?_;refine kH 10 rfl H_ ?_;refine kH 11 rfl H_ ?_;refine kH 12 rfl H_ ?_;refine tH 13 rfl H_ ?_;refine tH 14 rfl H_ ?_;refine kH 15 rfl H_ ?_;refine kH 16 rfl H_ ?_;refine kH 17 rfl H_ ?_;refine kH 18 rfl H_ ?_;refine kH 19 rfl H_ ?_;refine kH 20 rfl H_ ?_;refine kH 21 rfl H_ ?_;refine kH 22 rfl H_ ?_;refine kH 23 rfl H_ ?_;refine kH 24 rfl H_ ?_;refine kH 25 rfl H_ ?_;refine kH 26 rfl H_ ?_;refine kH 27 rfl H_ ?_;refine tH 28 rfl H_ ?_;refine wpAnyH_done (by kernel_rfl) ?_ _;have HS:Hid (Gate.ql l b.os b.os[k] (m+1)=true):=by rw [Hid,Gate.zbD HFS.out hml hmv (fun h=>HT6.out h.1)];exact HR.out.1
        go_wp2_with fail
        exact ⟨⟨m+1,by omega,by go_num,HS.out,HRd.out⟩,by simp [intOf];omega⟩
      ·have e:m=fs.length:=by omega
       subst e;have HLk:Hid (Gate.zaj l b.os b.os[k]=true):=Gate.zfZ HFS.out HR.out.1;have HOa:Hid (Gate.yJ l b b.os[k]=true):=by rw [Hid,Gate.zaW,HT3.out,HT2.out,HT1.out,HT5.out,HLk.out];simp
       have HD:Hid ((b.os.take (k+1)).all (Gate.yJ l b)=true/\Gate.jI Gate.zax b.os (k+1)):=HYes.out HOa.out HT4.out;clear hX10 hY10 hz10 hq10 hy10 hL10 HR;go_wp2_with fail
       exact ⟨⟨k+1,by omega,by go_num,HD.out.1,HD.out.2,HBm.out⟩,by simp [intOf];omega⟩
    ·have hd4:decide (0<=Gate.key2 (b.os[k - 1]'(by omega)).kd (b.os[k - 1]'(by omega)).nm b.os[k].kd b.os[k].nm)=true:=decide_eq_true (by omega)
     refine tH 22 rfl H_ ?_;refine tH 23 rfl H_ ?_;refine wpAnyH_done (by kernel_rfl) ?_ _;have HF:Hid (Gate.zH l b=false):=HNa.out (by omega) (Int.not_lt.1 t4);go_wp2_with fail
     go_ret;exact ⟨ze HF.out.symm,HBw.out _ HBe6.out.drew⟩
   ·have hg:decide (0 < k)=false:=decide_eq_false hk0
    clear HP;refine wp_region_held_drew (S:=fun w'=>(∀ j,w'.cell? ⟨w.heap.size+1,j,none⟩=(#[.int .i64 b.now,.int .i64 b.tick,.int .i64 b.given,.slice (some ⟨ob,off,none⟩) b.os.length c0,.slice a1 b.gs.length c1,.slice a2 b.ls.length c2,.slice a3 b.ps.length c3]:Array Value)[j]?)/\(∀ j,w'.cell? ⟨wr.heap.size,j,none⟩=(#[.string b.os[k].kd,.string b.os[k].nm,.string b.os[k].tm,.slice (some ⟨g0,0,none⟩) b.os[k].vs.length q0,.bool b.os[k].en,.slice (some ⟨g1,0,none⟩) b.os[k].hs.length q1,.int .i64 b.os[k].vr]:Array Value)[j]?) ) (by kernel_rfl) ⟨za hX6 hz6 (bRf w7.heap.size w7).drew,za hY6 hy6 (bRf w7.heap.size w7).drew⟩ (fun H_=>?_);refine tH 0 rfl H_ ?_;refine tH 1 rfl H_ ?_;refine tH 2 rfl H_ ?_;refine kH 3 rfl H_ ?_;refine kH 4 rfl H_ ?_;refine kH 5 rfl H_ ?_;refine kH 6 rfl H_ ?_;refine kH 7 rfl H_ ?_;refine kH 8 rfl H_ ?_;refine kH 9 rfl H_ ?_;refine kH 10 rfl H_ ?_;refine kH 11 rfl H_ ?_;refine kH 12 rfl H_ ?_;refine kH 13 rfl H_ ?_;refine kH 14 rfl H_ ?_;refine kH 15 rfl H_ ?_;refine kH 16 rfl H_ ?_;refine kH 17 rfl H_ ?_;refine kH 18 rfl H_ ?_;refine kH 19 rfl H_ ?_;refine kH 20 rfl H_ ?_;refine kH 21 rfl H_ ?_;refine kH 22 rfl H_ ?_;refine tH 23 rfl H_ ?_;refine wpAnyH_done (by kernel_rfl) ?_ _;have HT4:Hid (∀ m (e:k=m+1),Gate.zax (b.os[m]'(by omega)) b.os[k] < 0):=fun m e=>by omega
    go_wp2_with fail
    have hXD:=za hX6 hz6 (bRf w7.heap.size w7).drew.drew;have hLD:=za hL6 (nSl hz6) (bRf w7.heap.size w7).drew.drew;have hYD:=za hY6 hy6 (bRf w7.heap.size w7).drew.drew;have hzD:w.heap.size+1 < w7.drew.drew.heap.size:=hz6;have hyD:wr.heap.size < w7.drew.drew.heap.size:=hy6;have hqD:w.heap.size < w7.drew.drew.heap.size:=hq6;have HBeD:Hid (Below W0.heap.size W0 w7.drew.drew):=HBe6.out.drew.drew;have HOD:Hid (qB w7.drew.drew b.os[k] (some ⟨g0,0,none⟩) (some ⟨g1,0,none⟩)):=HO6.out.mono (bRf w7.heap.size w7).drew.drew;have hfd:∀ (s0 s1 s2:ByteArray) (x y:Option Addr) (n m p q:Nat) (t:Bool) (v:Int) (wf:World),(Instr.field 119 (.agg #[.string s0,.string s1,.string s2,.slice x n p,.bool t,.slice y m q,.int .i64 v]) 3).run Tryz.prog wf = .ok (.slice x n p) wf:=fun s0 s1 s2 x y n m p q t v wf=>by kernel_rfl
    refine wp_region_held_drew (S:=fun w'=>(∀ j,w'.cell? ⟨w.heap.size,j,none⟩=(#[.slice la l.ss.length lca,.slice lb l.ms.length lcb,.slice lc l.ts.length lcc]:Array Value)[j]?)/\(∀ j,w'.cell? ⟨w.heap.size+1,j,none⟩=(#[.int .i64 b.now,.int .i64 b.tick,.int .i64 b.given,.slice (some ⟨ob,off,none⟩) b.os.length c0,.slice a1 b.gs.length c1,.slice a2 b.ls.length c2,.slice a3 b.ps.length c3]:Array Value)[j]?)/\(∀ j,w'.cell? ⟨wr.heap.size,j,none⟩=(#[.string b.os[k].kd,.string b.os[k].nm,.string b.os[k].tm,.slice (some ⟨g0,0,none⟩) b.os[k].vs.length q0,.bool b.os[k].en,.slice (some ⟨g1,0,none⟩) b.os[k].hs.length q1,.int .i64 b.os[k].vr]:Array Value)[j]?)) (by kernel_rfl) ⟨hLD,hXD,hYD⟩ (fun H_=>?_);refine tH 0 rfl H_ ?_;refine tH 1 rfl H_ ?_;refine tH 2 rfl H_ ?_;refine tH 3 rfl H_ ?_;refine tH 4 rfl H_ ?_;refine tH 7 rfl H_ ?_;refine tH 8 rfl H_ ?_;refine cH 5 rfl fun K hK=>?_
    go_simp
    refine (zgz _ _ _ _ l.ss l.ms b.os[k] _ _ _ _ _ _ _ (HL.out.ss.mono (HBw.out _ HBeD.out)) (HL.out.ms.mono (HBw.out _ HBeD.out)) HOD.out HFk.out.1 HFk.out.2 HF0.out.1).mono ?_;rintro e w8 ⟨sa,sdap,sa',sdap',sm,rfl,hown,_,_,_,hb8⟩;have hX8:=za hXD hzD hb8;have hL8:=za hLD (nSl hzD) hb8;have hY8:=za hYD hyD hb8;have hz8:=nLt hzD hb8.size;have hq8:=nSl hz8;have hy8:=nLt hyD hb8.size;have HBe8:Hid (Below W0.heap.size W0 w8):=HBeD.out.trans (hb8.mono HBeD.out.size);have HO8:Hid (qB w8 b.os[k] (some ⟨g0,0,none⟩) (some ⟨g1,0,none⟩)):=HOD.out.mono hb8
    have HSh:Hid (zD w8 sa (Gate.zaH l b.os[k])/\(Gate.zaH l b.os[k]).length=b.os[k].vs.length):=by
     have hmd:=Gate.jE HF0.out.1 HT1.out;rw [Gate.zfc HF0.out.1 HT1.out] at hown;exact ⟨zeN hown hmd HOD.out.vals.len (zd2 hmd HL.out.ss.smalls HL.out.ms.small HOD.out.vals.small),zcp hmd⟩
    clear hb8 hown
    (try go_wp2_with fail)
    refine hK.out _ _ ?_ (fun H_=>?_)
    ·exact ⟨hL8,hX8,hY8⟩
    clear hK K
    (try simp only [Act.put,sA,s0,sS])
    refine tH 6 rfl H_ ?_;refine cH 9 rfl fun K hK=>?_
    go_simp
    have hsame:=zeg sa (some ⟨g0,0,none⟩) sdap q0 _ _ _ HSh.out.1 HO8.out.vals (by rw [HSh.out.2];exact HFk.out.1) HFk.out.1;rw [HSh.out.2] at hsame;refine hsame.mono ?_;rintro e w9 ⟨rfl,hb9⟩;have hX9:=za hX8 hz8 hb9;have hL9:=za hL8 (nSl hz8) hb9;have hY9:=za hY8 hy8 hb9;have hz9:=nLt hz8 hb9.size;have hq9:=nSl hz9;have hy9:=nLt hy8 hb9.size;have HBe9:Hid (Below W0.heap.size W0 w9):=HBe8.out.trans (hb9.mono HBe8.out.size);have HO9:Hid (qB w9 b.os[k] (some ⟨g0,0,none⟩) (some ⟨g1,0,none⟩)):=HO8.out.mono hb9;clear hb9 hsame
    (try go_wp2_with fail)
    refine hK.out _ _ ?_ (fun H_=>?_)
    ·exact ⟨hL9,hX9,hY9⟩
    clear hK K
    (try simp only [Act.put,sA,s0,sS])
    refine tH 10 rfl H_ ?_;refine wpAnyH_done (by kernel_rfl) ?_ _
    by_cases t5:Gate.zaH l b.os[k]=b.os[k].vs
    rotate_left
    ·have HF:Hid (Gate.zH l b=false):=HNo.out (by rw [Gate.zaW,decide_eq_false t5];simp)
     rw [decide_eq_false t5];clear t5;go_wp2_with fail
     go_ret;exact ⟨ze HF.out.symm,HBw.out _ HBe9.out⟩
    have HT5:Hid (Gate.zaH l b.os[k]=b.os[k].vs):=t5;rw [decide_eq_true t5];clear t5 HSh;go_wp2_with fail
    have HWc:Hid (Gate.zx l.ss b.os[k]=true):=by
     have:=Gate.zaV (o:=b.os[k]) HF0.out.1
     rw [Hid,<- this];exact Gate.jE HF0.out.1 HT1.out
    refine (qY _ _ l.ss b.os[k] _ _ _ _ _ (HL.out.ss.mono (HBw.out _ HBe9.out)) HO9.out HWc.out).mono ?_;rintro e w10 ⟨fa,fcap,rfl,hfa,hb10⟩;have hX10:=za hX9 hz9 hb10;have hL10:=za hL9 (nSl hz9) hb10;have hY10:=za hY9 hy9 hb10;have hz10:=nLt hz9 hb10.size;have hq10:=nSl hz10;have hy10:=nLt hy9 hb10.size;have HBe10:Hid (Below W0.heap.size W0 w10):=HBe9.out.trans (hb10.mono HBe9.out.size);have HO10:Hid (qB w10 b.os[k] (some ⟨g0,0,none⟩) (some ⟨g1,0,none⟩)):=HO9.out.mono hb10;have HFa:Hid (zP w10 fa (Gate.shapeOf l.ss b.os[k].kd).fs):=hfa.mono hb10;have HLv:Hid ((Gate.shapeOf l.ss b.os[k].kd).fs.length=b.os[k].vs.length):=by have:=HWc.out;unfold Gate.zx at this;simp only [Bool.and_eq_true,decide_eq_true_eq] at this;exact this.2.symm
    have HBm:Hid (Below W0.heap.size W0 w10):=HBe10.out;clear hfa hb10 hfd hXD hLD hYD hzD hyD hqD hX6 hL6 hY6 hz6 hy6 hq6 hX8 hL8 hY8 hz8 hy8 hq8 hX9 hL9 hY9 hz9 hy9 hq9 HBe9 HBe8 HBeD HO8 HO9 HOD;obtain ⟨fs,hfs⟩:∃ fs,fs=(Gate.shapeOf l.ss b.os[k].kd).fs:=⟨_,rfl⟩
    have HFS:Hid (fs=(Gate.shapeOf l.ss b.os[k].kd).fs):=hfs;rw [<- hfs] at HFa HLv ⊢;clear hfs;go_wp2_with fail
    obtain ⟨bo,hbo⟩:∃ bo,bo=wr.heap.size:=⟨_,rfl⟩
    rw [<- hbo] at hY10 hy10 ⊢;clear hbo
    go_loopw [11] (fun jv wi=>∃ m:Nat,m<=fs.length/\jv = .int .i64 m/\Hid (Gate.ql l b.os b.os[k] m=true/\Below w10.heap.size w10 wi)) (fun jv _=>fs.length - (intOf jv).toNat)
    case atStart=>exact ⟨0,Nat.zero_le _,rfl,by simp [Gate.ql,qH],bRf _ _⟩
    case round =>
     obtain ⟨m,hm,rfl,HR⟩:=hrel;have hfl:fs.length<=1048576:=by have:=HLv.out;have:=HFk.out.1;omega
     have hXm:=za hX10 hz10 HR.out.2;have hYm:=za hY10 hy10 HR.out.2;have hzm:=nLt hz10 HR.out.2.size;have hqm:=nLt hq10 HR.out.2.size;have hym:=nLt hy10 HR.out.2.size;have HBm:Hid (Below W0.heap.size W0 wr):=HBe10.out.trans (HR.out.2.mono HBe10.out.size)
     by_cases hml:m < fs.length
     ·have hmI:(m:Int) < (fs.length:Int):=by omega
      have hmv:m < b.os[k].vs.length:=by have:=HLv.out;omega
      have hmvI:(m:Int) < (b.os[k].vs.length:Int):=by omega
      obtain ⟨fb,foff,fw,fc,rfl,hfb,hfi⟩:=zlj HFa.out HR.out.2 m hml;obtain ⟨d0,d1,d2,d3,d4,d5,d6,d7,d8,d9,d10⟩:=hfi.load;obtain ⟨hvb,cv⟩:=zok HO10.out.vals HR.out.2 m hmv;have HSt:Hid (fs[m].to.size<=maxLen/\b.os[k].vs[m].size<=maxLen):=⟨hfi.small.to,HO10.out.vals.small _ (List.getElem_mem _)⟩
      clear d0 d2 d3 d4 d6 d7 d8 d9 d10 hfi;have hfz:fb < wr.drew.heap.size:=nLt hfb HR.out.2.size;have hvz:g0 < wr.drew.heap.size:=nLt hvb HR.out.2.size;have hXd:=za hXm hzm (bRf wr.heap.size wr).drew;have hYd:=za hYm hym (bRf wr.heap.size wr).drew;have HKd:Hid (y7 wr.drew b (some ⟨ob,off,none⟩) a1 a2 a3):=HK.out.mono (HBw.out _ HBm.out.drew);have HRd:Hid (Below w10.heap.size w10 wr.drew):=HR.out.2.drew;clear hX10 hY10 hz10 hq10 hy10 hL10 hXm hYm hfb hvb;go_wp2_with fail
      refine wp_region_held_drew (S:=fun w'=>(∀ j,w'.cell? ⟨w.heap.size+1,j,none⟩=(#[.int .i64 b.now,.int .i64 b.tick,.int .i64 b.given,.slice (some ⟨ob,off,none⟩) b.os.length c0,.slice a1 b.gs.length c1,.slice a2 b.ls.length c2,.slice a3 b.ps.length c3]:Array Value)[j]?)/\(∀ j,w'.cell? ⟨bo,j,none⟩=(#[.string b.os[k].kd,.string b.os[k].nm,.string b.os[k].tm,.slice (some ⟨g0,0,none⟩) b.os[k].vs.length q0,.bool b.os[k].en,.slice (some ⟨g1,0,none⟩) b.os[k].hs.length q1,.int .i64 b.os[k].vr]:Array Value)[j]?)/\w'.cell? ⟨fb,foff+m * 11+1,none⟩=some (.int .i64 fs[m].kd)/\w'.cell? ⟨fb,foff+m * 11+5,none⟩=some (.string fs[m].to)/\w'.cell? ⟨g0,m,none⟩=some (.string b.os[k].vs[m])) (by kernel_rfl) ⟨hXd,hYd,d1,d5,cv⟩ (fun H_=>?_);refine tH 0 rfl H_ ?_;refine tH 1 rfl H_ ?_;refine tH 2 rfl H_ ?_;refine tH 3 rfl H_ ?_;refine tH 4 rfl H_ ?_
      by_cases t6:fs[m].kd=4
      ·have hd6:decide (fs[m].kd=4)=true:=decide_eq_true t6
       have HT6:Hid (fs[m].kd=4):=t6;have hd6b:(fs[m].kd == 4)=true:=by rw [t6];rfl
       clear t6;refine tH 5 rfl H_ ?_;refine tH 6 rfl H_ ?_;refine tH 7 rfl H_ ?_;refine tH 8 rfl H_ ?_;refine tH 9 rfl H_ ?_;refine tH 10 rfl H_ ?_;refine tH 11 rfl H_ ?_
       by_cases t7:b.os[k].vs[m].toList.isEmpty=false
       ·have HT7:Hid (b.os[k].vs[m].toList.isEmpty=false):=t7
        refine tH 12 rfl H_ ?_;refine tH 13 rfl H_ ?_;refine tH 14 rfl H_ ?_;refine tH 15 rfl H_ ?_;refine tH 16 rfl H_ ?_;refine tH 17 rfl H_ ?_;refine tH 18 rfl H_ ?_;refine tH 19 rfl H_ ?_;refine tH 20 rfl H_ ?_;refine tH 21 rfl H_ ?_;refine tH 22 rfl H_ ?_;refine tH 23 rfl H_ ?_;refine tH 24 rfl H_ ?_;refine tH 25 rfl H_ ?_;refine cH 26 rfl fun K hK=>?_
        go_simp
        refine (zl4 b (some ⟨ob,off,none⟩) a1 a2 a3 c0 c1 c2 c3 _ _ _ HKd.out (by have:=HLN.out;omega)).mono ?_;rintro e w11 ⟨rfl,hb11⟩;have hXe:=za hXd hzm hb11;have hYe:=za hYd hym hb11;have d1e:=(hb11.cell (p:=⟨fb,foff+m * 11+1,none⟩) hfz).trans d1;have d5e:=(hb11.cell (p:=⟨fb,foff+m * 11+5,none⟩) hfz).trans d5;have cve:=(hb11.cell (p:=⟨g0,m,none⟩) hvz).trans cv;have HRe:Hid (Below w10.heap.size w10 w11):=HRd.out.trans (hb11.mono HRd.out.size);have HBe11:Hid (Below W0.heap.size W0 w11):=HBe10.out.trans (HRe.out.mono HBe10.out.size);clear hb11
        (try go_wp2_with fail)
        refine hK.out _ _ ?_ (fun H_=>?_)
        ·exact ⟨hXe,hYe,d1e,d5e,cve⟩
        clear hK K
        (try simp only [Act.put,sA,s0,sS])
        by_cases t8:Gate.zct (Gate.jL fs[m].to b.os[k].vs[m]) b.os < 0
        ·have hd8:decide (Gate.zct (Gate.jL fs[m].to b.os[k].vs[m]) b.os < 0)=true:=decide_eq_true t8
         have HAn:Hid (b.os.any (Gate.jL fs[m].to b.os[k].vs[m])=false):=(Gate.zcb _ _).1 t8;clear t8;refine tH 27 rfl H_ ?_;refine tH 28 rfl H_ ?_;refine wpAnyH_done (by kernel_rfl) ?_ _;have HF:Hid (Gate.zH l b=false):=HNo.out (by rw [Gate.zaW,Gate.zfX (k:=m+1) HFS.out hml (by rw [Gate.zb7 HFS.out hml hmv HT6.out HT7.out HSt.out.1 HSt.out.2,HAn.out];simp)];simp);go_wp2_with fail
         go_ret;exact ⟨ze HF.out.symm,HBw.out _ HBe11.out⟩
        ·have hd8:decide (Gate.zct (Gate.jL fs[m].to b.os[k].vs[m]) b.os < 0)=false:=decide_eq_false t8
         have HAn:Hid (b.os.any (Gate.jL fs[m].to b.os[k].vs[m])=true):=by
          unfold Hid
          cases hq:b.os.any (Gate.jL fs[m].to b.os[k].vs[m]) with
          | true=>rfl
          | false=>exact absurd ((Gate.zcb _ _).2 hq) t8
         clear t8;refine tH 27 rfl H_ ?_;refine tH 28 rfl H_ ?_;refine wpAnyH_done (by kernel_rfl) ?_ _;have HS:Hid (Gate.ql l b.os b.os[k] (m+1)=true):=by rw [Hid,Gate.zb7 HFS.out hml hmv HT6.out HT7.out HSt.out.1 HSt.out.2,HAn.out,HR.out.1];rfl
         go_wp2_with fail
         exact ⟨⟨m+1,by omega,by go_num,HS.out,HRe.out⟩,by simp [intOf];omega⟩
       ·have t7:b.os[k].vs[m].toList.isEmpty=true:=by simpa using t7
        have HT7:Hid (b.os[k].vs[m].toList.isEmpty=true):=t7;refine tH 12 rfl H_ ?_;refine tH 13 rfl H_ ?_;refine tH 14 rfl H_ ?_;refine kH 15 rfl H_ ?_;refine kH 16 rfl H_ ?_;refine kH 17 rfl H_ ?_;refine kH 18 rfl H_ ?_;refine kH 19 rfl H_ ?_;refine kH 20 rfl H_ ?_;refine kH 21 rfl H_ ?_;refine kH 22 rfl H_ ?_;refine kH 23 rfl H_ ?_;refine kH 24 rfl H_ ?_;refine kH 25 rfl H_ ?_;refine kH 26 rfl H_ ?_;refine kH 27 rfl H_ ?_;refine tH 28 rfl H_ ?_;refine wpAnyH_done (by kernel_rfl) ?_ _;have HS:Hid (Gate.ql l b.os b.os[k] (m+1)=true):=by rw [Hid,Gate.zbD HFS.out hml hmv (fun h=>by have:=h.2;rw [HT7.out] at this;cases this)];exact HR.out.1
        go_wp2_with fail
        exact ⟨⟨m+1,by omega,by go_num,HS.out,HRd.out⟩,by simp [intOf];omega⟩
      ·have hd6:decide (fs[m].kd=4)=false:=decide_eq_false t6
       have HT6:Hid (¬ fs[m].kd=4):=t6;have hd6b:(fs[m].kd == 4)=false:=by simpa using t6
       clear t6;refine tH 5 rfl H_ ?_;refine tH 6 rfl H_ ?_;refine kH 7 rfl H_ ?_;refine kH 8 rfl H_ ?_;refine kH 9 rfl H_ ?_;refine kH 10 rfl H_ ?_;refine kH 11 rfl H_ ?_;refine kH 12 rfl H_ ?_;refine tH 13 rfl H_ ?_;refine tH 14 rfl H_ ?_;refine kH 15 rfl H_ ?_;refine kH 16 rfl H_ ?_;refine kH 17 rfl H_ ?_;refine kH 18 rfl H_ ?_;refine kH 19 rfl H_ ?_;refine kH 20 rfl H_ ?_;refine kH 21 rfl H_ ?_;refine kH 22 rfl H_ ?_;refine kH 23 rfl H_ ?_;refine kH 24 rfl H_ ?_;refine kH 25 rfl H_ ?_;refine kH 26 rfl H_ ?_;refine kH 27 rfl H_ ?_;refine tH 28 rfl H_ ?_;refine wpAnyH_done (by kernel_rfl) ?_ _;have HS:Hid (Gate.ql l b.os b.os[k] (m+1)=true):=by rw [Hid,Gate.zbD HFS.out hml hmv (fun h=>HT6.out h.1)];exact HR.out.1
       go_wp2_with fail
       exact ⟨⟨m+1,by omega,by go_num,HS.out,HRd.out⟩,by simp [intOf];omega⟩
     ·have e:m=fs.length:=by omega
      subst e;have HLk:Hid (Gate.zaj l b.os b.os[k]=true):=Gate.zfZ HFS.out HR.out.1;have HOa:Hid (Gate.yJ l b b.os[k]=true):=by rw [Hid,Gate.zaW,HT3.out,HT2.out,HT1.out,HT5.out,HLk.out];simp
      have HD:Hid ((b.os.take (k+1)).all (Gate.yJ l b)=true/\Gate.jI Gate.zax b.os (k+1)):=HYes.out HOa.out HT4.out;clear hX10 hY10 hz10 hq10 hy10 hL10 HR;go_wp2_with fail
      exact ⟨⟨k+1,by omega,by go_num,HD.out.1,HD.out.2,HBm.out⟩,by simp [intOf];omega⟩
  ·have e:k=b.os.length:=by omega
   subst e
   have HE:Hid (Gate.zH l b=true):=by
    unfold Hid Gate.zH;have h1:=HQ.out.1;rw [tOl (Nat.le_refl _)] at h1;rw [Gate.zgd HQ.out.2.1 (Nat.le_refl _),decide_eq_true HLN.out,h1];rfl
   clear HQ hlt hk hX0 hL0;go_wp2_with fail
   go_ret;exact ⟨ze HE.out.symm,HBq.out⟩
theorem zcv (r:Rl) (a:Option Addr) (cap:Nat) (w:World) (hm:r.Small) (hw:qp w a r.vs) :
 Calls Tryz.prog 98 #[.agg (r.cells a cap)] w fun e w'=>e = .returned (.bool (Gate.z8 r))/\Below w.heap.size w w':=by
 have hskd:=hm.kd;have hstm:=hm.tm;have hpx:=hm.px;have hvl:=hw.len;unfold maxLen at hpx hvl;unfold Rl.cells;have HB:Hid (∀ ob,Below w.heap.size w (w.alloc ob)):=fun ob=>bAl _ _
 have HI:Hid (qp w a r.vs):=hw;clear hw hm
 by_cases hv0:r.vs.length=0
 ·have HF:Hid (Gate.z8 r=false):=by unfold Hid Gate.z8 Gate.q8;rw [decide_eq_false (show ¬ 0 < r.vs.length by omega)];simp
  have hvI:((r.vs.length:Int) == 0)=true:=by rw [hv0];rfl
  go_enter Tryz.func98,Tryz.ntmps98;go_wp2_with fail
  go_ret;exact ⟨ze HF.out.symm,HB.out _⟩
 have hvI:((r.vs.length:Int) == 0)=false:=by rw [beq_eq_false_iff_ne];omega
 by_cases h16:r.px.size<=16
 rotate_left
 ·have HF:Hid (Gate.z8 r=false):=by unfold Hid Gate.z8;rw [decide_eq_false h16];simp
  have h16I:decide (16 < (r.px.size:Int))=true:=by simp;omega
  clear hv0;go_enter Tryz.func98,Tryz.ntmps98;go_wp2_with fail
  go_ret;exact ⟨ze HF.out.symm,HB.out _⟩
 have h16I:decide (16 < (r.px.size:Int))=false:=by simp;omega
 have HG:Hid (Gate.qO r=true->Gate.z8 r=(Gate.up (Gate.qm r.vs) r.vs.length && Gate.yZ r.px)):=fun h=>by
  unfold Gate.z8 Gate.q8;rw [h,decide_eq_true h16,decide_eq_true (show 0 < r.vs.length by omega)];simp
 clear hv0
 rcases Gate.zdw r.kd with hk | ⟨hk,HK⟩ | ⟨hk,HK⟩
 ·rcases Gate.zdw r.tm with ht | ⟨ht,HT⟩ | ⟨ht,HT⟩
  ·have HKD:Hid (Gate.qO r=true):=by unfold Hid Gate.qO;rw [hk,ht];simp
   go_enter Tryz.func98,Tryz.ntmps98;go_wp2_with fail
   obtain ⟨W0,hW0⟩:∃ W0,W0=w.alloc (.cells #[.slice a r.vs.length cap,.string r.kd,.string r.tm,.string r.px] 130):=⟨_,rfl⟩
   have HBW:Hid (Below w.heap.size w W0):=by unfold Hid;rw [hW0];exact HB.out _
   have hX0:∀ o,W0.cell? ⟨w.heap.size,o,none⟩=(#[.slice a r.vs.length cap,.string r.kd,.string r.tm,.string r.px]:Array Value)[o]?:=by rw [hW0];exact zm w _ _
   have hz0:w.heap.size < W0.heap.size:=by rw [hW0];simp
   rw [<- hW0];clear hW0
   go_loopw [3] (fun i wr=>∃ k:Nat,k<=r.vs.length/\i = .int .i64 k/\Gate.up (Gate.qm r.vs) k=true/\Below W0.heap.size W0 wr) (fun i _=>r.vs.length - (intOf i).toNat)
   case atStart=>exact ⟨0,Nat.zero_le _,rfl,rfl,bRf _ _⟩
   case round =>
    obtain ⟨k,hkl,rfl,hup,hB⟩:=hrel;obtain ⟨W1,rfl⟩:∃ W1,W1=wr:=⟨wr,rfl⟩
    have hsz:=hB.size;have hX:=za hX0 hz0 hB;have HB1:Hid (Below W0.heap.size W0 W1):=hB;have HBW1:Hid (Below w.heap.size w W1):=HBW.out.trans (hB.mono (by omega));have hz1:w.heap.size < W1.heap.size:=by omega
    clear hX0 hB
    by_cases hlt:k < r.vs.length
    ·obtain ⟨b,off,rfl,hb,c0⟩:=HI.out.load HBW1.out k hlt
     have hbr:b < W1.heap.size:=by omega
     have hltI:(k:Int) < (r.vs.length:Int):=by omega
     have HNN:Hid (Gate.qm r.vs k=false->Gate.z8 r=false):=fun h=>by rw [HG.out HKD.out,Gate.zaR hlt h];rfl
     by_cases hn:Gate.zav r.vs[k]=true
     rotate_left
     ·have HN:Hid ((decide (1<=r.vs[k]) && decide (r.vs[k]<=5))=false):=by simpa [Hid,Gate.zav] using hn
      have HF:Hid (Gate.z8 r=false):=HNN.out (Gate.zdy hlt (by simpa using hn));clear hn hup;go_wp2_with fail
      go_quiet ((go_at_call 59;exact Calls.quiet_of_same (zf HN.out (yD _ _ _ _))))
      go_wp2_with fail
      go_ret;exact ⟨ze HF.out.symm,below_drewN HBW1.out _⟩
     have HN:Hid ((decide (1<=r.vs[k]) && decide (r.vs[k]<=5))=true):=hn
     by_cases hk0:k=0
     ·have HS:Hid (Gate.up (Gate.qm r.vs) (k+1)=true):=by subst hk0;unfold Hid;rw [Gate.q9,Gate.zbH hlt hn];rfl
      have hg:decide (0 < k)=false:=by simp;omega
      clear hn hup hk0;go_wp2_with fail
      go_quiet ((go_at_call 59;exact Calls.quiet_of_same (zf HN.out (yD _ _ _ _))))
      go_wp2_with fail
      exact ⟨⟨k+1,by omega,by go_num,HS.out,below_drewN HB1.out _⟩,by simp [intOf];omega⟩
     ·have hk1:(0:Int)<=(k:Int) - 1:=by omega
      have hk2:(k:Int) - 1 < (r.vs.length:Int):=by omega
      have hg:decide (0 < k)=true:=by simp;omega
      have hkm:k - 1 < r.vs.length:=by omega
      obtain ⟨b',off',e',hb',d0⟩:=HI.out.load HBW1.out (k - 1) hkm;simp only [Option.some.injEq,Addr.mk.injEq] at e';obtain ⟨rfl,rfl,_⟩:=e';have hva:Gate.qm r.vs k=decide (r.vs[k - 1] < r.vs[k]):=by unfold Gate.qm;rw [Gate.getD_at r.vs k _ hlt,Gate.getD_at r.vs (k - 1) _ hkm,hn,decide_eq_false hk0];simp
      by_cases hls:r.vs[k - 1] < r.vs[k]
      ·have hls':decide (r.vs[k]<=r.vs[k - 1])=false:=by simp;omega
       have HS:Hid (Gate.up (Gate.qm r.vs) (k+1)=true):=by unfold Hid;rw [Gate.q9,hup,hva,decide_eq_true hls];rfl
       clear hls hn hup hk0 hva;go_wp2_with fail
       go_quiet ((go_at_call 59;exact Calls.quiet_of_same (zf HN.out (yD _ _ _ _))))
       go_wp2_with fail
       exact ⟨⟨k+1,by omega,by go_num,HS.out,below_drewN HB1.out _⟩,by simp [intOf];omega⟩
      ·have hls':decide (r.vs[k]<=r.vs[k - 1])=true:=by simp;omega
       have HF:Hid (Gate.z8 r=false):=HNN.out (by rw [hva,decide_eq_false hls]);clear hls hn hup hk0 hva;go_wp2_with fail
       go_quiet ((go_at_call 59;exact Calls.quiet_of_same (zf HN.out (yD _ _ _ _))))
       go_wp2_with fail
       go_ret;exact ⟨ze HF.out.symm,below_drewN HBW1.out _⟩
    ·have HF:Hid (Gate.z8 r=Gate.yZ r.px):=by
      have e:k=r.vs.length:=by omega
      subst e;rw [Hid,HG.out HKD.out,hup];rfl
     have hltI:¬ (k:Int) < (r.vs.length:Int):=by omega
     clear hup HG;go_wp2_with fail
     go_loopw [4] (fun i wi=>∃ n:Nat,n<=r.px.size/\i = .int .i64 n/\(r.px.data.toList.take n).all Gate.zJ=true/\wi=W1) (fun i _=>r.px.size - (intOf i).toNat)
     case atStart=>exact ⟨0,Nat.zero_le _,rfl,rfl,rfl⟩
     case round =>
      obtain ⟨n,hn16,rfl,hall,rfl⟩:=hrel
      by_cases hn:n < r.px.size
      ·have hnI:(n:Int) < (r.px.size:Int):=by omega
       have HS:Hid ((r.px.data.toList.take (n+1)).all Gate.zJ=(true && Gate.zJ r.px[n])):=by rw [Gate.zaN _ r.px n hn,hall];rfl
       have HNo:Hid (Gate.zJ r.px[n]=false->Gate.yZ r.px=false):=fun h=>Gate.zb4 Gate.zJ r.px n hn h
       clear hall
       by_cases hc:Gate.zJ r.px[n]=true
       ·have HC:Hid (Gate.zJ r.px[n]=true):=hc
        clear hc
        go_wp2_with (go_at_call 135;refine (zf HC.out (zad _ _)).mono ?_;rintro e w' ⟨rfl,rfl⟩)
        exact ⟨⟨n+1,by omega,by go_num,by rw [HS.out,HC.out];rfl,trivial⟩,by simp [intOf];omega⟩
       ·have HC:Hid (Gate.zJ r.px[n]=false):=by simpa [Hid] using hc
        clear hc
        go_wp2_with (go_at_call 135;refine (zf HC.out (zad _ _)).mono ?_;rintro e w' ⟨rfl,rfl⟩)
        go_ret;exact ⟨ze (HF.out.trans (HNo.out HC.out)).symm,HBW1.out⟩
      ·have HA:Hid (Gate.yZ r.px=true):=by unfold Gate.yZ Hid;rw [<- Gate.zaz r.px n (by omega)];exact hall
       have hnI:¬ (n:Int) < (r.px.size:Int):=by omega
       clear hall;go_wp2_with fail
       go_ret;exact ⟨ze (HF.out.trans HA.out).symm,HBW1.out⟩
  ·have HKD:Hid (Gate.qO r=true):=by unfold Hid Gate.qO;rw [hk,HT.out];simp
   go_enter Tryz.func98,Tryz.ntmps98
   go_wp2_with (first | (go_at_call_of 97 (Value.string r.tm);refine (zf HT.out (zh r.tm _ hstm)).mono ?_;rintro e w' ⟨rfl,rfl⟩))
   obtain ⟨W0,hW0⟩:∃ W0,W0=w.alloc (.cells #[.slice a r.vs.length cap,.string r.kd,.string r.tm,.string r.px] 130):=⟨_,rfl⟩
   have HBW:Hid (Below w.heap.size w W0):=by unfold Hid;rw [hW0];exact HB.out _
   have hX0:∀ o,W0.cell? ⟨w.heap.size,o,none⟩=(#[.slice a r.vs.length cap,.string r.kd,.string r.tm,.string r.px]:Array Value)[o]?:=by rw [hW0];exact zm w _ _
   have hz0:w.heap.size < W0.heap.size:=by rw [hW0];simp
   rw [<- hW0];clear hW0
   go_loopw [3] (fun i wr=>∃ k:Nat,k<=r.vs.length/\i = .int .i64 k/\Gate.up (Gate.qm r.vs) k=true/\Below W0.heap.size W0 wr) (fun i _=>r.vs.length - (intOf i).toNat)
   case atStart=>exact ⟨0,Nat.zero_le _,rfl,rfl,bRf _ _⟩
   case round =>
    obtain ⟨k,hkl,rfl,hup,hB⟩:=hrel;obtain ⟨W1,rfl⟩:∃ W1,W1=wr:=⟨wr,rfl⟩
    have hsz:=hB.size;have hX:=za hX0 hz0 hB;have HB1:Hid (Below W0.heap.size W0 W1):=hB;have HBW1:Hid (Below w.heap.size w W1):=HBW.out.trans (hB.mono (by omega));have hz1:w.heap.size < W1.heap.size:=by omega
    clear hX0 hB
    by_cases hlt:k < r.vs.length
    ·obtain ⟨b,off,rfl,hb,c0⟩:=HI.out.load HBW1.out k hlt
     have hbr:b < W1.heap.size:=by omega
     have hltI:(k:Int) < (r.vs.length:Int):=by omega
     have HNN:Hid (Gate.qm r.vs k=false->Gate.z8 r=false):=fun h=>by rw [HG.out HKD.out,Gate.zaR hlt h];rfl
     by_cases hn:Gate.zav r.vs[k]=true
     rotate_left
     ·have HN:Hid ((decide (1<=r.vs[k]) && decide (r.vs[k]<=5))=false):=by simpa [Hid,Gate.zav] using hn
      have HF:Hid (Gate.z8 r=false):=HNN.out (Gate.zdy hlt (by simpa using hn));clear hn hup;go_wp2_with fail
      go_quiet ((go_at_call 59;exact Calls.quiet_of_same (zf HN.out (yD _ _ _ _))))
      go_wp2_with fail
      go_ret;exact ⟨ze HF.out.symm,below_drewN HBW1.out _⟩
     have HN:Hid ((decide (1<=r.vs[k]) && decide (r.vs[k]<=5))=true):=hn
     by_cases hk0:k=0
     ·have HS:Hid (Gate.up (Gate.qm r.vs) (k+1)=true):=by subst hk0;unfold Hid;rw [Gate.q9,Gate.zbH hlt hn];rfl
      have hg:decide (0 < k)=false:=by simp;omega
      clear hn hup hk0;go_wp2_with fail
      go_quiet ((go_at_call 59;exact Calls.quiet_of_same (zf HN.out (yD _ _ _ _))))
      go_wp2_with fail
      exact ⟨⟨k+1,by omega,by go_num,HS.out,below_drewN HB1.out _⟩,by simp [intOf];omega⟩
     ·have hk1:(0:Int)<=(k:Int) - 1:=by omega
      have hk2:(k:Int) - 1 < (r.vs.length:Int):=by omega
      have hg:decide (0 < k)=true:=by simp;omega
      have hkm:k - 1 < r.vs.length:=by omega
      obtain ⟨b',off',e',hb',d0⟩:=HI.out.load HBW1.out (k - 1) hkm;simp only [Option.some.injEq,Addr.mk.injEq] at e';obtain ⟨rfl,rfl,_⟩:=e';have hva:Gate.qm r.vs k=decide (r.vs[k - 1] < r.vs[k]):=by unfold Gate.qm;rw [Gate.getD_at r.vs k _ hlt,Gate.getD_at r.vs (k - 1) _ hkm,hn,decide_eq_false hk0];simp
      by_cases hls:r.vs[k - 1] < r.vs[k]
      ·have hls':decide (r.vs[k]<=r.vs[k - 1])=false:=by simp;omega
       have HS:Hid (Gate.up (Gate.qm r.vs) (k+1)=true):=by unfold Hid;rw [Gate.q9,hup,hva,decide_eq_true hls];rfl
       clear hls hn hup hk0 hva;go_wp2_with fail
       go_quiet ((go_at_call 59;exact Calls.quiet_of_same (zf HN.out (yD _ _ _ _))))
       go_wp2_with fail
       exact ⟨⟨k+1,by omega,by go_num,HS.out,below_drewN HB1.out _⟩,by simp [intOf];omega⟩
      ·have hls':decide (r.vs[k]<=r.vs[k - 1])=true:=by simp;omega
       have HF:Hid (Gate.z8 r=false):=HNN.out (by rw [hva,decide_eq_false hls]);clear hls hn hup hk0 hva;go_wp2_with fail
       go_quiet ((go_at_call 59;exact Calls.quiet_of_same (zf HN.out (yD _ _ _ _))))
       go_wp2_with fail
       go_ret;exact ⟨ze HF.out.symm,below_drewN HBW1.out _⟩
    ·have HF:Hid (Gate.z8 r=Gate.yZ r.px):=by
      have e:k=r.vs.length:=by omega
      subst e;rw [Hid,HG.out HKD.out,hup];rfl
     have hltI:¬ (k:Int) < (r.vs.length:Int):=by omega
     clear hup HG;go_wp2_with fail
     go_loopw [4] (fun i wi=>∃ n:Nat,n<=r.px.size/\i = .int .i64 n/\(r.px.data.toList.take n).all Gate.zJ=true/\wi=W1) (fun i _=>r.px.size - (intOf i).toNat)
     case atStart=>exact ⟨0,Nat.zero_le _,rfl,rfl,rfl⟩
     case round =>
      obtain ⟨n,hn16,rfl,hall,rfl⟩:=hrel
      by_cases hn:n < r.px.size
      ·have hnI:(n:Int) < (r.px.size:Int):=by omega
       have HS:Hid ((r.px.data.toList.take (n+1)).all Gate.zJ=(true && Gate.zJ r.px[n])):=by rw [Gate.zaN _ r.px n hn,hall];rfl
       have HNo:Hid (Gate.zJ r.px[n]=false->Gate.yZ r.px=false):=fun h=>Gate.zb4 Gate.zJ r.px n hn h
       clear hall
       by_cases hc:Gate.zJ r.px[n]=true
       ·have HC:Hid (Gate.zJ r.px[n]=true):=hc
        clear hc
        go_wp2_with (go_at_call 135;refine (zf HC.out (zad _ _)).mono ?_;rintro e w' ⟨rfl,rfl⟩)
        exact ⟨⟨n+1,by omega,by go_num,by rw [HS.out,HC.out];rfl,trivial⟩,by simp [intOf];omega⟩
       ·have HC:Hid (Gate.zJ r.px[n]=false):=by simpa [Hid] using hc
        clear hc
        go_wp2_with (go_at_call 135;refine (zf HC.out (zad _ _)).mono ?_;rintro e w' ⟨rfl,rfl⟩)
        go_ret;exact ⟨ze (HF.out.trans (HNo.out HC.out)).symm,HBW1.out⟩
      ·have HA:Hid (Gate.yZ r.px=true):=by unfold Gate.yZ Hid;rw [<- Gate.zaz r.px n (by omega)];exact hall
       have hnI:¬ (n:Int) < (r.px.size:Int):=by omega
       clear hall;go_wp2_with fail
       go_ret;exact ⟨ze (HF.out.trans HA.out).symm,HBW1.out⟩
  ·have HF:Hid (Gate.z8 r=false):=by unfold Hid Gate.z8 Gate.qO;rw [ht,HT.out];simp
   go_enter Tryz.func98,Tryz.ntmps98
   go_wp2_with (first | (go_at_call_of 97 (Value.string r.tm);refine (zf HT.out (zh r.tm _ hstm)).mono ?_;rintro e w' ⟨rfl,rfl⟩))
   go_ret;exact ⟨ze HF.out.symm,HB.out _⟩
 ·rcases Gate.zdw r.tm with ht | ⟨ht,HT⟩ | ⟨ht,HT⟩
  ·have HKD:Hid (Gate.qO r=true):=by unfold Hid Gate.qO;rw [HK.out,ht];simp
   go_enter Tryz.func98,Tryz.ntmps98
   go_wp2_with (first | (go_at_call_of 97 (Value.string r.kd);refine (zf HK.out (zh r.kd _ hskd)).mono ?_;rintro e w' ⟨rfl,rfl⟩))
   obtain ⟨W0,hW0⟩:∃ W0,W0=w.alloc (.cells #[.slice a r.vs.length cap,.string r.kd,.string r.tm,.string r.px] 130):=⟨_,rfl⟩
   have HBW:Hid (Below w.heap.size w W0):=by unfold Hid;rw [hW0];exact HB.out _
   have hX0:∀ o,W0.cell? ⟨w.heap.size,o,none⟩=(#[.slice a r.vs.length cap,.string r.kd,.string r.tm,.string r.px]:Array Value)[o]?:=by rw [hW0];exact zm w _ _
   have hz0:w.heap.size < W0.heap.size:=by rw [hW0];simp
   rw [<- hW0];clear hW0
   go_loopw [3] (fun i wr=>∃ k:Nat,k<=r.vs.length/\i = .int .i64 k/\Gate.up (Gate.qm r.vs) k=true/\Below W0.heap.size W0 wr) (fun i _=>r.vs.length - (intOf i).toNat)
   case atStart=>exact ⟨0,Nat.zero_le _,rfl,rfl,bRf _ _⟩
   case round =>
    obtain ⟨k,hkl,rfl,hup,hB⟩:=hrel;obtain ⟨W1,rfl⟩:∃ W1,W1=wr:=⟨wr,rfl⟩
    have hsz:=hB.size;have hX:=za hX0 hz0 hB;have HB1:Hid (Below W0.heap.size W0 W1):=hB;have HBW1:Hid (Below w.heap.size w W1):=HBW.out.trans (hB.mono (by omega));have hz1:w.heap.size < W1.heap.size:=by omega
    clear hX0 hB
    by_cases hlt:k < r.vs.length
    ·obtain ⟨b,off,rfl,hb,c0⟩:=HI.out.load HBW1.out k hlt
     have hbr:b < W1.heap.size:=by omega
     have hltI:(k:Int) < (r.vs.length:Int):=by omega
     have HNN:Hid (Gate.qm r.vs k=false->Gate.z8 r=false):=fun h=>by rw [HG.out HKD.out,Gate.zaR hlt h];rfl
     by_cases hn:Gate.zav r.vs[k]=true
     rotate_left
     ·have HN:Hid ((decide (1<=r.vs[k]) && decide (r.vs[k]<=5))=false):=by simpa [Hid,Gate.zav] using hn
      have HF:Hid (Gate.z8 r=false):=HNN.out (Gate.zdy hlt (by simpa using hn));clear hn hup;go_wp2_with fail
      go_quiet ((go_at_call 59;exact Calls.quiet_of_same (zf HN.out (yD _ _ _ _))))
      go_wp2_with fail
      go_ret;exact ⟨ze HF.out.symm,below_drewN HBW1.out _⟩
     have HN:Hid ((decide (1<=r.vs[k]) && decide (r.vs[k]<=5))=true):=hn
     by_cases hk0:k=0
     ·have HS:Hid (Gate.up (Gate.qm r.vs) (k+1)=true):=by subst hk0;unfold Hid;rw [Gate.q9,Gate.zbH hlt hn];rfl
      have hg:decide (0 < k)=false:=by simp;omega
      clear hn hup hk0;go_wp2_with fail
      go_quiet ((go_at_call 59;exact Calls.quiet_of_same (zf HN.out (yD _ _ _ _))))
      go_wp2_with fail
      exact ⟨⟨k+1,by omega,by go_num,HS.out,below_drewN HB1.out _⟩,by simp [intOf];omega⟩
     ·have hk1:(0:Int)<=(k:Int) - 1:=by omega
      have hk2:(k:Int) - 1 < (r.vs.length:Int):=by omega
      have hg:decide (0 < k)=true:=by simp;omega
      have hkm:k - 1 < r.vs.length:=by omega
      obtain ⟨b',off',e',hb',d0⟩:=HI.out.load HBW1.out (k - 1) hkm;simp only [Option.some.injEq,Addr.mk.injEq] at e';obtain ⟨rfl,rfl,_⟩:=e';have hva:Gate.qm r.vs k=decide (r.vs[k - 1] < r.vs[k]):=by unfold Gate.qm;rw [Gate.getD_at r.vs k _ hlt,Gate.getD_at r.vs (k - 1) _ hkm,hn,decide_eq_false hk0];simp
      by_cases hls:r.vs[k - 1] < r.vs[k]
      ·have hls':decide (r.vs[k]<=r.vs[k - 1])=false:=by simp;omega
       have HS:Hid (Gate.up (Gate.qm r.vs) (k+1)=true):=by unfold Hid;rw [Gate.q9,hup,hva,decide_eq_true hls];rfl
       clear hls hn hup hk0 hva;go_wp2_with fail
       go_quiet ((go_at_call 59;exact Calls.quiet_of_same (zf HN.out (yD _ _ _ _))))
       go_wp2_with fail
       exact ⟨⟨k+1,by omega,by go_num,HS.out,below_drewN HB1.out _⟩,by simp [intOf];omega⟩
      ·have hls':decide (r.vs[k]<=r.vs[k - 1])=true:=by simp;omega
       have HF:Hid (Gate.z8 r=false):=HNN.out (by rw [hva,decide_eq_false hls]);clear hls hn hup hk0 hva;go_wp2_with fail
       go_quiet ((go_at_call 59;exact Calls.quiet_of_same (zf HN.out (yD _ _ _ _))))
       go_wp2_with fail
       go_ret;exact ⟨ze HF.out.symm,below_drewN HBW1.out _⟩
    ·have HF:Hid (Gate.z8 r=Gate.yZ r.px):=by
      have e:k=r.vs.length:=by omega
      subst e;rw [Hid,HG.out HKD.out,hup];rfl
     have hltI:¬ (k:Int) < (r.vs.length:Int):=by omega
     clear hup HG;go_wp2_with fail
     go_loopw [4] (fun i wi=>∃ n:Nat,n<=r.px.size/\i = .int .i64 n/\(r.px.data.toList.take n).all Gate.zJ=true/\wi=W1) (fun i _=>r.px.size - (intOf i).toNat)
     case atStart=>exact ⟨0,Nat.zero_le _,rfl,rfl,rfl⟩
     case round =>
      obtain ⟨n,hn16,rfl,hall,rfl⟩:=hrel
      by_cases hn:n < r.px.size
      ·have hnI:(n:Int) < (r.px.size:Int):=by omega
       have HS:Hid ((r.px.data.toList.take (n+1)).all Gate.zJ=(true && Gate.zJ r.px[n])):=by rw [Gate.zaN _ r.px n hn,hall];rfl
       have HNo:Hid (Gate.zJ r.px[n]=false->Gate.yZ r.px=false):=fun h=>Gate.zb4 Gate.zJ r.px n hn h
       clear hall
       by_cases hc:Gate.zJ r.px[n]=true
       ·have HC:Hid (Gate.zJ r.px[n]=true):=hc
        clear hc
        go_wp2_with (go_at_call 135;refine (zf HC.out (zad _ _)).mono ?_;rintro e w' ⟨rfl,rfl⟩)
        exact ⟨⟨n+1,by omega,by go_num,by rw [HS.out,HC.out];rfl,trivial⟩,by simp [intOf];omega⟩
       ·have HC:Hid (Gate.zJ r.px[n]=false):=by simpa [Hid] using hc
        clear hc
        go_wp2_with (go_at_call 135;refine (zf HC.out (zad _ _)).mono ?_;rintro e w' ⟨rfl,rfl⟩)
        go_ret;exact ⟨ze (HF.out.trans (HNo.out HC.out)).symm,HBW1.out⟩
      ·have HA:Hid (Gate.yZ r.px=true):=by unfold Gate.yZ Hid;rw [<- Gate.zaz r.px n (by omega)];exact hall
       have hnI:¬ (n:Int) < (r.px.size:Int):=by omega
       clear hall;go_wp2_with fail
       go_ret;exact ⟨ze (HF.out.trans HA.out).symm,HBW1.out⟩
  ·have HKD:Hid (Gate.qO r=true):=by unfold Hid Gate.qO;rw [HK.out,HT.out];simp
   go_enter Tryz.func98,Tryz.ntmps98
   go_wp2_with (first | (go_at_call_of 97 (Value.string r.kd);refine (zf HK.out (zh r.kd _ hskd)).mono ?_;rintro e w' ⟨rfl,rfl⟩) | (go_at_call_of 97 (Value.string r.tm);refine (zf HT.out (zh r.tm _ hstm)).mono ?_;rintro e w' ⟨rfl,rfl⟩))
   obtain ⟨W0,hW0⟩:∃ W0,W0=w.alloc (.cells #[.slice a r.vs.length cap,.string r.kd,.string r.tm,.string r.px] 130):=⟨_,rfl⟩
   have HBW:Hid (Below w.heap.size w W0):=by unfold Hid;rw [hW0];exact HB.out _
   have hX0:∀ o,W0.cell? ⟨w.heap.size,o,none⟩=(#[.slice a r.vs.length cap,.string r.kd,.string r.tm,.string r.px]:Array Value)[o]?:=by rw [hW0];exact zm w _ _
   have hz0:w.heap.size < W0.heap.size:=by rw [hW0];simp
   rw [<- hW0];clear hW0
   go_loopw [3] (fun i wr=>∃ k:Nat,k<=r.vs.length/\i = .int .i64 k/\Gate.up (Gate.qm r.vs) k=true/\Below W0.heap.size W0 wr) (fun i _=>r.vs.length - (intOf i).toNat)
   case atStart=>exact ⟨0,Nat.zero_le _,rfl,rfl,bRf _ _⟩
   case round =>
    obtain ⟨k,hkl,rfl,hup,hB⟩:=hrel;obtain ⟨W1,rfl⟩:∃ W1,W1=wr:=⟨wr,rfl⟩
    have hsz:=hB.size;have hX:=za hX0 hz0 hB;have HB1:Hid (Below W0.heap.size W0 W1):=hB;have HBW1:Hid (Below w.heap.size w W1):=HBW.out.trans (hB.mono (by omega));have hz1:w.heap.size < W1.heap.size:=by omega
    clear hX0 hB
    by_cases hlt:k < r.vs.length
    ·obtain ⟨b,off,rfl,hb,c0⟩:=HI.out.load HBW1.out k hlt
     have hbr:b < W1.heap.size:=by omega
     have hltI:(k:Int) < (r.vs.length:Int):=by omega
     have HNN:Hid (Gate.qm r.vs k=false->Gate.z8 r=false):=fun h=>by rw [HG.out HKD.out,Gate.zaR hlt h];rfl
     by_cases hn:Gate.zav r.vs[k]=true
     rotate_left
     ·have HN:Hid ((decide (1<=r.vs[k]) && decide (r.vs[k]<=5))=false):=by simpa [Hid,Gate.zav] using hn
      have HF:Hid (Gate.z8 r=false):=HNN.out (Gate.zdy hlt (by simpa using hn));clear hn hup;go_wp2_with fail
      go_quiet ((go_at_call 59;exact Calls.quiet_of_same (zf HN.out (yD _ _ _ _))))
      go_wp2_with fail
      go_ret;exact ⟨ze HF.out.symm,below_drewN HBW1.out _⟩
     have HN:Hid ((decide (1<=r.vs[k]) && decide (r.vs[k]<=5))=true):=hn
     by_cases hk0:k=0
     ·have HS:Hid (Gate.up (Gate.qm r.vs) (k+1)=true):=by subst hk0;unfold Hid;rw [Gate.q9,Gate.zbH hlt hn];rfl
      have hg:decide (0 < k)=false:=by simp;omega
      clear hn hup hk0;go_wp2_with fail
      go_quiet ((go_at_call 59;exact Calls.quiet_of_same (zf HN.out (yD _ _ _ _))))
      go_wp2_with fail
      exact ⟨⟨k+1,by omega,by go_num,HS.out,below_drewN HB1.out _⟩,by simp [intOf];omega⟩
     ·have hk1:(0:Int)<=(k:Int) - 1:=by omega
      have hk2:(k:Int) - 1 < (r.vs.length:Int):=by omega
      have hg:decide (0 < k)=true:=by simp;omega
      have hkm:k - 1 < r.vs.length:=by omega
      obtain ⟨b',off',e',hb',d0⟩:=HI.out.load HBW1.out (k - 1) hkm;simp only [Option.some.injEq,Addr.mk.injEq] at e';obtain ⟨rfl,rfl,_⟩:=e';have hva:Gate.qm r.vs k=decide (r.vs[k - 1] < r.vs[k]):=by unfold Gate.qm;rw [Gate.getD_at r.vs k _ hlt,Gate.getD_at r.vs (k - 1) _ hkm,hn,decide_eq_false hk0];simp
      by_cases hls:r.vs[k - 1] < r.vs[k]
      ·have hls':decide (r.vs[k]<=r.vs[k - 1])=false:=by simp;omega
       have HS:Hid (Gate.up (Gate.qm r.vs) (k+1)=true):=by unfold Hid;rw [Gate.q9,hup,hva,decide_eq_true hls];rfl
       clear hls hn hup hk0 hva;go_wp2_with fail
       go_quiet ((go_at_call 59;exact Calls.quiet_of_same (zf HN.out (yD _ _ _ _))))
       go_wp2_with fail
       exact ⟨⟨k+1,by omega,by go_num,HS.out,below_drewN HB1.out _⟩,by simp [intOf];omega⟩
      ·have hls':decide (r.vs[k]<=r.vs[k - 1])=true:=by simp;omega
       have HF:Hid (Gate.z8 r=false):=HNN.out (by rw [hva,decide_eq_false hls]);clear hls hn hup hk0 hva;go_wp2_with fail
       go_quiet ((go_at_call 59;exact Calls.quiet_of_same (zf HN.out (yD _ _ _ _))))
       go_wp2_with fail
       go_ret;exact ⟨ze HF.out.symm,below_drewN HBW1.out _⟩
    ·have HF:Hid (Gate.z8 r=Gate.yZ r.px):=by
      have e:k=r.vs.length:=by omega
      subst e;rw [Hid,HG.out HKD.out,hup];rfl
     have hltI:¬ (k:Int) < (r.vs.length:Int):=by omega
     clear hup HG;go_wp2_with fail
     go_loopw [4] (fun i wi=>∃ n:Nat,n<=r.px.size/\i = .int .i64 n/\(r.px.data.toList.take n).all Gate.zJ=true/\wi=W1) (fun i _=>r.px.size - (intOf i).toNat)
     case atStart=>exact ⟨0,Nat.zero_le _,rfl,rfl,rfl⟩
     case round =>
      obtain ⟨n,hn16,rfl,hall,rfl⟩:=hrel
      by_cases hn:n < r.px.size
      ·have hnI:(n:Int) < (r.px.size:Int):=by omega
       have HS:Hid ((r.px.data.toList.take (n+1)).all Gate.zJ=(true && Gate.zJ r.px[n])):=by rw [Gate.zaN _ r.px n hn,hall];rfl
       have HNo:Hid (Gate.zJ r.px[n]=false->Gate.yZ r.px=false):=fun h=>Gate.zb4 Gate.zJ r.px n hn h
       clear hall
       by_cases hc:Gate.zJ r.px[n]=true
       ·have HC:Hid (Gate.zJ r.px[n]=true):=hc
        clear hc
        go_wp2_with (go_at_call 135;refine (zf HC.out (zad _ _)).mono ?_;rintro e w' ⟨rfl,rfl⟩)
        exact ⟨⟨n+1,by omega,by go_num,by rw [HS.out,HC.out];rfl,trivial⟩,by simp [intOf];omega⟩
       ·have HC:Hid (Gate.zJ r.px[n]=false):=by simpa [Hid] using hc
        clear hc
        go_wp2_with (go_at_call 135;refine (zf HC.out (zad _ _)).mono ?_;rintro e w' ⟨rfl,rfl⟩)
        go_ret;exact ⟨ze (HF.out.trans (HNo.out HC.out)).symm,HBW1.out⟩
      ·have HA:Hid (Gate.yZ r.px=true):=by unfold Gate.yZ Hid;rw [<- Gate.zaz r.px n (by omega)];exact hall
       have hnI:¬ (n:Int) < (r.px.size:Int):=by omega
       clear hall;go_wp2_with fail
       go_ret;exact ⟨ze (HF.out.trans HA.out).symm,HBW1.out⟩
  ·have HF:Hid (Gate.z8 r=false):=by unfold Hid Gate.z8 Gate.qO;rw [ht,HT.out];simp
   go_enter Tryz.func98,Tryz.ntmps98
   go_wp2_with (first | (go_at_call_of 97 (Value.string r.kd);refine (zf HK.out (zh r.kd _ hskd)).mono ?_;rintro e w' ⟨rfl,rfl⟩) | (go_at_call_of 97 (Value.string r.tm);refine (zf HT.out (zh r.tm _ hstm)).mono ?_;rintro e w' ⟨rfl,rfl⟩))
   go_ret;exact ⟨ze HF.out.symm,HB.out _⟩
 ·have HF:Hid (Gate.z8 r=false):=by unfold Hid Gate.z8 Gate.qO;rw [hk,HK.out];simp
  go_enter Tryz.func98,Tryz.ntmps98
  go_wp2_with (first | (go_at_call_of 97 (Value.string r.kd);refine (zf HK.out (zh r.kd _ hskd)).mono ?_;rintro e w' ⟨rfl,rfl⟩))
  go_ret;exact ⟨ze HF.out.symm,HB.out _⟩
set_option maxRecDepth 20000 in
theorem zjJ (b:Bk) (a0 a1 a2 a3:Option Addr) (c0 c1 c2 c3:Nat) (w:World) (hb:y7 w b a0 a1 a2 a3) :
 Calls Tryz.prog 61 #[.agg (b.cells a0 a1 a2 a3 c0 c1 c2 c3)] w fun e w'=>e = .returned (.bool (Gate.yj b))/\Below w.heap.size w w':=by
 have HK:Hid (y7 w b a0 a1 a2 a3):=hb;clear hb;unfold Bk.cells
 by_cases hln:b.gs.length<=24
 rotate_left
 ·have HF:Hid (Gate.yj b=false):=by unfold Hid Gate.yj;rw [decide_eq_false hln];rfl
  have hg:(24:Int) < (b.gs.length:Int):=by omega
  go_enter Tryz.func61,Tryz.ntmps61;go_wp2_with fail
  go_ret;exact ⟨ze HF.out.symm,bAl _ _⟩
 have hg:decide ((24:Int) < (b.gs.length:Int))=false:=by simp;omega
 have HLN:Hid (b.gs.length<=24):=hln;clear hln;go_enter Tryz.func61,Tryz.ntmps61;go_wp2_with fail
 clear hg;have hX0:=zm w #[.int .i64 b.now,.int .i64 b.tick,.int .i64 b.given,.slice a0 b.os.length c0,.slice a1 b.gs.length c1,.slice a2 b.ls.length c2,.slice a3 b.ps.length c3] 48;have HB0:Hid (Below w.heap.size w (w.alloc (.cells #[.int .i64 b.now,.int .i64 b.tick,.int .i64 b.given,.slice a0 b.os.length c0,.slice a1 b.gs.length c1,.slice a2 b.ls.length c2,.slice a3 b.ps.length c3] 48))):=bAl _ _;obtain ⟨W0,hW0⟩:∃ W0,W0=w.alloc (.cells #[.int .i64 b.now,.int .i64 b.tick,.int .i64 b.given,.slice a0 b.os.length c0,.slice a1 b.gs.length c1,.slice a2 b.ls.length c2,.slice a3 b.ps.length c3] 48):=⟨_,rfl⟩
 have hz0:w.heap.size < W0.heap.size:=by rw [hW0];simp
 rw [<- hW0] at HB0 hX0 ⊢;clear hW0
 go_loopw [3] (fun iv wr=>∃ k:Nat,k<=b.gs.length/\iv = .int .i64 k/\Hid ((b.gs.take k).all (Gate.yB b.given)=true/\Gate.jI Gate.zbB b.gs k/\Below W0.heap.size W0 wr)) (fun iv _=>b.gs.length - (intOf iv).toNat)
 case atStart=>exact ⟨0,Nat.zero_le _,rfl,by simp,fun i _ h=>by omega,bRf _ _⟩
 case round =>
  obtain ⟨k,hk,rfl,HQ⟩:=hrel;have hkn:k<=24:=by have:=HLN.out;omega
  have hX1:=za hX0 hz0 HQ.out.2.2;have hz1:=nLt hz0 HQ.out.2.2.size;have HBq:Hid (Below w.heap.size w wr):=HB0.out.trans (HQ.out.2.2.mono HB0.out.size)
  by_cases hlt:k < b.gs.length
  ·obtain ⟨ob,off,v0,q0,rfl,hob,hsm,hi0,d0,d1,d2,d3,d4,d5,d6⟩:=HK.out.gs.load HBq.out k hlt
   have hob':ob < wr.heap.size:=nLt hob HBq.out.size;have hltI:(k:Int) < (b.gs.length:Int):=by omega
   have HSn:Hid ((b.gs.take (k+1)).all (Gate.yB b.given)=((b.gs.take k).all (Gate.yB b.given) && (Gate.yB b.given) b.gs[k])):=Gate.qU _ _ _ hlt;have HBo:Hid (∀ ob,Below W0.heap.size W0 (wr.alloc ob)):=fun ob=>HQ.out.2.2.alloc HQ.out.2.2.size _
   have HBw:Hid (∀ W,Below W0.heap.size W0 W->Below w.heap.size w W):=fun W hW=>HB0.out.trans (hW.mono HB0.out.size)
   have HNo:Hid ((Gate.yB b.given) b.gs[k]=false->Gate.yj b=false):=fun h=>by unfold Gate.yj;rw [Gate.zaC _ _ _ hlt h];simp
   have HNa:Hid (0 < k->0<=Gate.zbB (b.gs[k - 1]'(by omega)) b.gs[k]->Gate.yj b=false):=fun h0 h=>by unfold Gate.yj;rw [Gate.zdG hlt h0 (Int.not_lt.2 h)];simp
   have HYes:Hid ((Gate.yB b.given) b.gs[k]=true->(∀ m (e:k=m+1),Gate.zbB (b.gs[m]'(by omega)) b.gs[k] < 0)->(b.gs.take (k+1)).all (Gate.yB b.given)=true/\Gate.jI Gate.zbB b.gs (k+1)):=fun h h'=>⟨by rw [HSn.out,HQ.out.1,h];rfl,Gate.ze1 HQ.out.2.1 hlt h'⟩
   have HIt:Hid (qp wr v0 b.gs[k].r.vs/\b.gs[k].Small):=⟨hi0,hsm⟩
   clear hsm hi0;go_wp2_with fail
   have hY0:=zm wr #[.int .i64 b.gs[k].no,.string b.gs[k].to,.string b.gs[k].gb,.slice v0 b.gs[k].r.vs.length q0,.string b.gs[k].r.kd,.string b.gs[k].r.tm,.string b.gs[k].r.px] 132;have hb5:Below wr.heap.size wr (wr.alloc (.cells #[.int .i64 b.gs[k].no,.string b.gs[k].to,.string b.gs[k].gb,.slice v0 b.gs[k].r.vs.length q0,.string b.gs[k].r.kd,.string b.gs[k].r.tm,.string b.gs[k].r.px] 132)):=bAl _ _;have HBe:=HBo.out (.cells #[.int .i64 b.gs[k].no,.string b.gs[k].to,.string b.gs[k].gb,.slice v0 b.gs[k].r.vs.length q0,.string b.gs[k].r.kd,.string b.gs[k].r.tm,.string b.gs[k].r.px] 132);obtain ⟨W5,hW5⟩:∃ W5,W5=wr.alloc (.cells #[.int .i64 b.gs[k].no,.string b.gs[k].to,.string b.gs[k].gb,.slice v0 b.gs[k].r.vs.length q0,.string b.gs[k].r.kd,.string b.gs[k].r.tm,.string b.gs[k].r.px] 132):=⟨_,rfl⟩
   have hy0:wr.heap.size < W5.heap.size:=by rw [hW5];simp
   rw [<- hW5] at hb5 hY0 HBe ⊢;clear hW5 d0 d1 d2 d3 d4 d5 d6;have hX:=za (za hX1 hz1 hb5) (nLt hz1 hb5.size) (bRf W5.heap.size W5).drew;have hY:=za hY0 hy0 (bRf W5.heap.size W5).drew;have hz:w.heap.size < W5.drew.heap.size:=nLt hz1 hb5.size;have hy:wr.heap.size < W5.drew.heap.size:=hy0;have hB:Below W0.heap.size W0 W5.drew:=HBe.drew;have hIq:=(HIt.out.1.mono hb5).mono (bRf W5.heap.size W5).drew;have hobz:ob < W5.drew.heap.size:=nLt hob' hb5.size
   have hP:∀ h0:0 < k,W5.drew.cell? ⟨ob,off+(k - 1) * 7,none⟩=some (.int .i64 (b.gs[k - 1]'(by omega)).no):=fun h0=>by
    have hBq5:=(HBq.out.trans (hb5.mono HBq.out.size)).drew;obtain ⟨ob',off',v0',q0',e',hob'',_,_,dd,_⟩:=HK.out.gs.load hBq5 (k - 1) (by omega)
    cases e'
    exact dd
   have HBe:Hid (Below W0.heap.size W0 W5.drew):=hB;have HSm:Hid (b.gs[k].Small):=HIt.out.2;clear hX1 hz1 hb5 hY0 hy0 HBo hX0 hz0 hob hob' HIt HSn
   by_cases hk0:0 < k
   ·have hk1:(0:Int)<=(k:Int) - 1:=by omega
    have hk2:(k:Int) - 1 < (b.gs.length:Int):=by omega
    have hg:decide (0 < k)=true:=decide_eq_true hk0;have hkw:IntKind.i64.wrap ((k:Int) - 1)=(k:Int) - 1:=by rw [IntKind.wrap_i64];omega
    have hkN:((k:Int) - 1).toNat=k - 1:=by omega
    have hk3:(1:Int)<=(k:Int):=by omega
    have hPk:=hP hk0;clear hP;refine wp_region_held_drew (S:=fun w'=>(∀ j,w'.cell? ⟨w.heap.size,j,none⟩=(#[.int .i64 b.now,.int .i64 b.tick,.int .i64 b.given,.slice a0 b.os.length c0,.slice (some ⟨ob,off,none⟩) b.gs.length c1,.slice a2 b.ls.length c2,.slice a3 b.ps.length c3]:Array Value)[j]?)/\(∀ j,w'.cell? ⟨wr.heap.size,j,none⟩=(#[.int .i64 b.gs[k].no,.string b.gs[k].to,.string b.gs[k].gb,.slice v0 b.gs[k].r.vs.length q0,.string b.gs[k].r.kd,.string b.gs[k].r.tm,.string b.gs[k].r.px]:Array Value)[j]?)/\w'.cell? ⟨ob,off+(k - 1) * 7,none⟩=some (.int .i64 (b.gs[k - 1]'(by omega)).no)) (by kernel_rfl) ⟨hX,hY,hPk⟩ (fun H_=>?_);refine tH 0 rfl H_ ?_;refine tH 1 rfl H_ ?_;refine tH 2 rfl H_ ?_;refine tH 3 rfl H_ ?_
    by_cases t1:(decide (1<=b.gs[k].no) && decide (b.gs[k].no<=b.given))=true
    ·refine cH 4 rfl fun K hK=>?_
     go_simp
     refine (zf t1 (yD _ _ _ _)).mono ?_;rintro e w6 ⟨rfl,rfl⟩
     (try go_wp2_with fail)
     refine hK.out _ _ ?_ (fun H_=>?_)
     ·exact H_
     clear hK K
     (try simp only [Act.put,sA,s0,sS])
     refine tH 5 rfl H_ ?_;refine tH 6 rfl H_ ?_;refine tH 7 rfl H_ ?_;refine tH 8 rfl H_ ?_;refine tH 9 rfl H_ ?_;refine tH 10 rfl H_ ?_;refine tH 11 rfl H_ ?_;refine tH 12 rfl H_ ?_;refine tH 13 rfl H_ ?_;refine tH 14 rfl H_ ?_;refine tH 15 rfl H_ ?_;refine tH 16 rfl H_ ?_;refine tH 17 rfl H_ ?_;refine tH 18 rfl H_ ?_
     by_cases t2:(b.gs[k - 1]'(by omega)).no < b.gs[k].no
     ·have hd2:decide (b.gs[k].no<=(b.gs[k - 1]'(by omega)).no)=false:=decide_eq_false (by omega)
      have HT2:Hid ((b.gs[k - 1]'(by omega)).no < b.gs[k].no):=t2;clear t2;refine tH 19 rfl H_ ?_;refine tH 20 rfl H_ ?_;refine tH 21 rfl H_ ?_;refine tH 22 rfl H_ ?_;refine tH 23 rfl H_ ?_;refine tH 24 rfl H_ ?_
      by_cases t3:Gate.zy b.gs[k].to=true
      ·refine cH 25 rfl fun K hK=>?_
       go_simp
       refine (zf t3 (zh _ _ HSm.out.to)).mono ?_;rintro e w6 ⟨rfl,rfl⟩
       (try go_wp2_with fail)
       refine hK.out _ _ ?_ (fun H_=>?_)
       ·exact H_
       clear hK K
       (try simp only [Act.put,sA,s0,sS])
       refine tH 26 rfl H_ ?_;refine tH 27 rfl H_ ?_;refine tH 28 rfl H_ ?_;refine tH 29 rfl H_ ?_;refine tH 30 rfl H_ ?_
       by_cases t4:b.gs[k].gb.toList.isEmpty=false
       ·have HGe:Hid (b.gs[k].gb.toList.isEmpty=false):=t4
        refine tH 31 rfl H_ ?_;refine tH 32 rfl H_ ?_;refine tH 33 rfl H_ ?_;refine tH 34 rfl H_ ?_
        by_cases t5:Gate.zy b.gs[k].gb=true
        ·refine cH 35 rfl fun K hK=>?_
         go_simp
         refine (zf t5 (zh _ _ HSm.out.gb)).mono ?_;rintro e w6 ⟨rfl,rfl⟩
         (try go_wp2_with fail)
         refine hK.out _ _ ?_ (fun H_=>?_)
         ·exact H_
         clear hK K
         (try simp only [Act.put,sA,s0,sS])
         refine tH 36 rfl H_ ?_;refine tH 37 rfl H_ ?_;refine tH 38 rfl H_ ?_;refine tH 39 rfl H_ ?_;refine tH 40 rfl H_ ?_;refine tH 41 rfl H_ ?_;refine cH 42 rfl fun K hK=>?_
         go_simp
         refine (zcv b.gs[k].r v0 q0 _ HSm.out.r hIq).mono ?_;rintro e w6 ⟨rfl,hb6⟩;have hX6:=za hX hz hb6;have hY6:=za hY hy hb6;have HBe6:Hid (Below W0.heap.size W0 w6):=HBe.out.trans (hb6.mono HBe.out.size);have hP6:=(hb6.cell (p:=⟨ob,off+(k - 1) * 7,none⟩) hobz).trans hPk;clear hb6
         (try go_wp2_with fail)
         refine hK.out _ _ ?_ (fun H_=>?_)
         ·exact ⟨hX6,hY6,hP6⟩
         clear hK K
         (try simp only [Act.put,sA,s0,sS])
         refine tH 43 rfl H_ ?_;refine tH 44 rfl H_ ?_;refine wpAnyH_done (by kernel_rfl) ?_ _
         by_cases t6:Gate.z8 b.gs[k].r=true
         ·have HG1:Hid (Gate.yB b.given b.gs[k]=true):=by unfold Hid Gate.yB Gate.within;rw [t1,t3,HGe.out,t5,t6];rfl
          have HC:=HYes.out HG1.out (Gate.zfK hlt (fun _=>(Gate.zi8 _ _).2 HT2.out));have HD:Hid (_/\_):=HC;rw [t6];clear t6 HC;go_wp2_with fail
          exact ⟨⟨k+1,by omega,by go_num,HD.out.1,HD.out.2,HBe6.out⟩,by simp [intOf];omega⟩
         ·have HF:Hid (Gate.yj b=false):=HNo.out (by unfold Gate.yB Gate.within;rw [t1,t3,HGe.out,t5,bFi t6];rfl)
          rw [bFi t6];clear t6;go_wp2_with fail
          go_ret;exact ⟨ze HF.out.symm,HBw.out _ HBe6.out⟩
        ·refine cH 35 rfl fun K hK=>?_
         go_simp
         refine (zf (bFi t5) (zh _ _ HSm.out.gb)).mono ?_;rintro e w6 ⟨rfl,rfl⟩
         (try go_wp2_with fail)
         refine hK.out _ _ ?_ (fun H_=>?_)
         ·exact H_
         clear hK K
         (try simp only [Act.put,sA,s0,sS])
         refine tH 36 rfl H_ ?_;refine tH 37 rfl H_ ?_;refine tH 38 rfl H_ ?_;refine tH 39 rfl H_ ?_;refine kH 40 rfl H_ ?_;refine kH 41 rfl H_ ?_;refine kH 42 rfl H_ ?_;refine kH 43 rfl H_ ?_;refine tH 44 rfl H_ ?_;refine wpAnyH_done (by kernel_rfl) ?_ _;have HF:Hid (Gate.yj b=false):=HNo.out (by unfold Gate.yB Gate.within;rw [t1,t3,HGe.out,bFi t5];rfl);go_wp2_with fail
         go_ret;exact ⟨ze HF.out.symm,HBw.out _ HBe.out⟩
       ·have t4:b.gs[k].gb.toList.isEmpty=true:=by simpa using t4
        have HGe:Hid (b.gs[k].gb.toList.isEmpty=true):=t4;refine tH 31 rfl H_ ?_;refine tH 32 rfl H_ ?_;refine kH 33 rfl H_ ?_;refine kH 34 rfl H_ ?_;refine kH 35 rfl H_ ?_;refine kH 36 rfl H_ ?_;refine tH 37 rfl H_ ?_;refine tH 38 rfl H_ ?_;refine tH 39 rfl H_ ?_;refine tH 40 rfl H_ ?_;refine tH 41 rfl H_ ?_;refine cH 42 rfl fun K hK=>?_
        go_simp
        refine (zcv b.gs[k].r v0 q0 _ HSm.out.r hIq).mono ?_;rintro e w6 ⟨rfl,hb6⟩;have hX6:=za hX hz hb6;have hY6:=za hY hy hb6;have HBe6:Hid (Below W0.heap.size W0 w6):=HBe.out.trans (hb6.mono HBe.out.size);have hP6:=(hb6.cell (p:=⟨ob,off+(k - 1) * 7,none⟩) hobz).trans hPk;clear hb6
        (try go_wp2_with fail)
        refine hK.out _ _ ?_ (fun H_=>?_)
        ·exact ⟨hX6,hY6,hP6⟩
        clear hK K
        (try simp only [Act.put,sA,s0,sS])
        refine tH 43 rfl H_ ?_;refine tH 44 rfl H_ ?_;refine wpAnyH_done (by kernel_rfl) ?_ _
        by_cases t6:Gate.z8 b.gs[k].r=true
        ·have HG1:Hid (Gate.yB b.given b.gs[k]=true):=by unfold Hid Gate.yB Gate.within;rw [t1,t3,HGe.out,t6];rfl
         have HC:=HYes.out HG1.out (Gate.zfK hlt (fun _=>(Gate.zi8 _ _).2 HT2.out));have HD:Hid (_/\_):=HC;rw [t6];clear t6 HC;go_wp2_with fail
         exact ⟨⟨k+1,by omega,by go_num,HD.out.1,HD.out.2,HBe6.out⟩,by simp [intOf];omega⟩
        ·have HF:Hid (Gate.yj b=false):=HNo.out (by unfold Gate.yB Gate.within;rw [t1,t3,HGe.out,bFi t6];rfl)
         rw [bFi t6];clear t6;go_wp2_with fail
         go_ret;exact ⟨ze HF.out.symm,HBw.out _ HBe6.out⟩
      ·refine cH 25 rfl fun K hK=>?_
       go_simp
       refine (zf (bFi t3) (zh _ _ HSm.out.to)).mono ?_;rintro e w6 ⟨rfl,rfl⟩
       (try go_wp2_with fail)
       refine hK.out _ _ ?_ (fun H_=>?_)
       ·exact H_
       clear hK K
       (try simp only [Act.put,sA,s0,sS])
       refine tH 26 rfl H_ ?_;refine tH 27 rfl H_ ?_;refine tH 28 rfl H_ ?_;refine kH 29 rfl H_ ?_;refine kH 30 rfl H_ ?_;refine kH 31 rfl H_ ?_;refine kH 32 rfl H_ ?_;refine kH 33 rfl H_ ?_;refine kH 34 rfl H_ ?_;refine kH 35 rfl H_ ?_;refine kH 36 rfl H_ ?_;refine kH 37 rfl H_ ?_;refine tH 38 rfl H_ ?_;refine tH 39 rfl H_ ?_;refine kH 40 rfl H_ ?_;refine kH 41 rfl H_ ?_;refine kH 42 rfl H_ ?_;refine kH 43 rfl H_ ?_;refine tH 44 rfl H_ ?_;refine wpAnyH_done (by kernel_rfl) ?_ _;have HF:Hid (Gate.yj b=false):=HNo.out (by unfold Gate.yB Gate.within;rw [t1,bFi t3];rfl);go_wp2_with fail
       go_ret;exact ⟨ze HF.out.symm,HBw.out _ HBe.out⟩
     ·have hd2:decide (b.gs[k].no<=(b.gs[k - 1]'(by omega)).no)=true:=decide_eq_true (by omega)
      have HT2:Hid (¬ (b.gs[k - 1]'(by omega)).no < b.gs[k].no):=t2;clear t2;refine tH 19 rfl H_ ?_;refine tH 20 rfl H_ ?_;refine tH 21 rfl H_ ?_;refine tH 22 rfl H_ ?_;refine kH 23 rfl H_ ?_;refine kH 24 rfl H_ ?_;refine kH 25 rfl H_ ?_;refine kH 26 rfl H_ ?_;refine tH 27 rfl H_ ?_;refine tH 28 rfl H_ ?_;refine kH 29 rfl H_ ?_;refine kH 30 rfl H_ ?_;refine kH 31 rfl H_ ?_;refine kH 32 rfl H_ ?_;refine kH 33 rfl H_ ?_;refine kH 34 rfl H_ ?_;refine kH 35 rfl H_ ?_;refine kH 36 rfl H_ ?_;refine kH 37 rfl H_ ?_;refine tH 38 rfl H_ ?_;refine tH 39 rfl H_ ?_;refine kH 40 rfl H_ ?_;refine kH 41 rfl H_ ?_;refine kH 42 rfl H_ ?_;refine kH 43 rfl H_ ?_;refine tH 44 rfl H_ ?_;refine wpAnyH_done (by kernel_rfl) ?_ _;have HF:Hid (Gate.yj b=false):=HNa.out (by omega) (Int.not_lt.1 (fun h=>absurd ((Gate.zi8 _ _).1 h) (by have:=HT2.out;omega)));go_wp2_with fail
      go_ret;exact ⟨ze HF.out.symm,HBw.out _ HBe.out⟩
    ·refine cH 4 rfl fun K hK=>?_
     go_simp
     refine (zf (bFi t1) (yD _ _ _ _)).mono ?_;rintro e w6 ⟨rfl,rfl⟩
     (try go_wp2_with fail)
     refine hK.out _ _ ?_ (fun H_=>?_)
     ·exact H_
     clear hK K
     (try simp only [Act.put,sA,s0,sS])
     refine tH 5 rfl H_ ?_;refine tH 6 rfl H_ ?_;refine kH 7 rfl H_ ?_;refine kH 8 rfl H_ ?_;refine kH 9 rfl H_ ?_;refine kH 10 rfl H_ ?_;refine kH 11 rfl H_ ?_;refine kH 12 rfl H_ ?_;refine kH 13 rfl H_ ?_;refine kH 14 rfl H_ ?_;refine kH 15 rfl H_ ?_;refine kH 16 rfl H_ ?_;refine kH 17 rfl H_ ?_;refine kH 18 rfl H_ ?_;refine kH 19 rfl H_ ?_;refine kH 20 rfl H_ ?_;refine tH 21 rfl H_ ?_;refine tH 22 rfl H_ ?_;refine kH 23 rfl H_ ?_;refine kH 24 rfl H_ ?_;refine kH 25 rfl H_ ?_;refine kH 26 rfl H_ ?_;refine tH 27 rfl H_ ?_;refine tH 28 rfl H_ ?_;refine kH 29 rfl H_ ?_;refine kH 30 rfl H_ ?_;refine kH 31 rfl H_ ?_;refine kH 32 rfl H_ ?_;refine kH 33 rfl H_ ?_;refine kH 34 rfl H_ ?_;refine kH 35 rfl H_ ?_;refine kH 36 rfl H_ ?_;refine kH 37 rfl H_ ?_;refine tH 38 rfl H_ ?_;refine tH 39 rfl H_ ?_;refine kH 40 rfl H_ ?_;refine kH 41 rfl H_ ?_;refine kH 42 rfl H_ ?_;refine kH 43 rfl H_ ?_;refine tH 44 rfl H_ ?_;refine wpAnyH_done (by kernel_rfl) ?_ _;have HF:Hid (Gate.yj b=false):=HNo.out (by unfold Gate.yB Gate.within;rw [bFi t1];rfl);go_wp2_with fail
     go_ret;exact ⟨ze HF.out.symm,HBw.out _ HBe.out⟩
   ·have hg:decide (0 < k)=false:=decide_eq_false hk0
    clear hP;refine wp_region_held_drew (S:=fun w'=>(∀ j,w'.cell? ⟨w.heap.size,j,none⟩=(#[.int .i64 b.now,.int .i64 b.tick,.int .i64 b.given,.slice a0 b.os.length c0,.slice (some ⟨ob,off,none⟩) b.gs.length c1,.slice a2 b.ls.length c2,.slice a3 b.ps.length c3]:Array Value)[j]?)/\(∀ j,w'.cell? ⟨wr.heap.size,j,none⟩=(#[.int .i64 b.gs[k].no,.string b.gs[k].to,.string b.gs[k].gb,.slice v0 b.gs[k].r.vs.length q0,.string b.gs[k].r.kd,.string b.gs[k].r.tm,.string b.gs[k].r.px]:Array Value)[j]?) ) (by kernel_rfl) ⟨hX,hY⟩ (fun H_=>?_);refine tH 0 rfl H_ ?_;refine tH 1 rfl H_ ?_;refine tH 2 rfl H_ ?_;refine tH 3 rfl H_ ?_
    by_cases t1:(decide (1<=b.gs[k].no) && decide (b.gs[k].no<=b.given))=true
    ·refine cH 4 rfl fun K hK=>?_
     go_simp
     refine (zf t1 (yD _ _ _ _)).mono ?_;rintro e w6 ⟨rfl,rfl⟩
     (try go_wp2_with fail)
     refine hK.out _ _ ?_ (fun H_=>?_)
     ·exact H_
     clear hK K
     (try simp only [Act.put,sA,s0,sS])
     refine tH 5 rfl H_ ?_;refine tH 6 rfl H_ ?_;refine tH 7 rfl H_ ?_;refine tH 8 rfl H_ ?_;refine tH 9 rfl H_ ?_;refine kH 10 rfl H_ ?_;refine kH 11 rfl H_ ?_;refine kH 12 rfl H_ ?_;refine kH 13 rfl H_ ?_;refine kH 14 rfl H_ ?_;refine kH 15 rfl H_ ?_;refine kH 16 rfl H_ ?_;refine kH 17 rfl H_ ?_;refine kH 18 rfl H_ ?_;refine kH 19 rfl H_ ?_;refine tH 20 rfl H_ ?_;refine tH 21 rfl H_ ?_;refine tH 22 rfl H_ ?_;refine tH 23 rfl H_ ?_;refine tH 24 rfl H_ ?_
     by_cases t3:Gate.zy b.gs[k].to=true
     ·refine cH 25 rfl fun K hK=>?_
      go_simp
      refine (zf t3 (zh _ _ HSm.out.to)).mono ?_;rintro e w6 ⟨rfl,rfl⟩
      (try go_wp2_with fail)
      refine hK.out _ _ ?_ (fun H_=>?_)
      ·exact H_
      clear hK K
      (try simp only [Act.put,sA,s0,sS])
      refine tH 26 rfl H_ ?_;refine tH 27 rfl H_ ?_;refine tH 28 rfl H_ ?_;refine tH 29 rfl H_ ?_;refine tH 30 rfl H_ ?_
      by_cases t4:b.gs[k].gb.toList.isEmpty=false
      ·have HGe:Hid (b.gs[k].gb.toList.isEmpty=false):=t4
       refine tH 31 rfl H_ ?_;refine tH 32 rfl H_ ?_;refine tH 33 rfl H_ ?_;refine tH 34 rfl H_ ?_
       by_cases t5:Gate.zy b.gs[k].gb=true
       ·refine cH 35 rfl fun K hK=>?_
        go_simp
        refine (zf t5 (zh _ _ HSm.out.gb)).mono ?_;rintro e w6 ⟨rfl,rfl⟩
        (try go_wp2_with fail)
        refine hK.out _ _ ?_ (fun H_=>?_)
        ·exact H_
        clear hK K
        (try simp only [Act.put,sA,s0,sS])
        refine tH 36 rfl H_ ?_;refine tH 37 rfl H_ ?_;refine tH 38 rfl H_ ?_;refine tH 39 rfl H_ ?_;refine tH 40 rfl H_ ?_;refine tH 41 rfl H_ ?_;refine cH 42 rfl fun K hK=>?_
        go_simp
        refine (zcv b.gs[k].r v0 q0 _ HSm.out.r hIq).mono ?_;rintro e w6 ⟨rfl,hb6⟩;have hX6:=za hX hz hb6;have hY6:=za hY hy hb6;have HBe6:Hid (Below W0.heap.size W0 w6):=HBe.out.trans (hb6.mono HBe.out.size);clear hb6
        (try go_wp2_with fail)
        refine hK.out _ _ ?_ (fun H_=>?_)
        ·exact ⟨hX6,hY6⟩
        clear hK K
        (try simp only [Act.put,sA,s0,sS])
        refine tH 43 rfl H_ ?_;refine tH 44 rfl H_ ?_;refine wpAnyH_done (by kernel_rfl) ?_ _
        by_cases t6:Gate.z8 b.gs[k].r=true
        ·have HG1:Hid (Gate.yB b.given b.gs[k]=true):=by unfold Hid Gate.yB Gate.within;rw [t1,t3,HGe.out,t5,t6];rfl
         have HC:=HYes.out HG1.out (fun m e=>by omega);have HD:Hid (_/\_):=HC;rw [t6];clear t6 HC;go_wp2_with fail
         exact ⟨⟨k+1,by omega,by go_num,HD.out.1,HD.out.2,HBe6.out⟩,by simp [intOf];omega⟩
        ·have HF:Hid (Gate.yj b=false):=HNo.out (by unfold Gate.yB Gate.within;rw [t1,t3,HGe.out,t5,bFi t6];rfl)
         rw [bFi t6];clear t6;go_wp2_with fail
         go_ret;exact ⟨ze HF.out.symm,HBw.out _ HBe6.out⟩
       ·refine cH 35 rfl fun K hK=>?_
        go_simp
        refine (zf (bFi t5) (zh _ _ HSm.out.gb)).mono ?_;rintro e w6 ⟨rfl,rfl⟩
        (try go_wp2_with fail)
        refine hK.out _ _ ?_ (fun H_=>?_)
        ·exact H_
        clear hK K
        (try simp only [Act.put,sA,s0,sS])
        refine tH 36 rfl H_ ?_;refine tH 37 rfl H_ ?_;refine tH 38 rfl H_ ?_;refine tH 39 rfl H_ ?_;refine kH 40 rfl H_ ?_;refine kH 41 rfl H_ ?_;refine kH 42 rfl H_ ?_;refine kH 43 rfl H_ ?_;refine tH 44 rfl H_ ?_;refine wpAnyH_done (by kernel_rfl) ?_ _;have HF:Hid (Gate.yj b=false):=HNo.out (by unfold Gate.yB Gate.within;rw [t1,t3,HGe.out,bFi t5];rfl);go_wp2_with fail
        go_ret;exact ⟨ze HF.out.symm,HBw.out _ HBe.out⟩
      ·have t4:b.gs[k].gb.toList.isEmpty=true:=by simpa using t4
       have HGe:Hid (b.gs[k].gb.toList.isEmpty=true):=t4;refine tH 31 rfl H_ ?_;refine tH 32 rfl H_ ?_;refine kH 33 rfl H_ ?_;refine kH 34 rfl H_ ?_;refine kH 35 rfl H_ ?_;refine kH 36 rfl H_ ?_;refine tH 37 rfl H_ ?_;refine tH 38 rfl H_ ?_;refine tH 39 rfl H_ ?_;refine tH 40 rfl H_ ?_;refine tH 41 rfl H_ ?_;refine cH 42 rfl fun K hK=>?_
       go_simp
       refine (zcv b.gs[k].r v0 q0 _ HSm.out.r hIq).mono ?_;rintro e w6 ⟨rfl,hb6⟩;have hX6:=za hX hz hb6;have hY6:=za hY hy hb6;have HBe6:Hid (Below W0.heap.size W0 w6):=HBe.out.trans (hb6.mono HBe.out.size);clear hb6
       (try go_wp2_with fail)
       refine hK.out _ _ ?_ (fun H_=>?_)
       ·exact ⟨hX6,hY6⟩
       clear hK K
       (try simp only [Act.put,sA,s0,sS])
       refine tH 43 rfl H_ ?_;refine tH 44 rfl H_ ?_;refine wpAnyH_done (by kernel_rfl) ?_ _
       by_cases t6:Gate.z8 b.gs[k].r=true
       ·have HG1:Hid (Gate.yB b.given b.gs[k]=true):=by unfold Hid Gate.yB Gate.within;rw [t1,t3,HGe.out,t6];rfl
        have HC:=HYes.out HG1.out (fun m e=>by omega);have HD:Hid (_/\_):=HC;rw [t6];clear t6 HC;go_wp2_with fail
        exact ⟨⟨k+1,by omega,by go_num,HD.out.1,HD.out.2,HBe6.out⟩,by simp [intOf];omega⟩
       ·have HF:Hid (Gate.yj b=false):=HNo.out (by unfold Gate.yB Gate.within;rw [t1,t3,HGe.out,bFi t6];rfl)
        rw [bFi t6];clear t6;go_wp2_with fail
        go_ret;exact ⟨ze HF.out.symm,HBw.out _ HBe6.out⟩
     ·refine cH 25 rfl fun K hK=>?_
      go_simp
      refine (zf (bFi t3) (zh _ _ HSm.out.to)).mono ?_;rintro e w6 ⟨rfl,rfl⟩
      (try go_wp2_with fail)
      refine hK.out _ _ ?_ (fun H_=>?_)
      ·exact H_
      clear hK K
      (try simp only [Act.put,sA,s0,sS])
      refine tH 26 rfl H_ ?_;refine tH 27 rfl H_ ?_;refine tH 28 rfl H_ ?_;refine kH 29 rfl H_ ?_;refine kH 30 rfl H_ ?_;refine kH 31 rfl H_ ?_;refine kH 32 rfl H_ ?_;refine kH 33 rfl H_ ?_;refine kH 34 rfl H_ ?_;refine kH 35 rfl H_ ?_;refine kH 36 rfl H_ ?_;refine kH 37 rfl H_ ?_;refine tH 38 rfl H_ ?_;refine tH 39 rfl H_ ?_;refine kH 40 rfl H_ ?_;refine kH 41 rfl H_ ?_;refine kH 42 rfl H_ ?_;refine kH 43 rfl H_ ?_;refine tH 44 rfl H_ ?_;refine wpAnyH_done (by kernel_rfl) ?_ _;have HF:Hid (Gate.yj b=false):=HNo.out (by unfold Gate.yB Gate.within;rw [t1,bFi t3];rfl);go_wp2_with fail
      go_ret;exact ⟨ze HF.out.symm,HBw.out _ HBe.out⟩
    ·refine cH 4 rfl fun K hK=>?_
     go_simp
     refine (zf (bFi t1) (yD _ _ _ _)).mono ?_;rintro e w6 ⟨rfl,rfl⟩
     (try go_wp2_with fail)
     refine hK.out _ _ ?_ (fun H_=>?_)
     ·exact H_
     clear hK K
     (try simp only [Act.put,sA,s0,sS])
     refine tH 5 rfl H_ ?_;refine tH 6 rfl H_ ?_;refine kH 7 rfl H_ ?_;refine kH 8 rfl H_ ?_;refine kH 9 rfl H_ ?_;refine kH 10 rfl H_ ?_;refine kH 11 rfl H_ ?_;refine kH 12 rfl H_ ?_;refine kH 13 rfl H_ ?_;refine kH 14 rfl H_ ?_;refine kH 15 rfl H_ ?_;refine kH 16 rfl H_ ?_;refine kH 17 rfl H_ ?_;refine kH 18 rfl H_ ?_;refine kH 19 rfl H_ ?_;refine kH 20 rfl H_ ?_;refine tH 21 rfl H_ ?_;refine tH 22 rfl H_ ?_;refine kH 23 rfl H_ ?_;refine kH 24 rfl H_ ?_;refine kH 25 rfl H_ ?_;refine kH 26 rfl H_ ?_;refine tH 27 rfl H_ ?_;refine tH 28 rfl H_ ?_;refine kH 29 rfl H_ ?_;refine kH 30 rfl H_ ?_;refine kH 31 rfl H_ ?_;refine kH 32 rfl H_ ?_;refine kH 33 rfl H_ ?_;refine kH 34 rfl H_ ?_;refine kH 35 rfl H_ ?_;refine kH 36 rfl H_ ?_;refine kH 37 rfl H_ ?_;refine tH 38 rfl H_ ?_;refine tH 39 rfl H_ ?_;refine kH 40 rfl H_ ?_;refine kH 41 rfl H_ ?_;refine kH 42 rfl H_ ?_;refine kH 43 rfl H_ ?_;refine tH 44 rfl H_ ?_;refine wpAnyH_done (by kernel_rfl) ?_ _;have HF:Hid (Gate.yj b=false):=HNo.out (by unfold Gate.yB Gate.within;rw [bFi t1];rfl);go_wp2_with fail
     go_ret;exact ⟨ze HF.out.symm,HBw.out _ HBe.out⟩
  ·have e:k=b.gs.length:=by omega
   subst e
   have HE:Hid (Gate.yj b=true):=by
    unfold Hid Gate.yj;rw [Gate.zgd HQ.out.2.1 (Nat.le_refl _),decide_eq_true HLN.out]
    have:=HQ.out.1
    rw [tOl (Nat.le_refl _)] at this;rw [this];rfl
   clear HQ hlt hk hX0;go_wp2_with fail
   go_ret;exact ⟨ze HE.out.symm,HBq.out⟩
theorem zbt (l:Lw) (b:Bk):Gate.jN l b=(Gate.zbN l && ((Gate.within b.now 0 1000000 && (Gate.within b.tick 0 1000000 && Gate.within b.given 0 b.now)) && (Gate.zH l b && (Gate.yj b && Gate.qy l b)))):=rfl
theorem zeD (n lo hi:Int) (w:World):Calls Tryz.prog 59 #[.int .i64 n,.int .i64 lo,.int .i64 hi] w fun e w'=>e = .returned (.bool (Gate.within n lo hi))/\w'=w:=yD n lo hi w
theorem zo1 {n lo hi:Int} (h:Gate.within n lo hi=true):lo<=n/\n<=hi:=by unfold Gate.within at h;simpa using h
set_option maxRecDepth 20000 in
theorem ziG (l:Lw) (la lb lc:Option Addr) (lca lcb lcc:Nat) (b:Bk) (a0 a1 a2 a3:Option Addr) (c0 c1 c2 c3:Nat) (w:World) (hl:y9 w l la lb lc) (hb:y7 w b a0 a1 a2 a3) (hh:zbT w a0 b.os) (hbf:b.Few) (hz:qF b.os<=1048576) :
 Calls Tryz.prog 24 #[.agg (l.cells la lb lc lca lcb lcc),.agg (b.cells a0 a1 a2 a3 c0 c1 c2 c3)] w fun e w'=>e = .returned (.bool (Gate.jN l b))/\Below w.heap.size w w':=by
 have HK:Hid (y7 w b a0 a1 a2 a3):=hb;have HL:Hid (y9 w l la lb lc):=hl;have HH:Hid (zbT w a0 b.os):=hh;have HF:Hid (b.Few/\qF b.os<=1048576):=⟨hbf,hz⟩
 clear hb hl hh hbf hz;unfold Lw.cells Bk.cells;go_enter Tryz.func24,Tryz.ntmps24;go_wp2_with fail
 obtain ⟨hL0,hX0⟩:=qw w #[.slice la l.ss.length lca,.slice lb l.ms.length lcb,.slice lc l.ts.length lcc] #[.int .i64 b.now,.int .i64 b.tick,.int .i64 b.given,.slice a0 b.os.length c0,.slice a1 b.gs.length c1,.slice a2 b.ls.length c2,.slice a3 b.ps.length c3] 41 48;have HBi:Hid (Below w.heap.size w ((w.alloc (.cells #[.slice la l.ss.length lca,.slice lb l.ms.length lcb,.slice lc l.ts.length lcc] 41)).alloc (.cells #[.int .i64 b.now,.int .i64 b.tick,.int .i64 b.given,.slice a0 b.os.length c0,.slice a1 b.gs.length c1,.slice a2 b.ls.length c2,.slice a3 b.ps.length c3] 48))):=zA w _ _;obtain ⟨W0,hW0⟩:∃ W0,W0=(w.alloc (.cells #[.slice la l.ss.length lca,.slice lb l.ms.length lcb,.slice lc l.ts.length lcc] 41)).alloc (.cells #[.int .i64 b.now,.int .i64 b.tick,.int .i64 b.given,.slice a0 b.os.length c0,.slice a1 b.gs.length c1,.slice a2 b.ls.length c2,.slice a3 b.ps.length c3] 48):=⟨_,rfl⟩
 have hz0:w.heap.size+1 < W0.heap.size:=by rw [hW0];simp
 rw [<- hW0] at HBi hX0 hL0 ⊢;clear hW0;refine (zkm l la lb lc lca lcb lcc _ (HL.out.mono HBi.out)).mono ?_;rintro e w1 ⟨rfl,hb0⟩;have hX1:=za hX0 hz0 hb0;have hL1:=za hL0 (nSl hz0) hb0;have hz1:=nLt hz0 hb0.size;have HBi:Hid (Below w.heap.size w w1):=HBi.out.trans (hb0.mono HBi.out.size);clear hb0 hX0 hL0 hz0;have hy1:=nSl hz1
 by_cases t:Gate.zbN l=true
 rotate_left
 ·have HN:Hid (Gate.jN l b=false):=by rw [Hid,zbt,bFi t];simp
  rw [bFi t];clear t;go_wp2_with fail
  go_ret;exact ⟨ze HN.out.symm,HBi.out⟩
 have HT0:Hid (Gate.zbN l=true):=t;rw [t];clear t;go_wp2_with fail
 have HM:Hid (Gate.yt l.ss l.ms=true):=by have t:=HT0.out;unfold Gate.zbN at t;simp only [Bool.and_eq_true] at t;exact t.1
 refine (zeD b.now (0) (1000000) _).mono ?_;rintro e w2 ⟨rfl,rfl⟩;have hX2:=hX1;have hL2:=hL1;have hz2:=hz1;clear hX1 hL1 hz1;have hy2:=nSl hz2;have hcv:Gate.within b.now 0 1000000=Gate.within b.now 0 1000000:=rfl;clear hcv
 by_cases t:Gate.within b.now 0 1000000=true
 rotate_left
 ·have HN:Hid (Gate.jN l b=false):=by rw [Hid,zbt,HT0.out,bFi t];simp
  rw [bFi t];clear t;go_wp2_with fail
  go_ret;exact ⟨ze HN.out.symm,HBi.out⟩
 have HT1:Hid (Gate.within b.now 0 1000000=true):=t;rw [t];clear t;go_wp2_with fail
 refine (zeD b.tick (0) (1000000) _).mono ?_;rintro e w3 ⟨rfl,rfl⟩;have hX3:=hX2;have hL3:=hL2;have hz3:=hz2;clear hX2 hL2 hz2;have hy3:=nSl hz3;have hcv:Gate.within b.tick 0 1000000=Gate.within b.tick 0 1000000:=rfl;clear hcv
 by_cases t:Gate.within b.tick 0 1000000=true
 rotate_left
 ·have HN:Hid (Gate.jN l b=false):=by rw [Hid,zbt,HT0.out,HT1.out,bFi t];simp
  rw [bFi t];clear t;go_wp2_with fail
  go_ret;exact ⟨ze HN.out.symm,HBi.out⟩
 have HT2:Hid (Gate.within b.tick 0 1000000=true):=t;rw [t];clear t;go_wp2_with fail
 refine (zeD b.given (0) (b.now) _).mono ?_;rintro e w4 ⟨rfl,rfl⟩;have hX4:=hX3;have hL4:=hL3;have hz4:=hz3;clear hX3 hL3 hz3;have hy4:=nSl hz4;have hcv:Gate.within b.given 0 b.now=Gate.within b.given 0 b.now:=rfl;clear hcv
 by_cases t:Gate.within b.given 0 b.now=true
 rotate_left
 ·have HN:Hid (Gate.jN l b=false):=by rw [Hid,zbt,HT0.out,HT1.out,HT2.out,bFi t];simp
  rw [bFi t];clear t;go_wp2_with fail
  go_ret;exact ⟨ze HN.out.symm,HBi.out⟩
 have HT3:Hid (Gate.within b.given 0 b.now=true):=t;rw [t];clear t;go_wp2_with fail
 refine (zhY l la lb lc lca lcb lcc b a0 a1 a2 a3 c0 c1 c2 c3 _ (HL.out.mono HBi.out) (HK.out.mono HBi.out) (HH.out.mono HBi.out) HM.out HF.out.1.os.2).mono ?_;rintro e w5 ⟨rfl,hb4⟩;have hX5:=za hX4 hz4 hb4;have hL5:=za hL4 (nSl hz4) hb4;have hz5:=nLt hz4 hb4.size;have HBi:Hid (Below w.heap.size w w5):=HBi.out.trans (hb4.mono HBi.out.size);clear hb4 hX4 hL4 hz4;have hy5:=nSl hz5
 by_cases t:Gate.zH l b=true
 rotate_left
 ·have HN:Hid (Gate.jN l b=false):=by rw [Hid,zbt,HT0.out,HT1.out,HT2.out,HT3.out,bFi t];simp
  rw [bFi t];clear t;go_wp2_with fail
  go_ret;exact ⟨ze HN.out.symm,HBi.out⟩
 have HT4:Hid (Gate.zH l b=true):=t;rw [t];clear t;go_wp2_with fail
 refine (zjJ b a0 a1 a2 a3 c0 c1 c2 c3 _ (HK.out.mono HBi.out)).mono ?_;rintro e w6 ⟨rfl,hb5⟩;have hX6:=za hX5 hz5 hb5;have hL6:=za hL5 (nSl hz5) hb5;have hz6:=nLt hz5 hb5.size;have HBi:Hid (Below w.heap.size w w6):=HBi.out.trans (hb5.mono HBi.out.size);clear hb5 hX5 hL5 hz5;have hy6:=nSl hz6
 by_cases t:Gate.yj b=true
 rotate_left
 ·have HN:Hid (Gate.jN l b=false):=by rw [Hid,zbt,HT0.out,HT1.out,HT2.out,HT3.out,HT4.out,bFi t];simp
  rw [bFi t];clear t;go_wp2_with fail
  go_ret;exact ⟨ze HN.out.symm,HBi.out⟩
 have HT5:Hid (Gate.yj b=true):=t;rw [t];clear t;go_wp2_with fail
 refine (zk5 l la lb lc lca lcb lcc b a0 a1 a2 a3 c0 c1 c2 c3 _ (HL.out.mono HBi.out) (HK.out.mono HBi.out) (zo1 HT2.out) HF.out.2).mono ?_;rintro e w7 ⟨rfl,hb6⟩;have hX7:=za hX6 hz6 hb6;have hL7:=za hL6 (nSl hz6) hb6;have hz7:=nLt hz6 hb6.size;have HBi:Hid (Below w.heap.size w w7):=HBi.out.trans (hb6.mono HBi.out.size);clear hb6 hX6 hL6 hz6;have hy7:=nSl hz7;have HN:Hid (Gate.qy l b=Gate.jN l b):=by rw [Hid,zbt,HT0.out,HT1.out,HT2.out,HT3.out,HT4.out,HT5.out];rfl
 rw [HN.out];go_wp2_with fail
 go_ret;exact ⟨rfl,HBi.out⟩
end Go.Proofs.YtghnakljnhnenaaGreat
