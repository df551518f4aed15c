import Derived.Test.YtihdafafigceiaaGreatM35
import Derived.Test.YtihdafafigceiaaGreatM36
import Derived.Test.YtihdafafigceiaaGreatM13
import Derived.Test.YtihdafafigceiaaGreatM07
import Derived.Test.YtihdafafigceiaaGreatM08
import Derived.Test.YtihdafafigceiaaGreatM09
import Derived.Test.YtihdafafigceiaaGreatM30
set_option maxHeartbeats 40000000
namespace Go.Proofs.YtihdafafigceiaaGreat
open Go.RowKit
theorem s0 {α:Type} (x y:α) (l:List α):(x :: l).set 0 y=y :: l:=rfl
namespace Gate
noncomputable def zaU (l:Lw) (b:Bk):Bool:=zas b && (zN l b && (yj b && (yN l.ts b && (yS b && zcy l b))))
noncomputable def j4 (l:Lw) (b:Bk):Bool:=zbB l && zaU l b
end Gate
theorem zcZ {ts:List Tm} {b:Bk} (h:Gate.yN ts b=true):Gate.rising Gate.qA b.ls/\b.ls.length<=10/\∀ i (hi:i < b.ls.length),Gate.yK ts b.ls[i]=true:=by
 unfold Gate.yN at h
 simp only [Bool.and_eq_true,decide_eq_true_eq] at h
 exact ⟨(Gate.zlp _ _).1 h.2.1,h.1,fun i hi=>List.all_eq_true.1 h.2.2 _ (List.getElem_mem _)⟩
theorem zkL {b:Bk} (h:Gate.zas b=true):0<=b.tick/\b.tick<=1000000:=by
 unfold Gate.zas Gate.within at h
 simp only [Bool.and_eq_true,decide_eq_true_eq] at h
 exact h.2.1
theorem zky {b:Bk} (h:Gate.yS b=true):b.ps.length<=24/\∀ i (hi:i < b.ps.length),Gate.yE b.ls b.tick b.ps[i]=true:=by
 unfold Gate.yS at h
 simp only [Bool.and_eq_true,decide_eq_true_eq] at h
 exact ⟨h.1,fun i hi=>List.all_eq_true.1 h.2.2 _ (List.getElem_mem _)⟩
theorem zmq {b:Bk} (h:Gate.rising Gate.qA b.ls):∀ i j (hi:i < b.ls.length) (hj:j < b.ls.length),b.ls[i].tm=b.ls[j].tm->b.ls[i].rs=b.ls[j].rs->i=j:=by
 intro i j hi hj e1 e2
 have hz:∀ i j (hi:i < b.ls.length) (hj:j < b.ls.length),i < j->b.ls[i].tm=b.ls[j].tm->b.ls[i].rs=b.ls[j].rs->False:=by
  intro i j hi hj hlt e1 e2
  have h1:=Gate.zda (fun a b c=>Gate.zbi (a:=a) (b:=b) (c:=c)) h j hj i hlt
  have h2:Gate.qA b.ls[i] b.ls[j]=0:=by unfold Gate.qA;rw [Gate.zgy];exact ⟨e1,e2⟩
  omega
 rcases Nat.lt_trichotomy i j with h1 | h1 | h1
 ·exact (hz i j hi hj h1 e1 e2).elim
 ·exact h1
 ·exact (hz j i hj hi h1 e1.symm e2.symm).elim
theorem zox {ts:List Tm} {b:Bk} (h:Gate.yN ts b=true) (h':Gate.yS b=true) (hz:qD b.os<=1048576):zfS b:=by
 obtain ⟨h1,h2,h3⟩:=zcZ h
 obtain ⟨p1,p2⟩:=zky h'
 refine ⟨zmq h1,fun k hk=>?_,fun i hi=>?_,fun i hi=>?_,by omega,by omega,hz⟩
 ·have h4:=p2 k hk
  unfold Gate.yE Gate.jq at h4
  simp only [Bool.and_eq_true] at h4
  obtain ⟨g,hg,h5⟩:=List.any_eq_true.1 h4.1
  obtain ⟨j,hj,rfl⟩:=List.mem_iff_getElem.1 hg
  simp only [Bool.and_eq_true,decide_eq_true_eq] at h5
  exact ⟨j,hj,h5.1,h5.2⟩
 ·have h4:=h3 i hi
  unfold Gate.yK Gate.jE at h4
  simp only [Bool.and_eq_true,decide_eq_true_eq] at h4
  omega
 ·have h4:=p2 i hi
  unfold Gate.yE Gate.within at h4
  simp only [Bool.and_eq_true,decide_eq_true_eq] at h4
  omega
set_option maxRecDepth 20000 in
theorem zmG (l:Lw) (la lb lc:Option Addr) (lca lcb lcc:Nat) (b:Bk) (a0 a1 a2 a3:Option Addr) (c0 c1 c2 c3:Nat) (w:World) (hb:qw w b a0 a1 a2 a3) (hl:y9 w l la lb lc) (hml:l.ms.length<=1048576) (hok:Gate.yh l.ss l.ms=true) (hfw:∀ i (h:i < b.os.length),b.os[i].vs.length<=1048576/\b.os[i].hs.length<=1048576) (hz:qD b.os<=1048576) :
 Calls Tryz.prog 70 #[.agg #[.slice la l.ss.length lca,.slice lb l.ms.length lcb,.slice lc l.ts.length lcc],.agg #[.int .i64 b.now,.int .i64 b.tick,.int .i64 b.given,.slice a0 b.os.length c0,.slice a1 b.gs.length c1,.slice a2 b.ls.length c2,.slice a3 b.ps.length c3]] w fun e w'=>e = .returned (.bool (Gate.zaU l b))/\Below w.heap.size w w':=by
 have HK:Hid (qw w b a0 a1 a2 a3):=hb
 have HL:Hid (y9 w l la lb lc):=hl
 have HF:Hid (l.ms.length<=1048576/\Gate.yh l.ss l.ms=true/\(∀ i (h:i < b.os.length),b.os[i].vs.length<=1048576/\b.os[i].hs.length<=1048576)/\qD b.os<=1048576):=⟨hml,hok,hfw,hz⟩
 clear hb hl hml hok hfw hz
 go_enter Tryz.func70,Tryz.ntmps70
 go_wp2_with fail
 obtain ⟨hL0,hX0⟩:=qz w #[.slice la l.ss.length lca,.slice lb l.ms.length lcb,.slice lc l.ts.length lcc] #[.int .i64 b.now,.int .i64 b.tick,.int .i64 b.given,.slice a0 b.os.length c0,.slice a1 b.gs.length c1,.slice a2 b.ls.length c2,.slice a3 b.ps.length c3] 41 48
 have HBi:Hid (Below w.heap.size w ((w.alloc (.cells #[.slice la l.ss.length lca,.slice lb l.ms.length lcb,.slice lc l.ts.length lcc] 41)).alloc (.cells #[.int .i64 b.now,.int .i64 b.tick,.int .i64 b.given,.slice a0 b.os.length c0,.slice a1 b.gs.length c1,.slice a2 b.ls.length c2,.slice a3 b.ps.length c3] 48))):=zA w _ _
 obtain ⟨W0,hW0⟩:∃ W0,W0=(w.alloc (.cells #[.slice la l.ss.length lca,.slice lb l.ms.length lcb,.slice lc l.ts.length lcc] 41)).alloc (.cells #[.int .i64 b.now,.int .i64 b.tick,.int .i64 b.given,.slice a0 b.os.length c0,.slice a1 b.gs.length c1,.slice a2 b.ls.length c2,.slice a3 b.ps.length c3] 48):=⟨_,rfl⟩
 have hz0:w.heap.size+1 < W0.heap.size:=by rw [hW0];simp
 rw [<- hW0] at HBi hX0 hL0 ⊢
 clear hW0
 refine (zjz b a0 a1 a2 a3 c0 c1 c2 c3 _).mono ?_
 rintro e w1 ⟨rfl,hb0⟩
 have hX1:=za hX0 hz0 hb0
 have hL1:=za hL0 (Nat.lt_of_succ_lt hz0) hb0
 have hz1:=Nat.lt_of_lt_of_le hz0 hb0.size
 have hy1:=Nat.lt_of_succ_lt hz1
 have HBi:Hid (Below w.heap.size w w1):=HBi.out.trans (hb0.mono HBi.out.size)
 clear hb0 hX0 hL0 hz0
 by_cases t:Gate.zas b=true
 rotate_left
 ·have HN:Hid (Gate.zaU l b=false):=by unfold Hid Gate.zaU;rw [Bool.eq_false_iff.2 t];rfl
  rw [Bool.eq_false_iff.2 t]
  clear t
  go_wp2_with fail
  go_ret
  exact ⟨ze HN.out.symm,HBi.out⟩
 have HT0:Hid (Gate.zas b=true):=t
 rw [t]
 clear t
 go_wp2_with fail
 refine (zje l la lb lc lca lcb lcc b a0 a1 a2 a3 c0 c1 c2 c3 _ (HK.out.mono HBi.out) (HL.out.mono HBi.out) HF.out.1 HF.out.2.1 HF.out.2.2.1).mono ?_
 rintro e w2 ⟨rfl,hb1⟩
 have hX2:=za hX1 hz1 hb1
 have hL2:=za hL1 (Nat.lt_of_succ_lt hz1) hb1
 have hz2:=Nat.lt_of_lt_of_le hz1 hb1.size
 have hy2:=Nat.lt_of_succ_lt hz2
 have HBi:Hid (Below w.heap.size w w2):=HBi.out.trans (hb1.mono HBi.out.size)
 clear hb1 hX1 hL1 hz1 hy1
 by_cases t:Gate.zN l b=true
 rotate_left
 ·have HN:Hid (Gate.zaU l b=false):=by unfold Hid Gate.zaU;rw [HT0.out,Bool.eq_false_iff.2 t];rfl
  rw [Bool.eq_false_iff.2 t]
  clear t
  go_wp2_with fail
  go_ret
  exact ⟨ze HN.out.symm,HBi.out⟩
 have HT1:Hid (Gate.zN l b=true):=t
 rw [t]
 clear t
 go_wp2_with fail
 refine (zjO b a0 a1 a2 a3 c0 c1 c2 c3 _ (HK.out.mono HBi.out)).mono ?_
 rintro e w3 ⟨rfl,hb2⟩
 have hX3:=za hX2 hz2 hb2
 have hL3:=za hL2 (Nat.lt_of_succ_lt hz2) hb2
 have hz3:=Nat.lt_of_lt_of_le hz2 hb2.size
 have hy3:=Nat.lt_of_succ_lt hz3
 have HBi:Hid (Below w.heap.size w w3):=HBi.out.trans (hb2.mono HBi.out.size)
 clear hb2 hX2 hL2 hz2 hy2
 by_cases t:Gate.yj b=true
 rotate_left
 ·have HN:Hid (Gate.zaU l b=false):=by unfold Hid Gate.zaU;rw [HT0.out,HT1.out,Bool.eq_false_iff.2 t];rfl
  rw [Bool.eq_false_iff.2 t]
  clear t
  go_wp2_with fail
  go_ret
  exact ⟨ze HN.out.symm,HBi.out⟩
 have HT2:Hid (Gate.yj b=true):=t
 rw [t]
 clear t
 go_wp2_with fail
 refine (ziI l la lb lc lca lcb lcc b a0 a1 a2 a3 c0 c1 c2 c3 _ (HK.out.mono HBi.out) (HL.out.mono HBi.out)).mono ?_
 rintro e w4 ⟨rfl,hb3⟩
 have hX4:=za hX3 hz3 hb3
 have hL4:=za hL3 (Nat.lt_of_succ_lt hz3) hb3
 have hz4:=Nat.lt_of_lt_of_le hz3 hb3.size
 have hy4:=Nat.lt_of_succ_lt hz4
 have HBi:Hid (Below w.heap.size w w4):=HBi.out.trans (hb3.mono HBi.out.size)
 clear hb3 hX3 hL3 hz3 hy3
 by_cases t:Gate.yN l.ts b=true
 rotate_left
 ·have HN:Hid (Gate.zaU l b=false):=by unfold Hid Gate.zaU;rw [HT0.out,HT1.out,HT2.out,Bool.eq_false_iff.2 t];rfl
  rw [Bool.eq_false_iff.2 t]
  clear t
  go_wp2_with fail
  go_ret
  exact ⟨ze HN.out.symm,HBi.out⟩
 have HT3:Hid (Gate.yN l.ts b=true):=t
 rw [t]
 clear t
 go_wp2_with fail
 refine (zjv b a0 a1 a2 a3 c0 c1 c2 c3 _ (HK.out.mono HBi.out) (zcZ HT3.out).1 (zcZ HT3.out).2.1 (zkL HT0.out)).mono ?_
 rintro e w5 ⟨rfl,hb4⟩
 have hX5:=za hX4 hz4 hb4
 have hL5:=za hL4 (Nat.lt_of_succ_lt hz4) hb4
 have hz5:=Nat.lt_of_lt_of_le hz4 hb4.size
 have hy5:=Nat.lt_of_succ_lt hz5
 have HBi:Hid (Below w.heap.size w w5):=HBi.out.trans (hb4.mono HBi.out.size)
 clear hb4 hX4 hL4 hz4 hy4
 by_cases t:Gate.yS b=true
 rotate_left
 ·have HN:Hid (Gate.zaU l b=false):=by unfold Hid Gate.zaU;rw [HT0.out,HT1.out,HT2.out,HT3.out,Bool.eq_false_iff.2 t];rfl
  rw [Bool.eq_false_iff.2 t]
  clear t
  go_wp2_with fail
  go_ret
  exact ⟨ze HN.out.symm,HBi.out⟩
 have HT4:Hid (Gate.yS b=true):=t
 rw [t]
 clear t
 go_wp2_with fail
 refine (zl0 l la lb lc lca lcb lcc b a0 a1 a2 a3 c0 c1 c2 c3 _ (HL.out.mono HBi.out) (HK.out.mono HBi.out) (zox HT3.out HT4.out HF.out.2.2.2)).mono ?_
 rintro e w6 ⟨rfl,hb5⟩
 have HBe:Hid (Below w.heap.size w w6):=HBi.out.trans (hb5.mono HBi.out.size)
 have HN:Hid (Gate.zcy l b=Gate.zaU l b):=by unfold Hid Gate.zaU;rw [HT0.out,HT1.out,HT2.out,HT3.out,HT4.out];rfl
 rw [HN.out]
 clear hb5 hX5 hL5 hz5 hy5
 go_wp2_with fail
 go_ret
 exact ⟨rfl,HBe.out⟩
set_option maxRecDepth 20000 in
theorem ziC (l:Lw) (la lb lc:Option Addr) (lca lcb lcc:Nat) (b:Bk) (a0 a1 a2 a3:Option Addr) (c0 c1 c2 c3:Nat) (w:World) (hl:y9 w l la lb lc) (hb:qw w b a0 a1 a2 a3) (hlf:l.Few) (hbf:b.Few) (hz:qD b.os<=1048576) :
 Calls Tryz.prog 33 #[.agg (l.cells la lb lc lca lcb lcc),.agg (b.cells a0 a1 a2 a3 c0 c1 c2 c3)] w fun e w'=>e = .returned (.bool (Gate.j4 l b))/\Below w.heap.size w w':=by
 have HK:Hid (qw w b a0 a1 a2 a3):=hb
 have HL:Hid (y9 w l la lb lc):=hl
 have HF:Hid (l.Few/\b.Few/\qD b.os<=1048576):=⟨hlf,hbf,hz⟩
 clear hb hl hlf hbf hz
 unfold Lw.cells Bk.cells
 go_enter Tryz.func33,Tryz.ntmps33
 go_wp2_with fail
 obtain ⟨hL0,hX0⟩:=qz w #[.slice la l.ss.length lca,.slice lb l.ms.length lcb,.slice lc l.ts.length lcc] #[.int .i64 b.now,.int .i64 b.tick,.int .i64 b.given,.slice a0 b.os.length c0,.slice a1 b.gs.length c1,.slice a2 b.ls.length c2,.slice a3 b.ps.length c3] 41 48
 have HBi:Hid (Below w.heap.size w ((w.alloc (.cells #[.slice la l.ss.length lca,.slice lb l.ms.length lcb,.slice lc l.ts.length lcc] 41)).alloc (.cells #[.int .i64 b.now,.int .i64 b.tick,.int .i64 b.given,.slice a0 b.os.length c0,.slice a1 b.gs.length c1,.slice a2 b.ls.length c2,.slice a3 b.ps.length c3] 48))):=zA w _ _
 obtain ⟨W0,hW0⟩:∃ W0,W0=(w.alloc (.cells #[.slice la l.ss.length lca,.slice lb l.ms.length lcb,.slice lc l.ts.length lcc] 41)).alloc (.cells #[.int .i64 b.now,.int .i64 b.tick,.int .i64 b.given,.slice a0 b.os.length c0,.slice a1 b.gs.length c1,.slice a2 b.ls.length c2,.slice a3 b.ps.length c3] 48):=⟨_,rfl⟩
 have hz0:w.heap.size+1 < W0.heap.size:=by rw [hW0];simp
 rw [<- hW0] at HBi hX0 hL0 ⊢
 clear hW0
 refine (zjq l la lb lc lca lcb lcc _ (HL.out.mono HBi.out) HF.out.1).mono ?_
 rintro e w1 ⟨rfl,hb0⟩
 have hX1:=za hX0 hz0 hb0
 have hL1:=za hL0 (Nat.lt_of_succ_lt hz0) hb0
 have hz1:=Nat.lt_of_lt_of_le hz0 hb0.size
 have hy1:=Nat.lt_of_succ_lt hz1
 have HBi:Hid (Below w.heap.size w w1):=HBi.out.trans (hb0.mono HBi.out.size)
 clear hb0 hX0 hL0 hz0
 by_cases t:Gate.zbB l=true
 rotate_left
 ·have HN:Hid (Gate.j4 l b=false):=by unfold Hid Gate.j4;rw [Bool.eq_false_iff.2 t];rfl
  rw [Bool.eq_false_iff.2 t]
  clear t
  go_wp2_with fail
  go_ret
  exact ⟨ze HN.out.symm,HBi.out⟩
 have HN:Hid (Gate.zaU l b=Gate.j4 l b):=by unfold Hid Gate.j4;rw [t];rfl
 have HM:Hid (Gate.yh l.ss l.ms=true):=by unfold Gate.zbB at t;simp only [Bool.and_eq_true] at t;exact t.1
 rw [t]
 clear t
 go_wp2_with fail
 refine (zmG l la lb lc lca lcb lcc b a0 a1 a2 a3 c0 c1 c2 c3 _ (HK.out.mono HBi.out) (HL.out.mono HBi.out) HF.out.1.ms HM.out HF.out.2.1.os.2 HF.out.2.2).mono ?_
 rintro e w2 ⟨rfl,hb1⟩
 have HBe:Hid (Below w.heap.size w w2):=HBi.out.trans (hb1.mono HBi.out.size)
 rw [HN.out]
 clear hb1 hX1 hL1 hz1 hy1
 go_wp2_with fail
 go_ret
 exact ⟨rfl,HBe.out⟩
namespace Gate
noncomputable def zbQ (l:Lw) (os:List Ob) (o:Ob):Bool:=(qX (shapeOf l.ss o.kd).fs o.vs (shapeOf l.ss o.kd).fs.length).any fun x=>decide (x.rl=3) && os.any fun p=>p.en && zaa x.to x.nm p
noncomputable def zc1 (l:Lw) (os:List Ob) (k:Nat):List Int:=if h:k < os.length then (if (!os[k].en && zbQ l os os[k])=true then [(k:Int)] else []) else []
noncomputable def yX (l:Lw) (os:List Ob):Nat->List Int
 | 0=>[]
 | k+1=>yX l os k ++ zc1 l os k
noncomputable def marks (l:Lw) (os:List Ob):List Int:=yX l os os.length
noncomputable def q8 (l:Lw) (b:Bk):List Int:=if j4 l b=true then marks l b.os else []
theorem zix {l:Lw} {os:List Ob} {k:Nat} (h:k < os.length) (h1:os[k].en=false) (h2:zbQ l os os[k]=true):yX l os (k+1)=yX l os k ++ [(k:Int)]:=by
 show yX l os k ++ zc1 l os k=_
 unfold zc1;rw [dif_pos h,h1,h2];rfl
theorem zh3 {l:Lw} {os:List Ob} {k:Nat} (h:k < os.length) (h1:os[k].en=true):yX l os (k+1)=yX l os k:=by
 show yX l os k ++ zc1 l os k=_
 unfold zc1;rw [dif_pos h,h1];simp
theorem zj3 {l:Lw} {os:List Ob} {k:Nat} (h:k < os.length) (h2:zbQ l os os[k]=false):yX l os (k+1)=yX l os k:=by
 show yX l os k ++ zc1 l os k=_
 unfold zc1;rw [dif_pos h,h2];simp
theorem zeC (l:Lw) (os:List Ob):∀ k,(yX l os k).length<=k
 | 0=>Nat.le_refl _
 | k+1=>by
  have h:=zeC l os k
  show (yX l os k ++ zc1 l os k).length<=_
  have h2:(zc1 l os k).length<=1:=by
   unfold zc1;split
   ·split <;> simp
   ·simp
  rw [List.length_append];omega
theorem zmr (l:Lw) (b:Bk) (h:b.Few):(q8 l b).length<=1048576:=by
 unfold q8
 split
 ·have h1:=zeC l b.os b.os.length
  have h2:=h.os.1
  unfold marks
  omega
 ·simp
theorem zkU {l:Lw} {b:Bk} {o:Ob} (hok:yh l.ss l.ms=true) (h:yJ l b o=true):o.vs.length=(shapeOf l.ss o.kd).fs.length:=by
 unfold yJ zaG at h
 simp only [Bool.and_eq_true,decide_eq_true_eq] at h
 exact (zbD (jF hok h.2.2.1.1)).1
end Gate
theorem zmw {l:Lw} {os:List Ob} {o:Ob} {f:ByteArray->ByteArray->Option Int} (h:zbp f os os.length):zdX f (qX (Gate.shapeOf l.ss o.kd).fs o.vs (Gate.shapeOf l.ss o.kd).fs.length)=Gate.zbQ l os o:=by
 unfold zdX Gate.zbQ
 congr 1
 funext x
 rw [h x.to x.nm,List.take_of_length_le (Nat.le_refl _)]
set_option maxRecDepth 20000 in
theorem zm3 (l:Lw) (la lb lc:Option Addr) (lca lcb lcc:Nat) (b:Bk) (a0 a1 a2 a3:Option Addr) (c0 c1 c2 c3:Nat) (w:World) (hl:y9 w l la lb lc) (hb:qw w b a0 a1 a2 a3) (hok:Gate.yh l.ss l.ms=true) (hob:Gate.zN l b=true) :
 Calls Tryz.prog 34 #[.agg #[.slice la l.ss.length lca,.slice lb l.ms.length lcb,.slice lc l.ts.length lcc],.agg #[.int .i64 b.now,.int .i64 b.tick,.int .i64 b.given,.slice a0 b.os.length c0,.slice a1 b.gs.length c1,.slice a2 b.ls.length c2,.slice a3 b.ps.length c3]] w fun e w'=>∃ v,e = .returned v/\w'.ownsRow w.heap.size 3 1 v (Gate.marks l b.os).length (ints (Gate.marks l b.os))/\Below w.heap.size w w':=by
 obtain ⟨i0,hi,hzi0,hz1',hz2⟩:=info_parts Tryz.zgc
 have HK:Hid (qw w b a0 a1 a2 a3):=hb
 have HL:Hid (y9 w l la lb lc):=hl
 have HO:Hid (b.os.length<=40/\∀ k (h:k < b.os.length),b.os[k].vs.length=(Gate.shapeOf l.ss b.os[k].kd).fs.length):=by
  unfold Gate.zN at hob
  simp only [Bool.and_eq_true,decide_eq_true_eq] at hob
  exact ⟨hob.1,fun k h=>Gate.zkU hok (List.all_eq_true.1 hob.2.2 _ (List.getElem_mem h))⟩
 clear hb hl hok hob
 go_enter Tryz.func34,Tryz.ntmps34
 go_wp2_with fail
 obtain ⟨hL0,hX0⟩:=qz w #[.slice la l.ss.length lca,.slice lb l.ms.length lcb,.slice lc l.ts.length lcc] #[.int .i64 b.now,.int .i64 b.tick,.int .i64 b.given,.slice a0 b.os.length c0,.slice a1 b.gs.length c1,.slice a2 b.ls.length c2,.slice a3 b.ps.length c3] 41 48
 have HBi:Hid (Below w.heap.size w ((w.alloc (.cells #[.slice la l.ss.length lca,.slice lb l.ms.length lcb,.slice lc l.ts.length lcc] 41)).alloc (.cells #[.int .i64 b.now,.int .i64 b.tick,.int .i64 b.given,.slice a0 b.os.length c0,.slice a1 b.gs.length c1,.slice a2 b.ls.length c2,.slice a3 b.ps.length c3] 48))):=zA w _ _
 obtain ⟨W0,hW0⟩:∃ W0,W0=(w.alloc (.cells #[.slice la l.ss.length lca,.slice lb l.ms.length lcb,.slice lc l.ts.length lcc] 41)).alloc (.cells #[.int .i64 b.now,.int .i64 b.tick,.int .i64 b.given,.slice a0 b.os.length c0,.slice a1 b.gs.length c1,.slice a2 b.ls.length c2,.slice a3 b.ps.length c3] 48):=⟨_,rfl⟩
 have hz0:w.heap.size+1 < W0.heap.size:=by rw [hW0];simp
 rw [<- hW0] at HBi hX0 hL0 ⊢
 clear hW0
 refine (zjP b a0 a1 a2 a3 c0 c1 c2 c3 _ (HK.out.mono HBi.out) (by have:=HO.out.1;omega)).mono ?_
 rintro e w1 ⟨⟨r,f,rfl,hr,hf,hef⟩,hb1⟩
 have hX1:=za hX0 hz0 hb1
 have hL1:=za hL0 (Nat.lt_of_succ_lt hz0) hb1
 have hz1:=Nat.lt_of_lt_of_le hz0 hb1.size
 have hq1:=Nat.lt_of_succ_lt hz1
 have HF:Hid (yc w1 r f/\zbp f b.os b.os.length):=⟨hf,hef⟩
 have HB1:Hid (Below w.heap.size w w1):=HBi.out.trans (hb1.mono HBi.out.size)
 clear hb1 hX0 hL0 hz0 hf hef hr HBi
 go_wp2_with fail
 go_loopw [6,14] (fun v0 iv wr=>∃ (k:Nat) (v:Value),v=v0/\k<=b.os.length/\iv = .int .i64 k/\Hid (wr.ownsRow w1.heap.size 3 1 v (Gate.yX l b.os k).length (ints (Gate.yX l b.os k))/\Below w1.heap.size w1 wr)) (fun _ iv _=>b.os.length - (intOf iv).toNat)
 case atStart=>exact ⟨0,_,rfl,Nat.zero_le _,rfl,World.ownsRow_nil _ _ _ _,Below.refl _ _⟩
 case round =>
  obtain ⟨k,v,hv,hk,rfl,HQ⟩:=hrel
  subst hv
  have hkn:k<=40:=by have:=HO.out.1;omega
  have hX2:=za hX1 hz1 HQ.out.2
  have hL2:=za hL1 hq1 HQ.out.2
  have hz3:=Nat.lt_of_lt_of_le hz1 HQ.out.2.size
  have hq3:=Nat.lt_of_lt_of_le hq1 HQ.out.2.size
  have HBr:Hid (Below w.heap.size w wr):=HB1.out.trans (HQ.out.2.mono HB1.out.size)
  by_cases hlt:k < b.os.length
  ·obtain ⟨ob,off,v0,v1,q0,q1,rfl,hob,hsm,hl0,hl1,d0,d1,d2,d3,d4,d5,d6⟩:=HK.out.os.load HBr.out k hlt
   have hltI:(k:Int) < (b.os.length:Int):=by omega
   have hob':ob < wr.heap.size:=Nat.lt_of_lt_of_le hob HBr.out.size
   have HIt:Hid (qj wr b.os[k] v0 v1):=⟨hsm,hl0,hl1⟩
   clear hsm hl0 hl1
   cases he:b.os[k].en with
   | true =>
    rw [he] at d4
    have HS:Hid (Gate.yX l b.os (k+1)=Gate.yX l b.os k):=Gate.zh3 hlt he
    have HBa:Hid (∀ o,Below wr.heap.size wr (wr.alloc o)):=fun o=>(Below.refl _ _).alloc (Nat.le_refl _) _
    go_wp2_with fail
    exact ⟨⟨k+1,_,rfl,by omega,by go_num,by rw [HS.out];exact yZ HQ.out.1 (HBa.out _),HQ.out.2.trans ((HBa.out _).mono HQ.out.2.size)⟩,zn hlt⟩
   | false =>
    rw [he] at d4
    have hba:Below wr.heap.size wr (wr.alloc (.cells #[.string b.os[k].kd,.string b.os[k].nm,.string b.os[k].tm,.slice v0 b.os[k].vs.length q0,.bool false,.slice v1 b.os[k].hs.length q1,.int .i64 b.os[k].vr] 115)):=(Below.refl _ _).alloc (Nat.le_refl _) _
    have hcall:=zmm l la lb lc lca lcb lcc r f b.os[k] v0 v1 q0 q1 _ (HL.out.mono (HBr.out.trans (hba.mono HBr.out.size))) (HF.out.1.mono (HQ.out.2.trans (hba.mono HQ.out.2.size))) (HIt.out.mono hba) (HO.out.2 k hlt)
    rw [he,zmw HF.out.2] at hcall
    have HBa:Hid (Below wr.heap.size wr (wr.alloc (.cells #[.string b.os[k].kd,.string b.os[k].nm,.string b.os[k].tm,.slice v0 b.os[k].vs.length q0,.bool false,.slice v1 b.os[k].hs.length q1,.int .i64 b.os[k].vr] 115))):=hba
    clear hba
    go_wp2_with fail
    refine hcall.mono ?_
    rintro e w3 ⟨rfl,hb3⟩
    have HB3:Hid (Below wr.heap.size wr w3):=HBa.out.trans (hb3.mono HBa.out.size)
    have HQ3:Hid (w3.ownsRow w1.heap.size 3 1 v (Gate.yX l b.os k).length (ints (Gate.yX l b.os k))/\Below w1.heap.size w1 w3):=⟨yZ HQ.out.1 HB3.out,HQ.out.2.trans (HB3.out.mono HQ.out.2.size)⟩
    have HLL:Hid ((Gate.yX l b.os k).length<=40):=by have:=Gate.zeC l b.os k;have:=HO.out.1;show _<=_;omega
    clear hb3 hcall d0 d1 d2 d3 d4 d5 d6 hob'
    by_cases how:Gate.zbQ l b.os b.os[k]=true
    rotate_left
    ·have HS:Hid (Gate.yX l b.os (k+1)=Gate.yX l b.os k):=Gate.zj3 hlt (by simpa using how)
     rw [Bool.eq_false_iff.2 how]
     go_wp2_with fail
     exact ⟨⟨k+1,_,rfl,by omega,by go_num,by rw [HS.out];exact HQ3.out.1,HQ3.out.2⟩,zn hlt⟩
    ·have HS:Hid (Gate.yX l b.os (k+1)=Gate.yX l b.os k ++ [(k:Int)]):=Gate.zix hlt he how
     rw [how]
     go_wp2_with (at_builtin;refine wpList_append_own _ rfl (.tmp 28) (.tmp 30) 35 rfl w1.heap.size 3 i0 (.int .i64 0) 1 8 Tryz.underlying35 hi hzi0 hz1' hz2 rfl (by decide) _ _ _ rfl (HQ3.out.1.alloc _) ⟨w3.heap.size,0,none⟩ 1 1 [.int .i64 (k:Int)] rfl rfl (zcz _ _ _) (by intro u hu;simp at hu;subst hu;rfl) (by have:=HLL.out;unfold maxLen;omega) (by have:=HLL.out;omega) (by have:=HQ3.out.2.size;simp;omega) ?_;intro v' w4 hown' hgr _)
     have hgb:∀ g',v.ownBlock=some g'->w1.heap.size<=g':=fun g' hg'=>(HQ3.out.1.lt g' hg').1
     refine ⟨⟨k+1,_,rfl,by omega,by go_num,?_,zbk HQ3.out.2 HQ3.out.2.size hgr hgb⟩,zn hlt⟩
     rw [HS.out,List.length_append]
     have e1:ints (Gate.yX l b.os k ++ [(k:Int)])=ints (Gate.yX l b.os k) ++ [.int .i64 (k:Int)]:=by simp [ints]
     rw [e1]
     exact hown'
  ·have e:k=b.os.length:=by omega
   subst e
   have HW:Hid (wr.ownsRow w.heap.size 3 1 v (Gate.marks l b.os).length (ints (Gate.marks l b.os))/\Below w.heap.size w wr):=⟨zaf HQ.out.1 HB1.out.size,HBr.out⟩
   clear HQ hlt hk hX1 hL1 hX2 hL2
   go_wp2_with fail
   go_ret
   exact ⟨v,rfl,HW.out⟩
theorem book_facts {l:Lw} {b:Bk} (h:Gate.j4 l b=true):Gate.yh l.ss l.ms=true/\Gate.zN l b=true:=by
 unfold Gate.j4 Gate.zaU Gate.zbB at h
 simp only [Bool.and_eq_true] at h
 exact ⟨h.1.1,h.2.2.1⟩
set_option maxRecDepth 20000 in
theorem zga (l:Lw) (la lb lc:Option Addr) (lca lcb lcc:Nat) (b:Bk) (a0 a1 a2 a3:Option Addr) (c0 c1 c2 c3:Nat) (w:World) (hl:y9 w l la lb lc) (hb:qw w b a0 a1 a2 a3) (hlf:l.Few) (hbf:b.Few) (hz:qD b.os<=1048576) :
 Calls Tryz.prog 9 #[.agg (l.cells la lb lc lca lcb lcc),.agg (b.cells a0 a1 a2 a3 c0 c1 c2 c3)] w fun e w'=>∃ v,e = .returned v/\w'.ownsRow w.heap.size 3 1 v (Gate.q8 l b).length (ints (Gate.q8 l b))/\Below w.heap.size w w':=by
 have HK:Hid (qw w b a0 a1 a2 a3):=hb
 have HL:Hid (y9 w l la lb lc):=hl
 have HF:Hid (l.Few/\b.Few/\qD b.os<=1048576):=⟨hlf,hbf,hz⟩
 clear hb hl hlf hbf hz
 unfold Lw.cells Bk.cells
 go_enter Tryz.func9,Tryz.ntmps9
 go_wp2_with fail
 obtain ⟨hL0,hX0⟩:=qz w #[.slice la l.ss.length lca,.slice lb l.ms.length lcb,.slice lc l.ts.length lcc] #[.int .i64 b.now,.int .i64 b.tick,.int .i64 b.given,.slice a0 b.os.length c0,.slice a1 b.gs.length c1,.slice a2 b.ls.length c2,.slice a3 b.ps.length c3] 41 48
 have HBi:Hid (Below w.heap.size w ((w.alloc (.cells #[.slice la l.ss.length lca,.slice lb l.ms.length lcb,.slice lc l.ts.length lcc] 41)).alloc (.cells #[.int .i64 b.now,.int .i64 b.tick,.int .i64 b.given,.slice a0 b.os.length c0,.slice a1 b.gs.length c1,.slice a2 b.ls.length c2,.slice a3 b.ps.length c3] 48))):=zA w _ _
 obtain ⟨W0,hW0⟩:∃ W0,W0=(w.alloc (.cells #[.slice la l.ss.length lca,.slice lb l.ms.length lcb,.slice lc l.ts.length lcc] 41)).alloc (.cells #[.int .i64 b.now,.int .i64 b.tick,.int .i64 b.given,.slice a0 b.os.length c0,.slice a1 b.gs.length c1,.slice a2 b.ls.length c2,.slice a3 b.ps.length c3] 48):=⟨_,rfl⟩
 have hz0:w.heap.size+1 < W0.heap.size:=by rw [hW0];simp
 rw [<- hW0] at HBi hX0 hL0 ⊢
 clear hW0
 refine (ziC l la lb lc lca lcb lcc b a0 a1 a2 a3 c0 c1 c2 c3 _ (HL.out.mono HBi.out) (HK.out.mono HBi.out) HF.out.1 HF.out.2.1 HF.out.2.2).mono ?_
 rintro e w1 ⟨rfl,hb0⟩
 have hX1:=za hX0 hz0 hb0
 have hL1:=za hL0 (Nat.lt_of_succ_lt hz0) hb0
 have hz1:=Nat.lt_of_lt_of_le hz0 hb0.size
 have hy1:=Nat.lt_of_succ_lt hz1
 have HBi:Hid (Below w.heap.size w w1):=HBi.out.trans (hb0.mono HBi.out.size)
 clear hb0 hX0 hL0 hz0
 by_cases t:Gate.j4 l b=true
 rotate_left
 ·have HN:Hid (Gate.q8 l b=[]):=by unfold Hid Gate.q8;rw [if_neg t]
  rw [Bool.eq_false_iff.2 t]
  clear t
  go_wp2_with fail
  go_ret
  exact ⟨_,rfl,by rw [HN.out];exact World.ownsRow_nil _ _ _ _,HBi.out⟩
 have HM:Hid (Gate.q8 l b=Gate.marks l b.os):=by unfold Hid Gate.q8;rw [if_pos t]
 have HT:Hid (Gate.j4 l b=true):=t
 rw [t]
 clear t
 go_wp2_with fail
 refine (zm3 l la lb lc lca lcb lcc b a0 a1 a2 a3 c0 c1 c2 c3 _ (HL.out.mono HBi.out) (HK.out.mono HBi.out) (book_facts HT.out).1 (book_facts HT.out).2).mono ?_
 rintro e w2 ⟨v,rfl,hv,hb1⟩
 have HV:Hid (w2.ownsRow w.heap.size 3 1 v (Gate.q8 l b).length (ints (Gate.q8 l b))/\Below w.heap.size w w2):=by rw [HM.out];exact ⟨zaf hv HBi.out.size,HBi.out.trans (hb1.mono HBi.out.size)⟩
 clear hv hb1
 go_wp2_with fail
 go_ret
 exact ⟨v,rfl,HV.out⟩
namespace Gate
noncomputable def jD (l:Lw) (o p:Ob) (role:Int) (m:Nat):Bool:=(qX (shapeOf l.ss o.kd).fs o.vs m).any fun x=>decide (x.rl=role) && zaa x.to x.nm p
noncomputable def names (l:Lw) (o p:Ob) (role:Int):Bool:=jD l o p role (shapeOf l.ss o.kd).fs.length
theorem zkJ {l:Lw} {o p:Ob} {role:Int} {fs:List Fld} (e:fs=(shapeOf l.ss o.kd).fs) {m:Nat} (hk:m < fs.length) (hv:m < o.vs.length) (h:¬ (fs[m].kd=4/\o.vs[m].toList.isEmpty=false)):jD l o p role (m+1)=jD l o p role m:=by
 subst e
 unfold jD
 rw [zao,List.any_append]
 have:zeJ (shapeOf l.ss o.kd).fs o.vs m=[]:=by
  unfold zeJ
  rw [List.getElem?_eq_getElem hk,List.getElem?_eq_getElem hv]
  exact dif_neg (fun h'=>h h'.1)
 rw [this];simp
theorem zgU {l:Lw} {o p:Ob} {role:Int} {fs:List Fld} (e:fs=(shapeOf l.ss o.kd).fs) {m:Nat} (hk:m < fs.length) (hv:m < o.vs.length) (h1:fs[m].kd=4) (h2:o.vs[m].toList.isEmpty=false) (hs1:fs[m].to.size<=maxLen) (hs2:o.vs[m].size<=maxLen):jD l o p role (m+1)=(jD l o p role m || (decide (fs[m].rl=role) && zaa fs[m].to o.vs[m] p)):=by
 subst e
 unfold jD
 rw [zao,List.any_append]
 have:zeJ (shapeOf l.ss o.kd).fs o.vs m=[⟨m,(shapeOf l.ss o.kd).fs[m].rl,(shapeOf l.ss o.kd).fs[m].to,o.vs[m],hs1,hs2⟩]:=by
  unfold zeJ
  rw [List.getElem?_eq_getElem hk,List.getElem?_eq_getElem hv]
  exact dif_pos ⟨⟨h1,h2⟩,hs1,hs2⟩
 rw [this];simp
theorem zbw {l:Lw} {o p:Ob} {role:Int} {fs:List Fld} (e:fs=(shapeOf l.ss o.kd).fs) {m:Nat} (hk:m < fs.length) (hv:m < o.vs.length) (hs1:fs[m].to.size<=maxLen) (hs2:o.vs[m].size<=maxLen) (h:fs[m].kd=4->o.vs[m].toList.isEmpty=false->(decide (fs[m].rl=role) && zaa fs[m].to o.vs[m] p)=false):jD l o p role (m+1)=jD l o p role m:=by
 by_cases h':fs[m].kd=4/\o.vs[m].toList.isEmpty=false
 ·rw [zgU e hk hv h'.1 h'.2 hs1 hs2,h h'.1 h'.2,Bool.or_false]
 ·exact zkJ e hk hv h'
theorem zjG {l:Lw} {o p:Ob} {role:Int} {fs:List Fld} (e:fs=(shapeOf l.ss o.kd).fs) {m:Nat} (hk:m<=fs.length) (h:jD l o p role m=true):names l o p role=true:=by
 subst e
 unfold names jD at *
 obtain ⟨t,ht⟩:=zdZ (shapeOf l.ss o.kd).fs o.vs hk
 rw [<- ht,List.any_append,h];rfl
theorem zi5 (kd nm:ByteArray) (p:Ob):zaa kd nm p=((kd.toList == p.kd.toList) && (nm.toList == p.nm.toList)):=by
 unfold zaa
 rw [Gate.beq_toList,Gate.beq_toList]
 congr 1
 ·exact decide_eq_decide.2 eq_comm
 ·exact decide_eq_decide.2 eq_comm
end Gate
set_option maxRecDepth 20000 in
theorem zlX (l:Lw) (la lb lc:Option Addr) (lca lcb lcc:Nat) (b:Bk) (a0 a1 a2 a3:Option Addr) (c0 c1 c2 c3:Nat) (i k:Nat) (role:Int) (w:World) (hl:y9 w l la lb lc) (hb:qw w b a0 a1 a2 a3) (hi:i < b.os.length) (hk:k < b.os.length) (hwc:Gate.zx l.ss b.os[i]=true) (hfw:b.os[i].vs.length<=1048576) :
 Calls Tryz.prog 61 #[.agg #[.slice la l.ss.length lca,.slice lb l.ms.length lcb,.slice lc l.ts.length lcc],.agg #[.int .i64 b.now,.int .i64 b.tick,.int .i64 b.given,.slice a0 b.os.length c0,.slice a1 b.gs.length c1,.slice a2 b.ls.length c2,.slice a3 b.ps.length c3],.int .i64 (i:Int),.int .i64 (k:Int),.int .i64 role] w fun e w'=>e = .returned (.bool (Gate.names l b.os[i] b.os[k] role))/\Below w.heap.size w w':=by
 have HK:Hid (qw w b a0 a1 a2 a3):=hb
 have HL:Hid (y9 w l la lb lc):=hl
 have HWc:Hid (Gate.zx l.ss b.os[i]=true/\b.os[i].vs.length<=1048576):=⟨hwc,hfw⟩
 have hiI:(i:Int) < (b.os.length:Int):=by omega
 have hkI:(k:Int) < (b.os.length:Int):=by omega
 clear hb hl hwc hfw
 obtain ⟨ob,off,va,ha,q0,q1,rfl,hob,hsm,hs0,hs1,d0,d1,d2,d3,d4,d5,d6⟩:=HK.out.os.load (zA w (.cells #[.slice la l.ss.length lca,.slice lb l.ms.length lcb,.slice lc l.ts.length lcc] 41) (.cells #[.int .i64 b.now,.int .i64 b.tick,.int .i64 b.given,.slice a0 b.os.length c0,.slice a1 b.gs.length c1,.slice a2 b.ls.length c2,.slice a3 b.ps.length c3] 48)) i hi
 have hob':ob < ((w.alloc (.cells #[.slice la l.ss.length lca,.slice lb l.ms.length lcb,.slice lc l.ts.length lcc] 41)).alloc (.cells #[.int .i64 b.now,.int .i64 b.tick,.int .i64 b.given,.slice (some ⟨ob,off,none⟩) b.os.length c0,.slice a1 b.gs.length c1,.slice a2 b.ls.length c2,.slice a3 b.ps.length c3] 48)).heap.size:=by simp;omega
 go_enter Tryz.func61,Tryz.ntmps61
 go_wp2_with fail
 have HIt:Hid (qj ((w.alloc (.cells #[.slice la l.ss.length lca,.slice lb l.ms.length lcb,.slice lc l.ts.length lcc] 41)).alloc (.cells #[.int .i64 b.now,.int .i64 b.tick,.int .i64 b.given,.slice (some ⟨ob,off,none⟩) b.os.length c0,.slice a1 b.gs.length c1,.slice a2 b.ls.length c2,.slice a3 b.ps.length c3] 48)) b.os[i] va ha):=⟨hsm,hs0,hs1⟩
 obtain ⟨hX0,hY0,hZ0⟩:=zon w (.cells #[.slice la l.ss.length lca,.slice lb l.ms.length lcb,.slice lc l.ts.length lcc] 41) (.cells #[.int .i64 b.now,.int .i64 b.tick,.int .i64 b.given,.slice (some ⟨ob,off,none⟩) b.os.length c0,.slice a1 b.gs.length c1,.slice a2 b.ls.length c2,.slice a3 b.ps.length c3] 48) (.cells #[.string b.os[i].kd,.string b.os[i].nm,.string b.os[i].tm,.slice va b.os[i].vs.length q0,.bool b.os[i].en,.slice ha b.os[i].hs.length q1,.int .i64 b.os[i].vr] 115)
 have HB3:Hid (Below w.heap.size w (((w.alloc (.cells #[.slice la l.ss.length lca,.slice lb l.ms.length lcb,.slice lc l.ts.length lcc] 41)).alloc (.cells #[.int .i64 b.now,.int .i64 b.tick,.int .i64 b.given,.slice (some ⟨ob,off,none⟩) b.os.length c0,.slice a1 b.gs.length c1,.slice a2 b.ls.length c2,.slice a3 b.ps.length c3] 48)).alloc (.cells #[.string b.os[i].kd,.string b.os[i].nm,.string b.os[i].tm,.slice va b.os[i].vs.length q0,.bool b.os[i].en,.slice ha b.os[i].hs.length q1,.int .i64 b.os[i].vr] 115))):=below3' w _ _ _
 have HI3:Hid (qj (((w.alloc (.cells #[.slice la l.ss.length lca,.slice lb l.ms.length lcb,.slice lc l.ts.length lcc] 41)).alloc (.cells #[.int .i64 b.now,.int .i64 b.tick,.int .i64 b.given,.slice (some ⟨ob,off,none⟩) b.os.length c0,.slice a1 b.gs.length c1,.slice a2 b.ls.length c2,.slice a3 b.ps.length c3] 48)).alloc (.cells #[.string b.os[i].kd,.string b.os[i].nm,.string b.os[i].tm,.slice va b.os[i].vs.length q0,.bool b.os[i].en,.slice ha b.os[i].hs.length q1,.int .i64 b.os[i].vr] 115)) b.os[i] va ha):=HIt.out.mono ((Below.refl _ _).alloc (Nat.le_refl _) _)
 obtain ⟨W3,hW3⟩:∃ W3,W3=((w.alloc (.cells #[.slice la l.ss.length lca,.slice lb l.ms.length lcb,.slice lc l.ts.length lcc] 41)).alloc (.cells #[.int .i64 b.now,.int .i64 b.tick,.int .i64 b.given,.slice (some ⟨ob,off,none⟩) b.os.length c0,.slice a1 b.gs.length c1,.slice a2 b.ls.length c2,.slice a3 b.ps.length c3] 48)).alloc (.cells #[.string b.os[i].kd,.string b.os[i].nm,.string b.os[i].tm,.slice va b.os[i].vs.length q0,.bool b.os[i].en,.slice ha b.os[i].hs.length q1,.int .i64 b.os[i].vr] 115):=⟨_,rfl⟩
 have hz3:w.heap.size+1+1 < W3.heap.size:=by rw [hW3];simp
 rw [<- hW3] at HB3 HI3 hX0 hY0 hZ0 ⊢
 clear hW3 d0 d1 d2 d3 d4 d5 d6 HIt hsm hs0 hs1 hob'
 refine (qR _ _ l.ss b.os[i] _ _ _ _ _ (HL.out.ss.mono HB3.out) HI3.out HWc.out.1).mono ?_
 rintro e w4 ⟨fa,fcap,rfl,hfa,hb4⟩
 have hY4:∀ j,w4.cell? ⟨w.heap.size+1,j,none⟩=(#[.int .i64 b.now,.int .i64 b.tick,.int .i64 b.given,.slice (some ⟨ob,off,none⟩) b.os.length c0,.slice a1 b.gs.length c1,.slice a2 b.ls.length c2,.slice a3 b.ps.length c3]:Array Value)[j]?:=za (zbO hY0) (by omega) hb4
 have hZ4:∀ j,w4.cell? ⟨w.heap.size+1+1,j,none⟩=(#[.string b.os[i].kd,.string b.os[i].nm,.string b.os[i].tm,.slice va b.os[i].vs.length q0,.bool b.os[i].en,.slice ha b.os[i].hs.length q1,.int .i64 b.os[i].vr]:Array Value)[j]?:=za (zbO hZ0) (by omega) hb4
 have hz4:=Nat.lt_of_lt_of_le hz3 hb4.size
 have hy4:=Nat.lt_of_succ_lt hz4
 have HB4:Hid (Below w.heap.size w w4):=HB3.out.trans (hb4.mono HB3.out.size)
 have HI4:Hid (qj w4 b.os[i] va ha):=HI3.out.mono hb4
 have HFa:Hid (zP w4 fa (Gate.shapeOf l.ss b.os[i].kd).fs):=hfa.mono hb4
 have HLv:Hid ((Gate.shapeOf l.ss b.os[i].kd).fs.length=b.os[i].vs.length):=by have:=HWc.out.1;unfold Gate.zx at this;simp only [Bool.and_eq_true,decide_eq_true_eq] at this;exact this.2.symm
 clear hfa hb4 hX0 hY0 hZ0 hz3 HI3 HB3
 obtain ⟨fs,hfs⟩:∃ fs,fs=(Gate.shapeOf l.ss b.os[i].kd).fs:=⟨_,rfl⟩
 have HFS:Hid (fs=(Gate.shapeOf l.ss b.os[i].kd).fs):=hfs
 rw [<- hfs] at HFa HLv ⊢
 clear hfs
 go_wp2_with fail
 go_loopw [14] (fun jv wi=>∃ m:Nat,m<=fs.length/\jv = .int .i64 m/\Hid (Gate.jD l b.os[i] b.os[k] role m=false/\Below w4.heap.size w4 wi)) (fun jv _=>fs.length - (intOf jv).toNat)
 case atStart=>exact ⟨0,Nat.zero_le _,rfl,by simp [Gate.jD,qX],Below.refl _ _⟩
 case round =>
  obtain ⟨m,hm,rfl,HR⟩:=hrel
  have hfl:fs.length<=1048576:=by have:=HLv.out;have:=HWc.out.2;omega
  have hYm:=za hY4 hy4 HR.out.2
  have hZm:=za hZ4 hz4 HR.out.2
  have hzm:=Nat.lt_of_lt_of_le hz4 HR.out.2.size
  have hym:=Nat.lt_of_lt_of_le hy4 HR.out.2.size
  have HBm:Hid (Below w.heap.size w wr):=HB4.out.trans (HR.out.2.mono HB4.out.size)
  by_cases hml:m < fs.length
  ·have hmI:(m:Int) < (fs.length:Int):=by omega
   have hmv:m < b.os[i].vs.length:=by have:=HLv.out;omega
   have hmvI:(m:Int) < (b.os[i].vs.length:Int):=by omega
   obtain ⟨fb,foff,fw,fc,rfl,hfb,hfi⟩:=zkv HFa.out HR.out.2 m hml
   obtain ⟨d0,d1,d2,d3,d4,d5,d6,d7,d8,d9,d10⟩:=hfi.load
   obtain ⟨vb,voff,rfl,hvb,cv0⟩:=HI4.out.vals.cells (by intro e;rw [e] at hmv;simp at hmv)
   have cv:=(HR.out.2.cell (p:=⟨vb,voff+m,none⟩) hvb).trans (cv0 m hmv)
   have HSt:Hid (fs[m].to.size<=maxLen/\b.os[i].vs[m].size<=maxLen):=⟨hfi.small.to,HI4.out.vals.small _ (List.getElem_mem _)⟩
   obtain ⟨ob2,off2,_,_,_,_,e2,hob2,_,_,_,p0,p1,_⟩:=HK.out.os.load HBm.out k hk
   simp only [Option.some.injEq,Addr.mk.injEq] at e2
   obtain ⟨rfl,rfl,_⟩:=e2
   have hfb':fb < wr.heap.size:=Nat.lt_of_lt_of_le hfb HR.out.2.size
   have HBa:Hid (Below wr.heap.size wr (wr.alloc (.cells #[.string fs[m].nm,.int .i64 fs[m].kd,.int .i64 fs[m].ls,.int .i64 fs[m].ms,.slice fw fs[m].ws.length fc,.string fs[m].to,.int .i64 fs[m].rl,.bool fs[m].mu,.bool fs[m].fx,.string fs[m].df,.string fs[m].wg] 161))):=(Below.refl _ _).alloc (Nat.le_refl _) _
   have hob3:=Nat.lt_of_lt_of_le hob2 HBm.out.size
   have hvb3:=Nat.lt_of_lt_of_le hvb HR.out.2.size
   clear hfi cv0 hY4 hZ4 hz4 hy4
   go_wp2_with fail
   have hT0:=zm wr #[.string fs[m].nm,.int .i64 fs[m].kd,.int .i64 fs[m].ls,.int .i64 fs[m].ms,.slice fw fs[m].ws.length fc,.string fs[m].to,.int .i64 fs[m].rl,.bool fs[m].mu,.bool fs[m].fx,.string fs[m].df,.string fs[m].wg] 161
   obtain ⟨W5,hW5⟩:∃ W5,W5=wr.alloc (.cells #[.string fs[m].nm,.int .i64 fs[m].kd,.int .i64 fs[m].ls,.int .i64 fs[m].ms,.slice fw fs[m].ws.length fc,.string fs[m].to,.int .i64 fs[m].rl,.bool fs[m].mu,.bool fs[m].fx,.string fs[m].df,.string fs[m].wg] 161):=⟨_,rfl⟩
   have hy5:wr.heap.size < W5.heap.size:=by rw [hW5];simp
   rw [<- hW5] at HBa hT0 ⊢
   clear hW5 d0 d1 d2 d3 d4 d5 d6 d7 d8 d9 d10
   have hT:=za hT0 hy5 (Below.refl W5.heap.size W5).drew
   have hY:=za (za hYm hym HBa.out) (Nat.lt_of_lt_of_le hym HBa.out.size) (Below.refl W5.heap.size W5).drew
   have hZ:=za (za hZm hzm HBa.out) (Nat.lt_of_lt_of_le hzm HBa.out.size) (Below.refl W5.heap.size W5).drew
   have cvd:W5.drew.cell? ⟨vb,voff+m,none⟩=some (.string b.os[i].vs[m]):=(HBa.out.cell (p:=⟨vb,voff+m,none⟩) hvb3).trans cv
   have p0d:W5.drew.cell? ⟨ob,off+k * 7,none⟩=some (.string b.os[k].kd):=(HBa.out.cell (p:=⟨ob,off+k * 7,none⟩) hob3).trans p0
   have p1d:W5.drew.cell? ⟨ob,off+k * 7+1,none⟩=some (.string b.os[k].nm):=(HBa.out.cell (p:=⟨ob,off+k * 7+1,none⟩) hob3).trans p1
   have HRd:Hid (Below w4.heap.size w4 W5.drew):=(HR.out.2.trans (HBa.out.mono HR.out.2.size)).drew
   have HBd:Hid (Below w.heap.size w W5.drew):=HB4.out.trans (HRd.out.mono HB4.out.size)
   clear hT0 hYm hZm hzm hym cv p0 p1
   refine wp_region_held_drew (S:=fun w'=>(∀ j,w'.cell? ⟨w.heap.size+1,j,none⟩=(#[.int .i64 b.now,.int .i64 b.tick,.int .i64 b.given,.slice (some ⟨ob,off,none⟩) b.os.length c0,.slice a1 b.gs.length c1,.slice a2 b.ls.length c2,.slice a3 b.ps.length c3]:Array Value)[j]?)/\(∀ j,w'.cell? ⟨w.heap.size+1+1,j,none⟩=(#[.string b.os[i].kd,.string b.os[i].nm,.string b.os[i].tm,.slice (some ⟨vb,voff,none⟩) b.os[i].vs.length q0,.bool b.os[i].en,.slice ha b.os[i].hs.length q1,.int .i64 b.os[i].vr]:Array Value)[j]?)/\(∀ j,w'.cell? ⟨wr.heap.size,j,none⟩=(#[.string fs[m].nm,.int .i64 fs[m].kd,.int .i64 fs[m].ls,.int .i64 fs[m].ms,.slice fw fs[m].ws.length fc,.string fs[m].to,.int .i64 fs[m].rl,.bool fs[m].mu,.bool fs[m].fx,.string fs[m].df,.string fs[m].wg]:Array Value)[j]?)/\w'.cell? ⟨vb,voff+m,none⟩=some (.string b.os[i].vs[m])/\w'.cell? ⟨ob,off+k * 7,none⟩=some (.string b.os[k].kd)/\w'.cell? ⟨ob,off+k * 7+1,none⟩=some (.string b.os[k].nm)) (by kernel_rfl) ⟨hY,hZ,hT,cvd,p0d,p1d⟩ (fun hHeld=>?_)
   refine tH 0 rfl hHeld ?_;refine tH 1 rfl hHeld ?_
   by_cases t1:fs[m].kd=4
   ·have hdt1:decide (fs[m].kd=4)=true:=decide_eq_true t1
    have hbt1:(fs[m].kd == 4)=true:=beq_iff_eq.2 t1
    have Ht1:Hid (fs[m].kd=4):=t1
    clear t1
    refine tH 2 rfl hHeld ?_;refine tH 3 rfl hHeld ?_;refine tH 4 rfl hHeld ?_;refine tH 5 rfl hHeld ?_;refine tH 6 rfl hHeld ?_
    by_cases t2:fs[m].rl=role
    ·have hdt2:decide (fs[m].rl=role)=true:=decide_eq_true t2
     have hbt2:(fs[m].rl == role)=true:=beq_iff_eq.2 t2
     have Ht2:Hid (fs[m].rl=role):=t2
     clear t2
     refine tH 7 rfl hHeld ?_;refine tH 8 rfl hHeld ?_;refine tH 9 rfl hHeld ?_;refine tH 10 rfl hHeld ?_;refine tH 11 rfl hHeld ?_;refine tH 12 rfl hHeld ?_;refine tH 13 rfl hHeld ?_;refine tH 14 rfl hHeld ?_
     by_cases t3:b.os[i].vs[m].toList.isEmpty=false
     ·have Ht3:Hid (b.os[i].vs[m].toList.isEmpty=false):=t3
      refine tH 15 rfl hHeld ?_;refine tH 16 rfl hHeld ?_;refine tH 17 rfl hHeld ?_;refine tH 18 rfl hHeld ?_;refine tH 19 rfl hHeld ?_;refine tH 20 rfl hHeld ?_;refine tH 21 rfl hHeld ?_;refine tH 22 rfl hHeld ?_;refine tH 23 rfl hHeld ?_;refine tH 24 rfl hHeld ?_;refine tH 25 rfl hHeld ?_
      by_cases t4:(fs[m].to.toList == b.os[k].kd.toList)=true
      ·have Ht4:Hid ((fs[m].to.toList == b.os[k].kd.toList)=true):=t4
       refine tH 26 rfl hHeld ?_;refine tH 27 rfl hHeld ?_;refine tH 28 rfl hHeld ?_;refine tH 29 rfl hHeld ?_;refine tH 30 rfl hHeld ?_;refine tH 31 rfl hHeld ?_;refine tH 32 rfl hHeld ?_;refine tH 33 rfl hHeld ?_;refine tH 34 rfl hHeld ?_;refine tH 35 rfl hHeld ?_;refine tH 36 rfl hHeld ?_;refine tH 37 rfl hHeld ?_;refine tH 38 rfl hHeld ?_;refine tH 39 rfl hHeld ?_
       by_cases t5:(b.os[i].vs[m].toList == b.os[k].nm.toList)=true
       ·have Ht5:Hid ((b.os[i].vs[m].toList == b.os[k].nm.toList)=true):=t5
        refine tH 40 rfl hHeld ?_;refine tH 41 rfl hHeld ?_
        refine wpAnyH_done (by kernel_rfl) ?_ _
        have HF:Hid (Gate.names l b.os[i] b.os[k] role=true):=Gate.zjG (m:=m+1) HFS.out hml (by rw [Gate.zgU HFS.out hml hmv Ht1.out Ht3.out HSt.out.1 HSt.out.2,Gate.zi5,Ht4.out,Ht5.out,decide_eq_true Ht2.out];simp)
        go_wp2_with fail
        go_ret
        exact ⟨ze HF.out.symm,HBd.out⟩
       ·have t5:(b.os[i].vs[m].toList == b.os[k].nm.toList)=false:=by simpa using t5
        have Ht5:Hid ((b.os[i].vs[m].toList == b.os[k].nm.toList)=false):=t5
        refine tH 40 rfl hHeld ?_;refine tH 41 rfl hHeld ?_
        refine wpAnyH_done (by kernel_rfl) ?_ _
        have HS:Hid (Gate.jD l b.os[i] b.os[k] role (m+1)=false):=by rw [Hid,Gate.zbw HFS.out hml hmv HSt.out.1 HSt.out.2 (fun _ _=>by rw [Gate.zi5,Ht5.out];simp)];exact HR.out.1
        go_wp2_with fail
        exact ⟨⟨m+1,by omega,by go_num,HS.out,HRd.out⟩,by simp [intOf];omega⟩
      ·have t4:(fs[m].to.toList == b.os[k].kd.toList)=false:=by simpa using t4
       have Ht4:Hid ((fs[m].to.toList == b.os[k].kd.toList)=false):=t4
       refine tH 26 rfl hHeld ?_;refine tH 27 rfl hHeld ?_;refine tH 28 rfl hHeld ?_;refine kH 29 rfl hHeld ?_;refine kH 30 rfl hHeld ?_;refine kH 31 rfl hHeld ?_;refine kH 32 rfl hHeld ?_;refine kH 33 rfl hHeld ?_;refine kH 34 rfl hHeld ?_;refine kH 35 rfl hHeld ?_;refine kH 36 rfl hHeld ?_;refine kH 37 rfl hHeld ?_;refine kH 38 rfl hHeld ?_;refine kH 39 rfl hHeld ?_;refine kH 40 rfl hHeld ?_;refine tH 41 rfl hHeld ?_
       refine wpAnyH_done (by kernel_rfl) ?_ _
       have HS:Hid (Gate.jD l b.os[i] b.os[k] role (m+1)=false):=by rw [Hid,Gate.zbw HFS.out hml hmv HSt.out.1 HSt.out.2 (fun _ _=>by rw [Gate.zi5,Ht4.out];simp)];exact HR.out.1
       go_wp2_with fail
       exact ⟨⟨m+1,by omega,by go_num,HS.out,HRd.out⟩,by simp [intOf];omega⟩
     ·have t3:b.os[i].vs[m].toList.isEmpty=true:=by simpa using t3
      have Ht3:Hid (b.os[i].vs[m].toList.isEmpty=true):=t3
      refine tH 15 rfl hHeld ?_;refine tH 16 rfl hHeld ?_;refine tH 17 rfl hHeld ?_;refine kH 18 rfl hHeld ?_;refine kH 19 rfl hHeld ?_;refine kH 20 rfl hHeld ?_;refine kH 21 rfl hHeld ?_;refine kH 22 rfl hHeld ?_;refine kH 23 rfl hHeld ?_;refine kH 24 rfl hHeld ?_;refine kH 25 rfl hHeld ?_;refine kH 26 rfl hHeld ?_;refine tH 27 rfl hHeld ?_;refine tH 28 rfl hHeld ?_;refine kH 29 rfl hHeld ?_;refine kH 30 rfl hHeld ?_;refine kH 31 rfl hHeld ?_;refine kH 32 rfl hHeld ?_;refine kH 33 rfl hHeld ?_;refine kH 34 rfl hHeld ?_;refine kH 35 rfl hHeld ?_;refine kH 36 rfl hHeld ?_;refine kH 37 rfl hHeld ?_;refine kH 38 rfl hHeld ?_;refine kH 39 rfl hHeld ?_;refine kH 40 rfl hHeld ?_;refine tH 41 rfl hHeld ?_
      refine wpAnyH_done (by kernel_rfl) ?_ _
      have HS:Hid (Gate.jD l b.os[i] b.os[k] role (m+1)=false):=by rw [Hid,Gate.zbw HFS.out hml hmv HSt.out.1 HSt.out.2 (fun _ h=>by rw [Ht3.out] at h;cases h)];exact HR.out.1
      go_wp2_with fail
      exact ⟨⟨m+1,by omega,by go_num,HS.out,HRd.out⟩,by simp [intOf];omega⟩
    ·have hdt2:decide (fs[m].rl=role)=false:=decide_eq_false t2
     have hbt2:(fs[m].rl == role)=false:=by simpa using t2
     have Ht2:Hid (¬ fs[m].rl=role):=t2
     clear t2
     refine tH 7 rfl hHeld ?_;refine tH 8 rfl hHeld ?_;refine tH 9 rfl hHeld ?_;refine kH 10 rfl hHeld ?_;refine kH 11 rfl hHeld ?_;refine kH 12 rfl hHeld ?_;refine kH 13 rfl hHeld ?_;refine kH 14 rfl hHeld ?_;refine kH 15 rfl hHeld ?_;refine tH 16 rfl hHeld ?_;refine tH 17 rfl hHeld ?_;refine kH 18 rfl hHeld ?_;refine kH 19 rfl hHeld ?_;refine kH 20 rfl hHeld ?_;refine kH 21 rfl hHeld ?_;refine kH 22 rfl hHeld ?_;refine kH 23 rfl hHeld ?_;refine kH 24 rfl hHeld ?_;refine kH 25 rfl hHeld ?_;refine kH 26 rfl hHeld ?_;refine tH 27 rfl hHeld ?_;refine tH 28 rfl hHeld ?_;refine kH 29 rfl hHeld ?_;refine kH 30 rfl hHeld ?_;refine kH 31 rfl hHeld ?_;refine kH 32 rfl hHeld ?_;refine kH 33 rfl hHeld ?_;refine kH 34 rfl hHeld ?_;refine kH 35 rfl hHeld ?_;refine kH 36 rfl hHeld ?_;refine kH 37 rfl hHeld ?_;refine kH 38 rfl hHeld ?_;refine kH 39 rfl hHeld ?_;refine kH 40 rfl hHeld ?_
     refine tH 41 rfl hHeld ?_
     refine wpAnyH_done (by kernel_rfl) ?_ _
     have HS:Hid (Gate.jD l b.os[i] b.os[k] role (m+1)=false):=by rw [Hid,Gate.zbw HFS.out hml hmv HSt.out.1 HSt.out.2 (fun _ _=>by rw [decide_eq_false Ht2.out];rfl)];exact HR.out.1
     go_wp2_with fail
     exact ⟨⟨m+1,by omega,by go_num,HS.out,HRd.out⟩,by simp [intOf];omega⟩
   ·have hdt1:decide (fs[m].kd=4)=false:=decide_eq_false t1
    have hbt1:(fs[m].kd == 4)=false:=by simpa using t1
    have Ht1:Hid (¬ fs[m].kd=4):=t1
    clear t1
    refine tH 2 rfl hHeld ?_;refine tH 3 rfl hHeld ?_;refine kH 4 rfl hHeld ?_;refine kH 5 rfl hHeld ?_;refine kH 6 rfl hHeld ?_;refine kH 7 rfl hHeld ?_;refine tH 8 rfl hHeld ?_;refine tH 9 rfl hHeld ?_;refine kH 10 rfl hHeld ?_;refine kH 11 rfl hHeld ?_;refine kH 12 rfl hHeld ?_;refine kH 13 rfl hHeld ?_;refine kH 14 rfl hHeld ?_;refine kH 15 rfl hHeld ?_;refine tH 16 rfl hHeld ?_;refine tH 17 rfl hHeld ?_;refine kH 18 rfl hHeld ?_;refine kH 19 rfl hHeld ?_;refine kH 20 rfl hHeld ?_;refine kH 21 rfl hHeld ?_;refine kH 22 rfl hHeld ?_;refine kH 23 rfl hHeld ?_;refine kH 24 rfl hHeld ?_;refine kH 25 rfl hHeld ?_;refine kH 26 rfl hHeld ?_;refine tH 27 rfl hHeld ?_;refine tH 28 rfl hHeld ?_;refine kH 29 rfl hHeld ?_;refine kH 30 rfl hHeld ?_;refine kH 31 rfl hHeld ?_;refine kH 32 rfl hHeld ?_;refine kH 33 rfl hHeld ?_;refine kH 34 rfl hHeld ?_;refine kH 35 rfl hHeld ?_
    refine kH 36 rfl hHeld ?_;refine kH 37 rfl hHeld ?_;refine kH 38 rfl hHeld ?_;refine kH 39 rfl hHeld ?_;refine kH 40 rfl hHeld ?_;refine tH 41 rfl hHeld ?_
    refine wpAnyH_done (by kernel_rfl) ?_ _
    have HS:Hid (Gate.jD l b.os[i] b.os[k] role (m+1)=false):=by rw [Hid,Gate.zbw HFS.out hml hmv HSt.out.1 HSt.out.2 (fun h _=>absurd h Ht1.out)];exact HR.out.1
    go_wp2_with fail
    exact ⟨⟨m+1,by omega,by go_num,HS.out,HRd.out⟩,by simp [intOf];omega⟩
  ·have e:m=fs.length:=by omega
   subst e
   have HN:Hid (Gate.names l b.os[i] b.os[k] role=false):=by
    have h1:=HR.out.1
    rw [HFS.out] at h1
    exact h1
   clear HR hY4 hZ4
   go_wp2_with fail
   go_ret
   exact ⟨ze HN.out.symm,HBm.out⟩
namespace Gate
theorem zeF {α:Type} {key:α->α->Int} {ms:List α} {k:Nat} (h:jG key ms k) (hk:k < ms.length) (hn:∀ m (e:k=m+1),key (ms[m]'(by omega)) ms[k] < 0):jG key ms (k+1):=by
 intro i hi hik
 rcases Nat.lt_or_ge (i+1) k with hlt | hge
 ·exact h i hi hlt
 ·have e:k=i+1:=by omega
  subst e
  exact hn i rfl
theorem zfv {α:Type} {key:α->α->Int} {ms:List α} {k:Nat} (hk:k < ms.length) (h:∀ h0:0 < k,key (ms[k - 1]'(by omega)) ms[k] < 0):∀ m (e:k=m+1),key (ms[m]'(by omega)) ms[k] < 0:=by
 intro m e;subst e;exact h (by omega)
theorem zfZ {α:Type} {key:α->α->Int} {ms:List α} {k:Nat} (h:jG key ms k) (hk:ms.length<=k):zaX key ms=true:=by
 rw [zlp];exact fun i hi=>h i hi (by omega)
theorem zds {α:Type} {key:α->α->Int} {ms:List α} {k:Nat} (hk:k < ms.length) (h0:0 < k) (hn:¬ key (ms[k - 1]'(by omega)) ms[k] < 0):zaX key ms=false:=by
 obtain ⟨m,rfl⟩:∃ m,k=m+1:=⟨k - 1,by omega⟩
 exact zfR hk hn
theorem ziE (a b:Gr):zbA a b < 0 ↔ a.no < b.no:=by
 unfold zbA zdU;split
 ·simp_all
 ·split <;> simp_all
end Gate
end Go.Proofs.YtihdafafigceiaaGreat
