import Derived.Test.YtihdafafigceiaaGreatM37
import Derived.Test.YtihdafafigceiaaGreatM41
import Derived.Test.YtihdafafigceiaaGreatM03
import Derived.Test.YtihdafafigceiaaGreatM10
import Derived.Test.YtihdafafigceiaaGreatM22
import Derived.Laws.IdiomStrings
import Derived.Deep.RegionHeld3
set_option maxHeartbeats 8000000
namespace Go.Proofs.YtihdafafigceiaaGreat
open Go.RowKit
namespace Gate
theorem zlN (l:Lw) (os:List Ob) (o:Ob):(os.any fun p=>p.en && names l o p 3)=zbQ l os o:=by
 rw [Bool.eq_iff_iff]
 unfold names jD zbQ
 simp only [List.any_eq_true,Bool.and_eq_true,decide_eq_true_eq]
 constructor
 ·rintro ⟨p,hp,he,x,hx,hr,ho⟩;exact ⟨x,hx,hr,p,hp,he,ho⟩
 ·rintro ⟨x,hx,hr,p,hp,he,ho⟩;exact ⟨p,hp,he,x,hx,hr,ho⟩
theorem zji {l:Lw} {b:Bk} (hok:yh l.ss l.ms=true) (h:zN l b=true):b.os.length<=40/\∀ k (h:k < b.os.length),zx l.ss b.os[k]=true:=by
 unfold zN at h
 simp only [Bool.and_eq_true,decide_eq_true_eq] at h
 refine ⟨h.1,fun k hk=>?_⟩
 have h2:=List.all_eq_true.1 h.2.2 _ (List.getElem_mem hk)
 unfold yJ zaG at h2
 simp only [Bool.and_eq_true,decide_eq_true_eq] at h2
 have h3:=jF hok h2.2.2.1.1
 unfold qE at h3
 unfold zx
 simp only [Bool.and_eq_true,decide_eq_true_eq] at h3 ⊢
 exact ⟨h3.1,h3.2.1⟩
end Gate
set_option maxRecDepth 20000 in
theorem zmx (l:Lw) (la lb lc:Option Addr) (lca lcb lcc:Nat) (b:Bk) (a0 a1 a2 a3:Option Addr) (c0 c1 c2 c3:Nat) (w:World) (hl:y9 w l la lb lc) (hb:qw w b a0 a1 a2 a3) (hok:Gate.yh l.ss l.ms=true) (hob:Gate.zN l b=true) (hfw:∀ i (h:i < b.os.length),b.os[i].vs.length<=1048576) :
 Calls Tryz.prog 25 #[.agg #[.slice la l.ss.length lca,.slice lb l.ms.length lcb,.slice lc l.ts.length lcc],.agg #[.int .i64 b.now,.int .i64 b.tick,.int .i64 b.given,.slice a0 b.os.length c0,.slice a1 b.gs.length c1,.slice a2 b.ls.length c2,.slice a3 b.ps.length c3]] w fun e w'=>∃ v,e = .returned v/\w'.ownsRow w.heap.size 3 1 v (Gate.marks l b.os).length (ints (Gate.marks l b.os))/\Below w.heap.size w w':=by
 obtain ⟨i0,hi,hzi0,hz1',hz2⟩:=info_parts Tryz.zgc
 have HK:Hid (qw w b a0 a1 a2 a3):=hb
 have HL:Hid (y9 w l la lb lc):=hl
 have HO:Hid (b.os.length<=40/\∀ k (h:k < b.os.length),Gate.zx l.ss b.os[k]=true):=Gate.zji hok hob
 have HW:Hid (∀ i (h:i < b.os.length),b.os[i].vs.length<=1048576):=hfw
 clear hb hl hok hob hfw
 go_enter Tryz.func25,Tryz.ntmps25
 go_wp2_with fail
 obtain ⟨hA,hB,hC⟩:=zon w (.cells #[.slice la l.ss.length lca,.slice lb l.ms.length lcb,.slice lc l.ts.length lcc] 41) (.cells #[.int .i64 b.now,.int .i64 b.tick,.int .i64 b.given,.slice a0 b.os.length c0,.slice a1 b.gs.length c1,.slice a2 b.ls.length c2,.slice a3 b.ps.length c3] 48) (.cells #[] 3)
 have HB0:Hid (Below w.heap.size w (((w.alloc (.cells #[.slice la l.ss.length lca,.slice lb l.ms.length lcb,.slice lc l.ts.length lcc] 41)).alloc (.cells #[.int .i64 b.now,.int .i64 b.tick,.int .i64 b.given,.slice a0 b.os.length c0,.slice a1 b.gs.length c1,.slice a2 b.ls.length c2,.slice a3 b.ps.length c3] 48)).alloc (.cells #[] 3))):=below3' w _ _ _
 obtain ⟨W0,hW0⟩:∃ W0,W0=((w.alloc (.cells #[.slice la l.ss.length lca,.slice lb l.ms.length lcb,.slice lc l.ts.length lcc] 41)).alloc (.cells #[.int .i64 b.now,.int .i64 b.tick,.int .i64 b.given,.slice a0 b.os.length c0,.slice a1 b.gs.length c1,.slice a2 b.ls.length c2,.slice a3 b.ps.length c3] 48)).alloc (.cells #[] 3):=⟨_,rfl⟩
 have hz0:w.heap.size+1+1 < W0.heap.size:=by rw [hW0];simp
 rw [<- hW0] at HB0 hA hB hC ⊢
 clear hW0
 have hL0:=zbO hA
 have hX0:=zbO hB
 have HR0:Hid (W0.ownsRow (w.heap.size+1+1) 3 1 (.slice (some ⟨w.heap.size+1+1,0,none⟩) 0 0) 0 (ints [])):=⟨rfl,.inr ⟨w.heap.size+1+1,0,#[],rfl,Nat.le_refl _,hC,Nat.le_refl _,by simp [maxLen],rfl,rfl⟩⟩
 clear hA hB hC
 go_loopw [5,6] (fun v0 iv wr=>∃ (k:Nat) (v:Value),v=v0/\k<=b.os.length/\iv = .int .i64 k/\Hid (wr.ownsRow (w.heap.size+1+1) 3 1 v (Gate.yX l b.os k).length (ints (Gate.yX l b.os k))/\Below (w.heap.size+1+1) W0 wr)) (fun _ iv _=>b.os.length - (intOf iv).toNat)
 case atStart=>exact ⟨0,_,rfl,Nat.zero_le _,rfl,HR0.out,Below.refl _ _⟩
 case round =>
  obtain ⟨k,v,hv,hk,rfl,HQ⟩:=hrel
  subst hv
  have hkn:k<=40:=by have:=HO.out.1;omega
  have hX1:∀ j,wr.cell? ⟨w.heap.size+1,j,none⟩=(#[.int .i64 b.now,.int .i64 b.tick,.int .i64 b.given,.slice a0 b.os.length c0,.slice a1 b.gs.length c1,.slice a2 b.ls.length c2,.slice a3 b.ps.length c3]:Array Value)[j]?:=fun j=>(HQ.out.2.cell (p:=⟨w.heap.size+1,j,none⟩) (Nat.lt_succ_self _)).trans (hX0 j)
  have hL1:∀ j,wr.cell? ⟨w.heap.size,j,none⟩=(#[.slice la l.ss.length lca,.slice lb l.ms.length lcb,.slice lc l.ts.length lcc]:Array Value)[j]?:=fun j=>(HQ.out.2.cell (p:=⟨w.heap.size,j,none⟩) (by show w.heap.size < _;omega)).trans (hL0 j)
  have hz1:w.heap.size+1+1 < wr.heap.size:=Nat.lt_of_lt_of_le hz0 HQ.out.2.size
  have hy1:=Nat.lt_of_succ_lt hz1
  have hq1:=Nat.lt_of_succ_lt hy1
  have HBr:Hid (Below w.heap.size w wr):=HB0.out.trans (HQ.out.2.mono (by omega))
  obtain ⟨W1,hW1⟩:∃ W1,W1=wr:=⟨_,rfl⟩
  rw [<- hW1] at HQ hX1 hL1 hz1 hy1 hq1 HBr ⊢
  clear hW1
  by_cases hlt:k < b.os.length
  ·have hltI:(k:Int) < (b.os.length:Int):=by omega
   go_wp2_with fail
   go_loopw [7,8] (fun f0 jv wi=>∃ m:Nat,m<=b.os.length/\jv = .int .i64 m/\f0 = .bool ((b.os.take m).any fun p=>p.en && Gate.names l b.os[k] p 3)/\Below W1.heap.size W1 wi) (fun _ jv _=>b.os.length - (intOf jv).toNat)
   case atStart=>exact ⟨0,Nat.zero_le _,rfl,rfl,Below.refl _ _⟩
   case round =>
    obtain ⟨m,hm,rfl,rfl,hBm⟩:=hrel
    have hmn:m<=40:=by have:=HO.out.1;omega
    have hX2:=za hX1 hy1 hBm
    have hL2:=za hL1 hq1 hBm
    have hy2:=Nat.lt_of_lt_of_le hy1 hBm.size
    have hq2:=Nat.lt_of_lt_of_le hq1 hBm.size
    have HBm:Hid (Below W1.heap.size W1 wr):=hBm
    have HBw:Hid (Below w.heap.size w wr):=HBr.out.trans (hBm.mono HBr.out.size)
    clear hBm
    by_cases hml:m < b.os.length
    ·have hmI:(m:Int) < (b.os.length:Int):=by omega
     have HSn:Hid (((b.os.take (m+1)).any fun p=>p.en && Gate.names l b.os[k] p 3)=(((b.os.take m).any fun p=>p.en && Gate.names l b.os[k] p 3) || (b.os[m].en && Gate.names l b.os[k] b.os[m] 3))):=zcU _ b.os m hml
     have hcall:=zlX l la lb lc lca lcb lcc b a0 a1 a2 a3 c0 c1 c2 c3 k m 3 wr (HL.out.mono HBw.out) (HK.out.mono HBw.out) hlt hml (HO.out.2 k hlt) (HW.out k hlt)
     obtain ⟨ob,off,v0,v1,q0,q1,rfl,hob,_,_,_,d0,d1,d2,d3,d4,d5,d6⟩:=HK.out.os.load HBw.out m hml
     have hob':ob < wr.heap.size:=Nat.lt_of_lt_of_le hob HBw.out.size
     clear d0 d1 d2 d3 d5 d6 hX1 hL1
     obtain ⟨fl,hfl⟩:∃ fl,fl=((b.os.take m).any fun p=>p.en && Gate.names l b.os[k] p 3):=⟨_,rfl⟩
     rw [<- hfl] at HSn ⊢
     clear hfl
     cases he:b.os[m].en with
     | false =>
      rw [he] at d4
      have HS:Hid (((b.os.take (m+1)).any fun p=>p.en && Gate.names l b.os[k] p 3)=fl):=by rw [Hid,HSn.out,he];simp
      clear hcall
      go_wp2_with fail
      exact ⟨⟨m+1,by omega,by go_num,by rw [HS.out],HBm.out⟩,by simp [intOf];omega⟩
     | true =>
      rw [he] at d4
      go_wp2_with fail
      refine hcall.mono ?_
      rintro e w3 ⟨rfl,hb3⟩
      have HB3:Hid (Below W1.heap.size W1 w3):=HBm.out.trans (hb3.mono HBm.out.size)
      clear hb3 hcall d4 hob'
      cases hnm:Gate.names l b.os[k] b.os[m] 3 with
      | false =>
       have HS:Hid (((b.os.take (m+1)).any fun p=>p.en && Gate.names l b.os[k] p 3)=fl):=by rw [Hid,HSn.out,hnm];simp
       go_wp2_with fail
       exact ⟨⟨m+1,by omega,by go_num,by rw [HS.out],HB3.out⟩,by simp [intOf];omega⟩
      | true =>
       have HS:Hid (((b.os.take (m+1)).any fun p=>p.en && Gate.names l b.os[k] p 3)=true):=by rw [Hid,HSn.out,hnm,he];simp
       go_wp2_with fail
       exact ⟨⟨m+1,by omega,by go_num,by rw [HS.out],HB3.out⟩,by simp [intOf];omega⟩
    ·have e:m=b.os.length:=by omega
     subst e
     have HOw:Hid (((b.os.take b.os.length).any fun p=>p.en && Gate.names l b.os[k] p 3)=Gate.zbQ l b.os b.os[k]):=by rw [Hid,List.take_of_length_le (Nat.le_refl _)];exact Gate.zlN l b.os b.os[k]
     rw [HOw.out]
     obtain ⟨ob,off,v0,v1,q0,q1,rfl,hob,_,_,_,d0,d1,d2,d3,d4,d5,d6⟩:=HK.out.os.load HBw.out k hlt
     have hob':ob < wr.heap.size:=Nat.lt_of_lt_of_le hob HBw.out.size
     have HQ3:Hid (wr.ownsRow (w.heap.size+1+1) 3 1 v (Gate.yX l b.os k).length (ints (Gate.yX l b.os k))/\Below (w.heap.size+1+1) W0 wr):=⟨yZ HQ.out.1 HBm.out,HQ.out.2.trans (HBm.out.mono (by omega))⟩
     have HLL:Hid ((Gate.yX l b.os k).length<=40):=by have:=Gate.zeC l b.os k;have:=HO.out.1;show _<=_;omega
     clear d0 d1 d2 d3 d5 d6 hX1 hL1
     cases he:b.os[k].en with
     | true =>
      rw [he] at d4
      have HS:Hid (Gate.yX l b.os (k+1)=Gate.yX l b.os k):=Gate.zh3 hlt he
      go_wp2_with fail
      exact ⟨⟨k+1,_,rfl,by omega,by go_num,by rw [HS.out];exact HQ3.out.1,HQ3.out.2⟩,zn hlt⟩
     | false =>
      rw [he] at d4
      by_cases how:Gate.zbQ l b.os b.os[k]=true
      rotate_left
      ·have HS:Hid (Gate.yX l b.os (k+1)=Gate.yX l b.os k):=Gate.zj3 hlt (by simpa using how)
       rw [Bool.eq_false_iff.2 how]
       go_wp2_with fail
       exact ⟨⟨k+1,_,rfl,by omega,by go_num,by rw [HS.out];exact HQ3.out.1,HQ3.out.2⟩,zn hlt⟩
      ·have HS:Hid (Gate.yX l b.os (k+1)=Gate.yX l b.os k ++ [(k:Int)]):=Gate.zix hlt he how
       rw [how]
       go_wp2_with (at_builtin;refine wpList_append_own _ rfl (.tmp 47) (.tmp 49) 35 rfl (w.heap.size+1+1) 3 i0 (.int .i64 0) 1 8 Tryz.underlying35 hi hzi0 hz1' hz2 rfl (by decide) _ _ _ rfl (HQ3.out.1.alloc _) ⟨wr.heap.size,0,none⟩ 1 1 [.int .i64 (k:Int)] rfl rfl (zcz _ _ _) (by intro u hu;simp at hu;subst hu;rfl) (by have:=HLL.out;unfold maxLen;omega) (by have:=HLL.out;omega) (by have:=HQ3.out.2.size;simp;omega) ?_;intro v' w4 hown' hgr _)
       have hgb:∀ g',v.ownBlock=some g'->w.heap.size+1+1<=g':=fun g' hg'=>(HQ3.out.1.lt g' hg').1
       refine ⟨⟨k+1,_,rfl,by omega,by go_num,?_,zbk HQ3.out.2 (by omega) hgr hgb⟩,zn hlt⟩
       rw [HS.out,List.length_append]
       have e1:ints (Gate.yX l b.os k ++ [(k:Int)])=ints (Gate.yX l b.os k) ++ [.int .i64 (k:Int)]:=by simp [ints]
       rw [e1]
       exact hown'
  ·have e:k=b.os.length:=by omega
   subst e
   have HV:Hid (W1.ownsRow w.heap.size 3 1 v (Gate.marks l b.os).length (ints (Gate.marks l b.os))/\Below w.heap.size w W1):=⟨zaf HQ.out.1 (by omega),HBr.out⟩
   clear HQ hlt hk
   go_wp2_with fail
   go_ret
   exact ⟨v,rfl,HV.out⟩
set_option maxRecDepth 20000 in
theorem zkH (l:Lw) (la lb lc:Option Addr) (lca lcb lcc:Nat) (b:Bk) (a0 a1 a2 a3:Option Addr) (c0 c1 c2 c3:Nat) (w:World) (hl:y9 w l la lb lc) (hb:qw w b a0 a1 a2 a3) (hh:zbJ w a0 b.os) (hbf:b.Few) (hz:qD b.os<=1048576) :
 Calls Tryz.prog 6 #[.agg (l.cells la lb lc lca lcb lcc),.agg (b.cells a0 a1 a2 a3 c0 c1 c2 c3)] w fun e w'=>∃ v,e = .returned v/\w'.ownsRow w.heap.size 3 1 v (Gate.q8 l b).length (ints (Gate.q8 l b))/\Below w.heap.size w w':=by
 have HK:Hid (qw w b a0 a1 a2 a3):=hb
 have HL:Hid (y9 w l la lb lc):=hl
 have HF:Hid (zbJ w a0 b.os/\b.Few/\qD b.os<=1048576):=⟨hh,hbf,hz⟩
 clear hb hl hh hbf hz
 unfold Lw.cells Bk.cells
 go_enter Tryz.func6,Tryz.ntmps6
 go_wp2_with fail
 obtain ⟨hL0,hX0⟩:=qz w #[.slice la l.ss.length lca,.slice lb l.ms.length lcb,.slice lc l.ts.length lcc] #[.int .i64 b.now,.int .i64 b.tick,.int .i64 b.given,.slice a0 b.os.length c0,.slice a1 b.gs.length c1,.slice a2 b.ls.length c2,.slice a3 b.ps.length c3] 41 48
 have HBi:Hid (Below w.heap.size w ((w.alloc (.cells #[.slice la l.ss.length lca,.slice lb l.ms.length lcb,.slice lc l.ts.length lcc] 41)).alloc (.cells #[.int .i64 b.now,.int .i64 b.tick,.int .i64 b.given,.slice a0 b.os.length c0,.slice a1 b.gs.length c1,.slice a2 b.ls.length c2,.slice a3 b.ps.length c3] 48))):=zA w _ _
 obtain ⟨W0,hW0⟩:∃ W0,W0=(w.alloc (.cells #[.slice la l.ss.length lca,.slice lb l.ms.length lcb,.slice lc l.ts.length lcc] 41)).alloc (.cells #[.int .i64 b.now,.int .i64 b.tick,.int .i64 b.given,.slice a0 b.os.length c0,.slice a1 b.gs.length c1,.slice a2 b.ls.length c2,.slice a3 b.ps.length c3] 48):=⟨_,rfl⟩
 have hz0:w.heap.size+1 < W0.heap.size:=by rw [hW0];simp
 rw [<- hW0] at HBi hX0 hL0 ⊢
 clear hW0
 refine (zh2 l la lb lc lca lcb lcc b a0 a1 a2 a3 c0 c1 c2 c3 _ (HL.out.mono HBi.out) (HK.out.mono HBi.out) (HF.out.1.mono HBi.out) HF.out.2.1 HF.out.2.2).mono ?_
 rintro e w1 ⟨rfl,hb0⟩
 have hX1:=za hX0 hz0 hb0
 have hL1:=za hL0 (Nat.lt_of_succ_lt hz0) hb0
 have hz1:=Nat.lt_of_lt_of_le hz0 hb0.size
 have hy1:=Nat.lt_of_succ_lt hz1
 have HBi:Hid (Below w.heap.size w w1):=HBi.out.trans (hb0.mono HBi.out.size)
 clear hb0 hX0 hL0 hz0
 by_cases t:Gate.j4 l b=true
 rotate_left
 ·have HN:Hid (Gate.q8 l b=[]):=by unfold Hid Gate.q8;rw [if_neg t]
  have HR0:Hid ((w1.alloc (.cells #[] 3)).ownsRow w.heap.size 3 1 (.slice (some ⟨w1.heap.size,0,none⟩) 0 0) 0 (ints [])):=⟨rfl,.inr ⟨w1.heap.size,0,#[],rfl,HBi.out.size,World.alloc_heap_new _ _,Nat.le_refl _,by simp [maxLen],rfl,rfl⟩⟩
  rw [Bool.eq_false_iff.2 t]
  clear t
  go_wp2_with fail
  go_ret
  exact ⟨_,rfl,by rw [HN.out];exact HR0.out,HBi.out.alloc HBi.out.size _⟩
 have HM:Hid (Gate.q8 l b=Gate.marks l b.os):=by unfold Hid Gate.q8;rw [if_pos t]
 have HT:Hid (Gate.j4 l b=true):=t
 rw [t]
 clear t
 go_wp2_with fail
 refine (zmx l la lb lc lca lcb lcc b a0 a1 a2 a3 c0 c1 c2 c3 _ (HL.out.mono HBi.out) (HK.out.mono HBi.out) (book_facts HT.out).1 (book_facts HT.out).2 (fun i h=>(HF.out.2.1.os.2 i h).1)).mono ?_
 rintro e w2 ⟨v,rfl,hv,hb1⟩
 have HV:Hid (w2.ownsRow w.heap.size 3 1 v (Gate.q8 l b).length (ints (Gate.q8 l b))/\Below w.heap.size w w2):=by rw [HM.out];exact ⟨zaf hv HBi.out.size,HBi.out.trans (hb1.mono HBi.out.size)⟩
 clear hv hb1
 go_wp2_with fail
 go_ret
 exact ⟨v,rfl,HV.out⟩
structure Marked (lo hi:Nat) (w w':World):Prop where
 os:w'.os=w.os
 tape:w'.tape=w.tape
 output:w'.output=w.output
 size:w.heap.size<=w'.heap.size
 out:∀ k,k < w.heap.size->(k < lo \/ hi<=k)->w'.heap[k]?=w.heap[k]?
 inn:∀ (k:Nat) (C:Array Value) (t:TypeId),lo<=k->k < hi->w.heap[k]?=some (.cells C t)->∃ C':Array Value,w'.heap[k]?=some (.cells C' t)/\C'.size=C.size/\∀ (j:Nat) a n c,C'[j]?=some (Value.slice a n c) ↔ C[j]?=some (Value.slice a n c)
theorem Marked.refl (lo hi:Nat) (w:World):Marked lo hi w w:=⟨rfl,rfl,rfl,Nat.le_refl _,fun _ _ _=>rfl,fun _ C _ _ _ h=>⟨C,h,rfl,fun _ _ _ _=>Iff.rfl⟩⟩
theorem Marked.trans {lo hi:Nat} {a b c:World} (h:Marked lo hi a b) (k:Marked lo hi b c):Marked lo hi a c :=
 ⟨k.os.trans h.os,k.tape.trans h.tape,k.output.trans h.output,Nat.le_trans h.size k.size,
  fun i hi ho=>(k.out i (Nat.lt_of_lt_of_le hi h.size) ho).trans (h.out i hi ho),
  fun i C t h1 h2 hC=>by
   obtain ⟨C1,hC1,hs1,hk1⟩:=h.inn i C t h1 h2 hC
   obtain ⟨C2,hC2,hs2,hk2⟩:=k.inn i C1 t h1 h2 hC1
   exact ⟨C2,hC2,hs2.trans hs1,fun j a n c=>(hk2 j a n c).trans (hk1 j a n c)⟩⟩
theorem Marked.of_below {lo hi:Nat} {w w':World} (h:Below w.heap.size w w'):Marked lo hi w w' :=
 ⟨h.os,h.tape,h.output,h.size,fun k hk _=>h.block k hk,fun k C _ _ _ hC=>⟨C,(h.block k (Array.getElem?_eq_some_iff.1 hC).1).trans hC,rfl,fun _ _ _ _=>Iff.rfl⟩⟩
theorem Marked.wide {lo hi lo' hi':Nat} {w w':World} (h:Marked lo hi w w') (h1:lo'<=lo) (h2:hi<=hi'):Marked lo' hi' w w' :=
 ⟨h.os,h.tape,h.output,h.size,fun k hk ho=>h.out k hk (by omega),fun k C t g1 g2 hC=>by
  by_cases hin:lo<=k/\k < hi
  ·exact h.inn k C t hin.1 hin.2 hC
  ·exact ⟨C,(h.out k (Array.getElem?_eq_some_iff.1 hC).1 (by omega)).trans hC,rfl,fun _ _ _ _=>Iff.rfl⟩⟩
theorem Marked.put {lo hi b j:Nat} {w w1:World} {C:Array Value} {t:TypeId} (h:Marked lo hi w w1) (hlo:lo<=b) (hhi:b < hi) (hC:w.heap[b]?=some (.cells C t)) (hj:∀ a n c,C[j]? ≠ some (Value.slice a n c)) (v:Value) (hv:∀ a n c,v ≠ Value.slice a n c):Marked lo hi w (w1.setCell ⟨b,j,none⟩ v):=by
 refine ⟨h.os,h.tape,h.output,by have:=h.size;simpa [World.setCell] using this,fun k hk ho=>?_,fun k C0 t0 g1 g2 hC0=>?_⟩
 ·rw [Below.heap_setCell _ _ _ _ (by show k ≠ b;omega)];exact h.out k hk ho
 ·obtain ⟨C1,hC1,hs1,hk1⟩:=h.inn k C0 t0 g1 g2 hC0
  by_cases hkb:k=b
  ·subst hkb
   rw [hC] at hC0
   simp only [Option.some.injEq,Obj.cells.injEq] at hC0
   obtain ⟨rfl,rfl,_⟩:=hC0
   refine ⟨C1.setIfInBounds j v,zk hC1 _,by simpa using hs1,fun i a n c=>?_⟩
   by_cases hij:j=i
   ·subst hij
    refine ⟨fun h=>?_,fun h=>absurd h (hj a n c)⟩
    exfalso
    rw [Array.getElem?_setIfInBounds] at h
    simp only [if_true] at h
    split at h
    ·exact hv a n c (Option.some.inj h)
    ·cases h
   ·rw [Array.getElem?_setIfInBounds_ne hij];exact hk1 i a n c
  ·exact ⟨C1,(Below.heap_setCell _ _ _ _ (by show k ≠ b;exact hkb)).trans hC1,hs1,hk1⟩
theorem Marked.cell {lo hi:Nat} {w w':World} (h:Marked lo hi w w') {p:Addr} (hp:p.block < w.heap.size) (ho:p.block < lo \/ hi<=p.block):w'.cell? p=w.cell? p:=by
 unfold World.cell?;rw [h.out p.block hp ho]
theorem Marked.box {lo hi b:Nat} {w w':World} {X:Array Value} (h:Marked lo hi w w') (hX:∀ o,w.cell? ⟨b,o,none⟩=X[o]?) (hb:b < w.heap.size) (ho:b < lo \/ hi<=b):∀ o,w'.cell? ⟨b,o,none⟩=X[o]? :=
 fun o=>(h.cell (p:=⟨b,o,none⟩) hb ho).trans (hX o)
theorem Marked.below {lo hi B:Nat} {w w':World} (h:Marked lo hi w w') (h1:B<=lo) (h2:B<=w.heap.size):Below B w w' :=
 ⟨h.os,h.tape,h.output,h.size,fun k hk=>h.out k (by omega) (Or.inl (by omega))⟩
namespace Gate
def zeo (n:Nat):ByteArray:=⟨#[UInt8.ofNat (48+n)]⟩
def digits (n:Nat) (acc:ByteArray):ByteArray:=if n=0 then acc else digits (n / 10) (zeo (n % 10) ++ acc)
termination_by n
decreasing_by omega
theorem zlw (acc:ByteArray):digits 0 acc=acc:=by rw [digits];rfl
theorem zni {n:Nat} (h:0 < n) (acc:ByteArray):digits n acc=digits (n / 10) (zeo (n % 10) ++ acc):=by
 conv=>lhs;rw [digits]
 rw [if_neg (by omega)]
def zdV (k:Nat):ByteArray:=⟨#[109]⟩ ++ digits k ByteArray.empty
end Gate
theorem zln (n:Nat) (h:n < 9000000000000000000):wrap64 ((n:Int) / 10)=((n / 10:Nat):Int):=by
 rw [yw _ ⟨by omega,by omega⟩];omega
theorem zo2 {k:Nat} (h:k < 9000000000000000000):k < 10 ^ 19:=Nat.lt_trans h (by decide)
theorem zm2 (n:Nat) (hn:0 < n) (h:n < 9000000000000000000):(intOf (.int .i64 (wrap64 ((n:Int) / 10)))).toNat < (intOf (.int .i64 (n:Int))).toNat:=by
 rw [zln n h]
 show (((n / 10:Nat):Int)).toNat < ((n:Nat):Int).toNat
 rw [Int.toNat_natCast,Int.toNat_natCast]
 omega
theorem zn5 (n:Nat):((UInt8.ofNat (48+n % 10)).toNat:Int)=48+(n:Int) % 10:=by
 rw [UInt8.toNat_ofNat',Nat.mod_eq_of_lt (by omega)];omega
theorem zmt (w:World) (n:Nat):(convert 181 9 (.slice (some ⟨w.heap.size,0,none⟩) 1 1)).run Tryz.prog (w.alloc (.cells #[.int .u8 (48+(n:Int) % 10)] 5)) = .ok (.string (Gate.zeo (n % 10))) (w.alloc (.cells #[.int .u8 (48+(n:Int) % 10)] 5)):=by
 refine run_convert_bytes_back _ _ _ 5 ⟨w.heap.size,0,none⟩ 1 [UInt8.ofNat (48+n % 10)] Tryz.underlying181 Tryz.underlying5 Tryz.underlying9 (fun j hj=>?_)
 have e:j=0:=by simp at hj;omega
 subst e
 rw [List.getElem_cons_zero,zn5]
 have e2:(⟨w.heap.size,0,none⟩:Addr).add 0=⟨w.heap.size,0,none⟩:=rfl
 rw [e2,World.cell?_alloc_at (hn:=rfl)]
 rfl
set_option maxRecDepth 20000 in
theorem zfV (k:Nat) (w:World) (hk:0 < k) (hk2:k < 9000000000000000000) :
 Calls Tryz.prog 80 #[.int .i64 k] w fun e w'=>e = .returned (.string (Gate.zdV k))/\Below w.heap.size w w':=by
 have hk0:decide ((k:Int)<=0)=false:=by simp;omega
 go_enter Tryz.func80,Tryz.ntmps80
 go_wp2_with fail
 go_loopw [0,3] (fun kv ov wr=>∃ (n:Nat) (acc:ByteArray) (d:Nat),kv = .int .i64 n/\ov = .string acc/\n<=k/\n < 10 ^ d/\acc.size+d<=19/\Gate.digits n acc=Gate.digits k ByteArray.empty/\Below w.heap.size w wr) (fun kv _ _=>(intOf kv).toNat)
 case atStart=>exact ⟨k,ByteArray.empty,19,rfl,rfl,Nat.le_refl _,zo2 hk2,by simp,rfl,Below.refl _ _⟩
 case round =>
  obtain ⟨n,acc,d,rfl,rfl,hnk,hnd,had,hdig,hB⟩:=hrel
  have HF:Hid (n<=k/\n < 10 ^ d/\acc.size+d<=19/\Gate.digits n acc=Gate.digits k ByteArray.empty/\Below w.heap.size w wr):=⟨hnk,hnd,had,hdig,hB⟩
  have HK:Hid (k < 9000000000000000000):=hk2
  have hacc:acc.size<=19:=by omega
  clear hnk hnd had hdig hB hk2
  by_cases hn:0 < n
  ·have hn0:decide ((n:Int) > 0)=true:=by simp;omega
   have hcv:=zmt wr n
   have hds:(Gate.zeo (n % 10)).size=1:=rfl
   go_wp2_with fail
   go_roundw
   case rel =>
    obtain ⟨hnk,hnd,had,hdig,hB⟩:=HF.out
    have hk2:=HK.out
    have hd0:d ≠ 0:=by rintro rfl;simp at hnd;omega
    obtain ⟨e,rfl⟩:∃ e,d=e+1:=⟨d - 1,by omega⟩
    exact ⟨n / 10,Gate.zeo (n % 10) ++ acc,e,by rw [zln n (by omega)],rfl,by omega,by rw [Nat.pow_succ] at hnd;omega,by rw [ByteArray.size_append,hds];omega,by rw [<- Gate.zni hn];exact hdig,hB.alloc hB.size _⟩
   case measure =>
    have hnk:=HF.out.1
    have hk2:=HK.out
    exact zm2 n hn (by omega)
  ·have hn0:decide ((n:Int) > 0)=false:=by simp;omega
   go_wp2_with fail
   go_ret
   have e0:n=0:=by omega
   obtain ⟨_,_,_,hdig,hB⟩:=HF.out
   subst e0
   rw [Gate.zlw] at hdig
   exact ⟨by unfold Gate.zdV;rw [<- hdig];rfl,hB⟩
theorem zhm (g n cap:Nat) (C:Array Value) (k:Nat) (w:World) (hC:w.heap[g]?=some (.cells C 9)) (hn:n<=C.size) (hns:∀ i,i < n->∀ a m c,C[i]? ≠ some (Value.slice a m c)) (hk:0 < k) (hkn:k+n < 9000000000000000000) :
 Calls Tryz.prog 82 #[.slice (some ⟨g,0,none⟩) n cap,.int .i64 k] w fun e w'=>e = .returned (.int .i64 ((k+n:Nat):Int))/\Marked g (g+1) w w'/\∃ C',w'.heap[g]?=some (.cells C' 9)/\C'.size=C.size/\∀ i,i < n->C'[i]?=some (.string (Gate.zdV (k+i))):=by
 have HS:Hid (∀ i,i < n->∀ a m c,C[i]? ≠ some (Value.slice a m c)):=hns
 have HC:Hid (w.heap[g]?=some (.cells C 9)):=hC
 have HN:Hid (n<=C.size):=hn
 have HKN:Hid (k+n < 9000000000000000000):=hkn
 clear hns hC hn hkn
 go_enter Tryz.func82,Tryz.ntmps82
 go_wp2_with fail
 go_loopw [1,5] (fun kv iv wr=>∃ i:Nat,i<=n/\kv = .int .i64 ((k+i:Nat):Int)/\iv = .int .i64 i/\Marked g (g+1) w wr/\∃ C',wr.heap[g]?=some (.cells C' 9)/\C'.size=C.size/\∀ j,j < i->C'[j]?=some (.string (Gate.zdV (k+j)))) (fun _ iv _=>n - (intOf iv).toNat)
 case atStart=>exact ⟨0,Nat.zero_le _,by simp,rfl,Marked.refl _ _ _,C,HC.out,rfl,fun j h=>absurd h (by omega)⟩
 case round =>
  obtain ⟨i,hi,rfl,rfl,hM,C',hC',hs',hc'⟩:=hrel
  by_cases hlt:i < n
  ·have hkn:=HKN.out
   have hltI:(i:Int) < (n:Int):=by omega
   have HX:Hid (Marked g (g+1) w wr/\wr.heap[g]?=some (.cells C' 9)/\C'.size=C.size/\∀ j,j < i->C'[j]?=some (.string (Gate.zdV (k+j)))):=⟨hM,hC',hs',hc'⟩
   have hglt:g < wr.heap.size:=(Array.getElem?_eq_some_iff.1 hC').1
   clear hM hC' hs' hc' hkn
   go_wp2_with fail
   rw [<- Int.natCast_add]
   refine (zfV (k+i) _ (by omega) (by have:=HKN.out;omega)).mono ?_
   rintro e w1 ⟨rfl,hb1⟩
   have hC1:w1.heap[g]?=some (.cells C' 9):=(hb1.block g hglt).trans HX.out.2.1
   have hi1:i < C'.size:=by have h1:=HX.out.2.2.1;have h2:=HN.out;omega
   have hcell:w1.cell? ⟨g,i,none⟩=some C'[i]:=by rw [cell_of_block hC1];exact Array.getElem?_eq_getElem hi1
   have hfz:w1.frozen? ⟨g,i,none⟩=false:=zi hC1
   have HC1:Hid (w1.heap[g]?=some (.cells C' 9)):=hC1
   have HM1:Hid (Marked g (g+1) w w1):=HX.out.1.trans (Marked.of_below hb1)
   have HR:Hid (wrap64 ((k:Int)+i+1)=((k+(i+1):Nat):Int)):=by have:=HKN.out;rw [Hid,yw _ ⟨by omega,by omega⟩];omega
   clear hb1 hC1
   go_wp2_with fail
   go_roundw
   case rel =>
    refine ⟨i+1,by omega,?_,by rw [wrap_one (by have:=HKN.out;omega)],?_,C'.setIfInBounds i (.string (Gate.zdV (k+i))),zk HC1.out _,by simp [HX.out.2.2.1],fun j hj=>?_⟩
    ·rw [HR.out]
    ·exact HM1.out.put (Nat.le_refl _) (Nat.lt_succ_self _) HC.out (HS.out i hlt) _ (fun _ _ _ h=>by cases h)
    ·by_cases e:j=i
     ·subst e;rw [Array.getElem?_setIfInBounds_self_of_lt hi1]
     ·rw [Array.getElem?_setIfInBounds_ne (fun h=>e h.symm)];exact HX.out.2.2.2 j (by omega)
   case measure =>
    have hkn:=HKN.out
    exact jo hlt (by omega)
  ·have e:i=n:=by omega
   have HX:Hid (Marked g (g+1) w wr/\∃ C',wr.heap[g]?=some (.cells C' 9)/\C'.size=C.size/\∀ j,j < n->C'[j]?=some (.string (Gate.zdV (k+j)))):=⟨hM,C',hC',hs',by rw [<- e];exact hc'⟩
   clear hM hC' hs' hc'
   subst e
   go_wp2_with fail
   go_ret
   exact ⟨rfl,HX.out⟩
def za7 (C:Array Value) (j:Nat):Prop:=∀ a n c,C[j]? ≠ some (Value.slice a n c)
structure jB (lo hi:Nat) (w:World) (b n:Nat):Prop where
 low:lo<=b
 high:b < hi
 rows:∃ C,w.heap[b]?=some (.cells C 9)/\n<=C.size/\∀ j,j < n->za7 C j
structure q9 (lo hi:Nat) (w:World) (bo:Nat) (fs:List Fld):Prop where
 low:lo<=bo
 high:bo < hi
 rows:∃ C,w.heap[bo]?=some (.cells C 161)/\C.size=fs.length * 11 /\
  ∀ i (h:i < fs.length),∃ bk cap,jB lo hi w bk fs[i].ws.length/\C[i * 11+4]?=some (.slice (some ⟨bk,0,none⟩) fs[i].ws.length cap)/\∀ j,j < 11->j ≠ 4->za7 C (i * 11+j)
structure jC (lo hi:Nat) (w:World) (bo:Nat) (ss:List Shp):Prop where
 low:lo<=bo
 high:bo < hi
 rows:∃ C,w.heap[bo]?=some (.cells C 119)/\C.size=ss.length * 2 /\
  ∀ i (h:i < ss.length),∃ bf cap,q9 lo hi w bf ss[i].fs/\C[i * 2+1]?=some (.slice (some ⟨bf,0,none⟩) ss[i].fs.length cap)/\za7 C (i * 2)
theorem jB.mono {lo hi:Nat} {w w':World} {b n:Nat} (h:jB lo hi w b n) (hM:Marked lo hi w w'):jB lo hi w' b n:=by
 obtain ⟨C,hC,hs,hn⟩:=h.rows
 obtain ⟨C',hC',hs',hk⟩:=hM.inn b C _ h.low h.high hC
 exact ⟨h.low,h.high,C',hC',by omega,fun j hj a m c he=>hn j hj a m c ((hk j a m c).1 he)⟩
theorem q9.mono {lo hi:Nat} {w w':World} {b:Nat} {fs:List Fld} (h:q9 lo hi w b fs) (hM:Marked lo hi w w'):q9 lo hi w' b fs:=by
 obtain ⟨C,hC,hs,hn⟩:=h.rows
 obtain ⟨C',hC',hs',hk⟩:=hM.inn b C _ h.low h.high hC
 refine ⟨h.low,h.high,C',hC',by omega,fun i hi=>?_⟩
 obtain ⟨bk,cap,h1,h2,h3⟩:=hn i hi
 exact ⟨bk,cap,h1.mono hM,(hk _ _ _ _).2 h2,fun j hj hj4 a m c he=>h3 j hj hj4 a m c ((hk _ a m c).1 he)⟩
theorem jC.mono {lo hi:Nat} {w w':World} {b:Nat} {ss:List Shp} (h:jC lo hi w b ss) (hM:Marked lo hi w w'):jC lo hi w' b ss:=by
 obtain ⟨C,hC,hs,hn⟩:=h.rows
 obtain ⟨C',hC',hs',hk⟩:=hM.inn b C _ h.low h.high hC
 refine ⟨h.low,h.high,C',hC',by omega,fun i hi=>?_⟩
 obtain ⟨bk,cap,h1,h2,h3⟩:=hn i hi
 exact ⟨bk,cap,h1.mono hM,(hk _ _ _ _).2 h2,fun a m c he=>h3 a m c ((hk _ a m c).1 he)⟩
theorem zcA (ws:List ByteArray) (j:Nat):za7 (jA ws) j:=by
 intro a n c h
 simp only [jA,List.getElem?_toArray,List.getElem?_map,Option.map_eq_some_iff] at h
 obtain ⟨_,_,h⟩:=h
 cases h
theorem qH.form {lo:Nat} {w:World} {bo:Nat} {fs:List Fld} (h:qH lo w bo fs fs.length):q9 lo w.heap.size w bo fs:=by
 obtain ⟨C,hC,hsz,hr⟩:=h.rows
 refine ⟨h.low,(Array.getElem?_eq_some_iff.1 hC).1,C,hC,hsz,fun i hi=>?_⟩
 obtain ⟨bk,h1,_,hk,hc⟩:=hr i hi hi
 refine ⟨bk,fs[i].ws.length,⟨h1,(Array.getElem?_eq_some_iff.1 hk).1,jA fs[i].ws,hk,by simp [jA],fun j _=>zcA _ _⟩,by rw [hc 4 (by omega)];rfl,fun j hj hj4 a n c he=>?_⟩
 rw [hc j hj] at he
 rcases j with _ | _ | _ | _ | _ | _ | _ | _ | _ | _ | _ | j <;> first | omega | (simp [Fld.cells] at he)
theorem jQ.form {lo:Nat} {w:World} {bo:Nat} {ss:List Shp} (h:jQ lo w bo ss ss.length):jC lo w.heap.size w bo ss:=by
 obtain ⟨C,hC,hsz,hr⟩:=h.rows
 refine ⟨h.low,(Array.getElem?_eq_some_iff.1 hC).1,C,hC,hsz,fun i hi=>?_⟩
 obtain ⟨bf,h1,h2,hf,hk,hl⟩:=hr i hi hi
 have hf':=hf.form
 have hlow:lo<=bo:=h.low
 refine ⟨bf,ss[i].fs.length,⟨h1,hf'.high,?_⟩,hl,fun a n c he=>by rw [hk] at he;cases he⟩
 obtain ⟨C',hC',hs',hr'⟩:=hf'.rows
 refine ⟨C',hC',hs',fun j hj=>?_⟩
 obtain ⟨bk,cap,g1,g2,g3⟩:=hr' j hj
 exact ⟨bk,cap,⟨by have:=g1.low;omega,g1.high,g1.rows⟩,g2,g3⟩
theorem zR (k:Int) (w:World) (hk:0 < k) (hk2:k < 9000000000000000000) :
 Calls Tryz.prog 80 #[.int .i64 k] w fun e w'=>∃ s,e = .returned (.string s)/\Below w.heap.size w w':=by
 obtain ⟨n,rfl⟩:∃ n:Nat,k=n:=⟨k.toNat,by omega⟩
 exact (zfV n w (by omega) (by omega)).mono fun e w' ⟨h1,h2⟩=>⟨_,h1,h2⟩
theorem zbC (lo hi b n cap:Nat) (k:Int) (w:World) (h:jB lo hi w b n) (hn:n<=1048576) (hk:0 < k) (hk2:k < 8000000000000000000) :
 Calls Tryz.prog 82 #[.slice (some ⟨b,0,none⟩) n cap,.int .i64 k] w fun e w'=>∃ k',e = .returned (.int .i64 k')/\k'=k+n/\Marked lo hi w w':=by
 obtain ⟨m,rfl⟩:∃ m:Nat,k=m:=⟨k.toNat,by omega⟩
 obtain ⟨C,hC,hs,hns⟩:=h.rows
 refine (zhm b n cap C m w hC hs hns (by omega) (by omega)).mono fun e w' ⟨h1,h2,_⟩=>⟨_,h1,Int.natCast_add _ _,h2.wide h.low h.high⟩
end Go.Proofs.YtihdafafigceiaaGreat
