import Derived.Test.YtghnakljnhnenaaGreatM37
set_option maxHeartbeats 40000000
namespace Go.Proofs.YtghnakljnhnenaaGreat
open Go.RowKit
namespace Gate
theorem zk2 {l:Lw} {b:Bk} {o:Ob} (hok:yt l.ss l.ms=true) (h:yJ l b o=true):o.vs.length=(shapeOf l.ss o.kd).fs.length:=by
 unfold yJ zaO at h;simp only [Bool.and_eq_true,decide_eq_true_eq] at h;exact (zb0 (jE hok h.2.2.1.1)).1
theorem zkb {l:Lw} {b:Bk} (hok:yt l.ss l.ms=true) (h:zH l b=true):b.os.length<=40/\∀ k (h:k < b.os.length),zx l.ss b.os[k]=true:=by
 unfold zH at h;simp only [Bool.and_eq_true,decide_eq_true_eq] at h;refine ⟨h.1,fun k hk=>?_⟩;have h2:=List.all_eq_true.1 h.2.2 _ (List.getElem_mem hk);unfold yJ zaO at h2;simp only [Bool.and_eq_true,decide_eq_true_eq] at h2;have h3:=jE hok h2.2.2.1.1;unfold qG at h3;unfold zx;simp only [Bool.and_eq_true,decide_eq_true_eq] at h3 ⊢;exact ⟨h3.1,h3.2.1⟩
end Gate
theorem book_facts {l:Lw} {b:Bk} (h:Gate.jN l b=true):Gate.yt l.ss l.ms=true/\Gate.zH l b=true:=by
 unfold Gate.jN Gate.za1 Gate.zbN at h;simp only [Bool.and_eq_true] at h;exact ⟨h.1.1,h.2.2.1⟩
theorem zeZ (r:Nat) (f:ByteArray->ByteArray->Option Int) (p q:ByteArray) (w:World) (hM:zW w r f) (hp:p.size<=maxLen) (hq:q.size<=maxLen) :
 Calls Tryz.prog 117 #[.map (some r),qj p q] w fun e w'=>e = .returned (.bool (f p q).isSome)/\Below w.heap.size w w':=by
 have hb:Below w.heap.size w (w.alloc (.cells #[.string p,.string q] 178)):=bAl _ _;have hlk:=(hM.mono hb).look zaL Tryz.underlying140 p q hp hq true;unfold qj at hlk ⊢;simp only [if_true] at hlk;have HB:Hid (Below w.heap.size w (w.alloc (.cells #[.string p,.string q] 178))):=hb;clear hb hM
 cases hs:(f p q).isSome with
 | false =>
  rw [hs] at hlk;go_enter Tryz.func117,Tryz.ntmps117;go_wp2_with fail
  go_ret;exact ⟨rfl,HB.out⟩
 | true =>
  rw [hs] at hlk;go_enter Tryz.func117,Tryz.ntmps117;go_wp2_with fail
  go_ret;exact ⟨rfl,HB.out⟩
def zbZ (f:ByteArray->ByteArray->Option Int) (os:List Ob) (k:Nat):Prop:=∀ p q,(f p q).isSome=(os.take k).any fun o=>o.en && Gate.jL p q o
theorem zbZ.put {f:ByteArray->ByteArray->Option Int} {os:List Ob} {k:Nat} (h:zbZ f os k) (hlt:k < os.length) (he:os[k].en=true) (v:Int):zbZ (fun p q=>if p=os[k].kd/\q=os[k].nm then some v else f p q) os (k+1):=by
 intro p q;rw [tSe hlt,List.any_append,<- h p q];simp only [List.any_cons,List.any_nil,Bool.or_false,he,Bool.true_and]
 by_cases e:p=os[k].kd/\q=os[k].nm
 ·rw [if_pos e]
  unfold Gate.jL
  simp [e.1,e.2]
 ·rw [if_neg e]
  have:Gate.jL p q os[k]=false:=by
   unfold Gate.jL;rw [Bool.and_eq_false_iff,decide_eq_false_iff_not,decide_eq_false_iff_not]
   by_cases e1:os[k].kd=p
   ·exact Or.inr fun e2=>e ⟨e1.symm,e2.symm⟩
   ·exact Or.inl e1
  rw [this,Bool.or_false]
theorem zbZ.skip {f:ByteArray->ByteArray->Option Int} {os:List Ob} {k:Nat} (h:zbZ f os k) (hlt:k < os.length) (he:os[k].en=false):zbZ f os (k+1):=by
 intro p q;rw [tSe hlt,List.any_append,<- h p q]
 simp [he]
theorem zkd (b:Bk) (a0 a1 a2 a3:Option Addr) (c0 c1 c2 c3:Nat) (w:World) (hb:y7 w b a0 a1 a2 a3) (hl:b.os.length<=1048576) :
 Calls Tryz.prog 74 #[.agg #[.int .i64 b.now,.int .i64 b.tick,.int .i64 b.given,.slice a0 b.os.length c0,.slice a1 b.gs.length c1,.slice a2 b.ls.length c2,.slice a3 b.ps.length c3]] w fun e w'=>(∃ r f,e = .returned (.map (some r))/\w.heap.size<=r/\zW w' r f/\zbZ f b.os b.os.length)/\Below w.heap.size w w':=by
 have HW:Hid (y7 w b a0 a1 a2 a3):=hb;have hmk:∀ w:World,(Instr.makeMap 140 none).run Tryz.prog w = .ok (.map (some w.heap.size)) (w.alloc (.map #[] 0)):=fun w=>by kernel_rfl
 clear hb;go_enter Tryz.func74,Tryz.ntmps74;go_wp2_with fail
 have hX:=zm w #[.int .i64 b.now,.int .i64 b.tick,.int .i64 b.given,.slice a0 b.os.length c0,.slice a1 b.gs.length c1,.slice a2 b.ls.length c2,.slice a3 b.ps.length c3] 48;have HB0:Hid (Below w.heap.size w (w.alloc (.cells #[.int .i64 b.now,.int .i64 b.tick,.int .i64 b.given,.slice a0 b.os.length c0,.slice a1 b.gs.length c1,.slice a2 b.ls.length c2,.slice a3 b.ps.length c3] 48))):=bAl _ _;obtain ⟨W0,hW0⟩:∃ W0,W0=w.alloc (.cells #[.int .i64 b.now,.int .i64 b.tick,.int .i64 b.given,.slice a0 b.os.length c0,.slice a1 b.gs.length c1,.slice a2 b.ls.length c2,.slice a3 b.ps.length c3] 48):=⟨_,rfl⟩
 have hz0:w.heap.size < W0.heap.size:=by rw [hW0];simp
 have HWe:Hid (W0.heap.size=w.heap.size+1):=by rw [Hid,hW0];simp
 rw [<- hW0] at HB0 hX;have hXm:=za hX hz0 ((bRf W0.heap.size W0).alloc (Nat.le_refl _) (.map #[] 0));have hzm:w.heap.size < (W0.alloc (.map #[] 0)).heap.size:=Nat.lt_trans hz0 (by simp)
 (try rw [<- hW0])
 (try rw [<- HWe.out])
 clear hW0
 (try go_wp2_with fail)
 clear hmk hXm hzm
 go_loopw [10] (fun iv wr=>∃ k:Nat,k<=b.os.length/\iv = .int .i64 k/\Hid ((∃ f,zW wr W0.heap.size f/\zbZ f b.os k)/\Below W0.heap.size W0 wr)) (fun iv _=>b.os.length - (intOf iv).toNat)
 case atStart=>exact ⟨0,Nat.zero_le _,rfl,⟨_,zW.new W0,fun p q=>by simp⟩,bAl _ _⟩
 case round =>
  obtain ⟨k,hk,rfl,HX⟩:=hrel;obtain ⟨⟨f,hf,hc⟩,hB⟩:=HX.out;have hkn:k<=1048576:=by omega
  by_cases hlt:k < b.os.length
  ·obtain ⟨ob,off,v0,v1,q0,q1,rfl,hob,hsm,hl0,hl1,d0,d1,d2,d3,d4,d5,d6⟩:=HW.out.os.load (HB0.out.trans (hB.mono HB0.out.size)) k hlt
   have hltI:(k:Int) < (b.os.length:Int):=by omega
   have hob':ob < wr.heap.size:=nLt hob (HB0.out.trans (hB.mono HB0.out.size)).size;have HKn:Hid (b.os[k].Small):=hsm;have HPf:Hid (zW wr W0.heap.size f/\zbZ f b.os k/\Below W0.heap.size W0 wr):=⟨hf,hc,hB⟩
   clear hf hc hB HX hsm hl0 hl1
   cases he:b.os[k].en with
   | false =>
    rw [he] at d4
    have HC:Hid ((∃ f,zW (wr.alloc (.cells #[.string b.os[k].kd,.string b.os[k].nm,.string b.os[k].tm,.slice v0 b.os[k].vs.length q0,.bool false,.slice v1 b.os[k].hs.length q1,.int .i64 b.os[k].vr] 119)) W0.heap.size f/\zbZ f b.os (k+1))/\Below W0.heap.size W0 (wr.alloc (.cells #[.string b.os[k].kd,.string b.os[k].nm,.string b.os[k].tm,.slice v0 b.os[k].vs.length q0,.bool false,.slice v1 b.os[k].hs.length q1,.int .i64 b.os[k].vr] 119))) :=
     ⟨⟨f,HPf.out.1.mono (bAl _ _),HPf.out.2.1.skip hlt he⟩,HPf.out.2.2.alloc HPf.out.2.2.size _⟩
    go_wp2_with fail
    exact ⟨⟨k+1,by omega,by go_num,HC.out⟩,zn hlt⟩
   | true =>
    have hk7:=ji b.os[k] v0 v1 q0 q1 (wr.alloc (.cells #[.string b.os[k].kd,.string b.os[k].nm,.string b.os[k].tm,.slice v0 b.os[k].vs.length q0,.bool true,.slice v1 b.os[k].hs.length q1,.int .i64 b.os[k].vr] 119));rw [he] at d4 hk7;go_wp2_with fail
    refine hk7.mono ?_;rintro e w1 ⟨rfl,hb1⟩;have hBa:=(HPf.out.2.2.alloc HPf.out.2.2.size (.cells #[.string b.os[k].kd,.string b.os[k].nm,.string b.os[k].tm,.slice v0 b.os[k].vs.length q0,.bool true,.slice v1 b.os[k].hs.length q1,.int .i64 b.os[k].vr] 119))
    have hf1:zW w1 W0.heap.size f:=(HPf.out.1.mono (bAl _ _)).mono hb1;obtain ⟨w2,hup,hf2,hp2⟩:=hf1.upd zaL Tryz.underlying140 b.os[k].kd b.os[k].nm HKn.out.kd HKn.out.nm (k:Int)
    have HC:Hid ((∃ f,zW w2 W0.heap.size f/\zbZ f b.os (k+1))/\Below W0.heap.size W0 w2) :=
     ⟨⟨_,hf2,HPf.out.2.1.put hlt he k⟩,hp2.below (hBa.trans (hb1.mono hBa.size)) (Nat.le_refl _)⟩
    clear hf1 hf2 hp2 hb1 hBa hk7;go_wp2_with fail
    exact ⟨⟨k+1,by omega,by go_num,HC.out⟩,zn hlt⟩
  ·have e:k=b.os.length:=by omega
   subst e;have HE:Hid ((∃ f,zW wr W0.heap.size f/\zbZ f b.os b.os.length)/\Below w.heap.size w wr):=⟨⟨f,hf,hc⟩,HB0.out.trans (hB.mono HB0.out.size)⟩
   clear hf hc hB HX hlt hk;go_wp2_with fail
   go_ret;obtain ⟨⟨f,h1,h2⟩,h3⟩:=HE.out;exact ⟨⟨_,f,rfl,Nat.le_of_lt hz0,h1,h2⟩,h3⟩
namespace Gate
noncomputable def jG (l:Lw) (o p:Ob) (role:Int) (m:Nat):Bool:=(qH (shapeOf l.ss o.kd).fs o.vs m).any fun x=>decide (x.rl=role) && jL x.to x.nm p
noncomputable def names (l:Lw) (o p:Ob) (role:Int):Bool:=jG l o p role (shapeOf l.ss o.kd).fs.length
theorem zlw {l:Lw} {o p:Ob} {role:Int} {fs:List Fld} (e:fs=(shapeOf l.ss o.kd).fs) {m:Nat} (hk:m < fs.length) (hv:m < o.vs.length) (h:¬ (fs[m].kd=4/\o.vs[m].toList.isEmpty=false)):jG l o p role (m+1)=jG l o p role m:=by
 subst e;unfold jG;rw [zan,List.any_append]
 have:zeF (shapeOf l.ss o.kd).fs o.vs m=[]:=by
  unfold zeF;rw [List.getElem?_eq_getElem hk,List.getElem?_eq_getElem hv];exact dif_neg (fun h'=>h h'.1)
 rw [this];simp
theorem zhF {l:Lw} {o p:Ob} {role:Int} {fs:List Fld} (e:fs=(shapeOf l.ss o.kd).fs) {m:Nat} (hk:m < fs.length) (hv:m < o.vs.length) (h1:fs[m].kd=4) (h2:o.vs[m].toList.isEmpty=false) (hs1:fs[m].to.size<=maxLen) (hs2:o.vs[m].size<=maxLen):jG l o p role (m+1)=(jG l o p role m || (decide (fs[m].rl=role) && jL fs[m].to o.vs[m] p)):=by
 subst e;unfold jG;rw [zan,List.any_append]
 have:zeF (shapeOf l.ss o.kd).fs o.vs m=[⟨m,(shapeOf l.ss o.kd).fs[m].rl,(shapeOf l.ss o.kd).fs[m].to,o.vs[m],hs1,hs2⟩]:=by
  unfold zeF;rw [List.getElem?_eq_getElem hk,List.getElem?_eq_getElem hv];exact dif_pos ⟨⟨h1,h2⟩,hs1,hs2⟩
 rw [this];simp
theorem zbM {l:Lw} {o p:Ob} {role:Int} {fs:List Fld} (e:fs=(shapeOf l.ss o.kd).fs) {m:Nat} (hk:m < fs.length) (hv:m < o.vs.length) (hs1:fs[m].to.size<=maxLen) (hs2:o.vs[m].size<=maxLen) (h:fs[m].kd=4->o.vs[m].toList.isEmpty=false->(decide (fs[m].rl=role) && jL fs[m].to o.vs[m] p)=false):jG l o p role (m+1)=jG l o p role m:=by
 by_cases h':fs[m].kd=4/\o.vs[m].toList.isEmpty=false
 ·rw [zhF e hk hv h'.1 h'.2 hs1 hs2,h h'.1 h'.2,Bool.or_false]
 ·exact zlw e hk hv h'
theorem zkc {l:Lw} {o p:Ob} {role:Int} {fs:List Fld} (e:fs=(shapeOf l.ss o.kd).fs) {m:Nat} (hk:m<=fs.length) (h:jG l o p role m=true):names l o p role=true:=by
 subst e;unfold names jG at *;obtain ⟨t,ht⟩:=zcu (shapeOf l.ss o.kd).fs o.vs hk;rw [<- ht,List.any_append,h];rfl
theorem ziX (kd nm:ByteArray) (p:Ob):jL kd nm p=((kd.toList == p.kd.toList) && (nm.toList == p.nm.toList)):=by
 unfold jL;rw [Gate.beq_toList,Gate.beq_toList]
 congr 1
 ·exact decide_eq_decide.2 eq_comm
 ·exact decide_eq_decide.2 eq_comm
end Gate
set_option maxRecDepth 20000 in
theorem zhl (l:Lw) (la lb lc:Option Addr) (lca lcb lcc:Nat) (b:Bk) (a0 a1 a2 a3:Option Addr) (c0 c1 c2 c3:Nat) (i k:Nat) (role:Int) (w:World) (hl:y9 w l la lb lc) (hb:y7 w b a0 a1 a2 a3) (hi:i < b.os.length) (hk:k < b.os.length) (hwc:Gate.zx l.ss b.os[i]=true) (hfw:b.os[i].vs.length<=1048576) :
 Calls Tryz.prog 103 #[.agg #[.slice la l.ss.length lca,.slice lb l.ms.length lcb,.slice lc l.ts.length lcc],.agg #[.int .i64 b.now,.int .i64 b.tick,.int .i64 b.given,.slice a0 b.os.length c0,.slice a1 b.gs.length c1,.slice a2 b.ls.length c2,.slice a3 b.ps.length c3],.int .i64 (i:Int),.int .i64 (k:Int),.int .i64 role] w fun e w'=>e = .returned (.bool (Gate.names l b.os[i] b.os[k] role))/\Below w.heap.size w w':=by
 have HK:Hid (y7 w b a0 a1 a2 a3):=hb;have HL:Hid (y9 w l la lb lc):=hl;have HWc:Hid (Gate.zx l.ss b.os[i]=true/\b.os[i].vs.length<=1048576):=⟨hwc,hfw⟩
 have hiI:(i:Int) < (b.os.length:Int):=by omega
 have hkI:(k:Int) < (b.os.length:Int):=by omega
 clear hb hl hwc hfw;obtain ⟨ob,off,va,ha,q0,q1,rfl,hob,hsm,hs0,hs1,d0,d1,d2,d3,d4,d5,d6⟩:=HK.out.os.load (zA w (.cells #[.slice la l.ss.length lca,.slice lb l.ms.length lcb,.slice lc l.ts.length lcc] 41) (.cells #[.int .i64 b.now,.int .i64 b.tick,.int .i64 b.given,.slice a0 b.os.length c0,.slice a1 b.gs.length c1,.slice a2 b.ls.length c2,.slice a3 b.ps.length c3] 48)) i hi;have hob':ob < ((w.alloc (.cells #[.slice la l.ss.length lca,.slice lb l.ms.length lcb,.slice lc l.ts.length lcc] 41)).alloc (.cells #[.int .i64 b.now,.int .i64 b.tick,.int .i64 b.given,.slice (some ⟨ob,off,none⟩) b.os.length c0,.slice a1 b.gs.length c1,.slice a2 b.ls.length c2,.slice a3 b.ps.length c3] 48)).heap.size:=by simp;omega
 go_enter Tryz.func103,Tryz.ntmps103;go_wp2_with fail
 have HIt:Hid (qB ((w.alloc (.cells #[.slice la l.ss.length lca,.slice lb l.ms.length lcb,.slice lc l.ts.length lcc] 41)).alloc (.cells #[.int .i64 b.now,.int .i64 b.tick,.int .i64 b.given,.slice (some ⟨ob,off,none⟩) b.os.length c0,.slice a1 b.gs.length c1,.slice a2 b.ls.length c2,.slice a3 b.ps.length c3] 48)) b.os[i] va ha):=⟨hsm,hs0,hs1⟩
 obtain ⟨hX0,hY0,hZ0⟩:=zo9 w (.cells #[.slice la l.ss.length lca,.slice lb l.ms.length lcb,.slice lc l.ts.length lcc] 41) (.cells #[.int .i64 b.now,.int .i64 b.tick,.int .i64 b.given,.slice (some ⟨ob,off,none⟩) b.os.length c0,.slice a1 b.gs.length c1,.slice a2 b.ls.length c2,.slice a3 b.ps.length c3] 48) (.cells #[.string b.os[i].kd,.string b.os[i].nm,.string b.os[i].tm,.slice va b.os[i].vs.length q0,.bool b.os[i].en,.slice ha b.os[i].hs.length q1,.int .i64 b.os[i].vr] 119);have HB3:Hid (Below w.heap.size w (((w.alloc (.cells #[.slice la l.ss.length lca,.slice lb l.ms.length lcb,.slice lc l.ts.length lcc] 41)).alloc (.cells #[.int .i64 b.now,.int .i64 b.tick,.int .i64 b.given,.slice (some ⟨ob,off,none⟩) b.os.length c0,.slice a1 b.gs.length c1,.slice a2 b.ls.length c2,.slice a3 b.ps.length c3] 48)).alloc (.cells #[.string b.os[i].kd,.string b.os[i].nm,.string b.os[i].tm,.slice va b.os[i].vs.length q0,.bool b.os[i].en,.slice ha b.os[i].hs.length q1,.int .i64 b.os[i].vr] 119))):=below3' w _ _ _;have HI3:Hid (qB (((w.alloc (.cells #[.slice la l.ss.length lca,.slice lb l.ms.length lcb,.slice lc l.ts.length lcc] 41)).alloc (.cells #[.int .i64 b.now,.int .i64 b.tick,.int .i64 b.given,.slice (some ⟨ob,off,none⟩) b.os.length c0,.slice a1 b.gs.length c1,.slice a2 b.ls.length c2,.slice a3 b.ps.length c3] 48)).alloc (.cells #[.string b.os[i].kd,.string b.os[i].nm,.string b.os[i].tm,.slice va b.os[i].vs.length q0,.bool b.os[i].en,.slice ha b.os[i].hs.length q1,.int .i64 b.os[i].vr] 119)) b.os[i] va ha):=HIt.out.mono (bAl _ _);obtain ⟨W3,hW3⟩:∃ W3,W3=((w.alloc (.cells #[.slice la l.ss.length lca,.slice lb l.ms.length lcb,.slice lc l.ts.length lcc] 41)).alloc (.cells #[.int .i64 b.now,.int .i64 b.tick,.int .i64 b.given,.slice (some ⟨ob,off,none⟩) b.os.length c0,.slice a1 b.gs.length c1,.slice a2 b.ls.length c2,.slice a3 b.ps.length c3] 48)).alloc (.cells #[.string b.os[i].kd,.string b.os[i].nm,.string b.os[i].tm,.slice va b.os[i].vs.length q0,.bool b.os[i].en,.slice ha b.os[i].hs.length q1,.int .i64 b.os[i].vr] 119):=⟨_,rfl⟩
 have hz3:w.heap.size+1+1 < W3.heap.size:=by rw [hW3];simp
 rw [<- hW3] at HB3 HI3 hX0 hY0 hZ0 ⊢;clear hW3 d0 d1 d2 d3 d4 d5 d6 HIt hsm hs0 hs1 hob';refine (qY _ _ l.ss b.os[i] _ _ _ _ _ (HL.out.ss.mono HB3.out) HI3.out HWc.out.1).mono ?_;rintro e w4 ⟨fa,fcap,rfl,hfa,hb4⟩;have hY4:∀ j,w4.cell? ⟨w.heap.size+1,j,none⟩=(#[.int .i64 b.now,.int .i64 b.tick,.int .i64 b.given,.slice (some ⟨ob,off,none⟩) b.os.length c0,.slice a1 b.gs.length c1,.slice a2 b.ls.length c2,.slice a3 b.ps.length c3]:Array Value)[j]?:=za (zaA hY0) (by omega) hb4;have hZ4:∀ j,w4.cell? ⟨w.heap.size+1+1,j,none⟩=(#[.string b.os[i].kd,.string b.os[i].nm,.string b.os[i].tm,.slice va b.os[i].vs.length q0,.bool b.os[i].en,.slice ha b.os[i].hs.length q1,.int .i64 b.os[i].vr]:Array Value)[j]?:=za (zaA hZ0) (by omega) hb4;have hz4:=nLt hz3 hb4.size;have hy4:=nSl hz4;have HB4:Hid (Below w.heap.size w w4):=HB3.out.trans (hb4.mono HB3.out.size);have HI4:Hid (qB w4 b.os[i] va ha):=HI3.out.mono hb4;have HFa:Hid (zP w4 fa (Gate.shapeOf l.ss b.os[i].kd).fs):=hfa.mono hb4;have HLv:Hid ((Gate.shapeOf l.ss b.os[i].kd).fs.length=b.os[i].vs.length):=by have:=HWc.out.1;unfold Gate.zx at this;simp only [Bool.and_eq_true,decide_eq_true_eq] at this;exact this.2.symm
 clear hfa hb4 hX0 hY0 hZ0 hz3 HI3 HB3;obtain ⟨fs,hfs⟩:∃ fs,fs=(Gate.shapeOf l.ss b.os[i].kd).fs:=⟨_,rfl⟩
 have HFS:Hid (fs=(Gate.shapeOf l.ss b.os[i].kd).fs):=hfs;rw [<- hfs] at HFa HLv ⊢;clear hfs;go_wp2_with fail
 go_loopw [14] (fun jv wi=>∃ m:Nat,m<=fs.length/\jv = .int .i64 m/\Hid (Gate.jG l b.os[i] b.os[k] role m=false/\Below w4.heap.size w4 wi)) (fun jv _=>fs.length - (intOf jv).toNat)
 case atStart=>exact ⟨0,Nat.zero_le _,rfl,by simp [Gate.jG,qH],bRf _ _⟩
 case round =>
  obtain ⟨m,hm,rfl,HR⟩:=hrel;have hfl:fs.length<=1048576:=by have:=HLv.out;have:=HWc.out.2;omega
  have hYm:=za hY4 hy4 HR.out.2;have hZm:=za hZ4 hz4 HR.out.2;have hzm:=nLt hz4 HR.out.2.size;have hym:=nLt hy4 HR.out.2.size;have HBm:Hid (Below w.heap.size w wr):=HB4.out.trans (HR.out.2.mono HB4.out.size)
  by_cases hml:m < fs.length
  ·have hmI:(m:Int) < (fs.length:Int):=by omega
   have hmv:m < b.os[i].vs.length:=by have:=HLv.out;omega
   have hmvI:(m:Int) < (b.os[i].vs.length:Int):=by omega
   obtain ⟨fb,foff,fw,fc,rfl,hfb,hfi⟩:=zlj HFa.out HR.out.2 m hml;obtain ⟨d0,d1,d2,d3,d4,d5,d6,d7,d8,d9,d10⟩:=hfi.load;obtain ⟨vb,voff,rfl,hvb,cv0⟩:=HI4.out.vals.cells (by intro e;rw [e] at hmv;simp at hmv);have cv:=(HR.out.2.cell (p:=⟨vb,voff+m,none⟩) hvb).trans (cv0 m hmv);have HSt:Hid (fs[m].to.size<=maxLen/\b.os[i].vs[m].size<=maxLen):=⟨hfi.small.to,HI4.out.vals.small _ (List.getElem_mem _)⟩
   obtain ⟨ob2,off2,_,_,_,_,e2,hob2,_,_,_,p0,p1,_⟩:=HK.out.os.load HBm.out k hk;simp only [Option.some.injEq,Addr.mk.injEq] at e2;obtain ⟨rfl,rfl,_⟩:=e2;have hfb':fb < wr.heap.size:=nLt hfb HR.out.2.size;have HBa:Hid (Below wr.heap.size wr (wr.alloc (.cells #[.string fs[m].nm,.int .i64 fs[m].kd,.int .i64 fs[m].ls,.int .i64 fs[m].ms,.slice fw fs[m].ws.length fc,.string fs[m].to,.int .i64 fs[m].rl,.bool fs[m].mu,.bool fs[m].fx,.string fs[m].df,.string fs[m].wg] 165))):=bAl _ _;have hob3:=nLt hob2 HBm.out.size;have hvb3:=nLt hvb HR.out.2.size;clear hfi cv0 hY4 hZ4 hz4 hy4;go_wp2_with fail
   have hT0:=zm wr #[.string fs[m].nm,.int .i64 fs[m].kd,.int .i64 fs[m].ls,.int .i64 fs[m].ms,.slice fw fs[m].ws.length fc,.string fs[m].to,.int .i64 fs[m].rl,.bool fs[m].mu,.bool fs[m].fx,.string fs[m].df,.string fs[m].wg] 165;obtain ⟨W5,hW5⟩:∃ W5,W5=wr.alloc (.cells #[.string fs[m].nm,.int .i64 fs[m].kd,.int .i64 fs[m].ls,.int .i64 fs[m].ms,.slice fw fs[m].ws.length fc,.string fs[m].to,.int .i64 fs[m].rl,.bool fs[m].mu,.bool fs[m].fx,.string fs[m].df,.string fs[m].wg] 165):=⟨_,rfl⟩
   have hy5:wr.heap.size < W5.heap.size:=by rw [hW5];simp
   rw [<- hW5] at HBa hT0 ⊢;clear hW5 d0 d1 d2 d3 d4 d5 d6 d7 d8 d9 d10;have hT:=za hT0 hy5 (bRf W5.heap.size W5).drew;have hY:=za (za hYm hym HBa.out) (nLt hym HBa.out.size) (bRf W5.heap.size W5).drew;have hZ:=za (za hZm hzm HBa.out) (nLt hzm HBa.out.size) (bRf W5.heap.size W5).drew;have cvd:W5.drew.cell? ⟨vb,voff+m,none⟩=some (.string b.os[i].vs[m]):=(HBa.out.cell (p:=⟨vb,voff+m,none⟩) hvb3).trans cv;have p0d:W5.drew.cell? ⟨ob,off+k * 7,none⟩=some (.string b.os[k].kd):=(HBa.out.cell (p:=⟨ob,off+k * 7,none⟩) hob3).trans p0;have p1d:W5.drew.cell? ⟨ob,off+k * 7+1,none⟩=some (.string b.os[k].nm):=(HBa.out.cell (p:=⟨ob,off+k * 7+1,none⟩) hob3).trans p1;have HRd:Hid (Below w4.heap.size w4 W5.drew):=(HR.out.2.trans (HBa.out.mono HR.out.2.size)).drew;have HBd:Hid (Below w.heap.size w W5.drew):=HB4.out.trans (HRd.out.mono HB4.out.size);clear hT0 hYm hZm hzm hym cv p0 p1;refine wp_region_held_drew (S:=fun w'=>(∀ j,w'.cell? ⟨w.heap.size+1,j,none⟩=(#[.int .i64 b.now,.int .i64 b.tick,.int .i64 b.given,.slice (some ⟨ob,off,none⟩) b.os.length c0,.slice a1 b.gs.length c1,.slice a2 b.ls.length c2,.slice a3 b.ps.length c3]:Array Value)[j]?)/\(∀ j,w'.cell? ⟨w.heap.size+1+1,j,none⟩=(#[.string b.os[i].kd,.string b.os[i].nm,.string b.os[i].tm,.slice (some ⟨vb,voff,none⟩) b.os[i].vs.length q0,.bool b.os[i].en,.slice ha b.os[i].hs.length q1,.int .i64 b.os[i].vr]:Array Value)[j]?)/\(∀ j,w'.cell? ⟨wr.heap.size,j,none⟩=(#[.string fs[m].nm,.int .i64 fs[m].kd,.int .i64 fs[m].ls,.int .i64 fs[m].ms,.slice fw fs[m].ws.length fc,.string fs[m].to,.int .i64 fs[m].rl,.bool fs[m].mu,.bool fs[m].fx,.string fs[m].df,.string fs[m].wg]:Array Value)[j]?)/\w'.cell? ⟨vb,voff+m,none⟩=some (.string b.os[i].vs[m])/\w'.cell? ⟨ob,off+k * 7,none⟩=some (.string b.os[k].kd)/\w'.cell? ⟨ob,off+k * 7+1,none⟩=some (.string b.os[k].nm)) (by kernel_rfl) ⟨hY,hZ,hT,cvd,p0d,p1d⟩ (fun H_=>?_);refine tH 0 rfl H_ ?_;refine tH 1 rfl H_ ?_
   by_cases t1:fs[m].kd=4
   ·have hdt1:decide (fs[m].kd=4)=true:=decide_eq_true t1
    have hbt1:(fs[m].kd == 4)=true:=beq_iff_eq.2 t1;have Ht1:Hid (fs[m].kd=4):=t1;clear t1;refine tH 2 rfl H_ ?_;refine tH 3 rfl H_ ?_;refine tH 4 rfl H_ ?_;refine tH 5 rfl H_ ?_;refine tH 6 rfl H_ ?_
    by_cases t2:fs[m].rl=role
    ·have hdt2:decide (fs[m].rl=role)=true:=decide_eq_true t2
     have hbt2:(fs[m].rl == role)=true:=beq_iff_eq.2 t2;have Ht2:Hid (fs[m].rl=role):=t2;clear t2;refine tH 7 rfl H_ ?_;refine tH 8 rfl H_ ?_;refine tH 9 rfl H_ ?_;refine tH 10 rfl H_ ?_;refine tH 11 rfl H_ ?_;refine tH 12 rfl H_ ?_;refine tH 13 rfl H_ ?_;refine tH 14 rfl H_ ?_
     by_cases t3:b.os[i].vs[m].toList.isEmpty=false
     ·have Ht3:Hid (b.os[i].vs[m].toList.isEmpty=false):=t3
      refine tH 15 rfl H_ ?_;refine tH 16 rfl H_ ?_;refine tH 17 rfl H_ ?_;refine tH 18 rfl H_ ?_;refine tH 19 rfl H_ ?_;refine tH 20 rfl H_ ?_;refine tH 21 rfl H_ ?_;refine tH 22 rfl H_ ?_;refine tH 23 rfl H_ ?_;refine tH 24 rfl H_ ?_;refine tH 25 rfl H_ ?_
      by_cases t4:(fs[m].to.toList == b.os[k].kd.toList)=true
      ·have Ht4:Hid ((fs[m].to.toList == b.os[k].kd.toList)=true):=t4
       refine tH 26 rfl H_ ?_;refine tH 27 rfl H_ ?_;refine tH 28 rfl H_ ?_;refine tH 29 rfl H_ ?_;refine tH 30 rfl H_ ?_;refine tH 31 rfl H_ ?_;refine tH 32 rfl H_ ?_;refine tH 33 rfl H_ ?_;refine tH 34 rfl H_ ?_;refine tH 35 rfl H_ ?_;refine tH 36 rfl H_ ?_;refine tH 37 rfl H_ ?_;refine tH 38 rfl H_ ?_;refine tH 39 rfl H_ ?_
       by_cases t5:(b.os[i].vs[m].toList == b.os[k].nm.toList)=true
       ·have Ht5:Hid ((b.os[i].vs[m].toList == b.os[k].nm.toList)=true):=t5
        refine tH 40 rfl H_ ?_;refine tH 41 rfl H_ ?_;refine wpAnyH_done (by kernel_rfl) ?_ _;have HF:Hid (Gate.names l b.os[i] b.os[k] role=true):=Gate.zkc (m:=m+1) HFS.out hml (by rw [Gate.zhF HFS.out hml hmv Ht1.out Ht3.out HSt.out.1 HSt.out.2,Gate.ziX,Ht4.out,Ht5.out,decide_eq_true Ht2.out];simp);go_wp2_with fail
        go_ret;exact ⟨ze HF.out.symm,HBd.out⟩
       ·have t5:(b.os[i].vs[m].toList == b.os[k].nm.toList)=false:=by simpa using t5
        have Ht5:Hid ((b.os[i].vs[m].toList == b.os[k].nm.toList)=false):=t5;refine tH 40 rfl H_ ?_;refine tH 41 rfl H_ ?_;refine wpAnyH_done (by kernel_rfl) ?_ _;have HS:Hid (Gate.jG l b.os[i] b.os[k] role (m+1)=false):=by rw [Hid,Gate.zbM HFS.out hml hmv HSt.out.1 HSt.out.2 (fun _ _=>by rw [Gate.ziX,Ht5.out];simp)];exact HR.out.1
        go_wp2_with fail
        exact ⟨⟨m+1,by omega,by go_num,HS.out,HRd.out⟩,by simp [intOf];omega⟩
      ·have t4:(fs[m].to.toList == b.os[k].kd.toList)=false:=by simpa using t4
       have Ht4:Hid ((fs[m].to.toList == b.os[k].kd.toList)=false):=t4;refine tH 26 rfl H_ ?_;refine tH 27 rfl H_ ?_;refine tH 28 rfl H_ ?_;refine kH 29 rfl H_ ?_;refine kH 30 rfl H_ ?_;refine kH 31 rfl H_ ?_;refine kH 32 rfl H_ ?_;refine kH 33 rfl H_ ?_;refine kH 34 rfl H_ ?_;refine kH 35 rfl H_ ?_;refine kH 36 rfl H_ ?_;refine kH 37 rfl H_ ?_;refine kH 38 rfl H_ ?_;refine kH 39 rfl H_ ?_;refine kH 40 rfl H_ ?_;refine tH 41 rfl H_ ?_;refine wpAnyH_done (by kernel_rfl) ?_ _;have HS:Hid (Gate.jG l b.os[i] b.os[k] role (m+1)=false):=by rw [Hid,Gate.zbM HFS.out hml hmv HSt.out.1 HSt.out.2 (fun _ _=>by rw [Gate.ziX,Ht4.out];simp)];exact HR.out.1
       go_wp2_with fail
       exact ⟨⟨m+1,by omega,by go_num,HS.out,HRd.out⟩,by simp [intOf];omega⟩
     ·have t3:b.os[i].vs[m].toList.isEmpty=true:=by simpa using t3
      have Ht3:Hid (b.os[i].vs[m].toList.isEmpty=true):=t3;refine tH 15 rfl H_ ?_;refine tH 16 rfl H_ ?_;refine tH 17 rfl H_ ?_;refine kH 18 rfl H_ ?_;refine kH 19 rfl H_ ?_;refine kH 20 rfl H_ ?_;refine kH 21 rfl H_ ?_;refine kH 22 rfl H_ ?_;refine kH 23 rfl H_ ?_;refine kH 24 rfl H_ ?_;refine kH 25 rfl H_ ?_;refine kH 26 rfl H_ ?_;refine tH 27 rfl H_ ?_;refine tH 28 rfl H_ ?_;refine kH 29 rfl H_ ?_;refine kH 30 rfl H_ ?_;refine kH 31 rfl H_ ?_;refine kH 32 rfl H_ ?_;refine kH 33 rfl H_ ?_;refine kH 34 rfl H_ ?_;refine kH 35 rfl H_ ?_;refine kH 36 rfl H_ ?_;refine kH 37 rfl H_ ?_;refine kH 38 rfl H_ ?_;refine kH 39 rfl H_ ?_;refine kH 40 rfl H_ ?_;refine tH 41 rfl H_ ?_;refine wpAnyH_done (by kernel_rfl) ?_ _;have HS:Hid (Gate.jG l b.os[i] b.os[k] role (m+1)=false):=by rw [Hid,Gate.zbM HFS.out hml hmv HSt.out.1 HSt.out.2 (fun _ h=>by rw [Ht3.out] at h;cases h)];exact HR.out.1
      go_wp2_with fail
      exact ⟨⟨m+1,by omega,by go_num,HS.out,HRd.out⟩,by simp [intOf];omega⟩
    ·have hdt2:decide (fs[m].rl=role)=false:=decide_eq_false t2
     have hbt2:(fs[m].rl == role)=false:=by simpa using t2
     have Ht2:Hid (¬ fs[m].rl=role):=t2;clear t2;refine tH 7 rfl H_ ?_;refine tH 8 rfl H_ ?_;refine tH 9 rfl H_ ?_;refine kH 10 rfl H_ ?_;refine kH 11 rfl H_ ?_;refine kH 12 rfl H_ ?_;refine kH 13 rfl H_ ?_;refine kH 14 rfl H_ ?_;refine kH 15 rfl H_ ?_;refine tH 16 rfl H_ ?_;refine tH 17 rfl H_ ?_;refine kH 18 rfl H_ ?_;refine kH 19 rfl H_ ?_;refine kH 20 rfl H_ ?_;refine kH 21 rfl H_ ?_;refine kH 22 rfl H_ ?_;refine kH 23 rfl H_ ?_;refine kH 24 rfl H_ ?_;refine kH 25 rfl H_ ?_;refine kH 26 rfl H_ ?_;refine tH 27 rfl H_ ?_;refine tH 28 rfl H_ ?_;refine kH 29 rfl H_ ?_;refine kH 30 rfl H_ ?_;refine kH 31 rfl H_ ?_;refine kH 32 rfl H_ ?_;refine kH 33 rfl H_ ?_;refine kH 34 rfl H_ ?_;refine kH 35 rfl H_ ?_;refine kH 36 rfl H_ ?_;refine kH 37 rfl H_ ?_;refine kH 38 rfl H_ ?_;refine kH 39 rfl H_ ?_;refine kH 40 rfl H_ ?_;refine tH 41 rfl H_ ?_;refine wpAnyH_done (by kernel_rfl) ?_ _;have HS:Hid (Gate.jG l b.os[i] b.os[k] role (m+1)=false):=by rw [Hid,Gate.zbM HFS.out hml hmv HSt.out.1 HSt.out.2 (fun _ _=>by rw [decide_eq_false Ht2.out];rfl)];exact HR.out.1
     go_wp2_with fail
     exact ⟨⟨m+1,by omega,by go_num,HS.out,HRd.out⟩,by simp [intOf];omega⟩
   ·have hdt1:decide (fs[m].kd=4)=false:=decide_eq_false t1
    have hbt1:(fs[m].kd == 4)=false:=by simpa using t1
    have Ht1:Hid (¬ fs[m].kd=4):=t1;clear t1;refine tH 2 rfl H_ ?_;refine tH 3 rfl H_ ?_;refine kH 4 rfl H_ ?_;refine kH 5 rfl H_ ?_;refine kH 6 rfl H_ ?_;refine kH 7 rfl H_ ?_;refine tH 8 rfl H_ ?_;refine tH 9 rfl H_ ?_;refine kH 10 rfl H_ ?_;refine kH 11 rfl H_ ?_;refine kH 12 rfl H_ ?_;refine kH 13 rfl H_ ?_;refine kH 14 rfl H_ ?_;refine kH 15 rfl H_ ?_;refine tH 16 rfl H_ ?_;refine tH 17 rfl H_ ?_;refine kH 18 rfl H_ ?_;refine kH 19 rfl H_ ?_;refine kH 20 rfl H_ ?_;refine kH 21 rfl H_ ?_;refine kH 22 rfl H_ ?_;refine kH 23 rfl H_ ?_;refine kH 24 rfl H_ ?_;refine kH 25 rfl H_ ?_;refine kH 26 rfl H_ ?_;refine tH 27 rfl H_ ?_;refine tH 28 rfl H_ ?_;refine kH 29 rfl H_ ?_;refine kH 30 rfl H_ ?_;refine kH 31 rfl H_ ?_;refine kH 32 rfl H_ ?_;refine kH 33 rfl H_ ?_;refine kH 34 rfl H_ ?_;refine kH 35 rfl H_ ?_;refine kH 36 rfl H_ ?_;refine kH 37 rfl H_ ?_;refine kH 38 rfl H_ ?_;refine kH 39 rfl H_ ?_;refine kH 40 rfl H_ ?_;refine tH 41 rfl H_ ?_;refine wpAnyH_done (by kernel_rfl) ?_ _;have HS:Hid (Gate.jG l b.os[i] b.os[k] role (m+1)=false):=by rw [Hid,Gate.zbM HFS.out hml hmv HSt.out.1 HSt.out.2 (fun h _=>absurd h Ht1.out)];exact HR.out.1
    go_wp2_with fail
    exact ⟨⟨m+1,by omega,by go_num,HS.out,HRd.out⟩,by simp [intOf];omega⟩
  ·have e:m=fs.length:=by omega
   subst e
   have HN:Hid (Gate.names l b.os[i] b.os[k] role=false):=by
    have h1:=HR.out.1;rw [HFS.out] at h1;exact h1
   clear HR hY4 hZ4;go_wp2_with fail
   go_ret;exact ⟨ze HN.out.symm,HBm.out⟩
namespace Gate
theorem ze1 {α:Type} {key:α->α->Int} {ms:List α} {k:Nat} (h:jI key ms k) (hk:k < ms.length) (hn:∀ m (e:k=m+1),key (ms[m]'(by omega)) ms[k] < 0):jI key ms (k+1):=by
 intro i hi hik
 rcases Nat.lt_or_ge (i+1) k with hlt | hge
 ·exact h i hi hlt
 ·have e:k=i+1:=by omega
  subst e;exact hn i rfl
theorem zfK {α:Type} {key:α->α->Int} {ms:List α} {k:Nat} (hk:k < ms.length) (h:∀ h0:0 < k,key (ms[k - 1]'(by omega)) ms[k] < 0):∀ m (e:k=m+1),key (ms[m]'(by omega)) ms[k] < 0:=by
 intro m e;subst e;exact h (by omega)
theorem zgd {α:Type} {key:α->α->Int} {ms:List α} {k:Nat} (h:jI key ms k) (hk:ms.length<=k):zbd key ms=true:=by
 rw [zjm];exact fun i hi=>h i hi (by omega)
theorem zdG {α:Type} {key:α->α->Int} {ms:List α} {k:Nat} (hk:k < ms.length) (h0:0 < k) (hn:¬ key (ms[k - 1]'(by omega)) ms[k] < 0):zbd key ms=false:=by
 obtain ⟨m,rfl⟩:∃ m,k=m+1:=⟨k - 1,by omega⟩
 exact zf1 hk hn
theorem zi8 (a b:Gr):zbB a b < 0 ↔ a.no < b.no:=by
 unfold zbB zdH;split
 ·simp_all
 ·split <;> simp_all
end Gate
end Go.Proofs.YtghnakljnhnenaaGreat
