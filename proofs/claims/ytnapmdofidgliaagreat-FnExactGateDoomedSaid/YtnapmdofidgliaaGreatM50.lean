import Derived.Test.YtnapmdofidgliaaGreatM49
set_option maxHeartbeats 40000000
namespace Go.Proofs.YtnapmdofidgliaaGreat
open Go.RowKit
noncomputable def jy (l:Lw)(o p:Ob)(role:Int)(m:Nat):Bool:=(qm (shapeOf l.ss o.kd).fs o.vs m).any fun x=>decide (x.rl=role)&&zar x.to x.nm p
noncomputable def names (l:Lw)(o p:Ob)(role:Int):Bool:=jy l o p role (shapeOf l.ss o.kd).fs.length
theorem zmy {l:Lw}{o p:Ob}{role:Int}{fs:List Fld}(e:fs=(shapeOf l.ss o.kd).fs){m:Nat}(hk:m<fs.length)(hv:m<o.vs.length)(h:¬(fs[m].kd=4/\o.vs[m].toList.isEmpty=false)):jy l o p role (m+1)=jy l o p role m:=by
 subst e;unfold jy;rw[zax,List.any_append]
 have:zeN (shapeOf l.ss o.kd).fs o.vs m=[]:=by
  unfold zeN;rw[List.getElem?_eq_getElem hk,List.getElem?_eq_getElem hv];exact dif_neg (fun h'=>h h'.1)
 rw[this];simp
theorem zie {l:Lw}{o p:Ob}{role:Int}{fs:List Fld}(e:fs=(shapeOf l.ss o.kd).fs){m:Nat}(hk:m<fs.length)(hv:m<o.vs.length)(h1:fs[m].kd=4)(h2:o.vs[m].toList.isEmpty=false)(hs1:fs[m].to.size<=maxLen)(hs2:o.vs[m].size<=maxLen):jy l o p role (m+1)=(jy l o p role m||(decide (fs[m].rl=role)&&zar fs[m].to o.vs[m] p)):=by
 subst e;unfold jy;rw[zax,List.any_append]
 have:zeN (shapeOf l.ss o.kd).fs o.vs m=[⟨m,(shapeOf l.ss o.kd).fs[m].rl,(shapeOf l.ss o.kd).fs[m].to,o.vs[m],hs1,hs2⟩]:=by
  unfold zeN;rw[List.getElem?_eq_getElem hk,List.getElem?_eq_getElem hv];exact dif_pos ⟨⟨h1,h2⟩,hs1,hs2⟩
 rw[this];simp
theorem zbP {l:Lw}{o p:Ob}{role:Int}{fs:List Fld}(e:fs=(shapeOf l.ss o.kd).fs){m:Nat}(hk:m<fs.length)(hv:m<o.vs.length)(hs1:fs[m].to.size<=maxLen)(hs2:o.vs[m].size<=maxLen)(h:fs[m].kd=4->o.vs[m].toList.isEmpty=false->(decide (fs[m].rl=role)&&zar fs[m].to o.vs[m] p)=false):jy l o p role (m+1)=jy l o p role m:=by
 by_cases h':fs[m].kd=4/\o.vs[m].toList.isEmpty=false
 ·rw[zie e hk hv h'.1 h'.2 hs1 hs2,h h'.1 h'.2,Bool.or_false]
 ·exact zmy e hk hv h'
theorem zkx {l:Lw}{o p:Ob}{role:Int}{fs:List Fld}(e:fs=(shapeOf l.ss o.kd).fs){m:Nat}(hk:m<=fs.length)(h:jy l o p role m=true):names l o p role=true:=by
 subst e;unfold names jy at *;obtain⟨t,ht⟩:=zcx (shapeOf l.ss o.kd).fs o.vs hk;rw[<- ht,List.any_append,h];rfl
theorem zjZ (kd nm:ByteArray)(p:Ob):zar kd nm p=((kd.toList == p.kd.toList)&&(nm.toList == p.nm.toList)):=by
 unfold zar;rw[beq_toList,beq_toList]
 congr 1
 ·exact decide_eq_decide.2 eq_comm
 ·exact decide_eq_decide.2 eq_comm
set_option maxRecDepth 20000 in
theorem zeM (l:Lw)(la lb lc:Option Addr)(lca lcb lcc:Nat)(b:Bk)(a0 a1 a2 a3:Option Addr)(c0 c1 c2 c3:Nat)(i k:Nat)(role:Int)(w:World)(hl:jh w l la lb lc)(hb:jk w b a0 a1 a2 a3)(hi:i<b.os.length)(hk:k<b.os.length)(hwc:zy l.ss b.os[i]=true)(hfw:b.os[i].vs.length<=1048576) :
 Calls Tryz.prog 26 #[.agg #[.slice la l.ss.length lca,.slice lb l.ms.length lcb,.slice lc l.ts.length lcc],.agg #[.int .i64 b.now,.int .i64 b.tick,.int .i64 b.given,.slice a0 b.os.length c0,.slice a1 b.gs.length c1,.slice a2 b.ls.length c2,.slice a3 b.ps.length c3],.int .i64 (i:Int),.int .i64 (k:Int),.int .i64 role] w fun e w'=>e=.returned (.bool (names l b.os[i] b.os[k] role))/\Below w.heap.size w w':=by
 have HK:=hid hb;have HL:=hid hl;have HWc:Hid (zy l.ss b.os[i]=true/\b.os[i].vs.length<=1048576):=⟨hwc,hfw⟩
 have hiI:(i:Int)<(b.os.length:Int):=by omega
 have hkI:(k:Int)<(b.os.length:Int):=by omega
 clear hb hl hwc hfw;obtain⟨ob,off,va,ha,q0,q1,rfl,hob,hsm,hs0,hs1,d0,d1,d2,d3,d4,d5,d6⟩:=HK.out.os.load (zw w (.cells #[.slice la l.ss.length lca,.slice lb l.ms.length lcb,.slice lc l.ts.length lcc] 41) (.cells #[.int .i64 b.now,.int .i64 b.tick,.int .i64 b.given,.slice a0 b.os.length c0,.slice a1 b.gs.length c1,.slice a2 b.ls.length c2,.slice a3 b.ps.length c3] 48)) i hi;have hob':ob<((w.alloc (.cells #[.slice la l.ss.length lca,.slice lb l.ms.length lcb,.slice lc l.ts.length lcc] 41)).alloc (.cells #[.int .i64 b.now,.int .i64 b.tick,.int .i64 b.given,.slice (some ⟨ob,off,none⟩) b.os.length c0,.slice a1 b.gs.length c1,.slice a2 b.ls.length c2,.slice a3 b.ps.length c3] 48)).heap.size:=by simp;omega
 go_enter Tryz.func26,Tryz.ntmps26;go_wp2_with fail
 have HIt:Hid (jK ((w.alloc (.cells #[.slice la l.ss.length lca,.slice lb l.ms.length lcb,.slice lc l.ts.length lcc] 41)).alloc (.cells #[.int .i64 b.now,.int .i64 b.tick,.int .i64 b.given,.slice (some ⟨ob,off,none⟩) b.os.length c0,.slice a1 b.gs.length c1,.slice a2 b.ls.length c2,.slice a3 b.ps.length c3] 48)) b.os[i] va ha):=⟨hsm,hs0,hs1⟩
 obtain⟨hX0,hY0,hZ0⟩:=zpC w (.cells #[.slice la l.ss.length lca,.slice lb l.ms.length lcb,.slice lc l.ts.length lcc] 41) (.cells #[.int .i64 b.now,.int .i64 b.tick,.int .i64 b.given,.slice (some ⟨ob,off,none⟩) b.os.length c0,.slice a1 b.gs.length c1,.slice a2 b.ls.length c2,.slice a3 b.ps.length c3] 48) (.cells #[.string b.os[i].kd,.string b.os[i].nm,.string b.os[i].tm,.slice va b.os[i].vs.length q0,.bool b.os[i].en,.slice ha b.os[i].hs.length q1,.int .i64 b.os[i].vr] 123);have HB3:Hid (Below w.heap.size w (((w.alloc (.cells #[.slice la l.ss.length lca,.slice lb l.ms.length lcb,.slice lc l.ts.length lcc] 41)).alloc (.cells #[.int .i64 b.now,.int .i64 b.tick,.int .i64 b.given,.slice (some ⟨ob,off,none⟩) b.os.length c0,.slice a1 b.gs.length c1,.slice a2 b.ls.length c2,.slice a3 b.ps.length c3] 48)).alloc (.cells #[.string b.os[i].kd,.string b.os[i].nm,.string b.os[i].tm,.slice va b.os[i].vs.length q0,.bool b.os[i].en,.slice ha b.os[i].hs.length q1,.int .i64 b.os[i].vr] 123))):=below3' w _ _ _;have HI3:Hid (jK (((w.alloc (.cells #[.slice la l.ss.length lca,.slice lb l.ms.length lcb,.slice lc l.ts.length lcc] 41)).alloc (.cells #[.int .i64 b.now,.int .i64 b.tick,.int .i64 b.given,.slice (some ⟨ob,off,none⟩) b.os.length c0,.slice a1 b.gs.length c1,.slice a2 b.ls.length c2,.slice a3 b.ps.length c3] 48)).alloc (.cells #[.string b.os[i].kd,.string b.os[i].nm,.string b.os[i].tm,.slice va b.os[i].vs.length q0,.bool b.os[i].en,.slice ha b.os[i].hs.length q1,.int .i64 b.os[i].vr] 123)) b.os[i] va ha):=HIt.out.mono (bAl _ _);obtain⟨W3,hW3⟩:∃W3,W3=((w.alloc (.cells #[.slice la l.ss.length lca,.slice lb l.ms.length lcb,.slice lc l.ts.length lcc] 41)).alloc (.cells #[.int .i64 b.now,.int .i64 b.tick,.int .i64 b.given,.slice (some ⟨ob,off,none⟩) b.os.length c0,.slice a1 b.gs.length c1,.slice a2 b.ls.length c2,.slice a3 b.ps.length c3] 48)).alloc (.cells #[.string b.os[i].kd,.string b.os[i].nm,.string b.os[i].tm,.slice va b.os[i].vs.length q0,.bool b.os[i].en,.slice ha b.os[i].hs.length q1,.int .i64 b.os[i].vr] 123):=⟨_,rfl⟩
 have hz3:w.heap.size+1+1<W3.heap.size:=by rw[hW3];simp
 rw[<- hW3]at HB3 HI3 hX0 hY0 hZ0 ⊢;clear hW3 d0 d1 d2 d3 d4 d5 d6 HIt hsm hs0 hs1 hob';refine(qY _ _ l.ss b.os[i] _ _ _ _ _ (HL.out.ss.mono HB3.out) HI3.out HWc.out.1).mono ?_;rintro e w4⟨fa,fcap,rfl,hfa,hb4⟩;have hY4:∀j,w4.cell? ⟨w.heap.size+1,j,none⟩=(#[.int .i64 b.now,.int .i64 b.tick,.int .i64 b.given,.slice (some ⟨ob,off,none⟩) b.os.length c0,.slice a1 b.gs.length c1,.slice a2 b.ls.length c2,.slice a3 b.ps.length c3]:Array Value)[j]?:=za (zaj hY0) (by omega) hb4;have hZ4:∀j,w4.cell? ⟨w.heap.size+1+1,j,none⟩=(#[.string b.os[i].kd,.string b.os[i].nm,.string b.os[i].tm,.slice va b.os[i].vs.length q0,.bool b.os[i].en,.slice ha b.os[i].hs.length q1,.int .i64 b.os[i].vr]:Array Value)[j]?:=za (zaj hZ0) (by omega) hb4;have hz4:=nLt hz3 hb4.size;have hy4:=nSl hz4;have HB4:Hid (Below w.heap.size w w4):=HB3.out.trans (hb4.mono HB3.out.size);have HI4:Hid (jK w4 b.os[i] va ha):=HI3.out.mono hb4;have HFa:Hid (zY w4 fa (shapeOf l.ss b.os[i].kd).fs):=hfa.mono hb4;have HLv:Hid ((shapeOf l.ss b.os[i].kd).fs.length=b.os[i].vs.length):=by have:=HWc.out.1;unfold zy at this;simp only[Bool.and_eq_true,decide_eq_true_eq]at this;exact this.2.symm
 clear hfa hb4 hX0 hY0 hZ0 hz3 HI3 HB3;obtain⟨fs,hfs⟩:∃fs,fs=(shapeOf l.ss b.os[i].kd).fs:=⟨_,rfl⟩
 have HFS:Hid (fs=(shapeOf l.ss b.os[i].kd).fs):=hfs;rw[<- hfs]at HFa HLv ⊢;clear hfs;go_wp2_with fail
 go_loopw [14] (fun jv wi=>∃m:Nat,m<=fs.length/\jv=.int .i64 m/\Hid (jy l b.os[i] b.os[k] role m=false/\Below w4.heap.size w4 wi)) (fun jv _=>fs.length-(intOf jv).toNat)
 case atStart=>exact⟨0,Nat.zero_le _,rfl,by simp[jy,qm],bRf _ _⟩
 case round=>
  obtain⟨m,hm,rfl,HR⟩:=hrel;have hfl:fs.length<=1048576:=by have:=HLv.out;have:=HWc.out.2;omega
  have hYm:=za hY4 hy4 HR.out.2;have hZm:=za hZ4 hz4 HR.out.2;have hzm:=nLt hz4 HR.out.2.size;have hym:=nLt hy4 HR.out.2.size;have HBm:Hid (Below w.heap.size w wr):=HB4.out.trans (HR.out.2.mono HB4.out.size)
  by_cases hml:m<fs.length
  ·have hmI:(m:Int)<(fs.length:Int):=by omega
   have hmv:m<b.os[i].vs.length:=by have:=HLv.out;omega
   have hmvI:(m:Int)<(b.os[i].vs.length:Int):=by omega
   obtain⟨fb,foff,fw,fc,rfl,hfb,hfi⟩:=zlV HFa.out HR.out.2 m hml;obtain⟨d0,d1,d2,d3,d4,d5,d6,d7,d8,d9,d10⟩:=hfi.load;obtain⟨vb,voff,rfl,hvb,cv0⟩:=HI4.out.vals.cells (by intro e;rw[e]at hmv;simp at hmv);have cv:=(HR.out.2.cell (p:=⟨vb,voff+m,none⟩) hvb).trans (cv0 m hmv);have HSt:Hid (fs[m].to.size<=maxLen/\b.os[i].vs[m].size<=maxLen):=⟨hfi.small.to,HI4.out.vals.small _ (List.getElem_mem _)⟩
   obtain⟨ob2,off2,_,_,_,_,e2,hob2,_,_,_,p0,p1,_⟩:=HK.out.os.load HBm.out k hk;simp only[Option.some.injEq,Addr.mk.injEq]at e2;obtain⟨rfl,rfl,_⟩:=e2;have hfb':fb<wr.heap.size:=nLt hfb HR.out.2.size;have HBa:Hid (Below wr.heap.size wr (wr.alloc (.cells #[.string fs[m].nm,.int .i64 fs[m].kd,.int .i64 fs[m].ls,.int .i64 fs[m].ms,.slice fw fs[m].ws.length fc,.string fs[m].to,.int .i64 fs[m].rl,.bool fs[m].mu,.bool fs[m].fx,.string fs[m].df,.string fs[m].wg] 128))):=bAl _ _;have hob3:=nLt hob2 HBm.out.size;have hvb3:=nLt hvb HR.out.2.size;clear hfi cv0 hY4 hZ4 hz4 hy4;go_wp2_with fail
   have hT0:=zl wr #[.string fs[m].nm,.int .i64 fs[m].kd,.int .i64 fs[m].ls,.int .i64 fs[m].ms,.slice fw fs[m].ws.length fc,.string fs[m].to,.int .i64 fs[m].rl,.bool fs[m].mu,.bool fs[m].fx,.string fs[m].df,.string fs[m].wg] 128;obtain⟨W5,hW5⟩:∃W5,W5=wr.alloc (.cells #[.string fs[m].nm,.int .i64 fs[m].kd,.int .i64 fs[m].ls,.int .i64 fs[m].ms,.slice fw fs[m].ws.length fc,.string fs[m].to,.int .i64 fs[m].rl,.bool fs[m].mu,.bool fs[m].fx,.string fs[m].df,.string fs[m].wg] 128):=⟨_,rfl⟩
   have hy5:wr.heap.size<W5.heap.size:=by rw[hW5];simp
   rw[<- hW5]at HBa hT0 ⊢;clear hW5 d0 d1 d2 d3 d4 d5 d6 d7 d8 d9 d10;have hT:=za hT0 hy5 (bRf W5.heap.size W5).drew;have hY:=za (za hYm hym HBa.out) (nLt hym HBa.out.size) (bRf W5.heap.size W5).drew;have hZ:=za (za hZm hzm HBa.out) (nLt hzm HBa.out.size) (bRf W5.heap.size W5).drew;have cvd:=(HBa.out.cell (p:=⟨vb,voff+m,none⟩) hvb3).trans cv;have p0d:=(HBa.out.cell (p:=⟨ob,off+k*7,none⟩) hob3).trans p0;have p1d:=(HBa.out.cell (p:=⟨ob,off+k*7+1,none⟩) hob3).trans p1;have HRd:=hid ((HR.out.2.trans (HBa.out.mono HR.out.2.size)).drew);have HBd:=hid (HB4.out.trans (HRd.out.mono HB4.out.size));clear hT0 hYm hZm hzm hym cv p0 p1;refine wp_region_held_drew (S:=fun w'=>(∀j,w'.cell? ⟨w.heap.size+1,j,none⟩=(#[.int .i64 b.now,.int .i64 b.tick,.int .i64 b.given,.slice (some ⟨ob,off,none⟩) b.os.length c0,.slice a1 b.gs.length c1,.slice a2 b.ls.length c2,.slice a3 b.ps.length c3]:Array Value)[j]?)/\(∀j,w'.cell? ⟨w.heap.size+1+1,j,none⟩=(#[.string b.os[i].kd,.string b.os[i].nm,.string b.os[i].tm,.slice (some ⟨vb,voff,none⟩) b.os[i].vs.length q0,.bool b.os[i].en,.slice ha b.os[i].hs.length q1,.int .i64 b.os[i].vr]:Array Value)[j]?)/\(∀j,w'.cell? ⟨wr.heap.size,j,none⟩=(#[.string fs[m].nm,.int .i64 fs[m].kd,.int .i64 fs[m].ls,.int .i64 fs[m].ms,.slice fw fs[m].ws.length fc,.string fs[m].to,.int .i64 fs[m].rl,.bool fs[m].mu,.bool fs[m].fx,.string fs[m].df,.string fs[m].wg]:Array Value)[j]?)/\w'.cell? ⟨vb,voff+m,none⟩=some (.string b.os[i].vs[m])/\w'.cell? ⟨ob,off+k*7,none⟩=some (.string b.os[k].kd)/\w'.cell? ⟨ob,off+k*7+1,none⟩=some (.string b.os[k].nm)) (by kernel_rfl) ⟨hY,hZ,hT,cvd,p0d,p1d⟩ (fun H_=>?_);refine tG 0 ?_;refine tG 1 ?_
   by_cases t1:fs[m].kd=4
   ·have hdt1:=decide_eq_true t1
    have hbt1:=beq_iff_eq.2 t1;have Ht1:=hid t1;clear t1;refine tG 2 ?_;refine tG 3 ?_;refine tG 4 ?_;refine tG 5 ?_;refine tG 6 ?_
    by_cases t2:fs[m].rl=role
    ·have hdt2:=decide_eq_true t2
     have hbt2:=beq_iff_eq.2 t2;have Ht2:=hid t2;clear t2;refine tG 7 ?_;refine tG 8 ?_;refine tG 9 ?_;refine tG 10 ?_;refine tG 11 ?_;refine tG 12 ?_;refine tG 13 ?_;refine tG 14 ?_
     by_cases t3:b.os[i].vs[m].toList.isEmpty=false
     ·have Ht3:=hid t3
      refine tG 15 ?_;refine tG 16 ?_;refine tG 17 ?_;refine tG 18 ?_;refine tG 19 ?_;refine tG 20 ?_;refine tG 21 ?_;refine tG 22 ?_;refine tG 23 ?_;refine tG 24 ?_;refine tG 25 ?_
      by_cases t4:(fs[m].to.toList == b.os[k].kd.toList)=true
      ·have Ht4:=hid t4
       refine tG 26 ?_;refine tG 27 ?_;refine tG 28 ?_;refine tG 29 ?_;refine tG 30 ?_;refine tG 31 ?_;refine tG 32 ?_;refine tG 33 ?_;refine tG 34 ?_;refine tG 35 ?_;refine tG 36 ?_;refine tG 37 ?_;refine tG 38 ?_;refine tG 39 ?_
       by_cases t5:(b.os[i].vs[m].toList == b.os[k].nm.toList)=true
       ·have Ht5:=hid t5
        refine tG 40 ?_;refine tG 41 ?_;refine wpAnyH_done (by kernel_rfl) ?_ _;have HF:Hid (names l b.os[i] b.os[k] role=true):=zkx (m:=m+1) HFS.out hml (by rw[zie HFS.out hml hmv Ht1.out Ht3.out HSt.out.1 HSt.out.2,zjZ,Ht4.out,Ht5.out,decide_eq_true Ht2.out];simp);go_wp2_with fail
        go_ret;exact⟨ze HF.out.symm,HBd.out⟩
       ·have t5:(b.os[i].vs[m].toList == b.os[k].nm.toList)=false:=by simpa using t5
        have Ht5:=hid t5;refine tG 40 ?_;refine tG 41 ?_;refine wpAnyH_done (by kernel_rfl) ?_ _;have HS:Hid (jy l b.os[i] b.os[k] role (m+1)=false):=by rw[Hid,zbP HFS.out hml hmv HSt.out.1 HSt.out.2 (fun _ _=>by rw[zjZ,Ht5.out];simp)];exact HR.out.1
        go_wp2_with fail
        exact⟨⟨m+1,by omega,by go_num,HS.out,HRd.out⟩,by simp[intOf];omega⟩
      ·have t4:(fs[m].to.toList == b.os[k].kd.toList)=false:=by simpa using t4
       have Ht4:=hid t4;refine tG 26 ?_;refine tG 27 ?_;refine tG 28 ?_;refine kG 29 ?_;refine kG 30 ?_;refine kG 31 ?_;refine kG 32 ?_;refine kG 33 ?_;refine kG 34 ?_;refine kG 35 ?_;refine kG 36 ?_;refine kG 37 ?_;refine kG 38 ?_;refine kG 39 ?_;refine kG 40 ?_;refine tG 41 ?_;refine wpAnyH_done (by kernel_rfl) ?_ _;have HS:Hid (jy l b.os[i] b.os[k] role (m+1)=false):=by rw[Hid,zbP HFS.out hml hmv HSt.out.1 HSt.out.2 (fun _ _=>by rw[zjZ,Ht4.out];simp)];exact HR.out.1
       go_wp2_with fail
       exact⟨⟨m+1,by omega,by go_num,HS.out,HRd.out⟩,by simp[intOf];omega⟩
     ·have t3:b.os[i].vs[m].toList.isEmpty=true:=by simpa using t3
      have Ht3:=hid t3;refine tG 15 ?_;refine tG 16 ?_;refine tG 17 ?_;refine kG 18 ?_;refine kG 19 ?_;refine kG 20 ?_;refine kG 21 ?_;refine kG 22 ?_;refine kG 23 ?_;refine kG 24 ?_;refine kG 25 ?_;refine kG 26 ?_;refine tG 27 ?_;refine tG 28 ?_;refine kG 29 ?_;refine kG 30 ?_;refine kG 31 ?_;refine kG 32 ?_;refine kG 33 ?_;refine kG 34 ?_;refine kG 35 ?_;refine kG 36 ?_;refine kG 37 ?_;refine kG 38 ?_;refine kG 39 ?_;refine kG 40 ?_;refine tG 41 ?_;refine wpAnyH_done (by kernel_rfl) ?_ _;have HS:Hid (jy l b.os[i] b.os[k] role (m+1)=false):=by rw[Hid,zbP HFS.out hml hmv HSt.out.1 HSt.out.2 (fun _ h=>by rw[Ht3.out]at h;cases h)];exact HR.out.1
      go_wp2_with fail
      exact⟨⟨m+1,by omega,by go_num,HS.out,HRd.out⟩,by simp[intOf];omega⟩
    ·have hdt2:=decide_eq_false t2
     have hbt2:(fs[m].rl == role)=false:=by simpa using t2
     have Ht2:=hid t2;clear t2;refine tG 7 ?_;refine tG 8 ?_;refine tG 9 ?_;refine kG 10 ?_;refine kG 11 ?_;refine kG 12 ?_;refine kG 13 ?_;refine kG 14 ?_;refine kG 15 ?_;refine tG 16 ?_;refine tG 17 ?_;refine kG 18 ?_;refine kG 19 ?_;refine kG 20 ?_;refine kG 21 ?_;refine kG 22 ?_;refine kG 23 ?_;refine kG 24 ?_;refine kG 25 ?_;refine kG 26 ?_;refine tG 27 ?_;refine tG 28 ?_;refine kG 29 ?_;refine kG 30 ?_;refine kG 31 ?_;refine kG 32 ?_;refine kG 33 ?_;refine kG 34 ?_;refine kG 35 ?_;refine kG 36 ?_;refine kG 37 ?_;refine kG 38 ?_;refine kG 39 ?_;refine kG 40 ?_;refine tG 41 ?_;refine wpAnyH_done (by kernel_rfl) ?_ _;have HS:Hid (jy l b.os[i] b.os[k] role (m+1)=false):=by rw[Hid,zbP HFS.out hml hmv HSt.out.1 HSt.out.2 (fun _ _=>by rw[decide_eq_false Ht2.out];rfl)];exact HR.out.1
     go_wp2_with fail
     exact⟨⟨m+1,by omega,by go_num,HS.out,HRd.out⟩,by simp[intOf];omega⟩
   ·have hdt1:=decide_eq_false t1
    have hbt1:(fs[m].kd == 4)=false:=by simpa using t1
    have Ht1:=hid t1;clear t1;refine tG 2 ?_;refine tG 3 ?_;refine kG 4 ?_;refine kG 5 ?_;refine kG 6 ?_;refine kG 7 ?_;refine tG 8 ?_;refine tG 9 ?_;refine kG 10 ?_;refine kG 11 ?_;refine kG 12 ?_;refine kG 13 ?_;refine kG 14 ?_;refine kG 15 ?_;refine tG 16 ?_;refine tG 17 ?_;refine kG 18 ?_;refine kG 19 ?_;refine kG 20 ?_;refine kG 21 ?_;refine kG 22 ?_;refine kG 23 ?_;refine kG 24 ?_;refine kG 25 ?_;refine kG 26 ?_;refine tG 27 ?_;refine tG 28 ?_;refine kG 29 ?_;refine kG 30 ?_;refine kG 31 ?_;refine kG 32 ?_;refine kG 33 ?_;refine kG 34 ?_;refine kG 35 ?_;refine kG 36 ?_;refine kG 37 ?_;refine kG 38 ?_;refine kG 39 ?_;refine kG 40 ?_;refine tG 41 ?_;refine wpAnyH_done (by kernel_rfl) ?_ _;have HS:Hid (jy l b.os[i] b.os[k] role (m+1)=false):=by rw[Hid,zbP HFS.out hml hmv HSt.out.1 HSt.out.2 (fun h _=>absurd h Ht1.out)];exact HR.out.1
    go_wp2_with fail
    exact⟨⟨m+1,by omega,by go_num,HS.out,HRd.out⟩,by simp[intOf];omega⟩
  ·have e:m=fs.length:=by omega
   subst e
   have HN:Hid (names l b.os[i] b.os[k] role=false):=by
    have h1:=HR.out.1;rw[HFS.out]at h1;exact h1
   clear HR hY4 hZ4;go_wp2_with fail
   go_ret;exact⟨ze HN.out.symm,HBm.out⟩
end Go.Proofs.YtnapmdofidgliaaGreat
