import Derived.Test.YtjnpjkigofldlaaGreatM27
set_option maxHeartbeats 4000000
namespace Go.Proofs.YtjnpjkigofldlaaGreat
open Go.RowKit
theorem zoa {c p:Int}(h:c≠0):znw c p=.iface 296 (.agg #[.i c,.i p]):=by simp[znw,h]
theorem ze6 (a0:OA)(cap0:Nat)(ss:List Shp)(o:Ob)(a a':OA)(cap cap':Nat)(w:World)(hw:yU w a0 ss)(ho:qY w o a a')(hcnt:o.vs.length=(shapeOf ss o.kd).fs.length) :
 Calls Tryz.prog 243 #[.l a0 ss.length cap0,.agg (oC o a a' cap cap')] w
  fun e w'=>e=.returned (znw (jJ (shapeOf ss o.kd).fs o.vs).1 (jJ (shapeOf ss o.kd).fs o.vs).2)/\Bw w w':=by
 have HC:=hid hcnt;clear hcnt;go_in;go_wp2_with fail
 refine(zcY _).mono ?_;rintro e w0⟨rfl,hw0⟩
 have hX0:∀j,w0.cell? (aD w.heap.size j)=(oC o a a' cap cap')[j]?:=fun j=>by
  rw[hw0,World.cell?_alloc_lt _ _ (aD w.heap.size j) (by simp)];exact zI w _ _ j
 have hm0:w0.heap[w.heap.size+1]?=some (.map jg 4):=by
  rw[hw0];have:=alloc_at (w.alloc (.cells (oC o a a' cap cap') 116)) (.map jg 4);simpa using this
 have hB00:Bw w w0:=by rw[hw0];exact zo _ _ _
 have hz0:w.heap.size+1<w0.heap.size:=by rw[hw0];simp
 clear hw0;simp only[World.size_alloc];have hzz:w.heap.size<w0.heap.size:=by omega
 go_wp2_with fail
 refine(qV _ _ _ _ _ (hw.mono hB00)).mono ?_;rintro e w1⟨fa,fcap,rfl,hfl0,hb1⟩;have hX1:=za hX0 hzz hb1;have hm1:=(hb1.block _ hz0).trans hm0;have hz1:w.heap.size+1<w1.heap.size:=by have:=hb1.size;omega
 have hB01:=hB00.trans (hb1.mono (by omega));have hfl1:=hfl0.mono hb1;clear hX0 hm0 hb1 hfl0 hz0 hzz
 generalize hfs:(shapeOf ss o.kd).fs=fs at *
 have hlen:=hfl1.len;unfold maxLen at hlen;go_wp2
 go_loopw [22] (fun i wr=>∃k:Nat,k<=fs.length/\i=.i k/\up (zbc fs o.vs) k=true/\Bw w1 wr) (fun i _=>fs.length-(intOf i).toNat)
 case atStart=>exact⟨0,Nat.zero_le _,rfl,rfl,bAl _ _⟩
 case round=>
  obtain⟨k,hk,rfl,hup,hBr⟩:=hrel;have hszr:=hBr.size;have hB:Bw w wr:=hB01.trans (hBr.mono (by omega))
  by_cases hlt:k<fs.length
  ·have hXr:=za hX1 (by omega) hBr
   have hmr:=(hBr.block _ hz1).trans hm1;obtain⟨b,off,rfl,hb,hr⟩:=hfl1.rows (by rintro rfl;simp at hlt);obtain⟨wa,wcap,hf0⟩:=hr k hlt;have hf:=hf0.mono hb hBr;obtain⟨c0,c1,c2,c3,c4,c5,c6,c7,c8,c9,c10⟩:=hf.load;have hst:=hf.strs;have hltv:k<o.vs.length:=by rw[HC.o];exact hlt
   obtain⟨vb,voff,rfl,hvb,hvc⟩:=ho.vals.cells (by intro h;rw[h]at hltv;simp at hltv);have hcv:=(hB.cell (p:=(aD vb (voff+k))) hvb).trans (hvc k hltv);have hvs:=ho.vals.small _ (List.getElem_mem hltv);have hltI:(k:Int)<(fs.length:Int):=by omega
   have hltV:(k:Int)<(o.vs.length:Int):=by omega
   have hbr:b<wr.heap.size:=by omega
   have hvbr:vb<wr.heap.size:=by omega
   have hwr1:w.heap.size<wr.heap.size:=by omega
   have HFX:=hid (zlq hlt hltv)
   have HS:Hid (zaM fs[k] o.vs[k]=0->up (zbc fs o.vs) (k+1)=true):=fun h=>by
    rw[zab,hup];unfold zbc;rw[HFX.o,h];rfl
   have HN:Hid (∀n:Int,n≠0->zaM fs[k] o.vs[k]=n->znw (jJ fs o.vs).1 (jJ fs o.vs).2=.iface 296 (.agg #[.i n,.i k])):=fun n hn0 h=>by
    rw[zmB hlt hup (by unfold zbc;rw[HFX.o,h];simp[hn0]),HFX.o,h];exact zoa hn0
   clear hX1 hm1 hr hf0 hf hup
   by_cases he:o.vs[k].size=0
   ·have hne:o.vs[k].toList.isEmpty=true:=by rw[zu];simp[he]
    have HE:=hid he;clear he
    by_cases hmu:fs[k].mu=true
    ·have HM:=hid hmu
     go_wp2
     go_ret;have hv:=HN.o 2 (by decide) (by unfold zaM;rw[if_pos HE.o,if_pos HM.o]);exact⟨by rw[hfs,hv];rfl,hB.alloc (by omega) _⟩
    ·have hmu':fs[k].mu=false:=by simpa using hmu
     have HM:=hid hmu';clear hmu;go_wp2_with fail
     go_quiet (fail)
     go_wp2
     exact⟨⟨k+1,by omega,by go_num,HS.o (by unfold zaM;rw[if_pos HE.o,HM.o];rfl),below_drewN (hBr.alloc (by omega) _) _⟩,by simp[intOf];omega⟩
   ·have hne:o.vs[k].toList.isEmpty=false:=by rw[zu];simp[he]
    have HE:Hid (¬o.vs[k].size=0):=he;clear he
    by_cases hfit:fits fs[k].kd fs[k].ls fs[k].ms fs[k].ws o.vs[k]=true
    all_goals
     first
      | (have HFT:Hid (fits fs[k].kd fs[k].ls fs[k].ms fs[k].ws o.vs[k]=true):=hfit)
      | (have HFT:Hid (fits fs[k].kd fs[k].ls fs[k].ms fs[k].ws o.vs[k]=false):=by simpa[Hid] using hfit)
     clear hfit;go_wp2_with fail
     have hbx:Bw wr ((wr.alloc (.cells #[.s fs[k].nm,.i fs[k].kd,.i fs[k].ls,.i fs[k].ms,.l wa fs[k].ws.length wcap,.s fs[k].to,.i fs[k].rl,.bool fs[k].mu,.bool fs[k].fx,.s fs[k].df,.s fs[k].wg] 183)).drew):=(bAl _ _).drew;have hmx:=(hbx.block _ (by omega)).trans hmr;have hstx:=hst.mono hbx
     go_region_with (go_at_call 215;refine(zw HFT.o (zf9 _ _ _ _ _ _ _ _ _ _ _ _ _ _ _ _ (by exact hmx) hvs (by exact hstx))).mono ?_;rintro e w3⟨rfl,hb3⟩)
     all_goals go_wp2_with fail
    all_goals have hB3:Bw wr w3:=hbx.trans (hb3.mono (by simp))
    all_goals first
     | (have hft:fits fs[k].kd fs[k].ls fs[k].ms fs[k].ws o.vs[k]=true:=HFT.o
        exact⟨⟨k+1,by omega,by go_num,HS.o (by unfold zaM;rw[if_neg HE.o];unfold zgt;rw[hft];rfl),hBr.trans (hB3.mono hszr)⟩,by simp[intOf];omega⟩)
     | (have hft:fits fs[k].kd fs[k].ls fs[k].ms fs[k].ws o.vs[k]=false:=HFT.o
        go_ret;have hv:=HN.o 3 (by decide) (by unfold zaM;rw[if_neg HE.o];unfold zgt;rw[hft];rfl);exact⟨by rw[hfs,hv];rfl,hB.trans (hB3.mono (by omega))⟩)
  ·have HF:Hid (jJ fs o.vs=(0,0)):=by
    have e:k=fs.length:=by omega
    subst e;exact zjf hup
   clear hup;go_wp2
   go_ret;exact⟨by rw[hfs,HF.o];rfl,hB⟩
end Go.Proofs.YtjnpjkigofldlaaGreat
