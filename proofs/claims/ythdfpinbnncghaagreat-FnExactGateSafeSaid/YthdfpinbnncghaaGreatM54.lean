import Derived.Test.YthdfpinbnncghaaGreatM53
import Derived.Test.YthdfpinbnncghaaGreatM31
set_option maxHeartbeats 8000000
namespace Go.Proofs.YthdfpinbnncghaaGreat
open Go.RowKit
def zW (gs:List Gr):List Rl:=gs.map Gr.r
theorem zdJ {gs:List Gr}{k:Nat}(h:k<gs.length):zW (gs.take (k+1))=zW (gs.take k)++[gs[k].r]:=by
 unfold zW;rw[tSe h,List.map_append];rfl
theorem zdy (gs:List Gr):(zW gs).length<=gs.length:=by unfold zW;simp
def zeO (ts:List Tm)(rs:List Rl)(r:Rl):Bool:=j3 ts rs r != 0
noncomputable def safe (l:Lw)(f:Bk)(x:Wd):Bool:=jy l f&&(zbr l x&&!(zW x.b.gs).any (zeO l.ts (zW f.gs)))
theorem za3 {l:Lw}{b:Bk}(h:jy l b=true):b.gs.length<=24/\zep (zW b.gs)=true/\j6 l.ts=true:=by
 unfold jy zar zbi at h;simp only[Bool.and_eq_true]at h;have hg:=h.2.2.2.1;unfold yP at hg;simp only[Bool.and_eq_true,decide_eq_true_eq]at hg;refine⟨hg.1,?_,h.1.2⟩;unfold zep zW;rw[List.all_eq_true];intro r hr;obtain⟨g,hg1,rfl⟩:=List.mem_map.1 hr;have h2:=List.all_eq_true.1 hg.2.2 g hg1;unfold yB at h2;simp only[Bool.and_eq_true]at h2;exact h2.2.2.2
theorem ziz {rs:List Rl}(h:zep rs=true)(i:Nat)(hi:i<rs.length):yZ rs[i].vs=true:=by
 unfold zep at h;exact zgW (List.all_eq_true.1 h _ (List.getElem_mem hi))
set_option maxRecDepth 20000 in
theorem ziA (b:Bk)(a0 a1 a2 a3:OA)(c0 c1 c2 c3:Nat)(w:World)(hb:zbN w a1 b.gs)(hl:b.gs.length<=1048576) :
 Calls Tryz.prog 36 #[.agg (b.cells a0 a1 a2 a3 c0 c1 c2 c3)] w fun e w'=>∃a cap,e=.returned (.l a (zW b.gs).length cap)/\zcC w' a (zW b.gs)/\Bw w w':=by
 obtain⟨i0,hi,hzi,hz1',hz2'⟩:=info_parts Tryz.znr;have HI:Hid (Tryz.prog.info? 74=some i0/\i0.zero=some (.agg #[.l none 0 0,.s ByteArray.empty,.s ByteArray.empty,.s ByteArray.empty])/\i0.size=4/\i0.bytes=72):=⟨hi,hzi,hz1',hz2'⟩
 have HK:Hid (zbN w a1 b.gs):=hb;have HN:Hid (∀k,(zW (b.gs.take k)).length<=1048576):=fun k=>by have:=zdy (b.gs.take k);have:=List.length_take_le k b.gs;have:=List.length_take_le' k b.gs;omega
 clear hb hi hzi hz1' hz2';unfold Bk.cells;go_enter Tryz.func36,Tryz.ntmps36;go_wp2_with fail
 have hX0:=zn w #[.i b.now,.i b.tick,.i b.given,.l a0 b.os.length c0,.l a1 b.gs.length c1,.l a2 b.ls.length c2,.l a3 b.ps.length c3] 51;have HB0:Hid (Bw w (w.alloc (.cells #[.i b.now,.i b.tick,.i b.given,.l a0 b.os.length c0,.l a1 b.gs.length c1,.l a2 b.ls.length c2,.l a3 b.ps.length c3] 51))):=bAl _ _;obtain⟨W0,hW0⟩:=xN (w.alloc (.cells #[.i b.now,.i b.tick,.i b.given,.l a0 b.os.length c0,.l a1 b.gs.length c1,.l a2 b.ls.length c2,.l a3 b.ps.length c3] 51));have hz0:w.heap.size<W0.heap.size:=by rw[hW0];simp
 rw[<- hW0]at HB0 hX0 ⊢;clear hW0;have HR0:Hid (za7 w W0.heap.size W0 (.l none 0 0) []):=za7.nil _ _ _
 go_loopw [3,9] (fun v0 iv wr=>∃(k:Nat) (v:Value),v=v0/\k<=b.gs.length/\iv=.i k/\Hid (za7 w W0.heap.size wr v (zW (b.gs.take k))/\Bw W0 wr)) (fun _ iv _=>b.gs.length-(intOf iv).toNat)
 case atStart=>exact⟨0,_,rfl,Nat.zero_le _,rfl,by rw[List.take_zero];exact HR0.o,bRf _ _⟩
 case round=>
  obtain⟨k,v,hv,hk,rfl,HQ⟩:=hrel;subst hv;have hkn:k<=1048576:=by omega
  have HBr:Hid (Bw w wr):=HB0.o.trans (HQ.o.2.mono (by have:=HB0.o.size;omega));have hX1:∀j,wr.cell? (aD w.heap.size j)=(#[.i b.now,.i b.tick,.i b.given,.l a0 b.os.length c0,.l a1 b.gs.length c1,.l a2 b.ls.length c2,.l a3 b.ps.length c3]:AV)[j]?:=fun j=>(HQ.o.2.cell (p:=(aD w.heap.size j)) (by show w.heap.size<_;omega)).trans (hX0 j)
  have hz1:w.heap.size<wr.heap.size:=by have:=HQ.o.2.size;omega
  by_cases hlt:k<b.gs.length
  ·obtain⟨ob,off,va,vcap,rfl,hob,hsm,hi0,d0,d1,d2,d3,d4,d5,d6⟩:=HK.o.load HBr.o k hlt
   have hob':ob<wr.heap.size:=nLt hob HBr.o.size;have hltI:(k:Int)<(b.gs.length:Int):=by omega
   have HSm:Hid (b.gs[k].r.Small/\b.gs[k].Small):=⟨hsm.r,hsm⟩
   have HVA:Hid (yJ w va b.gs[k].r.vs):=by
    obtain⟨ob',off',va',vcap',e',hob'',hsm',hiw,dd0,dd1,dd2,dd3,_⟩:=HK.o.load (bRf w.heap.size w) k hlt
    cases e'
    have e3:=(HBr.o.cell (p:=(aD ob (off+k*7+3))) hob).trans dd3;rw[d3]at e3
    cases e3
    exact hiw
   clear hsm hi0;have HS:Hid (zW (b.gs.take (k+1))=zW (b.gs.take k)++[b.gs[k].r]):=zdJ hlt;obtain⟨ps,hps,hpp,hown⟩:=HQ.o.1;have HLL:Hid (ps.length<=1048576):=by have:=HN.o k;rw[<- hps,List.length_map]at this;exact this
   have HPP:Hid (ps.map (·.1)=zW (b.gs.take k)/\∀p∈ps,p.1.Small/\yJ w p.2.1 p.1.vs):=⟨hps,hpp⟩
   have HLO:Hid (W0.heap.size<=wr.heap.size):=by have:=HQ.o.2.size;have:=HB0.o.size;show _<=_;omega
   clear hps hpp
   go_wp2_with (at_builtin;refine wpList_append_own _ rfl (.tmp 13) (.tmp 16) 71 rfl W0.heap.size 74 i0 (.agg #[.l none 0 0,.s ByteArray.empty,.s ByteArray.empty,.s ByteArray.empty]) 4 72 Tryz.underlying71 HI.o.1 HI.o.2.1 HI.o.2.2.1 HI.o.2.2.2 rfl (by decide) _ _ _ rfl ((hown.alloc _).alloc _) (aD (wr.heap.size+1) 0) 1 1 [.l va b.gs[k].r.vs.length vcap,.s b.gs[k].r.kd,.s b.gs[k].r.tm,.s b.gs[k].r.px] rfl rfl (by have h:=zlT (wr.alloc (.cells #[.i b.gs[k].no,.s b.gs[k].to,.s b.gs[k].gb,.l va b.gs[k].r.vs.length vcap,.s b.gs[k].r.kd,.s b.gs[k].r.tm,.s b.gs[k].r.px] 76)) (.l va b.gs[k].r.vs.length vcap) (.s b.gs[k].r.kd) (.s b.gs[k].r.tm) (.s b.gs[k].r.px) 74;simpa using h) (by intro u hu;simp at hu;rcases hu with rfl|rfl|rfl|rfl <;> rfl) (by have:=HLL.o;unfold maxLen;omega) (by have:=HLL.o;omega) (by have:=HLO.o;simp;omega) ?_;intro v' w4 hown' hgr _)
   have hgb:∀g',v.ownBlock=some g'->W0.heap.size<=g':=fun g' hg'=>(hown.lt g' hg').1
   exact⟨⟨k+1,_,rfl,by omega,by go_num,by rw[HS.o];exact za7.snoc HPP.o.1 HPP.o.2 HSm.o.1 HVA.o hown',zgo (HQ.o.2.alloc HLO.o _) (by have:=HLO.o;simp;omega) hgr hgb⟩,zw hlt⟩
  ·have e:k=b.gs.length:=by omega
   subst e;have hrow:=HQ.o.1;rw[tOl (Nat.le_refl _)]at hrow;have hml:(zW b.gs).length<=maxLen:=by have:=zdy b.gs;unfold maxLen;omega
   obtain⟨ra,rcap,rfl,hat⟩:=hrow.at HBr.o hml;have HE:Hid (zcC wr ra (zW b.gs)):=hat;clear HQ hlt hk hX1 hrow hat;go_wp2_with fail
   go_ret;exact⟨ra,rcap,rfl,HE.o,HBr.o⟩
theorem zcC.range {w w':World}{a:OA}{ss:List Rl}(h:zcC w a ss)(hl:Bw w w')(i:Nat)(hi:i<ss.length):∃b off p0 q0,a=some (aD b off)/\b<w.heap.size/\(ss[i].Small/\yJ w' p0 ss[i].vs)/\w'.rangeAt b (off+i*4) (ss[i].cells p0 q0).toList:=by
 obtain⟨b,off,ha,hb,hr⟩:=h.rows (by rintro rfl;simp at hi);obtain⟨p0,q0,hf⟩:=hr i hi;exact⟨b,off,p0,q0,ha,hb,⟨hf.small,hf.ints.mono hl⟩,qX (zdU rfl hf.cell) hb hl⟩
theorem zoK (r:Rl)(a:OA)(cap:Nat)(l:Lw)(la lb lc:OA)(lca lcb lcc:Nat)(rs:List Rl)(ra:OA)(rcap:Nat)(bl br:Nat)(w:World)(hr:r.Small/\yJ w a r.vs)(ht:jB w lc l.ts)(hrs:zcC w ra rs)(hv:yZ r.vs=true)(hro:zep rs=true)(hbl:bl<w.heap.size)(hbr:br<w.heap.size)(hcl:∀j,w.cell? (aD bl j)=(#[.l la l.ss.length lca,.l lb l.ms.length lcb,.l lc l.ts.length lcc]:AV)[j]?)(hcr:w.cell? (aD br 0)=some (.l ra rs.length rcap)) :
 Calls Tryz.prog 38 #[.agg (r.cells a cap),.pointer (some (aD bl 0)),.pointer (some (aD br 0))] w fun e w'=>e=.returned (.bool (zeO l.ts rs r))/\Bw w w':=by
 have HR:=zcl hr ht hrs;have HV:=ji hv hro;clear hr ht hrs hv hro;unfold Rl.cells;go_enter Tryz.func38,Tryz.ntmps38
 go_upto_region 1 with fail
 obtain⟨W0,hW0,hb0,hz0,hB0⟩:=zcZ w #[.l a r.vs.length cap,.s r.kd,.s r.tm,.s r.px] 74;rw[<- hW0];clear hW0;have hX0:=za hcl hbl hB0;have hY0:=(hB0.cell (p:=(aD br 0)) hbr).trans hcr;have hZ0:=fun j=>cell_of_block (o:=j) hb0
 clear hcl hcr hb0;go_wp2_with fail
 refine(zk8 _ _ l.ts _ _ rs r _ _ _ (HR.o.2.1.mono hB0) (HR.o.2.2.mono hB0) HR.o.1.1 (HR.o.1.2.mono hB0) HV.o.1 HV.o.2).mono ?_;rintro e w1⟨rfl,hb⟩;have hB1:=hB0.trans (hb.mono hB0.size);clear hb hX0 hY0 hZ0 hB0;go_wp2_with fail
 go_ret;exact⟨rfl,hB1⟩
def zrM (P:Program)(q q':Value)(ss:List Rl)(w:World)(p:Rl->Bool):Prop:=
 ∀w1,Bw w w1->∀i (h:i<ss.length) p0 q0,(ss[i].Small/\yJ w1 p0 ss[i].vs)->Calls P 38 #[.agg (ss[i].cells p0 q0),q,q'] w1 fun e w'=>e=.returned (.bool (p ss[i]))/\Bw w1 w'
theorem zg1 (a:OA)(cap:Nat)(ss:List Rl)(q q':Value)(p:Rl->Bool)(w:World)(hw:zcC w a ss)(hf:zrM Tryz.prog q q' ss w p) :
 Calls Tryz.prog 76 #[.l a ss.length cap,.func (.func 38) #[] #[q,q']] w fun e w'=>∃r:Int,e=.returned (.i r)/\decide (0<=r)=ss.any p/\Bw w w':=by
 have hl:=hw.len;unfold maxLen at hl;go_enter Tryz.func76,Tryz.ntmps76;go_wp2_with fail
 go_loopw [8] (fun i wr=>∃k:Nat,k<=ss.length/\i=.i k/\(ss.take k).any p=false/\Bw w wr) (fun i _=>ss.length-(intOf i).toNat)
 case atStart=>exact⟨0,Nat.zero_le _,rfl,rfl,bRf _ _⟩
 case round=>
  obtain⟨k,hk,rfl,hno,hB⟩:=hrel
  by_cases hlt:k<ss.length
  ·obtain⟨b,off,p0,q0,rfl,hb,hs,hr⟩:=hw.range hB k hlt
   have hltI:(k:Int)<(ss.length:Int):=by omega
   have HC:=ji (hf wr hB k hlt p0 q0 hs) hr;clear hw hf hs hr
   by_cases he:p ss[k]=true
   ·have HA:Hid (ss.any p=true):=zcd _ ss k hlt he
    have HE:Hid (p ss[k]=true):=he;clear he hno
    go_upto_region 4 with fail
    refine wp_region_list ?_;refine tL ?_;refine tL ?_;refine tL ?_;refine tL ?_;refine wpList_load_mid rfl 74 (.tmp 14) rfl b (off+k*4) rfl _ _ HC.o.2 Tryz.underlying74 rfl (by kernel_rfl) ?_;refine cL fun K hK=>?_
    go_simp
    refine(zf HE.o HC.o.1).mono ?_;rintro e w2⟨rfl,hb2⟩
    (try go_wp2_with fail)
    refine hK.out _ _ ?_;clear hK K;refine wpList_nil ?_
    (try simp only[Act.put,sA,s0,sS])
    go_wp2_with fail
    go_ret;exact⟨_,rfl,by rw[HA.o];simp,hB.trans (hb2.mono hB.size)⟩
   ·have he':p ss[k]=false:=by simpa using he
    have HS:Hid ((ss.take (k+1)).any p=false):=by unfold Hid;rw[qO _ ss k hlt,hno,he'];rfl
    have HE:Hid (p ss[k]=false):=he';clear he he' hno
    go_upto_region 4 with fail
    refine wp_region_list ?_;refine tL ?_;refine tL ?_;refine tL ?_;refine tL ?_;refine wpList_load_mid rfl 74 (.tmp 14) rfl b (off+k*4) rfl _ _ HC.o.2 Tryz.underlying74 rfl (by kernel_rfl) ?_;refine cL fun K hK=>?_
    go_simp
    refine(zf HE.o HC.o.1).mono ?_;rintro e w2⟨rfl,hb2⟩
    (try go_wp2_with fail)
    refine hK.out _ _ ?_;clear hK K;refine wpList_nil ?_
    (try simp only[Act.put,sA,s0,sS])
    go_wp2_with fail
    exact⟨⟨k+1,by omega,by go_num,HS.o,hB.trans (hb2.mono hB.size)⟩,by simp[intOf];omega⟩
  ·have HA:Hid (ss.any p=false):=by unfold Hid;rw[<- hno,tOl (by omega)]
   clear hno hw hf;go_wp2_with fail
   go_ret;exact⟨_,rfl,by rw[HA.o];rfl,hB⟩
theorem zft (a:OA)(cap:Nat)(ss:List Rl)(q q':Value)(p:Rl->Bool)(w:World)(hw:zcC w a ss)(hf:zrM Tryz.prog q q' ss w p) :
 Calls Tryz.prog 37 #[.l a ss.length cap,.func (.func 38) #[] #[q,q']] w fun e w'=>e=.returned (.bool (ss.any p))/\Bw w w':=by
 go_enter Tryz.func37,Tryz.ntmps37;go_wp2_with fail
 refine(zg1 _ _ _ _ _ _ _ hw hf).mono ?_;rintro e w2⟨r,rfl,hr,hb2⟩;go_wp2_with fail
 go_ret;exact⟨rfl,hb2⟩
theorem zma (l:Lw)(la lb lc:OA)(lca lcb lcc:Nat)(f:Bk)(b0 b1 b2 b3:OA)(e0 e1 e2 e3:Nat)(x:Wd)(a0 a1 a2 a3 a4:OA)(c0 c1 c2 c3 c4:Nat)(w:World)(hl:yH w l la lb lc)(hf:jU w f b0 b1 b2 b3)(hx:zgc True w x a0 a1 a2 a3 a4)(hlf:l.Few)(hff:f.Few)(hfz:qR f.os<=1048576)(hxf:x.Few) :
 Calls Tryz.prog 11 #[.agg (l.cells la lb lc lca lcb lcc),.agg (f.cells b0 b1 b2 b3 e0 e1 e2 e3),.agg (x.cells a0 a1 a2 a3 a4 c0 c1 c2 c3 c4)] w fun e w'=>e=.returned (.bool (safe l f x))/\Bw w w':=by
 have HD:=zcl hl hf hx;have HF:=zk2 hlf hff hfz hxf;clear hl hf hx hlf hff hfz hxf;unfold Lw.cells Bk.cells Wd.cells;go_enter Tryz.func11,Tryz.ntmps11
 go_upto_region 1 with fail
 obtain⟨W0,hW0,hX0,hY0,hZ0,hz0,hB0⟩:=zd6 w #[.l la l.ss.length lca,.l lb l.ms.length lcb,.l lc l.ts.length lcc] #[.i f.now,.i f.tick,.i f.given,.l b0 f.os.length e0,.l b1 f.gs.length e1,.l b2 f.ls.length e2,.l b3 f.ps.length e3] #[.i x.b.now,.i x.b.tick,.i x.b.given,.l a0 x.b.os.length c0,.l a1 x.b.gs.length c1,.l a2 x.b.ls.length c2,.l a3 x.b.ps.length c3,.l a4 x.ds.length c4] 44 51 55;rw[<- hW0];clear hW0;go_wp2_with fail
 refine(ze6 l la lb lc lca lcb lcc f b0 b1 b2 b3 e0 e1 e2 e3 _ (HD.o.1.mono hB0) (HD.o.2.1.mono hB0) HF.o.1 HF.o.2.1 HF.o.2.2.1).mono ?_;rintro e w1⟨rfl,hb⟩;have hX1:=za hX0 (by omega) hb;have hY1:=za hY0 (by omega) hb;have hZ1:=za hZ0 hz0 hb;have hz1:=nLt hz0 hb.size;have hB1:=hB0.trans (hb.mono hB0.size);clear hb hX0 hY0 hZ0 hz0 hB0
 cases hk:jy l f
 ·have HK:=hid hk
  clear hk;go_wp2_with fail
  go_ret;exact⟨ze (by unfold safe;rw[HK.o];rfl),hB1⟩
 have HK:=hid hk;clear hk;go_wp2_with fail
 refine(ziU l la lb lc lca lcb lcc x a0 a1 a2 a3 a4 c0 c1 c2 c3 c4 _ (HD.o.1.mono hB1) (HD.o.2.2.mono hB1) HF.o.1 HF.o.2.2.2).mono ?_;rintro e w2⟨rfl,hb⟩;have hX2:=za hX1 (by omega) hb;have hY2:=za hY1 (by omega) hb;have hZ2:=za hZ1 hz1 hb;have hz2:=nLt hz1 hb.size;have hB2:=hB1.trans (hb.mono hB1.size);clear hb hX1 hY1 hZ1 hz1 hB1
 cases hk:zbr l x
 ·have HW:=hid hk
  clear hk;go_wp2_with fail
  go_ret;exact⟨ze (by unfold safe;rw[HK.o,HW.o];rfl),hB2⟩
 have HW:=hid hk;have HXB:Hid (jy l x.b=true):=by unfold zbr at hk;simp only[Bool.and_eq_true]at hk;exact hk.1
 clear hk;go_wp2_with fail
 refine(ziA f b0 b1 b2 b3 e0 e1 e2 e3 _ (HD.o.2.1.gs.mono hB2) (by have:=(za3 HK.o).1;omega)).mono ?_;rintro e w3⟨ra,rcap,rfl,hrs,hb⟩;have hX3:=za hX2 (by omega) hb;have hZ3:=za hZ2 hz2 hb;have hz3:=nLt hz2 hb.size;have hB3:=hB2.trans (hb.mono hB2.size);clear hb hX2 hY2 hZ2 hz2 hB2
 go_upto_region 4 with fail
 obtain⟨W4,hW4,hb4,hz4,hB4⟩:=zcZ w3 #[.l ra (zW f.gs).length rcap] 71;rw[<- hW4];clear hW4;have hX4:=za hX3 (by omega) hB4;have hZ4:=za hZ3 hz3 hB4;have hY4:W4.cell? (aD w3.heap.size 0)=some (.l ra (zW f.gs).length rcap):=cell_of_block hb4;have HRS:=hid (hrs.mono hB4);have hB5:=hB3.trans (hB4.mono hB3.size);have hzz:w.heap.size+1+1<W4.heap.size:=by omega
 clear hX3 hZ3 hrs hB3 hb4 hB4;go_wp2_with fail
 refine(ziA x.b a0 a1 a2 a3 c0 c1 c2 c3 _ (HD.o.2.2.b.gs.mono hB5) (by have:=(za3 HXB.o).1;omega)).mono ?_;rintro e w6⟨xa,xcap,rfl,hxs,hb⟩;have hX6:=za hX4 (by omega) hb;have hY6:=(hb.cell (p:=(aD w3.heap.size 0)) hz4).trans hY4;have hB6:=hB5.trans (hb.mono hB5.size);have hz6:=nLt hz4 hb.size;have hzx:w.heap.size<w6.heap.size:=nLt (by omega) hb.size;have HR6:=hid (HRS.o.mono hb);clear hb hX4 hY4 hZ4 HRS;go_wp2_with fail
 refine(zft _ _ (zW x.b.gs) _ _ (zeO l.ts (zW f.gs)) _ hxs ?_).mono ?_
 ·intro w7 hB7 i hi p0 q0 hs
  exact zoK _ p0 q0 l la lb lc lca lcb lcc (zW f.gs) ra rcap _ _ w7 hs ((HD.o.1.ts.mono hB6).mono hB7) (HR6.o.mono hB7) (ziz (za3 HXB.o).2.1 i hi) (za3 HK.o).2.1 (nLt hzx hB7.size) (nLt hz6 hB7.size) (za hX6 hzx hB7) ((hB7.cell (p:=(aD w3.heap.size 0)) hz6).trans hY6)
 rintro e w8⟨rfl,hb⟩;have hB8:=hB6.trans (hb.mono hB6.size);clear hb hX6 hY6;go_wp2_with fail
 go_ret;exact⟨ze (by unfold safe;rw[HK.o,HW.o];simp),hB8⟩
theorem zqY {ds:List Dor}{m k:Nat}(hm:m<ds.length)(hk:k=m+1)(hl:k<ds.length)(h:zaa jI ds k):(¬less ds[m].nm ds[k].nm=true->zaQ jI ds=false)/\(less ds[m].nm ds[k].nm=true->zaa jI ds (k+1)):=by
 subst hk;have hv:=zkd ds[m].nm ds[m+1].nm;refine⟨fun hn=>zeB hl ?_,fun hy=>zck h hl ?_⟩
 ·intro hlt
  rw[zeV,decide_eq_true_eq]at hn;unfold jI at hlt;omega
 ·rw[zeV,decide_eq_true_eq]at hy
  show key _ _<0
  omega
theorem ziF (l:Lw)(la lb lc:OA)(lca lcb lcc:Nat)(x:Wd)(a0 a1 a2 a3 a4:OA)(c0 c1 c2 c3 c4:Nat)(w:World)(hl:yH w l la lb lc)(hx:zgc True w x a0 a1 a2 a3 a4)(hf:x.Few) :
 Calls Tryz.prog 24 #[.agg (l.cells la lb lc lca lcb lcc),.agg (x.cells a0 a1 a2 a3 a4 c0 c1 c2 c3 c4)] w fun e w'=>e=.returned (.bool (zbr l x))/\Bw w w':=by
 have hln:=hx.ds.len;have HD:=ji hx hl;have HF0:=hid hf;clear hx hl hf;unfold maxLen at hln;unfold Lw.cells Wd.cells;go_enter Tryz.func24,Tryz.ntmps24
 go_upto_region 1 with fail
 obtain⟨W0,hW0,hX0,hY0,hz0,hB0⟩:=zR w #[.l la l.ss.length lca,.l lb l.ms.length lcb,.l lc l.ts.length lcc] #[.i x.b.now,.i x.b.tick,.i x.b.given,.l a0 x.b.os.length c0,.l a1 x.b.gs.length c1,.l a2 x.b.ls.length c2,.l a3 x.b.ps.length c3,.l a4 x.ds.length c4] 44 55;rw[<- hW0];clear hW0;go_wp2_with fail
 refine(zdb l la lb lc lca lcb lcc x.b a0 a1 a2 a3 c0 c1 c2 c3 _ (HD.o.2.mono hB0) (HD.o.1.b.mono hB0) ((HD.o.1.has trivial).mono hB0) HF0.o.b HF0.o.z).mono ?_;rintro e w2⟨rfl,hb⟩;have hX1:=za hX0 (by omega) hb;have hY1:=za hY0 hz0 hb;have hz1:=nLt hz0 hb.size;have hB1:=hB0.trans (hb.mono hB0.size);clear hb hX0 hY0 hz0 hB0
 cases hk:jy l x.b
 ·have HK:=hid hk
  clear hk;go_wp2_with fail
  go_ret;exact⟨ze (by unfold zbr;rw[HK.o];rfl),hB1⟩
 have HFIN:Hid (zbr l x=zaC l x):=by unfold Hid zbr;rw[hk];rfl
 have HF:Hid (zbi l=true/\True/\x.Few):=by unfold jy at hk;simp only[Bool.and_eq_true]at hk;exact⟨hk.1,trivial,HF0.o⟩
 clear hk HF0
 by_cases h4:x.ds.length<=4
 rotate_left
 ·have h4d:decide ((4:Int)<(x.ds.length:Int))=true:=by simp;omega
  have H4:Hid (decide (x.ds.length<=4)=false):=decide_eq_false h4;clear h4;go_wp2_with fail
  go_ret;exact⟨ze (by rw[HFIN.o];unfold zaC;rw[H4.o];rfl),hB1⟩
 have h4d:decide ((4:Int)<(x.ds.length:Int))=false:=by simp;omega
 have H4:Hid (decide (x.ds.length<=4)=true):=decide_eq_true h4;clear h4
 go_upto_region 3 with fail
 clear h4d;go_wp2_with fail
 go_loopw [5] (fun i wr=>∃k:Nat,k<=x.ds.length/\i=.i k/\Hid ((x.ds.take k).any (fun d=>!jF l x.b.now d)=false/\zaa jI x.ds k)/\Bw w2 wr) (fun i _=>x.ds.length-(intOf i).toNat)
 case atStart=>exact⟨0,Nat.zero_le _,rfl,⟨rfl,fun i h h'=>by omega⟩,bRf _ _⟩
 case round=>
  obtain⟨k,hk,rfl,HNO,hB⟩:=hrel;have hX2:=za hX1 (by omega) hB.drew;have hY2:=za hY1 hz1 hB.drew;have hXl:w.heap.size<wr.drew.heap.size:=nLt (by omega) hB.drew.size;have hYl:w.heap.size+1<wr.drew.heap.size:=nLt hz1 hB.drew.size;have hY3:=za hY1 hz1 hB
  by_cases hlt:k<x.ds.length
  ·obtain⟨b,off,p0,p1,p2,p3,p4,q0,q1,q2,q3,q4,ha,hb,hs,hr⟩:=(HD.o.1.ds.mono hB1).range hB.drew k hlt
   have hc0:wr.drew.cell? (aD b (off+k*10))=some (.s x.ds[k].nm):=hr 0 _ rfl;have hltI:(k:Int)<(x.ds.length:Int):=by omega
   have hb1:=nLt hb hB.drew.size;have HS:=ji hs hr;have HLW:=hid ((HD.o.2.mono hB1).mono hB.drew);clear hs hr
   rcases Nat.eq_zero_or_pos k with hz|hk0
   ·have hk0:¬0<k:=by omega
    subst ha;clear hz;go_wp2_with fail
    clear hY3;refine wp_region_held_drew (S:=fun w'=>(∀j,w'.cell? (aD w.heap.size j)=(#[.l la l.ss.length lca,.l lb l.ms.length lcb,.l lc l.ts.length lcc]:AV)[j]?)/\(∀j,w'.cell? (aD (w.heap.size+1) j)=(#[.i x.b.now,.i x.b.tick,.i x.b.given,.l a0 x.b.os.length c0,.l a1 x.b.gs.length c1,.l a2 x.b.ls.length c2,.l a3 x.b.ps.length c3,.l (some (aD b off)) x.ds.length c4]:AV)[j]?)/\w'.rangeAt b (off+k*10) (x.ds[k].cells p0 p1 p2 p3 p4 q0 q1 q2 q3 q4).toList/\w'.cell? (aD b (off+k*10))=some (.s x.ds[k].nm)) (by kernel_rfl) ⟨hX2,hY2,HS.o.2,hc0⟩ (fun H_=>?_);refine tG 0 ?_;refine tG 1 ?_;refine tG 2 ?_;refine tG 3 ?_;refine tG 4 ?_;refine tG 5 ?_;refine mH 6 rfl H_ (fun _ h=>h.2.2.1) Tryz.underlying133 rfl (by kernel_rfl) ?_;refine cH 7 rfl fun K hK=>?_
    go_simp
    refine(zfP l la lb lc lca lcb lcc x _ _ _ _ _ _ _ _ _ _ x.ds[k] p0 p1 p2 p3 p4 q0 q1 q2 q3 q4 _ HLW.o HS.o.1 HF.o.1 (HF.o.2.2.ds.2 k hlt)).mono ?_;rintro e w3⟨rfl,hbb⟩;have hB3:=hB.drew.trans (hbb.mono hB.drew.size);have HSN:Hid ((∀j,w3.cell? (aD w.heap.size j)=(#[.l la l.ss.length lca,.l lb l.ms.length lcb,.l lc l.ts.length lcc]:AV)[j]?)/\(∀j,w3.cell? (aD (w.heap.size+1) j)=(#[.i x.b.now,.i x.b.tick,.i x.b.given,.l a0 x.b.os.length c0,.l a1 x.b.gs.length c1,.l a2 x.b.ls.length c2,.l a3 x.b.ps.length c3,.l (some (aD b off)) x.ds.length c4]:AV)[j]?)/\w3.rangeAt b (off+k*10) (x.ds[k].cells p0 p1 p2 p3 p4 q0 q1 q2 q3 q4).toList/\w3.cell? (aD b (off+k*10))=some (.s x.ds[k].nm)):=⟨za hX2 hXl hbb,za hY2 hYl hbb,qX HS.o.2 hb1 hbb,(hbb.cell (p:=(aD b (off+k*10))) hb1).trans hc0⟩
    clear hX2 hY2 hc0 hbb
    (try go_wp2_with fail)
    refine hK.out _ _ ?_ (fun H_=>?_)
    ·exact HSN.o
    clear hK K HSN
    (try simp only[Act.put,sA,s0,sS])
    cases hq:jF l x.b.now x.ds[k]
    ·have HA:Hid (zaC l x=false):=by
      have h:x.ds.any (fun d=>!jF l x.b.now d)=true:=zcd _ x.ds k hlt (by rw[hq];rfl);unfold Hid zaC;rw[h];simp
     clear hq;refine tG 8 ?_;refine tG 9 ?_;refine kG 10 ?_;refine kG 11 ?_;refine kG 12 ?_;refine kG 13 ?_;refine kG 14 ?_;refine kG 15 ?_;refine kG 16 ?_;refine kG 17 ?_;refine kG 18 ?_;refine kG 19 ?_;refine kG 20 ?_;refine kG 21 ?_;refine kG 22 ?_;refine kG 23 ?_;refine kG 24 ?_;refine kG 25 ?_;refine kG 26 ?_;refine kG 27 ?_;refine tG 28 ?_;refine wpAnyH_done (by kernel_rfl) ?_ _;go_wp2_with fail
     go_ret;exact⟨ze (by rw[HFIN.o,HA.o]),hB1.trans (hB3.mono hB1.size)⟩
    have HDK:Hid ((x.ds.take (k+1)).any (fun d=>!jF l x.b.now d)=false):=by unfold Hid;rw[qO _ x.ds k hlt,HNO.o.1,hq];rfl
    clear hq;have HA:Hid (zaa jI x.ds (k+1)):=fun i h h'=>by omega
    refine tG 8 ?_;refine tG 9 ?_;refine tG 10 ?_;refine tG 11 ?_;refine tG 12 ?_;refine kG 13 ?_;refine kG 14 ?_;refine kG 15 ?_;refine kG 16 ?_;refine kG 17 ?_;refine kG 18 ?_;refine kG 19 ?_;refine kG 20 ?_;refine kG 21 ?_;refine kG 22 ?_;refine kG 23 ?_;refine kG 24 ?_;refine kG 25 ?_;refine kG 26 ?_;refine tG 27 ?_;refine tG 28 ?_;refine wpAnyH_done (by kernel_rfl) ?_ _;go_wp2_with fail
    exact⟨⟨k+1,by omega,by go_num,⟨HDK.o,HA.o⟩,hB3⟩,by simp[intOf];omega⟩
   ·obtain⟨m,hkm⟩:∃m,k=m+1:=⟨k-1,by omega⟩
    have hm:m<x.ds.length:=by omega
    obtain⟨b',off',_,_,_,_,_,_,_,_,_,_,ha',_,_,hrm⟩:=(HD.o.1.ds.mono hB1).range hB.drew m hm;subst ha;obtain⟨rfl,rfl⟩:b=b'/\off=off':=by simpa using ha'
    have hcm:wr.drew.cell? (aD b (off+m*10))=some (.s x.ds[m].nm):=hrm 0 _ rfl;have hsub:IntKind.i64.wrap ((k:Int)-1)=(m:Int):=by rw[IntKind.wrap_i64];omega
    have h0m:(0:Int)<=(m:Int):=by omega
    have hmI:(m:Int)<(x.ds.length:Int):=by omega
    have HKM:=hid (zqY hm hkm hlt HNO.o.2);clear hrm ha' hkm;go_wp2_with fail
    clear hY3;refine wp_region_held_drew (S:=fun w'=>(∀j,w'.cell? (aD w.heap.size j)=(#[.l la l.ss.length lca,.l lb l.ms.length lcb,.l lc l.ts.length lcc]:AV)[j]?)/\(∀j,w'.cell? (aD (w.heap.size+1) j)=(#[.i x.b.now,.i x.b.tick,.i x.b.given,.l a0 x.b.os.length c0,.l a1 x.b.gs.length c1,.l a2 x.b.ls.length c2,.l a3 x.b.ps.length c3,.l (some (aD b off)) x.ds.length c4]:AV)[j]?)/\w'.rangeAt b (off+k*10) (x.ds[k].cells p0 p1 p2 p3 p4 q0 q1 q2 q3 q4).toList/\w'.cell? (aD b (off+k*10))=some (.s x.ds[k].nm)/\w'.cell? (aD b (off+m*10))=some (.s x.ds[m].nm)) (by kernel_rfl) ⟨hX2,hY2,HS.o.2,hc0,hcm⟩ (fun H_=>?_);refine tG 0 ?_;refine tG 1 ?_;refine tG 2 ?_;refine tG 3 ?_;refine tG 4 ?_;refine tG 5 ?_;refine mH 6 rfl H_ (fun _ h=>h.2.2.1) Tryz.underlying133 rfl (by kernel_rfl) ?_;refine cH 7 rfl fun K hK=>?_
    go_simp
    refine(zfP l la lb lc lca lcb lcc x _ _ _ _ _ _ _ _ _ _ x.ds[k] p0 p1 p2 p3 p4 q0 q1 q2 q3 q4 _ HLW.o HS.o.1 HF.o.1 (HF.o.2.2.ds.2 k hlt)).mono ?_;rintro e w3⟨rfl,hbb⟩;have hB3:=hB.drew.trans (hbb.mono hB.drew.size);have HSN:Hid ((∀j,w3.cell? (aD w.heap.size j)=(#[.l la l.ss.length lca,.l lb l.ms.length lcb,.l lc l.ts.length lcc]:AV)[j]?)/\(∀j,w3.cell? (aD (w.heap.size+1) j)=(#[.i x.b.now,.i x.b.tick,.i x.b.given,.l a0 x.b.os.length c0,.l a1 x.b.gs.length c1,.l a2 x.b.ls.length c2,.l a3 x.b.ps.length c3,.l (some (aD b off)) x.ds.length c4]:AV)[j]?)/\w3.rangeAt b (off+k*10) (x.ds[k].cells p0 p1 p2 p3 p4 q0 q1 q2 q3 q4).toList/\w3.cell? (aD b (off+k*10))=some (.s x.ds[k].nm)/\w3.cell? (aD b (off+m*10))=some (.s x.ds[m].nm)):=⟨za hX2 hXl hbb,za hY2 hYl hbb,qX HS.o.2 hb1 hbb,(hbb.cell (p:=(aD b (off+k*10))) hb1).trans hc0,(hbb.cell (p:=(aD b (off+m*10))) hb1).trans hcm⟩
    clear hX2 hY2 hc0 hcm hbb
    (try go_wp2_with fail)
    refine hK.out _ _ ?_ (fun H_=>?_)
    ·exact HSN.o
    clear hK K HSN
    (try simp only[Act.put,sA,s0,sS])
    cases hq:jF l x.b.now x.ds[k]
    ·have HA:Hid (zaC l x=false):=by
      have h:x.ds.any (fun d=>!jF l x.b.now d)=true:=zcd _ x.ds k hlt (by rw[hq];rfl);unfold Hid zaC;rw[h];simp
     clear hq;refine tG 8 ?_;refine tG 9 ?_;refine kG 10 ?_;refine kG 11 ?_;refine kG 12 ?_;refine kG 13 ?_;refine kG 14 ?_;refine kG 15 ?_;refine kG 16 ?_;refine kG 17 ?_;refine kG 18 ?_;refine kG 19 ?_;refine kG 20 ?_;refine kG 21 ?_;refine kG 22 ?_;refine kG 23 ?_;refine kG 24 ?_;refine kG 25 ?_;refine kG 26 ?_;refine kG 27 ?_;refine tG 28 ?_;refine wpAnyH_done (by kernel_rfl) ?_ _;go_wp2_with fail
     go_ret;exact⟨ze (by rw[HFIN.o,HA.o]),hB1.trans (hB3.mono hB1.size)⟩
    have HDK:Hid ((x.ds.take (k+1)).any (fun d=>!jF l x.b.now d)=false):=by unfold Hid;rw[qO _ x.ds k hlt,HNO.o.1,hq];rfl
    clear hq
    by_cases hls:less x.ds[m].nm x.ds[k].nm=true
    ·have e2:Op.bytesLess x.ds[m].nm.toList x.ds[k].nm.toList=true:=hls
     have HA:Hid (zaa jI x.ds (k+1)):=HKM.o.2 hls;clear hls;refine tG 8 ?_;refine tG 9 ?_;refine tG 10 ?_;refine tG 11 ?_;refine tG 12 ?_;refine tG 13 ?_;refine tG 14 ?_;refine tG 15 ?_;refine tG 16 ?_;refine tG 17 ?_;refine tG 18 ?_;refine tG 19 ?_;refine tG 20 ?_;refine tG 21 ?_;refine tG 22 ?_;refine tG 23 ?_;refine tG 24 ?_;refine tG 25 ?_;refine tG 26 ?_;refine tG 27 ?_;refine tG 28 ?_;refine wpAnyH_done (by kernel_rfl) ?_ _;go_wp2_with fail
     exact⟨⟨k+1,by omega,by go_num,⟨HDK.o,HA.o⟩,hB3⟩,by simp[intOf];omega⟩
    ·have e2:Op.bytesLess x.ds[m].nm.toList x.ds[k].nm.toList=false:=by simpa[less] using hls
     have HA:Hid (zaC l x=false):=by
      unfold Hid zaC;rw[HKM.o.1 hls];simp
     clear hls;refine tG 8 ?_;refine tG 9 ?_;refine tG 10 ?_;refine tG 11 ?_;refine tG 12 ?_;refine tG 13 ?_;refine tG 14 ?_;refine tG 15 ?_;refine tG 16 ?_;refine tG 17 ?_;refine tG 18 ?_;refine tG 19 ?_;refine tG 20 ?_;refine tG 21 ?_;refine tG 22 ?_;refine tG 23 ?_;refine tG 24 ?_;refine tG 25 ?_;refine tG 26 ?_;refine tG 27 ?_;refine tG 28 ?_;refine wpAnyH_done (by kernel_rfl) ?_ _;go_wp2_with fail
     go_ret;exact⟨ze (by rw[HFIN.o,HA.o]),hB1.trans (hB3.mono hB1.size)⟩
  ·have HA:Hid (zaC l x=true):=by
    have h1:=HNO.o.1;rw[tOl (by omega)]at h1;have h2:zaQ jI x.ds=true:=(zkT _ _).2 fun i hi=>HNO.o.2 i hi (by omega)
    unfold Hid zaC;rw[H4.o,h1,h2];rfl
   clear hX2 hY2;go_wp2_with fail
   go_ret;exact⟨ze (by rw[HFIN.o,HA.o]),hB1.trans (hB.mono hB1.size)⟩
theorem four {j:Nat}(hj:j<4):j=0 \/ j=1 \/ j=2 \/ j=3:=by omega
theorem zbN.rule {w w':World}{a:OA}{gs:List Gr}(h:zbN w a gs)(hl:Bw w w')(i:Nat)(hi:i<gs.length):∃b off va vcap,a=some (aD b off)/\b<w.heap.size/\gs[i].r.Small/\yJ w' va gs[i].r.vs/\w'.rangeAt b (off+i*7+3) (gs[i].r.cells va vcap).toList:=by
 obtain⟨b,off,va,vcap,ha,hb,hsm,hi0,d0,d1,d2,d3,d4,d5,d6⟩:=h.load hl i hi;refine⟨b,off,va,vcap,ha,hb,hsm.r,hi0,zdU (n:=4) rfl fun j hj=>?_⟩
 rcases four hj with rfl|rfl|rfl|rfl
 ·exact d3
 ·exact d4
 ·exact d5
 ·exact d6
theorem zoz {ts:List Tm}(hok:j6 ts=true)(rs:List Rl){r:Rl}(hv:yZ r.vs=true):(zby ts rs r != 0)=zeO ts rs r:=by
 have h1:=zko hok rs hv;have h2:=zlf (ts:=ts) rs hv;unfold zeO;have h:(zby ts rs r == 0)=(j3 ts rs r == 0):=Bool.eq_iff_iff.2 (h1.trans h2.symm);simp only[bne,h]
set_option maxRecDepth 20000 in
theorem zmn (l:Lw)(la lb lc:OA)(lca lcb lcc:Nat)(f:Bk)(b0 b1 b2 b3:OA)(e0 e1 e2 e3:Nat)(x:Wd)(a0 a1 a2 a3 a4:OA)(c0 c1 c2 c3 c4:Nat)(w:World)(hl:yH w l la lb lc)(hf:jU w f b0 b1 b2 b3)(hfh:zcJ w b0 f.os)(hx:zgc True w x a0 a1 a2 a3 a4)(hff:f.Few)(hfz:qR f.os<=1048576)(hxf:x.Few) :
 Calls Tryz.prog 7 #[.agg (l.cells la lb lc lca lcb lcc),.agg (f.cells b0 b1 b2 b3 e0 e1 e2 e3),.agg (x.cells a0 a1 a2 a3 a4 c0 c1 c2 c3 c4)] w fun e w'=>e=.returned (.bool (safe l f x))/\Bw w w':=by
 obtain⟨i0,hi,hzi,hz1',hz2'⟩:=info_parts Tryz.znr;have HI:=zk2 hi hzi hz1' hz2';have HD:=zk2 hl hf hx hfh;have HF:=zcl hff hfz hxf;clear hl hf hx hff hfz hxf hfh hi hzi hz1' hz2';unfold Lw.cells Bk.cells Wd.cells;go_enter Tryz.func7,Tryz.ntmps7
 go_upto_region 1 with fail
 obtain⟨W0,hW0,hX0,hY0,hZ0,hz0,hB0⟩:=zd6 w #[.l la l.ss.length lca,.l lb l.ms.length lcb,.l lc l.ts.length lcc] #[.i f.now,.i f.tick,.i f.given,.l b0 f.os.length e0,.l b1 f.gs.length e1,.l b2 f.ls.length e2,.l b3 f.ps.length e3] #[.i x.b.now,.i x.b.tick,.i x.b.given,.l a0 x.b.os.length c0,.l a1 x.b.gs.length c1,.l a2 x.b.ls.length c2,.l a3 x.b.ps.length c3,.l a4 x.ds.length c4] 44 51 55;rw[<- hW0];clear hW0;go_wp2_with fail
 refine(zdb l la lb lc lca lcb lcc f b0 b1 b2 b3 e0 e1 e2 e3 _ (HD.o.1.mono hB0) (HD.o.2.1.mono hB0) (HD.o.2.2.2.mono hB0) HF.o.1 HF.o.2.1).mono ?_;rintro e w1⟨rfl,hb⟩;have hX1:=za hX0 (by omega) hb;have hY1:=za hY0 (by omega) hb;have hZ1:=za hZ0 hz0 hb;have hz1:=nLt hz0 hb.size;have hB1:=hB0.trans (hb.mono hB0.size);clear hb hX0 hY0 hZ0 hz0 hB0
 cases hk:jy l f
 ·have HK:=hid hk
  clear hk;go_wp2_with fail
  go_ret;exact⟨ze (by unfold safe;rw[HK.o];rfl),hB1⟩
 have HK:=hid hk;clear hk;go_wp2_with fail
 refine(ziF l la lb lc lca lcb lcc x a0 a1 a2 a3 a4 c0 c1 c2 c3 c4 _ (HD.o.1.mono hB1) (HD.o.2.2.1.mono hB1) HF.o.2.2).mono ?_;rintro e w2⟨rfl,hb⟩;have hX2:=za hX1 (by omega) hb;have hY2:=za hY1 (by omega) hb;have hZ2:=za hZ1 hz1 hb;have hz2:=nLt hz1 hb.size;have hB2:=hB1.trans (hb.mono hB1.size);clear hb hX1 hY1 hZ1 hz1 hB1
 cases hk:zbr l x
 ·have HW:=hid hk
  clear hk;go_wp2_with fail
  go_ret;exact⟨ze (by unfold safe;rw[HK.o,HW.o];rfl),hB2⟩
 have HW:Hid (safe l f x=!(zW x.b.gs).any (zeO l.ts (zW f.gs))):=by unfold Hid safe;rw[HK.o,hk];rfl
 have HXB:Hid (jy l x.b=true):=by unfold zbr at hk;simp only[Bool.and_eq_true]at hk;exact hk.1
 clear hk;have HGF:=hid (HD.o.2.1.gs.mono hB2);have hfl:f.gs.length<=1048576:=by have:=(za3 HK.o).1;omega
 have hxl:x.b.gs.length<=1048576:=by have:=(za3 HXB.o).1;omega
 go_upto_region 4 with fail
 obtain⟨W3,hW3,hb3,hz3,hB3⟩:=zcZ w2 #[] 74;rw[<- hW3];clear hW3;have HR0:Hid (za7 w2 w2.heap.size W3 (.l (some (aD w2.heap.size 0)) 0 0) []):=⟨[],rfl,(fun _ h=>by cases h),rfl,.inr ⟨w2.heap.size,0,#[],rfl,Nat.le_refl _,hb3,Nat.le_refl _,by simp[maxLen],rfl,rfl⟩⟩
 have HB3:=hid hB3;have HN:Hid (∀k,(zW (f.gs.take k)).length<=1048576):=fun k=>by have:=zdy (f.gs.take k);have:=List.length_take_le' k f.gs;omega
 clear hb3 hB3;go_wp2_with fail
 go_loopw [7,8] (fun v0 iv wr=>∃(k:Nat) (v:Value),v=v0/\k<=f.gs.length/\iv=.i k/\Hid (za7 w2 w2.heap.size wr v (zW (f.gs.take k))/\Bw w2 wr)) (fun _ iv _=>f.gs.length-(intOf iv).toNat)
 case atStart=>exact⟨0,_,rfl,Nat.zero_le _,rfl,by rw[List.take_zero];exact HR0.o,HB3.o⟩
 case round=>
  obtain⟨k,v,hv,hk,rfl,HQ⟩:=hrel;subst hv;have hkn:k<=1048576:=by omega
  have hY3:=za hY2 (by omega) HQ.o.2;have hz4:w.heap.size+1<wr.heap.size:=nLt (by omega) HQ.o.2.size
  by_cases hlt:k<f.gs.length
  ·obtain⟨ob,off,va,vcap,rfl,hob,hsm,hi0,d0,d1,d2,d3,d4,d5,d6⟩:=HGF.o.load HQ.o.2 k hlt
   have hob':ob<wr.heap.size:=nLt hob HQ.o.2.size;have hltI:(k:Int)<(f.gs.length:Int):=by omega
   have HSm:=hid hsm.r
   have HVA:Hid (yJ w2 va f.gs[k].r.vs):=by
    obtain⟨ob',off',va',vcap',e',hob'',hsm',hiw,dd0,dd1,dd2,dd3,_⟩:=HGF.o.load (bRf w2.heap.size w2) k hlt
    cases e'
    have e3:=(HQ.o.2.cell (p:=(aD ob (off+k*7+3))) hob).trans dd3;rw[d3]at e3
    cases e3
    exact hiw
   clear hsm hi0;have HS:Hid (zW (f.gs.take (k+1))=zW (f.gs.take k)++[f.gs[k].r]):=zdJ hlt;obtain⟨ps,hps,hpp,hown⟩:=HQ.o.1;have HLL:Hid (ps.length<=1048576):=by have:=HN.o k;rw[<- hps,List.length_map]at this;exact this
   have HPP:=ji hps hpp;have HLO:Hid (w2.heap.size<=wr.heap.size):=HQ.o.2.size;clear hps hpp
   go_wp2_with (at_builtin;refine wpList_append_own _ rfl (.tmp 28) (.tmp 35) 71 rfl w2.heap.size 74 i0 (.agg #[.l none 0 0,.s ByteArray.empty,.s ByteArray.empty,.s ByteArray.empty]) 4 72 Tryz.underlying71 HI.o.1 HI.o.2.1 HI.o.2.2.1 HI.o.2.2.2 rfl (by decide) _ _ _ rfl (hown.alloc _) (aD wr.heap.size 0) 1 1 [.l va f.gs[k].r.vs.length vcap,.s f.gs[k].r.kd,.s f.gs[k].r.tm,.s f.gs[k].r.px] rfl rfl (zlT _ _ _ _ _ _) (by intro u hu;simp at hu;rcases hu with rfl|rfl|rfl|rfl <;> rfl) (by have:=HLL.o;unfold maxLen;omega) (by have:=HLL.o;omega) (by have:=HLO.o;simp;omega) ?_;intro v' w4 hown' hgr _)
   have hgb:∀g',v.ownBlock=some g'->w2.heap.size<=g':=fun g' hg'=>(hown.lt g' hg').1
   exact⟨⟨k+1,_,rfl,by omega,by go_num,by rw[HS.o];exact za7.snoc HPP.o.1 HPP.o.2 HSm.o HVA.o hown',zgo HQ.o.2 HLO.o hgr hgb⟩,zw hlt⟩
  ·have e:k=f.gs.length:=by omega
   subst e;have hrow:=HQ.o.1;rw[tOl (Nat.le_refl _)]at hrow;have hml:(zW f.gs).length<=maxLen:=by have:=zdy f.gs;unfold maxLen;omega
   obtain⟨ra,rcap,rfl,hat⟩:=hrow.at HQ.o.2 hml;have HE:=hid hat;have HB4:=hid HQ.o.2;have hX4:=za hX2 (by omega) HB4.o;have hZ4:=za hZ2 hz2 HB4.o;have hz5:=nLt hz2 HB4.o.size;have HXG:=ji ((HD.o.2.2.1.b.gs.mono hB2).mono HB4.o) ((HD.o.1.ts.mono hB2).mono HB4.o);clear HQ hlt hk hrow hat hX2 hZ2;go_wp2_with fail
   clear hY3;obtain⟨W5,rfl⟩:∃W5,W5=wr:=⟨wr,rfl⟩
   go_loopw [9] (fun iv wq=>∃k:Nat,k<=x.b.gs.length/\iv=.i k/\Hid ((zW (x.b.gs.take k)).any (zeO l.ts (zW f.gs))=false)/\Bw W5 wq) (fun iv _=>x.b.gs.length-(intOf iv).toNat)
   case atStart=>exact⟨0,Nat.zero_le _,rfl,rfl,bRf _ _⟩
   case round=>
    obtain⟨k,hk,rfl,HNO,hB⟩:=hrel;have hX6:=za hX4 (by omega) hB.drew;have hZ6:=za hZ4 hz5 hB.drew;have hZ7:=za hZ4 hz5 hB;have hXl:w.heap.size<wr.drew.heap.size:=nLt (by omega) hB.drew.size;have hZl:w.heap.size+1+1<wr.drew.heap.size:=nLt hz5 hB.drew.size
    by_cases hlt:k<x.b.gs.length
    ·obtain⟨gb,go,va,vcap,rfl,hgb,hsm,hint,hr⟩:=HXG.o.1.rule hB.drew k hlt
     have hltI:(k:Int)<(x.b.gs.length:Int):=by omega
     have hgl:=nLt hgb hB.drew.size;have HS:=zcl hsm hint hr;have HRL:=ji (HXG.o.2.mono hB.drew) (HE.o.mono hB.drew);have HU:Hid ((zby l.ts (zW f.gs) x.b.gs[k].r != 0)=zeO l.ts (zW f.gs) x.b.gs[k].r):=zoz (za3 HK.o).2.2 _ (by have h:=ziz (za3 HXB.o).2.1 k (by unfold zW;simpa using hlt);simpa[zW] using h);clear hsm hint hr;go_wp2_with fail
     clear hZ7;refine wp_region_held_drew (S:=fun w'=>(∀j,w'.cell? (aD w.heap.size j)=(#[.l la l.ss.length lca,.l lb l.ms.length lcb,.l lc l.ts.length lcc]:AV)[j]?)/\(∀j,w'.cell? (aD (w.heap.size+1+1) j)=(#[.i x.b.now,.i x.b.tick,.i x.b.given,.l a0 x.b.os.length c0,.l (some (aD gb go)) x.b.gs.length c1,.l a2 x.b.ls.length c2,.l a3 x.b.ps.length c3,.l a4 x.ds.length c4]:AV)[j]?)/\w'.rangeAt gb (go+k*7+3) (x.b.gs[k].r.cells va vcap).toList) (by kernel_rfl) ⟨hX6,hZ6,HS.o.2.2⟩ (fun H_=>?_);refine tG 0 ?_;refine tG 1 ?_;refine tG 2 ?_;refine tG 3 ?_;refine tG 4 ?_;refine tG 5 ?_;refine tG 6 ?_;refine tG 7 ?_;refine tG 8 ?_;refine mH 9 rfl H_ (fun _ h=>h.2.2) Tryz.underlying74 rfl (by kernel_rfl) ?_;refine cH 10 rfl fun K hK=>?_
     go_simp
     refine(zou _ _ l.ts _ _ (zW f.gs) x.b.gs[k].r va vcap _ HRL.o.1 HRL.o.2 HS.o.1 HS.o.2.1).mono ?_;rintro e w7⟨rfl,hbb⟩;have hB7:=hB.drew.trans (hbb.mono hB.drew.size);have HSN:Hid ((∀j,w7.cell? (aD w.heap.size j)=(#[.l la l.ss.length lca,.l lb l.ms.length lcb,.l lc l.ts.length lcc]:AV)[j]?)/\(∀j,w7.cell? (aD (w.heap.size+1+1) j)=(#[.i x.b.now,.i x.b.tick,.i x.b.given,.l a0 x.b.os.length c0,.l (some (aD gb go)) x.b.gs.length c1,.l a2 x.b.ls.length c2,.l a3 x.b.ps.length c3,.l a4 x.ds.length c4]:AV)[j]?)/\w7.rangeAt gb (go+k*7+3) (x.b.gs[k].r.cells va vcap).toList):=⟨za hX6 hXl hbb,za hZ6 hZl hbb,qX HS.o.2.2 hgl hbb⟩
     clear hX6 hZ6 hbb
     (try go_wp2_with fail)
     refine hK.out _ _ ?_ (fun H_=>?_)
     ·exact HSN.o
     clear hK K HSN
     (try simp only[Act.put,sA,s0,sS])
     cases hq:zeO l.ts (zW f.gs) x.b.gs[k].r
     ·have e2:(zby l.ts (zW f.gs) x.b.gs[k].r != 0)=false:=HU.o.trans hq
      have HA:Hid ((zW (x.b.gs.take (k+1))).any (zeO l.ts (zW f.gs))=false):=by unfold Hid;rw[zdJ hlt,List.any_append,HNO.o];simp[hq]
      clear hq;refine tG 11 ?_;refine wpAnyH_done (by kernel_rfl) ?_ _;go_wp2_with fail
      exact⟨⟨k+1,by omega,by go_num,HA.o,hB7⟩,by simp[intOf];omega⟩
     ·have e2:(zby l.ts (zW f.gs) x.b.gs[k].r != 0)=true:=HU.o.trans hq
      have HA:Hid ((zW x.b.gs).any (zeO l.ts (zW f.gs))=true):=List.any_eq_true.2 ⟨_,List.mem_map.2 ⟨x.b.gs[k],List.getElem_mem hlt,rfl⟩,hq⟩;clear hq;refine tG 11 ?_;refine wpAnyH_done (by kernel_rfl) ?_ _;go_wp2_with fail
      go_ret;exact⟨ze (by rw[HW.o,HA.o];rfl),hB2.trans ((HB4.o.trans (hB7.mono HB4.o.size)).mono hB2.size)⟩
    ·have HA:Hid ((zW x.b.gs).any (zeO l.ts (zW f.gs))=false):=by have:=HNO.o;rw[tOl (by omega)]at this;exact this
     clear hX6 hZ6;go_wp2_with fail
     go_ret;exact⟨ze (by rw[HW.o,HA.o];rfl),hB2.trans ((HB4.o.trans (hB.mono HB4.o.size)).mono hB2.size)⟩
theorem znL (l:Lw)(la lb lc:OA)(lca lcb lcc:Nat)(f:Bk)(b0 b1 b2 b3:OA)(e0 e1 e2 e3:Nat)(x:Wd)(a0 a1 a2 a3 a4:OA)(c0 c1 c2 c3 c4:Nat)(w:World)(hl:yH w l la lb lc)(hf:jU w f b0 b1 b2 b3)(ho:zgc False w x a0 a1 a2 a3 a4) :
 Calls Tryz.prog 3 #[.agg (l.cells la lb lc lca lcb lcc),.agg (f.cells b0 b1 b2 b3 e0 e1 e2 e3),.agg (x.cells a0 a1 a2 a3 a4 c0 c1 c2 c3 c4)] w fun e w'=>e=.returned (.bool true)/\Bw w w':=by
 have HL:=hid hl;have HB:=hid hf;have HO:=hid ho;clear hl hf ho;unfold Lw.cells Bk.cells Wd.cells;go_enter Tryz.func3,Tryz.ntmps3;go_wp2_with fail
 obtain⟨W0,hW0,hX0,hO0,hP0,zP0,hB0⟩:=zd6 w #[.l la l.ss.length lca,.l lb l.ms.length lcb,.l lc l.ts.length lcc] #[.i f.now,.i f.tick,.i f.given,.l b0 f.os.length e0,.l b1 f.gs.length e1,.l b2 f.ls.length e2,.l b3 f.ps.length e3] #[.i x.b.now,.i x.b.tick,.i x.b.given,.l a0 x.b.os.length c0,.l a1 x.b.gs.length c1,.l a2 x.b.ls.length c2,.l a3 x.b.ps.length c3,.l a4 x.ds.length c4] 26 32 35;rw[<- hW0];clear hW0;have zX0:w.heap.size<W0.heap.size:=by omega
 have zO0:w.heap.size+1<W0.heap.size:=by omega
 refine(zk5 l _ _ _ _ _ _ _ _ (HL.o.mono hB0) (by omega) (by omega)).mono ?_;rintro e w1⟨rfl,hb⟩;have hX1:=za hX0 zX0 hb;have zX1:=nLt zX0 hb.size;have hO1:=za hO0 zO0 hb;have zO1:=nLt zO0 hb.size;have hP1:=za hP0 zP0 hb;have zP1:=nLt zP0 hb.size;have hB1:=hB0.trans (hb.mono hB0.size);clear hb hX0 zX0 hO0 zO0 hP0 zP0 hB0
 by_cases hsz:(l.sz:Int)<=1048576
 rotate_left
 ·rw[zq (by omega)]
  go_wp2_with fail
  go_ret;exact⟨rfl,hB1⟩
 have HF:Hid l.Few:=Lw.few hsz;have hneg:decide (1048576-(l.sz:Int)<0)=false:=by simp;omega
 rw[zF hsz];go_wp2_with fail
 refine(zc1 f _ _ _ _ _ _ _ _ _ _ (HB.o.mono hB1) (by omega) (by omega)).mono ?_;rintro e w2⟨rfl,hb⟩;have hX2:=za hX1 zX1 hb;have zX2:=nLt zX1 hb.size;have hO2:=za hO1 zO1 hb;have zO2:=nLt zO1 hb.size;have hP2:=za hP1 zP1 hb;have zP2:=nLt zP1 hb.size;have hB2:=hB1.trans (hb.mono hB1.size);clear hb hX1 zX1 hO1 zO1 hP1 zP1 hB1
 by_cases hfz:(f.sz:Int)<=1048576-(l.sz:Int)
 rotate_left
 ·rw[zq (by omega)]
  go_wp2_with fail
  go_ret;exact⟨rfl,hB2⟩
 have HK:Hid f.Few:=Bk.few (by omega);have HZ:Hid (qR f.os<=1048576):=by unfold Bk.sz at hfz;show _<=_;omega
 have hneg2:decide (1048576-(l.sz:Int)-(f.sz:Int)<0)=false:=by simp;omega
 rw[zF hfz];go_wp2_with fail
 refine(zi5 False x _ _ _ _ _ _ _ _ _ _ _ _ (HO.o.mono hB2) (by omega) (by omega)).mono ?_;rintro e w3⟨rfl,hb⟩;have hX3:=za hX2 zX2 hb;have zX3:=nLt zX2 hb.size;have hO3:=za hO2 zO2 hb;have zO3:=nLt zO2 hb.size;have hP3:=za hP2 zP2 hb;have zP3:=nLt zP2 hb.size;have hB3:=hB2.trans (hb.mono hB2.size);clear hb hX2 zX2 hO2 zO2 hP2 zP2 hB2
 by_cases hoz:(x.sz:Int)<=1048576-(l.sz:Int)-(f.sz:Int)
 rotate_left
 ·rw[zq (by omega)]
  go_wp2_with fail
  go_ret;exact⟨rfl,hB3⟩
 have HG:Hid x.Few:=Wd.few (by omega);have hneg3:decide (1048576-(l.sz:Int)-(f.sz:Int)-(x.sz:Int)<0)=false:=by simp;omega
 rw[zF hoz];go_wp2_with fail
 have hX:=za hX3 zX3 (bRf w3.heap.size w3).drew;have zX:w.heap.size<w3.drew.heap.size:=zX3;have hO:=za hO3 zO3 (bRf w3.heap.size w3).drew;have zO:w.heap.size+1<w3.drew.heap.size:=zO3;have hP:=za hP3 zP3 (bRf w3.heap.size w3).drew;have zP:w.heap.size+1+1<w3.drew.heap.size:=zP3;have hB:=hB3.drew;clear hX3 zX3 hO3 zO3 hP3 zP3 hB3
 go_region_held3 (fun w'=>(∀j,w'.cell? (aD w.heap.size j)=(#[.l la l.ss.length lca,.l lb l.ms.length lcb,.l lc l.ts.length lcc]:AV)[j]?)/\(∀j,w'.cell? (aD (w.heap.size+1) j)=(#[.i f.now,.i f.tick,.i f.given,.l b0 f.os.length e0,.l b1 f.gs.length e1,.l b2 f.ls.length e2,.l b3 f.ps.length e3]:AV)[j]?)/\(∀j,w'.cell? (aD (w.heap.size+1+1) j)=(#[.i x.b.now,.i x.b.tick,.i x.b.given,.l a0 x.b.os.length c0,.l a1 x.b.gs.length c1,.l a2 x.b.ls.length c2,.l a3 x.b.ps.length c3,.l a4 x.ds.length c4]:AV)[j]?)) (exact⟨hX,hO,hP⟩) (first
  | (go_at_call 8;refine(zdP l _ _ _ _ _ _ _ (by exact HL.o.mono hB) HF.o).mono ?_;rintro e w4⟨pa,pb,pc,rfl,hl30,hb⟩;unfold Lw.cells;have hl3:=hl30;have hX:=za hX zX hb;have hO:=za hO zO hb;have hP:=za hP zP hb;have hB:=hB.trans (hb.mono hB.size);have zX:=nLt zX hb.size;have zO:=nLt zO hb.size;have zP:=nLt zP hb.size;clear hb)
  | (go_at_call 9;refine(zkr f _ _ _ _ _ _ _ _ _ (by exact HB.o.mono hB) HK.o).mono ?_;rintro e w4⟨pi,pj,pk,pl,rfl,hf30,hf3h0,hb⟩;unfold Bk.cells;have hf3:=hf30;have hf3h:=hf3h0;have hX:=za hX zX hb;have hO:=za hO zO hb;have hP:=za hP zP hb;have hl3:=hl3.mono hb;have hB:=hB.trans (hb.mono hB.size);have zX:=nLt zX hb.size;have zO:=nLt zO hb.size;have zP:=nLt zP hb.size;clear hb)
  | (go_at_call 10;refine(zcE False x _ _ _ _ _ _ _ _ _ _ _ (by exact HO.o.mono hB) HG.o).mono ?_;rintro e w4⟨pd,pe,pf,pg,ph,rfl,ho30,hb⟩;unfold Wd.cells;have ho3:=ho30;have hX:=za hX zX hb;have hO:=za hO zO hb;have hP:=za hP zP hb;have hl3:=hl3.mono hb;have hf3:=hf3.mono hb;have hf3h:=hf3h.mono hb;have hB:=hB.trans (hb.mono hB.size);have zX:=nLt zX hb.size;have zO:=nLt zO hb.size;have zP:=nLt zP hb.size;clear hb)
  | (go_at_call 7;refine(zmn l _ _ _ _ _ _ f _ _ _ _ _ _ _ _ x _ _ _ _ _ _ _ _ _ _ _ (by exact hl3) (by exact hf3) (by exact hf3h) (by exact ho3) HK.o HZ.o HG.o).mono ?_;rintro e w4⟨rfl,hb⟩;clear hl3;clear hf3;clear hf3h;clear ho3;have hX:=za hX zX hb;have hO:=za hO zO hb;have hP:=za hP zP hb;have hB:=hB.trans (hb.mono hB.size);have zX:=nLt zX hb.size;have zO:=nLt zO hb.size;have zP:=nLt zP hb.size;clear hb))
 have hX4:=hX;have zX4:=zX;have hO4:=hO;have zO4:=zO;have hP4:=hP;have zP4:=zP;have hB4:=hB;clear hX zX hO zO hP zP hB;go_wp2_with fail
 refine(zdP l _ _ _ _ _ _ _ (HL.o.mono hB4) HF.o).mono ?_;rintro e w5⟨l4a,l4b,l4c,rfl,hl,hb⟩;have kl5:=hl;have hX5:=za hX4 zX4 hb;have zX5:=nLt zX4 hb.size;have hO5:=za hO4 zO4 hb;have zO5:=nLt zO4 hb.size;have hP5:=za hP4 zP4 hb;have zP5:=nLt zP4 hb.size;have hB5:=hB4.trans (hb.mono hB4.size);clear hb hX4 zX4 hO4 zO4 hP4 zP4 hB4 hl;unfold Lw.cells;go_wp2_with fail
 have hb:Bw w5 (w5.alloc (.cells #[.l l4a l.ss.length l.ss.length,.l l4b l.ms.length l.ms.length,.l l4c l.ts.length l.ts.length] 44)):=bAl _ _;have hN:=zn w5 #[.l l4a l.ss.length l.ss.length,.l l4b l.ms.length l.ms.length,.l l4c l.ts.length l.ts.length] 44;obtain⟨w6,hN0⟩:=xN (w5.alloc (.cells #[.l l4a l.ss.length l.ss.length,.l l4b l.ms.length l.ms.length,.l l4c l.ts.length l.ts.length] 44));have hNz:w5.heap.size<w6.heap.size:=by rw[hN0];simp
 rw[<- hN0]at hb hN ⊢;clear hN0;have hX6:=za hX5 zX5 hb;have zX6:=nLt zX5 hb.size;have hO6:=za hO5 zO5 hb;have zO6:=nLt zO5 hb.size;have hP6:=za hP5 zP5 hb;have zP6:=nLt zP5 hb.size;have kl6:=kl5.mono hb;have hB6:=hB5.trans (hb.mono hB5.size);clear hb hX5 zX5 hO5 zO5 hP5 zP5 kl5 hB5;have hV6:=hN;have zV6:=hNz;clear hN hNz;refine(zfg f _ _ _ _ _ _ _ _ _ (HB.o.mono hB6) HK.o).mono ?_;rintro e w7⟨f0,f1,f2,f3,rfl,hl,hb⟩;have kf7:=hl;have hX7:=za hX6 zX6 hb;have zX7:=nLt zX6 hb.size;have hO7:=za hO6 zO6 hb;have zO7:=nLt zO6 hb.size;have hP7:=za hP6 zP6 hb;have zP7:=nLt zP6 hb.size;have hV7:=za hV6 zV6 hb;have zV7:=nLt zV6 hb.size;have kl7:=kl6.mono hb;have hB7:=hB6.trans (hb.mono hB6.size);clear hb hX6 zX6 hO6 zO6 hP6 zP6 hV6 zV6 kl6 hB6 hl;unfold Bk.cells;go_wp2_with fail
 have hb:Bw w7 (w7.alloc (.cells #[.i f.now,.i f.tick,.i f.given,.l f0 f.os.length f.os.length,.l f1 f.gs.length f.gs.length,.l f2 f.ls.length f.ls.length,.l f3 f.ps.length f.ps.length] 51)):=bAl _ _;have hN:=zn w7 #[.i f.now,.i f.tick,.i f.given,.l f0 f.os.length f.os.length,.l f1 f.gs.length f.gs.length,.l f2 f.ls.length f.ls.length,.l f3 f.ps.length f.ps.length] 51;obtain⟨w8,hN0⟩:=xN (w7.alloc (.cells #[.i f.now,.i f.tick,.i f.given,.l f0 f.os.length f.os.length,.l f1 f.gs.length f.gs.length,.l f2 f.ls.length f.ls.length,.l f3 f.ps.length f.ps.length] 51));have hNz:w7.heap.size<w8.heap.size:=by rw[hN0];simp
 rw[<- hN0]at hb hN ⊢;clear hN0;have hX8:=za hX7 zX7 hb;have zX8:=nLt zX7 hb.size;have hO8:=za hO7 zO7 hb;have zO8:=nLt zO7 hb.size;have hP8:=za hP7 zP7 hb;have zP8:=nLt zP7 hb.size;have hV8:=za hV7 zV7 hb;have zV8:=nLt zV7 hb.size;have kl8:=kl7.mono hb;have kf8:=kf7.mono hb;have hB8:=hB7.trans (hb.mono hB7.size);clear hb hX7 zX7 hO7 zO7 hP7 zP7 hV7 zV7 kl7 kf7 hB7;have hU8:=hN;have zU8:=hNz;clear hN hNz;refine(zcE False x _ _ _ _ _ _ _ _ _ _ _ (HO.o.mono hB8) HG.o).mono ?_;rintro e w9⟨g0,g1,g2,g3,g4,rfl,hl,hb⟩;have ko9:=hl;have hX9:=za hX8 zX8 hb;have zX9:=nLt zX8 hb.size;have hO9:=za hO8 zO8 hb;have zO9:=nLt zO8 hb.size;have hP9:=za hP8 zP8 hb;have zP9:=nLt zP8 hb.size;have hV9:=za hV8 zV8 hb;have zV9:=nLt zV8 hb.size;have hU9:=za hU8 zU8 hb;have zU9:=nLt zU8 hb.size;have kl9:=kl8.mono hb;have kf9:=kf8.mono hb;have hB9:=hB8.trans (hb.mono hB8.size);clear hb hX8 zX8 hO8 zO8 hP8 zP8 hV8 zV8 hU8 zU8 kl8 kf8 hB8 hl;unfold Wd.cells;go_wp2_with fail
 have hb:Bw w9 (w9.alloc (.cells #[.i x.b.now,.i x.b.tick,.i x.b.given,.l g0 x.b.os.length x.b.os.length,.l g1 x.b.gs.length x.b.gs.length,.l g2 x.b.ls.length x.b.ls.length,.l g3 x.b.ps.length x.b.ps.length,.l g4 x.ds.length x.ds.length] 55)):=bAl _ _;have hN:=zn w9 #[.i x.b.now,.i x.b.tick,.i x.b.given,.l g0 x.b.os.length x.b.os.length,.l g1 x.b.gs.length x.b.gs.length,.l g2 x.b.ls.length x.b.ls.length,.l g3 x.b.ps.length x.b.ps.length,.l g4 x.ds.length x.ds.length] 55;obtain⟨wA,hN0⟩:=xN (w9.alloc (.cells #[.i x.b.now,.i x.b.tick,.i x.b.given,.l g0 x.b.os.length x.b.os.length,.l g1 x.b.gs.length x.b.gs.length,.l g2 x.b.ls.length x.b.ls.length,.l g3 x.b.ps.length x.b.ps.length,.l g4 x.ds.length x.ds.length] 55));have hNz:w9.heap.size<wA.heap.size:=by rw[hN0];simp
 rw[<- hN0]at hb hN ⊢;clear hN0;have hX10:=za hX9 zX9 hb;have zX10:=nLt zX9 hb.size;have hO10:=za hO9 zO9 hb;have zO10:=nLt zO9 hb.size;have hP10:=za hP9 zP9 hb;have zP10:=nLt zP9 hb.size;have hV10:=za hV9 zV9 hb;have zV10:=nLt zV9 hb.size;have hU10:=za hU9 zU9 hb;have zU10:=nLt zU9 hb.size;have kl10:=kl9.mono hb;have kf10:=kf9.mono hb;have ko10:=ko9.mono hb;have hB10:=hB9.trans (hb.mono hB9.size);clear hb hX9 zX9 hO9 zO9 hP9 zP9 hV9 zV9 hU9 zU9 kl9 kf9 ko9 hB9;have hT10:=hN;have zT10:=hNz;clear hN hNz;refine(zma l _ _ _ _ _ _ f _ _ _ _ _ _ _ _ x _ _ _ _ _ _ _ _ _ _ _ kl10 kf10 ko10 HF.o HK.o HZ.o HG.o).mono ?_;rintro e wB⟨rfl,hb⟩;have hX11:=za hX10 zX10 hb;have zX11:=nLt zX10 hb.size;have hO11:=za hO10 zO10 hb;have zO11:=nLt zO10 hb.size;have hP11:=za hP10 zP10 hb;have zP11:=nLt zP10 hb.size;have hV11:=za hV10 zV10 hb;have zV11:=nLt zV10 hb.size;have hU11:=za hU10 zU10 hb;have zU11:=nLt zU10 hb.size;have hT11:=za hT10 zT10 hb;have zT11:=nLt zT10 hb.size;have kl11:=kl10.mono hb;have kf11:=kf10.mono hb;have ko11:=ko10.mono hb;have hB11:=hB10.trans (hb.mono hB10.size);clear hb hX10 zX10 hO10 zO10 hP10 zP10 hV10 zV10 hU10 zU10 hT10 zT10 kl10 kf10 ko10 hB10;have hnn:(safe l f x != safe l f x)=false:=by simp
 go_wp2_with fail
 have hX:=za hX11 zX11 (bRf wB.heap.size wB).drew;have zX:w.heap.size<wB.drew.heap.size:=zX11;have hV:=za hV11 zV11 (bRf wB.heap.size wB).drew;have zV:w5.heap.size<wB.drew.heap.size:=zV11;have kl:=kl11.mono (bRf wB.heap.size wB).drew;have hD:=(bRf wB.heap.size wB).drew;have hB:=hB11.drew;clear hX11 zX11 hV11 zV11 kl11 hB11
 go_region_held3 (fun w'=>(∀j,w'.cell? (aD w.heap.size j)=(#[.l la l.ss.length lca,.l lb l.ms.length lcb,.l lc l.ts.length lcc]:AV)[j]?)/\(∀j,w'.cell? (aD w5.heap.size j)=(#[.l l4a l.ss.length l.ss.length,.l l4b l.ms.length l.ms.length,.l l4c l.ts.length l.ts.length]:AV)[j]?)) (exact⟨hX,hV⟩) (first
  | (go_at_call 8;refine(zdP l _ _ _ _ _ _ _ (by exact HL.o.mono hB) HF.o).mono ?_;rintro e wC⟨qa,qb,qc,rfl,hl90,hb⟩;unfold Lw.cells;have hl9:=hl90;have hX:=za hX zX hb;have hV:=za hV zV hb;have kl:=kl.mono hb;have hD:=hD.trans (hb.mono hD.size);have hB:=hB.trans (hb.mono hB.size);have zX:=nLt zX hb.size;have zV:=nLt zV hb.size;clear hb)
  | (go_at_call 12;refine(zlt l _ _ _ _ _ _ _ _ _ _ _ _ _ (by exact kl) (by exact hl9)).mono ?_;rintro e wC⟨rfl,hb⟩;clear hl9;have hX:=za hX zX hb;have hV:=za hV zV hb;have kl:=kl.mono hb;have hD:=hD.trans (hb.mono hD.size);have hB:=hB.trans (hb.mono hB.size);have zX:=nLt zX hb.size;have zV:=nLt zV hb.size;clear hb))
 have hX12:=hX;have zX12:=zX;have hV12:=hV;have zV12:=zV;have kl12:=kl;have hO12:=za hO11 zO11 hD;have zO12:=nLt zO11 hD.size;have hP12:=za hP11 zP11 hD;have zP12:=nLt zP11 hD.size;have hU12:=za hU11 zU11 hD;have zU12:=nLt zU11 hD.size;have hT12:=za hT11 zT11 hD;have zT12:=nLt zT11 hD.size;have kf12:=kf11.mono hD;have ko12:=ko11.mono hD;have hB12:=hB;clear hX zX hV zV kl hB hD hO11 zO11 hP11 zP11 hU11 zU11 hT11 zT11 kf11 ko11;clear hX12 zX12;clear hV12 zV12;clear kl12;go_wp2_with fail
 have hO:=za hO12 zO12 (bRf wC.heap.size wC).drew;have zO:w.heap.size+1<wC.drew.heap.size:=zO12;have hU:=za hU12 zU12 (bRf wC.heap.size wC).drew;have zU:w7.heap.size<wC.drew.heap.size:=zU12;have kf:=kf12.mono (bRf wC.heap.size wC).drew;have hD:=(bRf wC.heap.size wC).drew;have hB:=hB12.drew;clear hO12 zO12 hU12 zU12 kf12 hB12
 go_region_held3 (fun w'=>(∀j,w'.cell? (aD (w.heap.size+1) j)=(#[.i f.now,.i f.tick,.i f.given,.l b0 f.os.length e0,.l b1 f.gs.length e1,.l b2 f.ls.length e2,.l b3 f.ps.length e3]:AV)[j]?)/\(∀j,w'.cell? (aD w7.heap.size j)=(#[.i f.now,.i f.tick,.i f.given,.l f0 f.os.length f.os.length,.l f1 f.gs.length f.gs.length,.l f2 f.ls.length f.ls.length,.l f3 f.ps.length f.ps.length]:AV)[j]?)) (exact⟨hO,hU⟩) (first
  | (go_at_call 9;refine(zfg f _ _ _ _ _ _ _ _ _ (by exact HB.o.mono hB) HK.o).mono ?_;rintro e wD⟨qi,qj,qk,ql,rfl,hfA0,hb⟩;unfold Bk.cells;have hfA:=hfA0;have hO:=za hO zO hb;have hU:=za hU zU hb;have kf:=kf.mono hb;have hD:=hD.trans (hb.mono hD.size);have hB:=hB.trans (hb.mono hB.size);have zO:=nLt zO hb.size;have zU:=nLt zU hb.size;clear hb)
  | (go_at_call 13;refine(zdl f _ _ _ _ _ _ _ _ _ _ _ _ _ _ _ _ _ (by exact kf) (by exact hfA)).mono ?_;rintro e wD⟨rfl,hb⟩;clear hfA;have hO:=za hO zO hb;have hU:=za hU zU hb;have kf:=kf.mono hb;have hD:=hD.trans (hb.mono hD.size);have hB:=hB.trans (hb.mono hB.size);have zO:=nLt zO hb.size;have zU:=nLt zU hb.size;clear hb))
 have hO13:=hO;have zO13:=zO;have hU13:=hU;have zU13:=zU;have kf13:=kf;have hP13:=za hP12 zP12 hD;have zP13:=nLt zP12 hD.size;have hT13:=za hT12 zT12 hD;have zT13:=nLt zT12 hD.size;have ko13:=ko12.mono hD;have hB13:=hB;clear hO zO hU zU kf hB hD hP12 zP12 hT12 zT12 ko12;clear hO13 zO13;clear hU13 zU13;clear kf13;go_wp2_with fail
 have hP:=za hP13 zP13 (bRf wD.heap.size wD).drew;have zP:w.heap.size+1+1<wD.drew.heap.size:=zP13;have hT:=za hT13 zT13 (bRf wD.heap.size wD).drew;have zT:w9.heap.size<wD.drew.heap.size:=zT13;have ko:=ko13.mono (bRf wD.heap.size wD).drew;have hB:=hB13.drew;clear hP13 zP13 hT13 zT13 ko13 hB13
 go_region_held3 (fun w'=>(∀j,w'.cell? (aD (w.heap.size+1+1) j)=(#[.i x.b.now,.i x.b.tick,.i x.b.given,.l a0 x.b.os.length c0,.l a1 x.b.gs.length c1,.l a2 x.b.ls.length c2,.l a3 x.b.ps.length c3,.l a4 x.ds.length c4]:AV)[j]?)/\(∀j,w'.cell? (aD w9.heap.size j)=(#[.i x.b.now,.i x.b.tick,.i x.b.given,.l g0 x.b.os.length x.b.os.length,.l g1 x.b.gs.length x.b.gs.length,.l g2 x.b.ls.length x.b.ls.length,.l g3 x.b.ps.length x.b.ps.length,.l g4 x.ds.length x.ds.length]:AV)[j]?)) (exact⟨hP,hT⟩) (first
  | (go_at_call 10;refine(zcE False x _ _ _ _ _ _ _ _ _ _ _ (by exact HO.o.mono hB) HG.o).mono ?_;rintro e wE⟨qd,qe,qf,qg,qh,rfl,hoA0,hb⟩;unfold Wd.cells;have hoA:=hoA0;have hP:=za hP zP hb;have hT:=za hT zT hb;have ko:=ko.mono hb;have hB:=hB.trans (hb.mono hB.size);have zP:=nLt zP hb.size;have zT:=nLt zT hb.size;clear hb)
  | (go_at_call 14;refine(ziJ True True x _ _ _ _ _ _ _ _ _ _ _ _ _ _ _ _ _ _ _ _ _ (by exact ko) (by exact hoA)).mono ?_;rintro e wE⟨rfl,hb⟩;clear hoA;have hP:=za hP zP hb;have hT:=za hT zT hb;have ko:=ko.mono hb;have hB:=hB.trans (hb.mono hB.size);have zP:=nLt zP hb.size;have zT:=nLt zT hb.size;clear hb))
 have hP14:=hP;have zP14:=zP;have hT14:=hT;have zT14:=zT;have ko14:=ko;have hB14:=hB;clear hP zP hT zT ko hB;go_wp2_with fail
 go_ret;exact⟨rfl,hB14⟩
end Go.Proofs.YthdfpinbnncghaaGreat
