import Derived.Test.YtcgpjfcocmcodaaGreatM27
set_option maxHeartbeats 8000000
namespace Go.Proofs.YtcgpjfcocmcodaaGreat
open Go.RowKit
theorem jB (fs:List Fld)(v:BA):(zS fs v=-1/\fs.find? (fun f=>decide (f.nm=v))=none) \/ ∃i,∃h:i<fs.length,zS fs v=(i:Int)/\fs[i].nm=v/\fs.find? (fun f=>decide (f.nm=v))=some fs[i]:=by
 cases hf:fs.findIdx? (fun f=>decide (f.nm=v)) with
 | none=>
  left
  refine⟨by unfold zS;rw[hf],?_⟩;rw[List.findIdx?_eq_none_iff]at hf;rw[List.find?_eq_none];intro x hx
  have:=hf x hx
  simpa using this
 | some i=>
  right
  rw[List.findIdx?_eq_some_iff_getElem]at hf;obtain⟨hi,h1,h2⟩:=hf;refine⟨i,hi,?_,by simpa using h1,?_⟩
  ·unfold zS
   have:fs.findIdx? (fun f=>decide (f.nm=v))=some i:=by rw[List.findIdx?_eq_some_iff_getElem];exact⟨hi,h1,h2⟩
   rw[this]
  ·rw[List.find?_eq_some_iff_append]
   refine⟨h1,fs.take i,fs.drop (i+1),?_,?_⟩
   ·conv=>lhs;rw[<- List.take_append_drop i fs,List.drop_eq_getElem_cons hi]
   ·intro a ha
    obtain⟨k,hk,rfl⟩:=List.mem_iff_getElem.1 ha;have hk':k<i:=by simp at hk;omega
    have:=h2 k hk'
    simpa using this
def plain (fs:List Fld)(v:BA):Bool:=match fs.find? (fun f=>decide (f.nm=v)) with|some f=>decide (f.kd≠4)|none=>false
def zcz (fs:List Fld)(v:BA):Fld:=(fs.find? fun f=>decide (f.nm=v)).getD zbw
theorem zaP {fs:List Fld}{v:BA}(h:fs.find? (fun f=>decide (f.nm=v))=none):plain fs v=false:=by unfold plain;rw[h]
theorem zkp {fs:List Fld}{v:BA}{f:Fld}(h:fs.find? (fun f=>decide (f.nm=v))=some f):plain fs v=decide (f.kd≠4):=by unfold plain;rw[h]
theorem zrx (k:Int):Ending.returned (.bool (k != 4))=Ending.returned (.bool (decide (k≠4))):=by
 by_cases h:k=4
 ·subst h;rfl
 ·have h1:(k != 4)=true:=by rw[bne_iff_ne];exact h
  rw[h1,decide_eq_true h]
theorem zc2 (a:OA)(cap:Nat)(fs:List Fld)(v:BA)(w:World)(hw:yg w a fs) :
 Calls Tryz.prog 201 #[.l a fs.length cap,.s v] w fun e w'=>e=.returned (.bool (plain fs v))/\Bw w w':=by
 have hl:=hw.len;unfold maxLen at hl
 rcases jB fs v with⟨h1,h2⟩|⟨i,hi,h1,h2,h3⟩
 ·have HP:Hid (plain fs v=false):=zaP h2
  go_enter Tryz.func201,Tryz.ntmps201;go_wp2_with fail
  have h:=jk a cap fs v w hw;rw[h1]at h;refine h.mono ?_;rintro e w1⟨rfl,hb1⟩;clear h;go_wp2_with fail
  go_ret;exact⟨by rw[HP.o];rfl,hb1⟩
 ·have HP:Hid (plain fs v=decide (fs[i].kd≠4)):=zkp h3
  obtain⟨b,off,rfl,hb,hr⟩:=hw.rows (by rintro rfl;simp at hi);obtain⟨wa,wcap,hf0⟩:=hr i hi;go_enter Tryz.func201,Tryz.ntmps201;go_wp2_with fail
  have h:=jk (some (aD b off)) cap fs v w hw;rw[h1]at h;refine h.mono ?_;rintro e w1⟨rfl,hb1⟩;obtain⟨c0,c1,c2,c3,c4,c5,c6,c7,c8,c9,c10⟩:=(hf0.mono hb hb1).load;have hiI:(i:Int)<(fs.length:Int):=by omega
  have hge:decide ((i:Int)≥0)=true:=by simp
  have hb1w:b<w1.heap.size:=nLt hb hb1.size;clear h hw hr hf0 h3 h2 h1;go_wp2_with fail
  go_ret;exact⟨by rw[HP.o];exact zrx fs[i].kd,hb1⟩
theorem zds {P:Program}{f:FuncId}{args:AV}{w:World}{v v':Value}{R:World->Prop}(hb:v=v')(h:Calls P f args w fun e w'=>e=.returned v/\R w'):Calls P f args w fun e w'=>e=.returned v'/\R w':=by
 subst hb;exact h
def stage (ss:List Shp)(o:Ob):Nat->Bool
 | 0=>true
 | 1=>qI o
 | 2=>qI o&&qV o
 | 3=>qI o&&qV o&&qy o
 | 4=>whole ss o
 | _=>whole ss o&&decide ((jN (shapeOf ss o.kd).fs o.vs).1=0)
def zg7 (ss:List Shp)(o:Ob):Value:=zmc (yD ss o).1 (yD ss o).2
theorem zg8 {ss:List Shp}{o:Ob}(h:whole ss o=false):zg7 ss o=.iface 279 (.agg #[.i 1,.i 0]):=by
 unfold zg7 yD;rw[h];rfl
theorem zjZ {ss:List Shp}{o:Ob}(h:whole ss o=true):zg7 ss o=zmc (jN (shapeOf ss o.kd).fs o.vs).1 (jN (shapeOf ss o.kd).fs o.vs).2:=by
 unfold zg7 yD;rw[if_pos h]
theorem zfe {ss:List Shp}{o:Ob}(h:whole ss o=true):o.vs.length=(shapeOf ss o.kd).fs.length:=by
 unfold whole zB at h;simp only[Bool.and_eq_true,decide_eq_true_eq]at h;exact h.2.2
theorem ziC (a0:OA)(cap0:Nat)(ss:List Shp)(o:Ob)(a a':OA)(cap cap':Nat)(w:World)(hw:yT w a0 ss)(ho:jU w o a a') :
 Calls Tryz.prog 209 #[.l a0 ss.length cap0,.agg #[.s o.kd,.s o.nm,.s o.tm,.l a o.vs.length cap,.bool o.en,.l a' o.hs.length cap',.i o.vr]] w
  fun e w'=>e=.returned (zg7 ss o)/\Bw w w':=by
 go_enter Tryz.func209,Tryz.ntmps209;go_wp2_with fail
 go_loopw [10] (fun i wr=>∃k:Nat,k<=5/\i=.i k/\stage ss o k=true/\Below (w.heap.size+1+1) ((w.alloc (.cells #[.s o.kd,.s o.nm,.s o.tm,.l a o.vs.length cap,.bool o.en,.l a' o.hs.length cap',.i o.vr] 121)).alloc (.cells #[.func (.func 222) #[] #[],.func (.func 223) #[] #[],.func (.func 224) #[] #[],.func (.func 225) #[] #[],.func (.func 226) #[] #[]] 271)) wr) (fun i _=>5-(intOf i).toNat)
 case atStart=>exact⟨0,Nat.zero_le _,rfl,rfl,bRf _ _⟩
 case round=>
  obtain⟨k,hk,rfl,hstg,hBr⟩:=hrel;have HStg:=hid hstg;clear hstg;have hszr:w.heap.size+1<wr.heap.size:=by have:=hBr.size;simp at this;omega
  have hB:Bw w wr:=(zw _ _ _).trans (hBr.mono (by omega));have hX:∀j,wr.cell? (aD w.heap.size j)=((oC o a a' cap cap'):AV)[j]?:=fun j=>(hBr.cell (p:=(aD w.heap.size j)) (by simp;omega)).trans (by rw[World.cell?_alloc_lt _ _ (aD w.heap.size j) (by simp)];exact zl w _ _ j)
  have hF:∀j,wr.cell? (aD (w.heap.size+1) j)=(#[.func (.func 222) #[] #[],.func (.func 223) #[] #[],.func (.func 224) #[] #[],.func (.func 225) #[] #[],.func (.func 226) #[] #[]]:AV)[j]?:=fun j=>(hBr.cell (p:=(aD (w.heap.size+1) j)) (by simp)).trans (by rw[World.cell?_alloc_at _ _ _ _ (by simp)])
  have hor:=ho.mono hB;have hwr:=hw.mono hB;have hcases:k=0 \/ k=1 \/ k=2 \/ k=3 \/ k=4 \/ k=5:=by omega
  rcases hcases with rfl|rfl|rfl|rfl|rfl|rfl
  ·by_cases hc:qI o=true
   ·have HV:Hid (jK (qI o)=.nilIface):=by unfold Hid;rw[hc];rfl
    have HS:Hid (stage ss o (0+1)=true):=by
     have h0:=HStg.o;simp only[stage]at h0 ⊢
     simp[hc,Hid]
    clear hc;go_wp2_with fail
    refine(zds HV.o (ze5 _ _ _ _ _ _ _ _ _ hor)).mono ?_;rintro e w1⟨rfl,hb1⟩;go_wp2_with fail
    exact⟨⟨0+1,by omega,by rfl,HS.o,hBr.trans (hb1.mono (by omega))⟩,by simp[intOf]⟩
   ·have hc':(qI o)=false:=by simpa using hc
    have HV:Hid (jK (qI o)=.iface 279 (.agg #[.i 1,.i 0])):=by unfold Hid;rw[hc'];rfl
    have HW:Hid (zg7 ss o=.iface 279 (.agg #[.i 1,.i 0])):=zg8 (by unfold whole;rw[hc'];simp);clear hc hc';go_wp2_with fail
    refine(zds HV.o (ze5 _ _ _ _ _ _ _ _ _ hor)).mono ?_;rintro e w1⟨rfl,hb1⟩;go_wp2_with fail
    go_ret;exact⟨by rw[HW.o];rfl,hB.trans (hb1.mono (by omega))⟩
  ·by_cases hc:qV o=true
   ·have HV:Hid (jK (qV o)=.nilIface):=by unfold Hid;rw[hc];rfl
    have HS:Hid (stage ss o (1+1)=true):=by
     have h0:=HStg.o;simp only[stage]at h0 ⊢
     simp[h0,hc,Hid]
    clear hc;go_wp2_with fail
    refine(zds HV.o (zfq _ _ _ _ _ _ _ _ _ hor)).mono ?_;rintro e w1⟨rfl,hb1⟩;go_wp2_with fail
    exact⟨⟨1+1,by omega,by rfl,HS.o,hBr.trans (hb1.mono (by omega))⟩,by simp[intOf]⟩
   ·have hc':(qV o)=false:=by simpa using hc
    have HV:Hid (jK (qV o)=.iface 279 (.agg #[.i 1,.i 0])):=by unfold Hid;rw[hc'];rfl
    have HW:Hid (zg7 ss o=.iface 279 (.agg #[.i 1,.i 0])):=zg8 (by unfold whole;rw[hc'];simp);clear hc hc';go_wp2_with fail
    refine(zds HV.o (zfq _ _ _ _ _ _ _ _ _ hor)).mono ?_;rintro e w1⟨rfl,hb1⟩;go_wp2_with fail
    go_ret;exact⟨by rw[HW.o];rfl,hB.trans (hb1.mono (by omega))⟩
  ·by_cases hc:qy o=true
   ·have HV:Hid (jK (qy o)=.nilIface):=by unfold Hid;rw[hc];rfl
    have HS:Hid (stage ss o (2+1)=true):=by
     have h0:=HStg.o;simp only[stage]at h0 ⊢
     simp[h0,hc,Hid]
    clear hc;go_wp2_with fail
    refine(zds HV.o (zdP _ _ _ _ _ _ _ _ _)).mono ?_;rintro e w1⟨rfl,hb1⟩;go_wp2_with fail
    exact⟨⟨2+1,by omega,by rfl,HS.o,hBr.trans (hb1.mono (by omega))⟩,by simp[intOf]⟩
   ·have hc':(qy o)=false:=by simpa using hc
    have HV:Hid (jK (qy o)=.iface 279 (.agg #[.i 1,.i 0])):=by unfold Hid;rw[hc'];rfl
    have HW:Hid (zg7 ss o=.iface 279 (.agg #[.i 1,.i 0])):=zg8 (by unfold whole;rw[hc'];simp);clear hc hc';go_wp2_with fail
    refine(zds HV.o (zdP _ _ _ _ _ _ _ _ _)).mono ?_;rintro e w1⟨rfl,hb1⟩;go_wp2_with fail
    go_ret;exact⟨by rw[HW.o];rfl,hB.trans (hb1.mono (by omega))⟩
  ·by_cases hc:zB ss o=true
   ·have HV:Hid (jK (zB ss o)=.nilIface):=by unfold Hid;rw[hc];rfl
    have HS:Hid (stage ss o (3+1)=true):=by
     have h0:=HStg.o;simp only[stage,whole]at h0 ⊢
     simp[h0,hc,Hid]
    clear hc;go_wp2_with fail
    refine(zds HV.o (zeZ _ _ _ _ _ _ _ _ _ hwr hor)).mono ?_;rintro e w1⟨rfl,hb1⟩;go_wp2_with fail
    exact⟨⟨3+1,by omega,by rfl,HS.o,hBr.trans (hb1.mono (by omega))⟩,by simp[intOf]⟩
   ·have hc':(zB ss o)=false:=by simpa using hc
    have HV:Hid (jK (zB ss o)=.iface 279 (.agg #[.i 1,.i 0])):=by unfold Hid;rw[hc'];rfl
    have HW:Hid (zg7 ss o=.iface 279 (.agg #[.i 1,.i 0])):=zg8 (by unfold whole;rw[hc'];simp);clear hc hc';go_wp2_with fail
    refine(zds HV.o (zeZ _ _ _ _ _ _ _ _ _ hwr hor)).mono ?_;rintro e w1⟨rfl,hb1⟩;go_wp2_with fail
    go_ret;exact⟨by rw[HW.o];rfl,hB.trans (hb1.mono (by omega))⟩
  ·have hwh:whole ss o=true:=HStg.o
   have HW:Hid (zg7 ss o=zmc (jN (shapeOf ss o.kd).fs o.vs).1 (jN (shapeOf ss o.kd).fs o.vs).2):=zjZ hwh
   by_cases hc:(jN (shapeOf ss o.kd).fs o.vs).1=0
   ·have HV:Hid (zmc (jN (shapeOf ss o.kd).fs o.vs).1 (jN (shapeOf ss o.kd).fs o.vs).2=.nilIface):=by unfold Hid;rw[hc];rfl
    have HS:Hid (stage ss o (4+1)=true):=by
     simp[stage,hwh,hc,Hid]
    have HCt:Hid (o.vs.length=(shapeOf ss o.kd).fs.length):=zfe hwh;clear hc hwh;go_wp2_with fail
    refine(zds HV.o (zeC _ _ _ _ _ _ _ _ _ hwr hor HCt.o)).mono ?_;rintro e w1⟨rfl,hb1⟩;go_wp2_with fail
    exact⟨⟨4+1,by omega,by rfl,HS.o,hBr.trans (hb1.mono (by omega))⟩,by simp[intOf]⟩
   ·have HV:Hid (zmc (jN (shapeOf ss o.kd).fs o.vs).1 (jN (shapeOf ss o.kd).fs o.vs).2=.iface 279 (.agg #[.i (jN (shapeOf ss o.kd).fs o.vs).1,.i (jN (shapeOf ss o.kd).fs o.vs).2])):=zlR hc
    have HCt:=hid (zfe hwh);clear hc hwh;go_wp2_with fail
    refine(zds HV.o (zeC _ _ _ _ _ _ _ _ _ hwr hor HCt.o)).mono ?_;rintro e w1⟨rfl,hb1⟩;go_wp2_with fail
    go_ret;exact⟨by rw[HW.o,HV.o];rfl,hB.trans (hb1.mono (by omega))⟩
  ·have HW:Hid (zg7 ss o=.nilIface):=by
    have h0:=HStg.o;simp only[stage,Bool.and_eq_true,decide_eq_true_eq]at h0;unfold Hid;rw[zjZ h0.1,h0.2];rfl
   go_wp2_with fail
   go_ret;exact⟨by rw[HW.o];rfl,hB⟩
theorem zjQ (l:Lw)(la lb lc:OA)(lca lcb lcc:Nat)(b:Bk)(a0 a1 a2 a3:OA)(c0 c1 c2 c3:Nat)(w:World)(hb:ji w b a0 a1 a2 a3)(hl:jA w l la lb lc) :
 Calls Tryz.prog 136 #[.agg (l.cells la lb lc lca lcb lcc),.agg (b.cells a0 a1 a2 a3 c0 c1 c2 c3)] w fun e w'=>e=.returned (.bool (yP l.ts b))/\Bw w w':=by
 have HK:=hid hb;have HL:=hid hl;clear hb hl;unfold Lw.cells Bk.cells
 by_cases hln:b.ls.length<=10
 rotate_left
 ·have HF:Hid (yP l.ts b=false):=by unfold Hid yP;rw[decide_eq_false hln];rfl
  have hg:(10:Int)<(b.ls.length:Int):=by omega
  go_enter Tryz.func136,Tryz.ntmps136;go_wp2_with fail
  go_ret;exact⟨ze HF.o.symm,zw _ _ _⟩
 have hg:decide ((10:Int)<(b.ls.length:Int))=false:=by simp;omega
 have HLN:Hid (b.ls.length<=10):=hln;clear hln;go_enter Tryz.func136,Tryz.ntmps136;go_wp2_with fail
 obtain⟨hL0,hX0⟩:=qX w #[.l la l.ss.length lca,.l lb l.ms.length lcb,.l lc l.ts.length lcc] (bC b a0 a1 a2 a3 c0 c1 c2 c3) 47 40;have HB0:Hid (Bw w ((w.alloc (.cells #[.l la l.ss.length lca,.l lb l.ms.length lcb,.l lc l.ts.length lcc] 47)).alloc (.cells (bC b a0 a1 a2 a3 c0 c1 c2 c3) 40))):=zw w _ _;obtain⟨W0,hW0⟩:=xN ((w.alloc (.cells #[.l la l.ss.length lca,.l lb l.ms.length lcb,.l lc l.ts.length lcc] 47)).alloc (.cells (bC b a0 a1 a2 a3 c0 c1 c2 c3) 40));have hz0:w.heap.size+1<W0.heap.size:=by rw[hW0];simp
 rw[<- hW0]at HB0 hX0 hL0 ⊢;clear hW0;refine(zjb _ _ b.ls _ (HK.o.ls.mono HB0.o)).mono ?_;rintro e w1⟨rfl,hb1⟩;have HB1:=hid (HB0.o.trans (hb1.mono HB0.o.size));have hX1:=za hX0 hz0 hb1;have hL1:=za hL0 (nSl hz0) hb1;have hz1:=nLt hz0 hb1.size;clear hb1 hX0 hL0 hz0 HB0
 by_cases has:zbR y9 b.ls=true
 rotate_left
 ·have has':zbR y9 b.ls=false:=by simpa using has
  have HF:Hid (yP l.ts b=false):=by unfold Hid yP;rw[has'];simp
  rw[has'];clear has has';go_wp2_with fail
  go_ret;exact⟨ze HF.o.symm,HB1.o⟩
 have HG:Hid (yP l.ts b=b.ls.all (yG l.ts)):=by unfold Hid yP;rw[has,decide_eq_true HLN.o];rfl
 rw[has];clear has;go_wp2_with fail
 go_loopw [20] (fun iv wr=>∃k:Nat,k<=b.ls.length/\iv=.i k/\Hid ((b.ls.take k).all (yG l.ts)=true/\Bw w1 wr)) (fun iv _=>b.ls.length-(intOf iv).toNat)
 case atStart=>exact⟨0,Nat.zero_le _,rfl,by simp,bRf _ _⟩
 case round=>
  obtain⟨k,hk,rfl,HQ⟩:=hrel;have hkn:k<=10:=by have:=HLN.o;omega
  by_cases hlt:k<b.ls.length
  ·obtain⟨ob,off,rfl,hob,d0,d1,d2,d3⟩:=HK.o.ls.load (HB1.o.trans (HQ.o.2.mono HB1.o.size)) k hlt
   have hob':=nLt hob (HB1.o.trans (HQ.o.2.mono HB1.o.size)).size;have hltI:(k:Int)<(b.ls.length:Int):=by omega
   have hX:=za hX1 hz1 HQ.o.2;have hz:w.heap.size+1<wr.heap.size:=nLt hz1 HQ.o.2.size;have HSn:Hid ((b.ls.take (k+1)).all (yG l.ts)=((b.ls.take k).all (yG l.ts)&&(yG l.ts) b.ls[k])):=qN _ _ _ hlt;have HBo:Hid (∀ob,Bw w1 (wr.alloc ob)):=fun ob=>HQ.o.2.alloc HQ.o.2.size _
   have HBw:Hid (∀W,Bw w1 W->Bw w W):=fun W hW=>HB1.o.trans (hW.mono HB1.o.size)
   have HNo:Hid ((yG l.ts) b.ls[k]=false->yP l.ts b=false):=fun h=>by rw[HG.o];exact zaw _ _ _ hlt h
   have HYes:Hid ((yG l.ts) b.ls[k]=true->(b.ls.take (k+1)).all (yG l.ts)=true):=fun h=>by rw[HSn.o,HQ.o.1,h];rfl
   have hL:=za hL1 (nSl hz1) HQ.o.2;have hzL:=nSl hz;have HSm:Hid b.ls[k].Small:=HK.o.ls.small k hlt;go_wp2_with fail
   have hbN:Bw wr (wr.alloc (.cells #[.s b.ls[k].tm,.s b.ls[k].rs,.i b.ls[k].mo,.i b.ls[k].fr] 69)):=bAl _ _;have hN:=zl wr #[.s b.ls[k].tm,.s b.ls[k].rs,.i b.ls[k].mo,.i b.ls[k].fr] 69;obtain⟨w2,hw2⟩:=xN (wr.alloc (.cells #[.s b.ls[k].tm,.s b.ls[k].rs,.i b.ls[k].mo,.i b.ls[k].fr] 69));have hn2:wr.heap.size<w2.heap.size:=by rw[hw2];simp
   rw[<- hw2]at hbN hN ⊢;have HB2:Hid (Bw w1 w2):=by unfold Hid;rw[hw2];exact HBo.o _
   clear hw2 d0 d1 d2 d3 hX hL hbN;refine(zbW _ _ l.ts b.ls[k].tm _ (HL.o.ts.mono (HBw.o _ HB2.o))).mono ?_;rintro e w3⟨rfl,hb3⟩;have HB3:=hid (HB2.o.trans (hb3.mono HB2.o.size));have hN3:=za hN hn2 hb3;have hn3:=nLt hn2 hb3.size;clear hb3 hN hn2 HB2;have HN1:∀v,zx b.ls[k].rs=v->Hid (∀W,Calls Tryz.prog 40 #[.s b.ls[k].rs] W fun e w'=>e=.returned (.bool v)/\w'=W):=fun v h W=>zf h (zH _ W HSm.o.rs)
   by_cases t1:z8 l.ts b.ls[k].tm=true
   rotate_left
   ·have HF:Hid (yP l.ts b=false):=HNo.o (by unfold yG;rw[bFi t1];rfl)
    rw[bFi t1];clear HN1 t1;go_wp2_with fail
    go_ret;exact⟨ze HF.o.symm,HBw.o _ HB3.o⟩
   rw[t1]
   by_cases t2:zx b.ls[k].rs=true
   rotate_left
   ·have HF:Hid (yP l.ts b=false):=HNo.o (by unfold yG;rw[t1,bFi t2];rfl)
    have H2:=HN1 false (bFi t2);clear HN1 t1 t2;go_wp2_with fail
    refine(H2.o _).mono ?_;rintro e w4⟨rfl,rfl⟩;go_wp2_with fail
    go_ret;exact⟨ze HF.o.symm,HBw.o _ HB3.o⟩
   have H2:=HN1 true t2
   by_cases t3:q9 b.ls[k].fr b.ls[k].mo 0 1000000=true
   ·have HY:Hid ((b.ls.take (k+1)).all (yG l.ts)=true):=HYes.o (by unfold yG;rw[t1,t2,t3];rfl)
    have H3:Hid (∀W,Calls Tryz.prog 180 #[.i b.ls[k].fr,.i b.ls[k].mo,.i 0,.i 1000000] W fun e w'=>e=.returned (.bool true)/\w'=W):=fun W=>zf t3 (zbq _ _ _ _ W)
    clear HN1 t1 t2 t3;go_wp2_with fail
    refine(H2.o _).mono ?_;rintro e w4⟨rfl,rfl⟩;go_wp2_with fail
    refine(H3.o _).mono ?_;rintro e w4⟨rfl,rfl⟩;go_wp2_with fail
    exact⟨⟨k+1,by omega,by go_num,HY.o,HB3.o⟩,zq hlt⟩
   ·have HF:Hid (yP l.ts b=false):=HNo.o (by unfold yG;rw[t1,t2,bFi t3];rfl)
    have H3:Hid (∀W,Calls Tryz.prog 180 #[.i b.ls[k].fr,.i b.ls[k].mo,.i 0,.i 1000000] W fun e w'=>e=.returned (.bool false)/\w'=W):=fun W=>zf (bFi t3) (zbq _ _ _ _ W)
    clear HN1 t1 t2 t3;go_wp2_with fail
    refine(H2.o _).mono ?_;rintro e w4⟨rfl,rfl⟩;go_wp2_with fail
    refine(H3.o _).mono ?_;rintro e w4⟨rfl,rfl⟩;go_wp2_with fail
    go_ret;exact⟨ze HF.o.symm,HBw.o _ HB3.o⟩
  ·have e:k=b.ls.length:=by omega
   subst e
   have HE:Hid (yP l.ts b=true):=by
    unfold Hid;rw[HG.o];have h:=HQ.o.1;rw[tOl (Nat.le_refl _)]at h;exact h
   have HBe:=hid (HB1.o.trans (HQ.o.2.mono HB1.o.size));clear hlt hk HQ;go_wp2_with fail
   go_ret;exact⟨ze HE.o.symm,HBe.o⟩
def zbz (k n:Nat):List Int:=(List.range n).map fun i=>((k+i:Nat):Int)
theorem zcr (k n:Nat):(zbz k n).length=n:=by simp[zbz]
theorem ziv (k n i:Nat)(h:i<(zbz k n).length):(zbz k n)[i]=((k+i:Nat):Int):=by simp[zbz]
theorem zkV (k:Int)(a:OA)(cap:Nat)(w:World) :
 Calls Tryz.prog 110 #[.l a 0 cap,.i k] w fun e w'=>e=.returned (.i k)/\w'=w:=by
 go_enter Tryz.func110,Tryz.ntmps110;go_wp2_with fail
 go_loopw [1,5] (fun kv iv wr=>kv=.i k/\iv=.i 0/\wr=w) (fun _ _ _=>0)
 case atStart=>exact⟨rfl,rfl,rfl⟩
 case round=>
  obtain⟨rfl,rfl,rfl⟩:=hrel;go_wp2_with fail
  go_ret;exact⟨rfl,rfl⟩
structure Grown (n:Nat)(w:World):Prop where
 size:n<=w.heap.size
theorem Grown.mono {n:Nat}{w w':World}(h:Grown n w)(hb:Bw w w'):Grown n w':=⟨Nat.le_trans h.size hb.size⟩
structure Since (w0 w:World):Prop where
 below:Bw w0 w
theorem Since.mono {w0 w w':World}(h:Since w0 w)(hb:Bw w w'):Since w0 w':=⟨h.below.trans (hb.mono h.below.size)⟩
theorem Since.low {w0 w w':World}{B:Nat}(h:Since w0 w)(hb:Below B w w')(hB:w0.heap.size<=B):Since w0 w':=⟨h.below.trans (hb.mono hB)⟩
theorem zl5 (a:OA)(cap:Nat)(n k:Nat)(w:World)(hw:qm w a (zbz k n))(hk:0<k)(hn:n<=1048576)(hk2:k<8000000000000000000) :
 Calls Tryz.prog 112 #[.l a n cap,.i k] w fun e w'=>e=.returned (.i ((k+n:Nat):Int))/\w'=w:=by
 have HW:Hid (qm w a (zbz k n)):=hw;clear hw;go_enter Tryz.func112,Tryz.ntmps112;go_wp2_with fail
 go_loopw [1,5] (fun kv iv wr=>∃i:Nat,i<=n/\kv=.i ((k+i:Nat):Int)/\iv=.i i/\wr=w) (fun _ iv _=>n-(intOf iv).toNat)
 case atStart=>exact⟨0,Nat.zero_le _,rfl,rfl,rfl⟩
 case round=>
  obtain⟨i,hi,rfl,rfl,rfl⟩:=hrel
  by_cases hlt:i<n
  ·have hlt':i<(zbz k n).length:=by rw[zcr];exact hlt
   obtain⟨b,off,rfl,hb,hc⟩:=HW.o.cells (by intro e;rw[e]at hlt';simp at hlt');have hltI:(i:Int)<(n:Int):=by omega
   have hci:=hc i hlt';rw[ziv]at hci;have hw1:wrap64 ((k+i:Nat)+1:Int)=((k+(i+1):Nat):Int):=by rw[zA _ ⟨by omega,by omega⟩];omega
   obtain⟨kk,hkk⟩:∃kk:Int,kk=((k+i:Nat):Int):=⟨_,rfl⟩
   rw[<- hkk]at hci hw1 ⊢;have hnn:(kk != kk)=false:=by simp
   clear hkk hc;go_wp2_with fail
   go_roundw
   case rel=>exact⟨i+1,by omega,by first|rw[hw1]|rfl,by go_num,trivial⟩
   case measure=>exact zq hlt
  ·have e:i=n:=by omega
   subst e;go_wp2_with fail
   go_ret;exact⟨rfl,rfl⟩
structure zaB (lo hi:Nat)(w:World)(bo:Nat)(ms:List Tm):Prop where
 low:lo<=bo
 high:bo<hi
 rows:∃C,w.heap[bo]?=some (.cells C 127)/\C.size=ms.length*2/\∀i,i<ms.length->(∀j,j<2->zaX C (i*2+j))
theorem zaB.mono {lo hi:Nat}{w w':World}{b:Nat}{ms:List Tm}(h:zaB lo hi w b ms)(hM:Marked lo hi w w'):zaB lo hi w' b ms:=by
 obtain⟨C,hC,hs,hn⟩:=h.rows;obtain⟨C',hC',hs',hk⟩:=hM.inn b C _ h.low h.high hC;refine⟨h.low,h.high,C',hC',by omega,fun i hi=>?_⟩;have h0:=hn i hi;exact fun j hj a m c he=>h0 j hj a m c ((hk _ a m c).1 he)
theorem zae.form {lo:Nat}{w:World}{bo:Nat}{ms:List Tm}(h:zae 127 lo w bo ms ms.length):zaB lo w.heap.size w bo ms:=by
 obtain⟨C,hC,hsz,hr⟩:=h.rows;refine⟨h.low,(gES hC).1,C,hC,hsz,fun i hi j hj a n c he=>?_⟩;rw[hr i hi hi j hj]at he
 rcases j with _|_|j <;> first|omega|(simp[Tm.cells]at he)
theorem zaB.ready {lo hi bo:Nat}{w W:World}{ms:List Tm}(h:zaB lo hi w bo ms)(hM:Marked lo hi w W)(i:Nat)(hi':i<ms.length) :
 (∀j,j<2->∃v,W.cell? (aD bo (i*2+j))=some v)/\(∀o,W.frozen? (aD bo o)=false):=by
 have h':=h.mono hM;obtain⟨C,hC,hs,hn⟩:=h'.rows;exact⟨fun j hj=>⟨C[i*2+j]'(by omega),by rw[cell_of_block hC];exact Array.getElem?_eq_getElem (by omega)⟩,fun o=>zh hC⟩
theorem zaB.put {lo hi bo:Nat}{w W:World}{ms:List Tm}(h:zaB lo hi w bo ms)(hM:Marked lo hi w W)(i j:Nat)(hi':i<ms.length)(hj:j<2)(v:Value)(hv:∀a n c,v≠Value.slice a n c):Marked lo hi w (W.setCell (aD bo (i*2+j)) v):=by
 obtain⟨C,hC,hs,hn⟩:=h.rows;exact hM.put h.low h.high hC (hn i hi' j hj) v hv
set_option maxRecDepth 20000 in
theorem zgk (lo hi bo cap:Nat)(ms:List Tm)(k:Int)(w:World)(h:zaB lo hi w bo ms)(hl:ms.length<=1048576)(hk:0<k)(hk2:k<5000000000000000000) :
 Calls Tryz.prog 53 #[.l (some (aD bo 0)) ms.length cap,.i k] w fun e w'=>∃k',e=.returned (.i k')/\k<=k'/\k'<=k+ms.length*2/\Marked lo hi w w':=by
 have HF:Hid (zaB lo hi w bo ms):=h;have HL:Hid (ms.length<=1048576):=hl;have HK:Hid (0<k/\k<5000000000000000000):=⟨hk,hk2⟩
 clear h hl hk hk2;go_enter Tryz.func53,Tryz.ntmps53;go_wp2_with fail
 go_loopw [1,5] (fun kv iv wr=>∃(i:Nat) (kk:Int),i<=ms.length/\kv=.i kk/\iv=.i i/\k<=kk/\kk<=k+i*2/\Marked lo hi w wr) (fun _ iv _=>ms.length-(intOf iv).toNat)
 case atStart=>exact⟨0,k,Nat.zero_le _,rfl,rfl,Int.le_refl _,by simp,Marked.refl _ _ _⟩
 case round=>
  obtain⟨i,kk,hile,rfl,rfl,h1,h2,hM⟩:=hrel
  by_cases hlt:i<ms.length
  ·have hltI:(i:Int)<(ms.length:Int):=by omega
   have HB:Hid (0<kk/\kk<7000000000000000000/\kk<=k+i*2/\k<=kk):=by have a:=HK.o;have b:=HL.o;exact⟨by omega,by omega,h2,h1⟩
   have HM:Hid (Marked lo hi w wr):=hM;clear h1 h2 hM;go_wp2_with fail
   refine(zN _ _ (by have a0:=HB.o;omega) (by have a0:=HB.o;omega)).mono ?_;rintro e wm1⟨s1,rfl,hb⟩;have HM1:Hid (Marked lo hi w wm1):=(HM.o).trans (Marked.of_below hb);clear hb;obtain⟨hex,hfz1⟩:=HF.o.ready (HM1.o) i hlt;obtain⟨v1,hv1⟩:=hex 0 (by omega);rw[Nat.add_zero]at hv1;clear hex;have HP1_0:Hid (Marked lo hi w (wm1.setCell (aD bo (i*2)) (.s s1))):=HF.o.put (HM1.o) i 0 hlt (by omega)  (.s s1) (fun _ _ _ h=>by cases h);have hw1:wrap64 (kk+1)=kk+1:=zA _ ⟨by have a0:=HB.o;omega,by have a0:=HB.o;omega⟩;go_wp2_with fail
   clear hfz1 hv1;refine(zN _ _ (by have a0:=HB.o;omega) (by have a0:=HB.o;omega)).mono ?_;rintro e wm2⟨s2,rfl,hb⟩;have HM2:Hid (Marked lo hi w wm2):=(HP1_0.o).trans (Marked.of_below hb);clear hb;obtain⟨hex,hfz2⟩:=HF.o.ready (HM2.o) i hlt;obtain⟨v2,hv2⟩:=hex 1 (by omega);clear hex;have HP2_1:Hid (Marked lo hi w (wm2.setCell (aD bo (i*2+1)) (.s s2))):=HF.o.put (HM2.o) i 1 hlt (by omega)  (.s s2) (fun _ _ _ h=>by cases h);have hw2:wrap64 (kk+1+1)=kk+1+1:=zA _ ⟨by have a0:=HB.o;omega,by have a0:=HB.o;omega⟩;go_wp2_with fail
   go_roundw
   case rel=>exact⟨i+1,kk+1+1,by omega,by first|rfl|rw[hw2],by rw[wrap_one (by have:=HL.o;omega)],by have a0:=HB.o;omega,by have a0:=HB.o;omega,HP2_1.o⟩
   case measure=>exact yR hlt (by have:=HL.o;omega)
  ·have e:i=ms.length:=by omega
   subst e;go_wp2_with fail
   go_ret;exact⟨kk,rfl,h1,h2,hM⟩
end Go.Proofs.YtcgpjfcocmcodaaGreat
