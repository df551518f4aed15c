import Derived.Test.YtedangodjiolaaaGreatM32
set_option maxHeartbeats 4000000
namespace Go.Proofs.YtedangodjiolaaaGreat
open Go.RowKit
theorem jK (fs:List Fld)(v:BA):(zS fs v=-1/\fs.find? (fun f=>decide (f.nm=v))=none) \/ ∃i,∃h:i<fs.length,zS fs v=(i:Int)/\fs[i].nm=v/\fs.find? (fun f=>decide (f.nm=v))=some fs[i]:=by
 cases hf:fs.findIdx? (fun f=>decide (f.nm=v)) with
 | none=>
  left
  refine⟨by unfold zS;rw[hf],?_⟩;rw[List.findIdx?_eq_none_iff]at hf;rw[List.find?_eq_none];intro x hx
  have:=hf x hx
  simpa using this
 | some i=>
  right
  rw[List.findIdx?_eq_some_iff_getElem]at hf;obtain⟨hi,h1,h2⟩:=hf;refine⟨i,hi,?_,by simpa using h1,?_⟩
  ·unfold zS
   have:fs.findIdx? (fun f=>decide (f.nm=v))=some i:=by rw[List.findIdx?_eq_some_iff_getElem];exact⟨hi,h1,h2⟩
   rw[this]
  ·rw[List.find?_eq_some_iff_append]
   refine⟨h1,fs.take i,fs.drop (i+1),?_,?_⟩
   ·conv=>lhs;rw[<- List.take_append_drop i fs,List.drop_eq_getElem_cons hi]
   ·intro a ha
    obtain⟨k,hk,rfl⟩:=List.mem_iff_getElem.1 ha;have hk':k<i:=by simp at hk;omega
    have:=h2 k hk'
    simpa using this
def plain (fs:List Fld)(v:BA):Bool:=match fs.find? (fun f=>decide (f.nm=v)) with|some f=>decide (f.kd≠4)|none=>false
def zcx (fs:List Fld)(v:BA):Fld:=(fs.find? fun f=>decide (f.nm=v)).getD zbS
theorem zaX {fs:List Fld}{v:BA}(h:fs.find? (fun f=>decide (f.nm=v))=none):plain fs v=false:=by unfold plain;rw[h]
theorem zjq {fs:List Fld}{v:BA}{f:Fld}(h:fs.find? (fun f=>decide (f.nm=v))=some f):plain fs v=decide (f.kd≠4):=by unfold plain;rw[h]
theorem zq5 (k:Int):Ending.returned (.bool (k != 4))=Ending.returned (.bool (decide (k≠4))):=by
 by_cases h:k=4
 ·subst h;rfl
 ·have h1:(k != 4)=true:=by rw[bne_iff_ne];exact h
  rw[h1,decide_eq_true h]
theorem zcN (a:OA)(cap:Nat)(fs:List Fld)(v:BA)(w:World)(hw:yh w a fs) :
 Calls Tryz.prog 195 #[.l a fs.length cap,.s v] w fun e w'=>e=.returned (.bool (plain fs v))/\Bw w w':=by
 have hl:=hw.len;unfold maxLen at hl
 rcases jK fs v with⟨h1,h2⟩|⟨i,hi,h1,h2,h3⟩
 ·have HP:Hid (plain fs v=false):=zaX h2
  go_enter Tryz.func195,Tryz.ntmps195;go_wp2_with fail
  have h:=jA a cap fs v w hw;rw[h1]at h;refine h.mono ?_;rintro e w1⟨rfl,hb1⟩;clear h;go_wp2_with fail
  go_ret;exact⟨by rw[HP.o];rfl,hb1⟩
 ·have HP:Hid (plain fs v=decide (fs[i].kd≠4)):=zjq h3
  obtain⟨b,off,rfl,hb,hr⟩:=hw.rows (by rintro rfl;simp at hi);obtain⟨wa,wcap,hf0⟩:=hr i hi;go_enter Tryz.func195,Tryz.ntmps195;go_wp2_with fail
  have h:=jA (some (aD b off)) cap fs v w hw;rw[h1]at h;refine h.mono ?_;rintro e w1⟨rfl,hb1⟩;obtain⟨c0,c1,c2,c3,c4,c5,c6,c7,c8,c9,c10⟩:=(hf0.mono hb hb1).load;have hiI:(i:Int)<(fs.length:Int):=by omega
  have hge:decide ((i:Int)≥0)=true:=by simp
  have hb1w:b<w1.heap.size:=nLt hb hb1.size;clear h hw hr hf0 h3 h2 h1;go_wp2_with fail
  go_ret;exact⟨by rw[HP.o];exact zq5 fs[i].kd,hb1⟩
theorem zds {P:Program}{f:FuncId}{args:AV}{w:World}{v v':Value}{R:World->Prop}(hb:v=v')(h:Calls P f args w fun e w'=>e=.returned v/\R w'):Calls P f args w fun e w'=>e=.returned v'/\R w':=by
 subst hb;exact h
def stage (ss:List Shp)(o:Ob):Nat->Bool
 | 0=>true
 | 1=>qK o
 | 2=>qK o&&qZ o
 | 3=>qK o&&qZ o&&qz o
 | 4=>whole ss o
 | _=>whole ss o&&decide ((jU (shapeOf ss o.kd).fs o.vs).1=0)
def zgy (ss:List Shp)(o:Ob):Value:=zmb (yE ss o).1 (yE ss o).2
theorem zgm {ss:List Shp}{o:Ob}(h:whole ss o=false):zgy ss o=.iface 333 (.agg #[.i 1,.i 0]):=by
 unfold zgy yE;rw[h];rfl
theorem zi0 {ss:List Shp}{o:Ob}(h:whole ss o=true):zgy ss o=zmb (jU (shapeOf ss o.kd).fs o.vs).1 (jU (shapeOf ss o.kd).fs o.vs).2:=by
 unfold zgy yE;rw[if_pos h]
theorem zfj {ss:List Shp}{o:Ob}(h:whole ss o=true):o.vs.length=(shapeOf ss o.kd).fs.length:=by
 unfold whole zG at h;simp only[Bool.and_eq_true,decide_eq_true_eq]at h;exact h.2.2
theorem ziD (a0:OA)(cap0:Nat)(ss:List Shp)(o:Ob)(a a':OA)(cap cap':Nat)(w:World)(hw:yM w a0 ss)(ho:j3 w o a a') :
 Calls Tryz.prog 207 #[.l a0 ss.length cap0,.agg #[.s o.kd,.s o.nm,.s o.tm,.l a o.vs.length cap,.bool o.en,.l a' o.hs.length cap',.i o.vr]] w
  fun e w'=>e=.returned (zgy ss o)/\Bw w w':=by
 go_enter Tryz.func207,Tryz.ntmps207;go_wp2_with fail
 go_loopw [10] (fun i wr=>∃k:Nat,k<=5/\i=.i k/\stage ss o k=true/\Below (w.heap.size+1+1) ((w.alloc (.cells #[.s o.kd,.s o.nm,.s o.tm,.l a o.vs.length cap,.bool o.en,.l a' o.hs.length cap',.i o.vr] 154)).alloc (.cells #[.func (.func 230) #[] #[],.func (.func 231) #[] #[],.func (.func 232) #[] #[],.func (.func 233) #[] #[],.func (.func 234) #[] #[]] 317)) wr) (fun i _=>5-(intOf i).toNat)
 case atStart=>exact⟨0,Nat.zero_le _,rfl,rfl,bRf _ _⟩
 case round=>
  obtain⟨k,hk,rfl,hstg,hBr⟩:=hrel;have HStg:=hid hstg;clear hstg;have hszr:w.heap.size+1<wr.heap.size:=by have:=hBr.size;simp at this;omega
  have hB:Bw w wr:=(zx _ _ _).trans (hBr.mono (by omega));have hX:∀j,wr.cell? (aD w.heap.size j)=((oC o a a' cap cap'):AV)[j]?:=fun j=>(hBr.cell (p:=(aD w.heap.size j)) (by simp;omega)).trans (by rw[World.cell?_alloc_lt _ _ (aD w.heap.size j) (by simp)];exact zn w _ _ j)
  have hF:∀j,wr.cell? (aD (w.heap.size+1) j)=(#[.func (.func 230) #[] #[],.func (.func 231) #[] #[],.func (.func 232) #[] #[],.func (.func 233) #[] #[],.func (.func 234) #[] #[]]:AV)[j]?:=fun j=>(hBr.cell (p:=(aD (w.heap.size+1) j)) (by simp)).trans (by rw[World.cell?_alloc_at _ _ _ _ (by simp)])
  have hor:=ho.mono hB;have hwr:=hw.mono hB;have hcases:k=0 \/ k=1 \/ k=2 \/ k=3 \/ k=4 \/ k=5:=by omega
  rcases hcases with rfl|rfl|rfl|rfl|rfl|rfl
  ·by_cases hc:qK o=true
   ·have HV:Hid (jT (qK o)=.nilIface):=by unfold Hid;rw[hc];rfl
    have HS:Hid (stage ss o (0+1)=true):=by
     have h0:=HStg.o;simp only[stage]at h0 ⊢
     simp[hc,Hid]
    clear hc;go_wp2_with fail
    refine(zds HV.o (ze6 _ _ _ _ _ _ _ _ _ hor)).mono ?_;rintro e w1⟨rfl,hb1⟩;go_wp2_with fail
    exact⟨⟨0+1,by omega,by rfl,HS.o,hBr.trans (hb1.mono (by omega))⟩,by simp[intOf]⟩
   ·have hc':(qK o)=false:=by simpa using hc
    have HV:Hid (jT (qK o)=.iface 333 (.agg #[.i 1,.i 0])):=by unfold Hid;rw[hc'];rfl
    have HW:Hid (zgy ss o=.iface 333 (.agg #[.i 1,.i 0])):=zgm (by unfold whole;rw[hc'];simp);clear hc hc';go_wp2_with fail
    refine(zds HV.o (ze6 _ _ _ _ _ _ _ _ _ hor)).mono ?_;rintro e w1⟨rfl,hb1⟩;go_wp2_with fail
    go_ret;exact⟨by rw[HW.o];rfl,hB.trans (hb1.mono (by omega))⟩
  ·by_cases hc:qZ o=true
   ·have HV:Hid (jT (qZ o)=.nilIface):=by unfold Hid;rw[hc];rfl
    have HS:Hid (stage ss o (1+1)=true):=by
     have h0:=HStg.o;simp only[stage]at h0 ⊢
     simp[h0,hc,Hid]
    clear hc;go_wp2_with fail
    refine(zds HV.o (zeY _ _ _ _ _ _ _ _ _ hor)).mono ?_;rintro e w1⟨rfl,hb1⟩;go_wp2_with fail
    exact⟨⟨1+1,by omega,by rfl,HS.o,hBr.trans (hb1.mono (by omega))⟩,by simp[intOf]⟩
   ·have hc':(qZ o)=false:=by simpa using hc
    have HV:Hid (jT (qZ o)=.iface 333 (.agg #[.i 1,.i 0])):=by unfold Hid;rw[hc'];rfl
    have HW:Hid (zgy ss o=.iface 333 (.agg #[.i 1,.i 0])):=zgm (by unfold whole;rw[hc'];simp);clear hc hc';go_wp2_with fail
    refine(zds HV.o (zeY _ _ _ _ _ _ _ _ _ hor)).mono ?_;rintro e w1⟨rfl,hb1⟩;go_wp2_with fail
    go_ret;exact⟨by rw[HW.o];rfl,hB.trans (hb1.mono (by omega))⟩
  ·by_cases hc:qz o=true
   ·have HV:Hid (jT (qz o)=.nilIface):=by unfold Hid;rw[hc];rfl
    have HS:Hid (stage ss o (2+1)=true):=by
     have h0:=HStg.o;simp only[stage]at h0 ⊢
     simp[h0,hc,Hid]
    clear hc;go_wp2_with fail
    refine(zds HV.o (zdR _ _ _ _ _ _ _ _ _)).mono ?_;rintro e w1⟨rfl,hb1⟩;go_wp2_with fail
    exact⟨⟨2+1,by omega,by rfl,HS.o,hBr.trans (hb1.mono (by omega))⟩,by simp[intOf]⟩
   ·have hc':(qz o)=false:=by simpa using hc
    have HV:Hid (jT (qz o)=.iface 333 (.agg #[.i 1,.i 0])):=by unfold Hid;rw[hc'];rfl
    have HW:Hid (zgy ss o=.iface 333 (.agg #[.i 1,.i 0])):=zgm (by unfold whole;rw[hc'];simp);clear hc hc';go_wp2_with fail
    refine(zds HV.o (zdR _ _ _ _ _ _ _ _ _)).mono ?_;rintro e w1⟨rfl,hb1⟩;go_wp2_with fail
    go_ret;exact⟨by rw[HW.o];rfl,hB.trans (hb1.mono (by omega))⟩
  ·by_cases hc:zG ss o=true
   ·have HV:Hid (jT (zG ss o)=.nilIface):=by unfold Hid;rw[hc];rfl
    have HS:Hid (stage ss o (3+1)=true):=by
     have h0:=HStg.o;simp only[stage,whole]at h0 ⊢
     simp[h0,hc,Hid]
    clear hc;go_wp2_with fail
    refine(zds HV.o (zeP _ _ _ _ _ _ _ _ _ hwr hor)).mono ?_;rintro e w1⟨rfl,hb1⟩;go_wp2_with fail
    exact⟨⟨3+1,by omega,by rfl,HS.o,hBr.trans (hb1.mono (by omega))⟩,by simp[intOf]⟩
   ·have hc':(zG ss o)=false:=by simpa using hc
    have HV:Hid (jT (zG ss o)=.iface 333 (.agg #[.i 1,.i 0])):=by unfold Hid;rw[hc'];rfl
    have HW:Hid (zgy ss o=.iface 333 (.agg #[.i 1,.i 0])):=zgm (by unfold whole;rw[hc'];simp);clear hc hc';go_wp2_with fail
    refine(zds HV.o (zeP _ _ _ _ _ _ _ _ _ hwr hor)).mono ?_;rintro e w1⟨rfl,hb1⟩;go_wp2_with fail
    go_ret;exact⟨by rw[HW.o];rfl,hB.trans (hb1.mono (by omega))⟩
  ·have hwh:whole ss o=true:=HStg.o
   have HW:Hid (zgy ss o=zmb (jU (shapeOf ss o.kd).fs o.vs).1 (jU (shapeOf ss o.kd).fs o.vs).2):=zi0 hwh
   by_cases hc:(jU (shapeOf ss o.kd).fs o.vs).1=0
   ·have HV:Hid (zmb (jU (shapeOf ss o.kd).fs o.vs).1 (jU (shapeOf ss o.kd).fs o.vs).2=.nilIface):=by unfold Hid;rw[hc];rfl
    have HS:Hid (stage ss o (4+1)=true):=by
     simp[stage,hwh,hc,Hid]
    have HCt:Hid (o.vs.length=(shapeOf ss o.kd).fs.length):=zfj hwh;clear hc hwh;go_wp2_with fail
    refine(zds HV.o (zew _ _ _ _ _ _ _ _ _ hwr hor HCt.o)).mono ?_;rintro e w1⟨rfl,hb1⟩;go_wp2_with fail
    exact⟨⟨4+1,by omega,by rfl,HS.o,hBr.trans (hb1.mono (by omega))⟩,by simp[intOf]⟩
   ·have HV:Hid (zmb (jU (shapeOf ss o.kd).fs o.vs).1 (jU (shapeOf ss o.kd).fs o.vs).2=.iface 333 (.agg #[.i (jU (shapeOf ss o.kd).fs o.vs).1,.i (jU (shapeOf ss o.kd).fs o.vs).2])):=zmf hc
    have HCt:=hid (zfj hwh);clear hc hwh;go_wp2_with fail
    refine(zds HV.o (zew _ _ _ _ _ _ _ _ _ hwr hor HCt.o)).mono ?_;rintro e w1⟨rfl,hb1⟩;go_wp2_with fail
    go_ret;exact⟨by rw[HW.o,HV.o];rfl,hB.trans (hb1.mono (by omega))⟩
  ·have HW:Hid (zgy ss o=.nilIface):=by
    have h0:=HStg.o;simp only[stage,Bool.and_eq_true,decide_eq_true_eq]at h0;unfold Hid;rw[zi0 h0.1,h0.2];rfl
   go_wp2_with fail
   go_ret;exact⟨by rw[HW.o];rfl,hB⟩
theorem zkj (l:Lw)(la lb lc:OA)(lca lcb lcc:Nat)(b:Bk)(a0 a1 a2 a3:OA)(c0 c1 c2 c3:Nat)(w:World)(hb:zak w b a0 a1 a2 a3)(hl:yF w l la lb lc) :
 Calls Tryz.prog 102 #[.agg (l.cells la lb lc lca lcb lcc),.agg (b.cells a0 a1 a2 a3 c0 c1 c2 c3)] w fun e w'=>e=.returned (.bool (yT l.ts b))/\Bw w w':=by
 have HK:=hid hb;have HL:=hid hl;clear hb hl;unfold Lw.cells Bk.cells
 by_cases hln:b.ls.length<=10
 rotate_left
 ·have HF:Hid (yT l.ts b=false):=by unfold Hid yT;rw[decide_eq_false hln];rfl
  have hg:(10:Int)<(b.ls.length:Int):=by omega
  go_enter Tryz.func102,Tryz.ntmps102;go_wp2_with fail
  go_ret;exact⟨ze HF.o.symm,zx _ _ _⟩
 have hg:decide ((10:Int)<(b.ls.length:Int))=false:=by simp;omega
 have HLN:Hid (b.ls.length<=10):=hln;clear hln;go_enter Tryz.func102,Tryz.ntmps102;go_wp2_with fail
 obtain⟨hL0,hX0⟩:=q9 w #[.l la l.ss.length lca,.l lb l.ms.length lcb,.l lc l.ts.length lcc] (bC b a0 a1 a2 a3 c0 c1 c2 c3) 43 50;have HB0:Hid (Bw w ((w.alloc (.cells #[.l la l.ss.length lca,.l lb l.ms.length lcb,.l lc l.ts.length lcc] 43)).alloc (.cells (bC b a0 a1 a2 a3 c0 c1 c2 c3) 50))):=zx w _ _;obtain⟨W0,hW0⟩:=xN ((w.alloc (.cells #[.l la l.ss.length lca,.l lb l.ms.length lcb,.l lc l.ts.length lcc] 43)).alloc (.cells (bC b a0 a1 a2 a3 c0 c1 c2 c3) 50));have hz0:w.heap.size+1<W0.heap.size:=by rw[hW0];simp
 rw[<- hW0]at HB0 hX0 hL0 ⊢;clear hW0;refine(zh7 _ _ b.ls _ (HK.o.ls.mono HB0.o)).mono ?_;rintro e w1⟨rfl,hb1⟩;have HB1:=hid (HB0.o.trans (hb1.mono HB0.o.size));have hX1:=za hX0 hz0 hb1;have hL1:=za hL0 (nSl hz0) hb1;have hz1:=nLt hz0 hb1.size;clear hb1 hX0 hL0 hz0 HB0
 by_cases has:zaS qO b.ls=true
 rotate_left
 ·have has':zaS qO b.ls=false:=by simpa using has
  have HF:Hid (yT l.ts b=false):=by unfold Hid yT;rw[has'];simp
  rw[has'];clear has has';go_wp2_with fail
  go_ret;exact⟨ze HF.o.symm,HB1.o⟩
 have HG:Hid (yT l.ts b=b.ls.all (yQ l.ts)):=by unfold Hid yT;rw[has,decide_eq_true HLN.o];rfl
 rw[has];clear has;go_wp2_with fail
 go_loopw [20] (fun iv wr=>∃k:Nat,k<=b.ls.length/\iv=.i k/\Hid ((b.ls.take k).all (yQ l.ts)=true/\Bw w1 wr)) (fun iv _=>b.ls.length-(intOf iv).toNat)
 case atStart=>exact⟨0,Nat.zero_le _,rfl,by simp,bRf _ _⟩
 case round=>
  obtain⟨k,hk,rfl,HQ⟩:=hrel;have hkn:k<=10:=by have:=HLN.o;omega
  by_cases hlt:k<b.ls.length
  ·obtain⟨ob,off,rfl,hob,d0,d1,d2,d3⟩:=HK.o.ls.load (HB1.o.trans (HQ.o.2.mono HB1.o.size)) k hlt
   have hob':=nLt hob (HB1.o.trans (HQ.o.2.mono HB1.o.size)).size;have hltI:(k:Int)<(b.ls.length:Int):=by omega
   have hX:=za hX1 hz1 HQ.o.2;have hz:w.heap.size+1<wr.heap.size:=nLt hz1 HQ.o.2.size;have HSn:Hid ((b.ls.take (k+1)).all (yQ l.ts)=((b.ls.take k).all (yQ l.ts)&&(yQ l.ts) b.ls[k])):=qP _ _ _ hlt;have HBo:Hid (∀ob,Bw w1 (wr.alloc ob)):=fun ob=>HQ.o.2.alloc HQ.o.2.size _
   have HBw:Hid (∀W,Bw w1 W->Bw w W):=fun W hW=>HB1.o.trans (hW.mono HB1.o.size)
   have HNo:Hid ((yQ l.ts) b.ls[k]=false->yT l.ts b=false):=fun h=>by rw[HG.o];exact zaD _ _ _ hlt h
   have HYes:Hid ((yQ l.ts) b.ls[k]=true->(b.ls.take (k+1)).all (yQ l.ts)=true):=fun h=>by rw[HSn.o,HQ.o.1,h];rfl
   have hL:=za hL1 (nSl hz1) HQ.o.2;have hzL:=nSl hz;have HSm:Hid b.ls[k].Small:=HK.o.ls.small k hlt;go_wp2_with fail
   have hbN:Bw wr (wr.alloc (.cells #[.s b.ls[k].tm,.s b.ls[k].rs,.i b.ls[k].mo,.i b.ls[k].fr] 171)):=bAl _ _;have hN:=zn wr #[.s b.ls[k].tm,.s b.ls[k].rs,.i b.ls[k].mo,.i b.ls[k].fr] 171;obtain⟨w2,hw2⟩:=xN (wr.alloc (.cells #[.s b.ls[k].tm,.s b.ls[k].rs,.i b.ls[k].mo,.i b.ls[k].fr] 171));have hn2:wr.heap.size<w2.heap.size:=by rw[hw2];simp
   rw[<- hw2]at hbN hN ⊢;have HB2:Hid (Bw w1 w2):=by unfold Hid;rw[hw2];exact HBo.o _
   clear hw2 d0 d1 d2 d3 hX hL hbN;refine(zai _ _ l.ts b.ls[k].tm _ (HL.o.ts.mono (HBw.o _ HB2.o))).mono ?_;rintro e w3⟨rfl,hb3⟩;have HB3:=hid (HB2.o.trans (hb3.mono HB2.o.size));have hN3:=za hN hn2 hb3;have hn3:=nLt hn2 hb3.size;clear hb3 hN hn2 HB2;have HN1:∀v,zk b.ls[k].rs=v->Hid (∀W,Calls Tryz.prog 107 #[.s b.ls[k].rs] W fun e w'=>e=.returned (.bool v)/\w'=W):=fun v h W=>zf h (zu _ W HSm.o.rs)
   by_cases t1:yg l.ts b.ls[k].tm=true
   rotate_left
   ·have HF:Hid (yT l.ts b=false):=HNo.o (by unfold yQ;rw[bFi t1];rfl)
    rw[bFi t1];clear HN1 t1;go_wp2_with fail
    go_ret;exact⟨ze HF.o.symm,HBw.o _ HB3.o⟩
   rw[t1]
   by_cases t2:zk b.ls[k].rs=true
   rotate_left
   ·have HF:Hid (yT l.ts b=false):=HNo.o (by unfold yQ;rw[t1,bFi t2];rfl)
    have H2:=HN1 false (bFi t2);clear HN1 t1 t2;go_wp2_with fail
    refine(H2.o _).mono ?_;rintro e w4⟨rfl,rfl⟩;go_wp2_with fail
    go_ret;exact⟨ze HF.o.symm,HBw.o _ HB3.o⟩
   have H2:=HN1 true t2
   by_cases t3:jH b.ls[k].fr b.ls[k].mo 0 1000000=true
   ·have HY:Hid ((b.ls.take (k+1)).all (yQ l.ts)=true):=HYes.o (by unfold yQ;rw[t1,t2,t3];rfl)
    have H3:Hid (∀W,Calls Tryz.prog 159 #[.i b.ls[k].fr,.i b.ls[k].mo,.i 0,.i 1000000] W fun e w'=>e=.returned (.bool true)/\w'=W):=fun W=>zf t3 (zbt _ _ _ _ W)
    clear HN1 t1 t2 t3;go_wp2_with fail
    refine(H2.o _).mono ?_;rintro e w4⟨rfl,rfl⟩;go_wp2_with fail
    refine(H3.o _).mono ?_;rintro e w4⟨rfl,rfl⟩;go_wp2_with fail
    exact⟨⟨k+1,by omega,by go_num,HY.o,HB3.o⟩,zy hlt⟩
   ·have HF:Hid (yT l.ts b=false):=HNo.o (by unfold yQ;rw[t1,t2,bFi t3];rfl)
    have H3:Hid (∀W,Calls Tryz.prog 159 #[.i b.ls[k].fr,.i b.ls[k].mo,.i 0,.i 1000000] W fun e w'=>e=.returned (.bool false)/\w'=W):=fun W=>zf (bFi t3) (zbt _ _ _ _ W)
    clear HN1 t1 t2 t3;go_wp2_with fail
    refine(H2.o _).mono ?_;rintro e w4⟨rfl,rfl⟩;go_wp2_with fail
    refine(H3.o _).mono ?_;rintro e w4⟨rfl,rfl⟩;go_wp2_with fail
    go_ret;exact⟨ze HF.o.symm,HBw.o _ HB3.o⟩
  ·have e:k=b.ls.length:=by omega
   subst e
   have HE:Hid (yT l.ts b=true):=by
    unfold Hid;rw[HG.o];have h:=HQ.o.1;rw[tOl (Nat.le_refl _)]at h;exact h
   have HBe:=hid (HB1.o.trans (HQ.o.2.mono HB1.o.size));clear hlt hk HQ;go_wp2_with fail
   go_ret;exact⟨ze HE.o.symm,HBe.o⟩
theorem zfo {α:Type}{key:α->α->Int}{ms:List α}{k:Nat}(h:jY key ms k)(hk:k<ms.length)(hn:∀m (e:k=m+1),key (ms[m]'(by omega)) ms[k]<0):jY key ms (k+1):=by
 intro i hi hik
 rcases Nat.lt_or_ge (i+1) k with hlt|hge
 ·exact h i hi hlt
 ·have e:k=i+1:=by omega
  subst e;exact hn i rfl
theorem zgI {α:Type}{key:α->α->Int}{ms:List α}{k:Nat}(hk:k<ms.length)(h:∀h0:0<k,key (ms[k-1]'(by omega)) ms[k]<0):∀m (e:k=m+1),key (ms[m]'(by omega)) ms[k]<0:=by
 intro m e;subst e;exact h (by omega)
theorem zgo {α:Type}{key:α->α->Int}{ms:List α}{k:Nat}(h:jY key ms k)(hk:ms.length<=k):zaS key ms=true:=by
 rw[zjs];exact fun i hi=>h i hi (by omega)
theorem zeh {α:Type}{key:α->α->Int}{ms:List α}{k:Nat}(hk:k<ms.length)(h0:0<k)(hn:¬key (ms[k-1]'(by omega)) ms[k]<0):zaS key ms=false:=by
 obtain⟨m,rfl⟩:∃m,k=m+1:=⟨k-1,by omega⟩
 exact zec hk hn
theorem zjl (a b:Gr):zct a b<0↔a.no<b.no:=by
 unfold zct zei;split
 ·simp_all
 ·split <;> simp_all
def qC (ss:List Shp)(o:Ob):List BA:=if zG ss o=true then zam (shapeOf ss o.kd).fs o.vs else o.vs
theorem zoD {ss:List Shp}{o:Ob}(h:zZ ss=true):ziX ss o=qC ss o:=by
 unfold ziX qC zG
 by_cases h1:zC ss o.kd=true
 ·by_cases h2:o.vs.length=(shapeOf ss o.kd).fs.length
  ·rw[if_pos ⟨h1,h,h2⟩,if_pos (by rw[h1];simp[h2])]
  ·rw[if_neg (fun hh=>h2 hh.2.2),if_neg (by rw[h1];simp[h2])]
 ·rw[if_neg (fun hh=>h1 hh.1),if_neg (by simp[h1])]
theorem zfH (a0:OA)(cap0:Nat)(ss:List Shp)(o:Ob)(a a':OA)(cap cap':Nat)(w0 w:World)(hw0:yM w0 a0 ss)(hbb:Bw w0 w)(hc:zG ss o=true) :
 Calls Tryz.prog 82 #[.l a0 ss.length cap0,.agg #[.s o.kd,.s o.nm,.s o.tm,.l a o.vs.length cap,.bool o.en,.l a' o.hs.length cap',.i o.vr]] w fun e w'=>∃fa fcap,e=.returned (.tuple #[.l fa (shapeOf ss o.kd).fs.length fcap,.bool true])/\yh w0 fa (shapeOf ss o.kd).fs/\Bw w w':=by
 unfold zG at hc;simp only[Bool.and_eq_true,decide_eq_true_eq]at hc;have HK:=hid hc.1;have HL:=hid hc.2;clear hc;have hw:=hw0.mono hbb;have hl:=hw.len;unfold maxLen at hl;go_enter Tryz.func82,Tryz.ntmps82;go_wp2_with fail
 refine(yJ _ _ _ _ _ (hw.mono (bAl _ _)) HK.o).mono ?_;rintro e w1⟨ix,hix,rfl,hsh,rfl⟩;have HSh:=hid hsh;clear hsh;obtain⟨b,off,rfl,hb0,hr⟩:=hw0.rows (by rintro rfl;simp at hix);obtain⟨fa,fcap,hs0⟩:=hr ix hix;have hs:=hs0.mono hb0 hbb;have hcl:=hs.list;have hfl:=hs0.flds;have hixI:(ix:Int)<(ss.length:Int):=by omega
 have hix0:decide ((ix:Int)<0)=false:=by simp
 have hneq:((ss[ix].fs.length:Int) != (o.vs.length:Int))=false:=by have h1:=HL.o;have h2:=HSh.o;rw[h2]at h1;simp[h1]
 have hbw:=nLt hb0 hbb.size;clear hr hs;go_wp2_with fail
 go_quiet (fail)
 go_wp2_with fail
 go_ret2
 rw[HSh.o];exact⟨fa,fcap,rfl,hfl,below_drewN (bAl _ _) _⟩
end Go.Proofs.YtedangodjiolaaaGreat
