import Derived.Test.YtkficnallnpjnaaGreatM29
import Derived.Test.YtkficnallnpjnaaGreatM30
set_option maxHeartbeats 4000000
namespace Go.Proofs.YtkficnallnpjnaaGreat
open Go.RowKit
def zbI (k n:Nat):List Int:=(List.range n).map fun i=>((k+i:Nat):Int)
theorem zcl (k n:Nat):(zbI k n).length=n:=by simp[zbI]
theorem zid (k n i:Nat)(h:i<(zbI k n).length):(zbI k n)[i]=((k+i:Nat):Int):=by simp[zbI]
theorem zks (k:Int)(a:Option Addr)(cap:Nat)(w:World) :
 Calls Tryz.prog 94 #[.slice a 0 cap,.int .i64 k] w fun e w'=>e=.returned (.int .i64 k)/\w'=w:=by
 go_enter Tryz.func94,Tryz.ntmps94;go_wp2_with fail
 go_loopw [1,5] (fun kv iv wr=>kv=.int .i64 k/\iv=.int .i64 0/\wr=w) (fun _ _ _=>0)
 case atStart=>exact⟨rfl,rfl,rfl⟩
 case round=>
  obtain⟨rfl,rfl,rfl⟩:=hrel;go_wp2_with fail
  go_ret;exact⟨rfl,rfl⟩
structure Grown (n:Nat)(w:World):Prop where
 size:n<=w.heap.size
theorem Grown.mono {n:Nat}{w w':World}(h:Grown n w)(hb:Below w.heap.size w w'):Grown n w':=⟨Nat.le_trans h.size hb.size⟩
structure Since (w0 w:World):Prop where
 below:Below w0.heap.size w0 w
theorem Since.mono {w0 w w':World}(h:Since w0 w)(hb:Below w.heap.size w w'):Since w0 w':=⟨h.below.trans (hb.mono h.below.size)⟩
theorem Since.low {w0 w w':World}{B:Nat}(h:Since w0 w)(hb:Below B w w')(hB:w0.heap.size<=B):Since w0 w':=⟨h.below.trans (hb.mono hB)⟩
theorem zlB (a:Option Addr)(cap:Nat)(n k:Nat)(w:World)(hw:ql w a (zbI k n))(hk:0<k)(hn:n<=1048576)(hk2:k<8000000000000000000) :
 Calls Tryz.prog 96 #[.slice a n cap,.int .i64 k] w fun e w'=>e=.returned (.int .i64 ((k+n:Nat):Int))/\w'=w:=by
 have HW:Hid (ql w a (zbI k n)):=hw;clear hw;go_enter Tryz.func96,Tryz.ntmps96;go_wp2_with fail
 go_loopw [1,5] (fun kv iv wr=>∃i:Nat,i<=n/\kv=.int .i64 ((k+i:Nat):Int)/\iv=.int .i64 i/\wr=w) (fun _ iv _=>n-(intOf iv).toNat)
 case atStart=>exact⟨0,Nat.zero_le _,rfl,rfl,rfl⟩
 case round=>
  obtain⟨i,hi,rfl,rfl,rfl⟩:=hrel
  by_cases hlt:i<n
  ·have hlt':i<(zbI k n).length:=by rw[zcl];exact hlt
   obtain⟨b,off,rfl,hb,hc⟩:=HW.out.cells (by intro e;rw[e]at hlt';simp at hlt');have hltI:(i:Int)<(n:Int):=by omega
   have hci:=hc i hlt';rw[zid]at hci;have hw1:wrap64 ((k+i:Nat)+1:Int)=((k+(i+1):Nat):Int):=by rw[zy _ ⟨by omega,by omega⟩];omega
   obtain⟨kk,hkk⟩:∃kk:Int,kk=((k+i:Nat):Int):=⟨_,rfl⟩
   rw[<- hkk]at hci hw1 ⊢;have hnn:(kk != kk)=false:=by simp
   clear hkk hc;go_wp2_with fail
   go_roundw
   case rel=>exact⟨i+1,by omega,by first|rw[hw1]|rfl,by go_num,trivial⟩
   case measure=>exact zq hlt
  ·have e:i=n:=by omega
   subst e;go_wp2_with fail
   go_ret;exact⟨rfl,rfl⟩
theorem jC (fs:List Fld)(v:ByteArray):(zR fs v=-1/\fs.find? (fun f=>decide (f.nm=v))=none) \/ ∃i,∃h:i<fs.length,zR fs v=(i:Int)/\fs[i].nm=v/\fs.find? (fun f=>decide (f.nm=v))=some fs[i]:=by
 cases hf:fs.findIdx? (fun f=>decide (f.nm=v)) with
 | none=>
  left
  refine⟨by unfold zR;rw[hf],?_⟩;rw[List.findIdx?_eq_none_iff]at hf;rw[List.find?_eq_none];intro x hx
  have:=hf x hx
  simpa using this
 | some i=>
  right
  rw[List.findIdx?_eq_some_iff_getElem]at hf;obtain⟨hi,h1,h2⟩:=hf;refine⟨i,hi,?_,by simpa using h1,?_⟩
  ·unfold zR
   have:fs.findIdx? (fun f=>decide (f.nm=v))=some i:=by rw[List.findIdx?_eq_some_iff_getElem];exact⟨hi,h1,h2⟩
   rw[this]
  ·rw[List.find?_eq_some_iff_append]
   refine⟨h1,fs.take i,fs.drop (i+1),?_,?_⟩
   ·conv=>lhs;rw[<- List.take_append_drop i fs,List.drop_eq_getElem_cons hi]
   ·intro a ha
    obtain⟨k,hk,rfl⟩:=List.mem_iff_getElem.1 ha;have hk':k<i:=by simp at hk;omega
    have:=h2 k hk'
    simpa using this
def plain (fs:List Fld)(v:ByteArray):Bool:=match fs.find? (fun f=>decide (f.nm=v)) with|some f=>decide (f.kd≠4)|none=>false
def zcy (fs:List Fld)(v:ByteArray):Fld:=(fs.find? fun f=>decide (f.nm=v)).getD zbs
theorem zaO {fs:List Fld}{v:ByteArray}(h:fs.find? (fun f=>decide (f.nm=v))=none):plain fs v=false:=by unfold plain;rw[h]
theorem zkm {fs:List Fld}{v:ByteArray}{f:Fld}(h:fs.find? (fun f=>decide (f.nm=v))=some f):plain fs v=decide (f.kd≠4):=by unfold plain;rw[h]
theorem zq7 (k:Int):Ending.returned (.bool (k != 4))=Ending.returned (.bool (decide (k≠4))):=by
 by_cases h:k=4
 ·subst h;rfl
 ·have h1:(k != 4)=true:=by rw[bne_iff_ne];exact h
  rw[h1,decide_eq_true h]
theorem zcK (a:Option Addr)(cap:Nat)(fs:List Fld)(v:ByteArray)(w:World)(hw:yc w a fs) :
 Calls Tryz.prog 190 #[.slice a fs.length cap,.string v] w fun e w'=>e=.returned (.bool (plain fs v))/\Below w.heap.size w w':=by
 have hl:=hw.len;unfold maxLen at hl
 rcases jC fs v with⟨h1,h2⟩|⟨i,hi,h1,h2,h3⟩
 ·have HP:Hid (plain fs v=false):=zaO h2
  go_enter Tryz.func190,Tryz.ntmps190;go_wp2_with fail
  have h:=jh a cap fs v w hw;rw[h1]at h;refine h.mono ?_;rintro e w1⟨rfl,hb1⟩;clear h;go_wp2_with fail
  go_ret;exact⟨by rw[HP.out];rfl,hb1⟩
 ·have HP:Hid (plain fs v=decide (fs[i].kd≠4)):=zkm h3
  obtain⟨b,off,rfl,hb,hr⟩:=hw.rows (by rintro rfl;simp at hi);obtain⟨wa,wcap,hf0⟩:=hr i hi;go_enter Tryz.func190,Tryz.ntmps190;go_wp2_with fail
  have h:=jh (some ⟨b,off,none⟩) cap fs v w hw;rw[h1]at h;refine h.mono ?_;rintro e w1⟨rfl,hb1⟩;obtain⟨c0,c1,c2,c3,c4,c5,c6,c7,c8,c9,c10⟩:=(hf0.mono hb hb1).load;have hiI:(i:Int)<(fs.length:Int):=by omega
  have hge:decide ((i:Int)≥0)=true:=by simp
  have hb1w:b<w1.heap.size:=nLt hb hb1.size;clear h hw hr hf0 h3 h2 h1;go_wp2_with fail
  go_ret;exact⟨by rw[HP.out];exact zq7 fs[i].kd,hb1⟩
theorem zdh {P:Program}{f:FuncId}{args:Array Value}{w:World}{v v':Value}{R:World->Prop}(hb:v=v')(h:Calls P f args w fun e w'=>e=.returned v/\R w'):Calls P f args w fun e w'=>e=.returned v'/\R w':=by
 subst hb;exact h
def stage (ss:List Shp)(o:Ob):Nat->Bool
 | 0=>true
 | 1=>qH o
 | 2=>qH o&&qW o
 | 3=>qH o&&qW o&&qx o
 | 4=>whole ss o
 | _=>whole ss o&&decide ((jJ (shapeOf ss o.kd).fs o.vs).1=0)
def zgb (ss:List Shp)(o:Ob):Value:=zmd (yC ss o).1 (yC ss o).2
theorem zgJ {ss:List Shp}{o:Ob}(h:whole ss o=false):zgb ss o=.iface 277 (.agg #[.int .i64 1,.int .i64 0]):=by
 unfold zgb yC;rw[h];rfl
theorem zkd {ss:List Shp}{o:Ob}(h:whole ss o=true):zgb ss o=zmd (jJ (shapeOf ss o.kd).fs o.vs).1 (jJ (shapeOf ss o.kd).fs o.vs).2:=by
 unfold zgb yC;rw[if_pos h]
theorem ze2 {ss:List Shp}{o:Ob}(h:whole ss o=true):o.vs.length=(shapeOf ss o.kd).fs.length:=by
 unfold whole zB at h;simp only[Bool.and_eq_true,decide_eq_true_eq]at h;exact h.2.2
theorem zim (a0:Option Addr)(cap0:Nat)(ss:List Shp)(o:Ob)(a a':Option Addr)(cap cap':Nat)(w:World)(hw:yT w a0 ss)(ho:jP w o a a') :
 Calls Tryz.prog 202 #[.slice a0 ss.length cap0,.agg #[.string o.kd,.string o.nm,.string o.tm,.slice a o.vs.length cap,.bool o.en,.slice a' o.hs.length cap',.int .i64 o.vr]] w
  fun e w'=>e=.returned (zgb ss o)/\Below w.heap.size w w':=by
 go_enter Tryz.func202,Tryz.ntmps202;go_wp2_with fail
 go_loopw [10] (fun i wr=>∃k:Nat,k<=5/\i=.int .i64 k/\stage ss o k=true/\Below (w.heap.size+1+1) ((w.alloc (.cells #[.string o.kd,.string o.nm,.string o.tm,.slice a o.vs.length cap,.bool o.en,.slice a' o.hs.length cap',.int .i64 o.vr] 117)).alloc (.cells #[.func (.func 216) #[] #[],.func (.func 217) #[] #[],.func (.func 218) #[] #[],.func (.func 219) #[] #[],.func (.func 220) #[] #[]] 269)) wr) (fun i _=>5-(intOf i).toNat)
 case atStart=>exact⟨0,Nat.zero_le _,rfl,rfl,bRf _ _⟩
 case round=>
  obtain⟨k,hk,rfl,hstg,hBr⟩:=hrel;have HStg:=hid hstg;clear hstg;have hszr:w.heap.size+1<wr.heap.size:=by have:=hBr.size;simp at this;omega
  have hB:Below w.heap.size w wr:=(zw _ _ _).trans (hBr.mono (by omega));have hX:∀j,wr.cell? ⟨w.heap.size,j,none⟩=((oC o a a' cap cap'):Array Value)[j]?:=fun j=>(hBr.cell (p:=⟨w.heap.size,j,none⟩) (by simp;omega)).trans (by rw[World.cell?_alloc_lt _ _ ⟨w.heap.size,j,none⟩ (by simp)];exact zl w _ _ j)
  have hF:∀j,wr.cell? ⟨w.heap.size+1,j,none⟩=(#[.func (.func 216) #[] #[],.func (.func 217) #[] #[],.func (.func 218) #[] #[],.func (.func 219) #[] #[],.func (.func 220) #[] #[]]:Array Value)[j]?:=fun j=>(hBr.cell (p:=⟨w.heap.size+1,j,none⟩) (by simp)).trans (by rw[World.cell?_alloc_at _ _ _ _ (by simp)])
  have hor:=ho.mono hB;have hwr:=hw.mono hB;have hcases:k=0 \/ k=1 \/ k=2 \/ k=3 \/ k=4 \/ k=5:=by omega
  rcases hcases with rfl|rfl|rfl|rfl|rfl|rfl
  ·by_cases hc:qH o=true
   ·have HV:Hid (jK (qH o)=.nilIface):=by unfold Hid;rw[hc];rfl
    have HS:Hid (stage ss o (0+1)=true):=by
     have h0:=HStg.out;simp only[stage]at h0 ⊢
     simp[hc,Hid]
    clear hc;go_wp2_with fail
    refine(zdh HV.out (ze6 _ _ _ _ _ _ _ _ _ hor)).mono ?_;rintro e w1⟨rfl,hb1⟩;go_wp2_with fail
    exact⟨⟨0+1,by omega,by rfl,HS.out,hBr.trans (hb1.mono (by omega))⟩,by simp[intOf]⟩
   ·have hc':(qH o)=false:=by simpa using hc
    have HV:Hid (jK (qH o)=.iface 277 (.agg #[.int .i64 1,.int .i64 0])):=by unfold Hid;rw[hc'];rfl
    have HW:Hid (zgb ss o=.iface 277 (.agg #[.int .i64 1,.int .i64 0])):=zgJ (by unfold whole;rw[hc'];simp);clear hc hc';go_wp2_with fail
    refine(zdh HV.out (ze6 _ _ _ _ _ _ _ _ _ hor)).mono ?_;rintro e w1⟨rfl,hb1⟩;go_wp2_with fail
    go_ret;exact⟨by rw[HW.out];rfl,hB.trans (hb1.mono (by omega))⟩
  ·by_cases hc:qW o=true
   ·have HV:Hid (jK (qW o)=.nilIface):=by unfold Hid;rw[hc];rfl
    have HS:Hid (stage ss o (1+1)=true):=by
     have h0:=HStg.out;simp only[stage]at h0 ⊢
     simp[h0,hc,Hid]
    clear hc;go_wp2_with fail
    refine(zdh HV.out (ze1 _ _ _ _ _ _ _ _ _ hor)).mono ?_;rintro e w1⟨rfl,hb1⟩;go_wp2_with fail
    exact⟨⟨1+1,by omega,by rfl,HS.out,hBr.trans (hb1.mono (by omega))⟩,by simp[intOf]⟩
   ·have hc':(qW o)=false:=by simpa using hc
    have HV:Hid (jK (qW o)=.iface 277 (.agg #[.int .i64 1,.int .i64 0])):=by unfold Hid;rw[hc'];rfl
    have HW:Hid (zgb ss o=.iface 277 (.agg #[.int .i64 1,.int .i64 0])):=zgJ (by unfold whole;rw[hc'];simp);clear hc hc';go_wp2_with fail
    refine(zdh HV.out (ze1 _ _ _ _ _ _ _ _ _ hor)).mono ?_;rintro e w1⟨rfl,hb1⟩;go_wp2_with fail
    go_ret;exact⟨by rw[HW.out];rfl,hB.trans (hb1.mono (by omega))⟩
  ·by_cases hc:qx o=true
   ·have HV:Hid (jK (qx o)=.nilIface):=by unfold Hid;rw[hc];rfl
    have HS:Hid (stage ss o (2+1)=true):=by
     have h0:=HStg.out;simp only[stage]at h0 ⊢
     simp[h0,hc,Hid]
    clear hc;go_wp2_with fail
    refine(zdh HV.out (zdL _ _ _ _ _ _ _ _ _)).mono ?_;rintro e w1⟨rfl,hb1⟩;go_wp2_with fail
    exact⟨⟨2+1,by omega,by rfl,HS.out,hBr.trans (hb1.mono (by omega))⟩,by simp[intOf]⟩
   ·have hc':(qx o)=false:=by simpa using hc
    have HV:Hid (jK (qx o)=.iface 277 (.agg #[.int .i64 1,.int .i64 0])):=by unfold Hid;rw[hc'];rfl
    have HW:Hid (zgb ss o=.iface 277 (.agg #[.int .i64 1,.int .i64 0])):=zgJ (by unfold whole;rw[hc'];simp);clear hc hc';go_wp2_with fail
    refine(zdh HV.out (zdL _ _ _ _ _ _ _ _ _)).mono ?_;rintro e w1⟨rfl,hb1⟩;go_wp2_with fail
    go_ret;exact⟨by rw[HW.out];rfl,hB.trans (hb1.mono (by omega))⟩
  ·by_cases hc:zB ss o=true
   ·have HV:Hid (jK (zB ss o)=.nilIface):=by unfold Hid;rw[hc];rfl
    have HS:Hid (stage ss o (3+1)=true):=by
     have h0:=HStg.out;simp only[stage,whole]at h0 ⊢
     simp[h0,hc,Hid]
    clear hc;go_wp2_with fail
    refine(zdh HV.out (zeN _ _ _ _ _ _ _ _ _ hwr hor)).mono ?_;rintro e w1⟨rfl,hb1⟩;go_wp2_with fail
    exact⟨⟨3+1,by omega,by rfl,HS.out,hBr.trans (hb1.mono (by omega))⟩,by simp[intOf]⟩
   ·have hc':(zB ss o)=false:=by simpa using hc
    have HV:Hid (jK (zB ss o)=.iface 277 (.agg #[.int .i64 1,.int .i64 0])):=by unfold Hid;rw[hc'];rfl
    have HW:Hid (zgb ss o=.iface 277 (.agg #[.int .i64 1,.int .i64 0])):=zgJ (by unfold whole;rw[hc'];simp);clear hc hc';go_wp2_with fail
    refine(zdh HV.out (zeN _ _ _ _ _ _ _ _ _ hwr hor)).mono ?_;rintro e w1⟨rfl,hb1⟩;go_wp2_with fail
    go_ret;exact⟨by rw[HW.out];rfl,hB.trans (hb1.mono (by omega))⟩
  ·have hwh:whole ss o=true:=HStg.out
   have HW:Hid (zgb ss o=zmd (jJ (shapeOf ss o.kd).fs o.vs).1 (jJ (shapeOf ss o.kd).fs o.vs).2):=zkd hwh
   by_cases hc:(jJ (shapeOf ss o.kd).fs o.vs).1=0
   ·have HV:Hid (zmd (jJ (shapeOf ss o.kd).fs o.vs).1 (jJ (shapeOf ss o.kd).fs o.vs).2=.nilIface):=by unfold Hid;rw[hc];rfl
    have HS:Hid (stage ss o (4+1)=true):=by
     simp[stage,hwh,hc,Hid]
    have HCt:Hid (o.vs.length=(shapeOf ss o.kd).fs.length):=ze2 hwh;clear hc hwh;go_wp2_with fail
    refine(zdh HV.out (zeq _ _ _ _ _ _ _ _ _ hwr hor HCt.out)).mono ?_;rintro e w1⟨rfl,hb1⟩;go_wp2_with fail
    exact⟨⟨4+1,by omega,by rfl,HS.out,hBr.trans (hb1.mono (by omega))⟩,by simp[intOf]⟩
   ·have HV:Hid (zmd (jJ (shapeOf ss o.kd).fs o.vs).1 (jJ (shapeOf ss o.kd).fs o.vs).2=.iface 277 (.agg #[.int .i64 (jJ (shapeOf ss o.kd).fs o.vs).1,.int .i64 (jJ (shapeOf ss o.kd).fs o.vs).2])):=zmf hc
    have HCt:=hid (ze2 hwh);clear hc hwh;go_wp2_with fail
    refine(zdh HV.out (zeq _ _ _ _ _ _ _ _ _ hwr hor HCt.out)).mono ?_;rintro e w1⟨rfl,hb1⟩;go_wp2_with fail
    go_ret;exact⟨by rw[HW.out,HV.out];rfl,hB.trans (hb1.mono (by omega))⟩
  ·have HW:Hid (zgb ss o=.nilIface):=by
    have h0:=HStg.out;simp only[stage,Bool.and_eq_true,decide_eq_true_eq]at h0;unfold Hid;rw[zkd h0.1,h0.2];rfl
   go_wp2_with fail
   go_ret;exact⟨by rw[HW.out];rfl,hB⟩
theorem zjn (l:Lw)(la lb lc:Option Addr)(lca lcb lcc:Nat)(b:Bk)(a0 a1 a2 a3:Option Addr)(c0 c1 c2 c3:Nat)(w:World)(hb:q8 w b a0 a1 a2 a3)(hl:jr w l la lb lc) :
 Calls Tryz.prog 122 #[.agg (l.cells la lb lc lca lcb lcc),.agg (b.cells a0 a1 a2 a3 c0 c1 c2 c3)] w fun e w'=>e=.returned (.bool (yO l.ts b))/\Below w.heap.size w w':=by
 have HK:=hid hb;have HL:=hid hl;clear hb hl;unfold Lw.cells Bk.cells
 by_cases hln:b.ls.length<=10
 rotate_left
 ·have HF:Hid (yO l.ts b=false):=by unfold Hid yO;rw[decide_eq_false hln];rfl
  have hg:(10:Int)<(b.ls.length:Int):=by omega
  go_enter Tryz.func122,Tryz.ntmps122;go_wp2_with fail
  go_ret;exact⟨ze HF.out.symm,zw _ _ _⟩
 have hg:decide ((10:Int)<(b.ls.length:Int))=false:=by simp;omega
 have HLN:Hid (b.ls.length<=10):=hln;clear hln;go_enter Tryz.func122,Tryz.ntmps122;go_wp2_with fail
 obtain⟨hL0,hX0⟩:=qX w #[.slice la l.ss.length lca,.slice lb l.ms.length lcb,.slice lc l.ts.length lcc] (bC b a0 a1 a2 a3 c0 c1 c2 c3) 47 40;have HB0:Hid (Below w.heap.size w ((w.alloc (.cells #[.slice la l.ss.length lca,.slice lb l.ms.length lcb,.slice lc l.ts.length lcc] 47)).alloc (.cells (bC b a0 a1 a2 a3 c0 c1 c2 c3) 40))):=zw w _ _;obtain⟨W0,hW0⟩:∃W0,W0=(w.alloc (.cells #[.slice la l.ss.length lca,.slice lb l.ms.length lcb,.slice lc l.ts.length lcc] 47)).alloc (.cells (bC b a0 a1 a2 a3 c0 c1 c2 c3) 40):=⟨_,rfl⟩
 have hz0:w.heap.size+1<W0.heap.size:=by rw[hW0];simp
 rw[<- hW0]at HB0 hX0 hL0 ⊢;clear hW0;refine(ziE _ _ b.ls _ (HK.out.ls.mono HB0.out)).mono ?_;rintro e w1⟨rfl,hb1⟩;have HB1:=hid (HB0.out.trans (hb1.mono HB0.out.size));have hX1:=za hX0 hz0 hb1;have hL1:=za hL0 (nSl hz0) hb1;have hz1:=nLt hz0 hb1.size;clear hb1 hX0 hL0 hz0 HB0
 by_cases has:zbM qj b.ls=true
 rotate_left
 ·have has':zbM qj b.ls=false:=by simpa using has
  have HF:Hid (yO l.ts b=false):=by unfold Hid yO;rw[has'];simp
  rw[has'];clear has has';go_wp2_with fail
  go_ret;exact⟨ze HF.out.symm,HB1.out⟩
 have HG:Hid (yO l.ts b=b.ls.all (yI l.ts)):=by unfold Hid yO;rw[has,decide_eq_true HLN.out];rfl
 rw[has];clear has;go_wp2_with fail
 go_loopw [20] (fun iv wr=>∃k:Nat,k<=b.ls.length/\iv=.int .i64 k/\Hid ((b.ls.take k).all (yI l.ts)=true/\Below w1.heap.size w1 wr)) (fun iv _=>b.ls.length-(intOf iv).toNat)
 case atStart=>exact⟨0,Nat.zero_le _,rfl,by simp,bRf _ _⟩
 case round=>
  obtain⟨k,hk,rfl,HQ⟩:=hrel;have hkn:k<=10:=by have:=HLN.out;omega
  by_cases hlt:k<b.ls.length
  ·obtain⟨ob,off,rfl,hob,d0,d1,d2,d3⟩:=HK.out.ls.load (HB1.out.trans (HQ.out.2.mono HB1.out.size)) k hlt
   have hob':=nLt hob (HB1.out.trans (HQ.out.2.mono HB1.out.size)).size;have hltI:(k:Int)<(b.ls.length:Int):=by omega
   have hX:=za hX1 hz1 HQ.out.2;have hz:w.heap.size+1<wr.heap.size:=nLt hz1 HQ.out.2.size;have HSn:Hid ((b.ls.take (k+1)).all (yI l.ts)=((b.ls.take k).all (yI l.ts)&&(yI l.ts) b.ls[k])):=qO _ _ _ hlt;have HBo:Hid (∀ob,Below w1.heap.size w1 (wr.alloc ob)):=fun ob=>HQ.out.2.alloc HQ.out.2.size _
   have HBw:Hid (∀W,Below w1.heap.size w1 W->Below w.heap.size w W):=fun W hW=>HB1.out.trans (hW.mono HB1.out.size)
   have HNo:Hid ((yI l.ts) b.ls[k]=false->yO l.ts b=false):=fun h=>by rw[HG.out];exact zaw _ _ _ hlt h
   have HYes:Hid ((yI l.ts) b.ls[k]=true->(b.ls.take (k+1)).all (yI l.ts)=true):=fun h=>by rw[HSn.out,HQ.out.1,h];rfl
   have hL:=za hL1 (nSl hz1) HQ.out.2;have hzL:=nSl hz;have HSm:Hid b.ls[k].Small:=HK.out.ls.small k hlt;go_wp2_with fail
   have hbN:Below wr.heap.size wr (wr.alloc (.cells #[.string b.ls[k].tm,.string b.ls[k].rs,.int .i64 b.ls[k].mo,.int .i64 b.ls[k].fr] 124)):=bAl _ _;have hN:=zl wr #[.string b.ls[k].tm,.string b.ls[k].rs,.int .i64 b.ls[k].mo,.int .i64 b.ls[k].fr] 124;obtain⟨w2,hw2⟩:∃w2,w2=wr.alloc (.cells #[.string b.ls[k].tm,.string b.ls[k].rs,.int .i64 b.ls[k].mo,.int .i64 b.ls[k].fr] 124):=⟨_,rfl⟩
   have hn2:wr.heap.size<w2.heap.size:=by rw[hw2];simp
   rw[<- hw2]at hbN hN ⊢;have HB2:Hid (Below w1.heap.size w1 w2):=by unfold Hid;rw[hw2];exact HBo.out _
   clear hw2 d0 d1 d2 d3 hX hL hbN;refine(zcN _ _ l.ts b.ls[k].tm _ (HL.out.ts.mono (HBw.out _ HB2.out))).mono ?_;rintro e w3⟨rfl,hb3⟩;have HB3:=hid (HB2.out.trans (hb3.mono HB2.out.size));have hN3:=za hN hn2 hb3;have hn3:=nLt hn2 hb3.size;clear hb3 hN hn2 HB2;have HN1:∀v,zA b.ls[k].rs=v->Hid (∀W,Calls Tryz.prog 154 #[.string b.ls[k].rs] W fun e w'=>e=.returned (.bool v)/\w'=W):=fun v h W=>zf h (zH _ W HSm.out.rs)
   by_cases t1:yB l.ts b.ls[k].tm=true
   rotate_left
   ·have HF:Hid (yO l.ts b=false):=HNo.out (by unfold yI;rw[bFi t1];rfl)
    rw[bFi t1];clear HN1 t1;go_wp2_with fail
    go_ret;exact⟨ze HF.out.symm,HBw.out _ HB3.out⟩
   rw[t1]
   by_cases t2:zA b.ls[k].rs=true
   rotate_left
   ·have HF:Hid (yO l.ts b=false):=HNo.out (by unfold yI;rw[t1,bFi t2];rfl)
    have H2:=HN1 false (bFi t2);clear HN1 t1 t2;go_wp2_with fail
    refine(H2.out _).mono ?_;rintro e w4⟨rfl,rfl⟩;go_wp2_with fail
    go_ret;exact⟨ze HF.out.symm,HBw.out _ HB3.out⟩
   have H2:=HN1 true t2
   by_cases t3:jl b.ls[k].fr b.ls[k].mo 0 1000000=true
   ·have HY:Hid ((b.ls.take (k+1)).all (yI l.ts)=true):=HYes.out (by unfold yI;rw[t1,t2,t3];rfl)
    have H3:Hid (∀W,Calls Tryz.prog 169 #[.int .i64 b.ls[k].fr,.int .i64 b.ls[k].mo,.int .i64 0,.int .i64 1000000] W fun e w'=>e=.returned (.bool true)/\w'=W):=fun W=>zf t3 (zbr _ _ _ _ W)
    clear HN1 t1 t2 t3;go_wp2_with fail
    refine(H2.out _).mono ?_;rintro e w4⟨rfl,rfl⟩;go_wp2_with fail
    refine(H3.out _).mono ?_;rintro e w4⟨rfl,rfl⟩;go_wp2_with fail
    exact⟨⟨k+1,by omega,by go_num,HY.out,HB3.out⟩,zq hlt⟩
   ·have HF:Hid (yO l.ts b=false):=HNo.out (by unfold yI;rw[t1,t2,bFi t3];rfl)
    have H3:Hid (∀W,Calls Tryz.prog 169 #[.int .i64 b.ls[k].fr,.int .i64 b.ls[k].mo,.int .i64 0,.int .i64 1000000] W fun e w'=>e=.returned (.bool false)/\w'=W):=fun W=>zf (bFi t3) (zbr _ _ _ _ W)
    clear HN1 t1 t2 t3;go_wp2_with fail
    refine(H2.out _).mono ?_;rintro e w4⟨rfl,rfl⟩;go_wp2_with fail
    refine(H3.out _).mono ?_;rintro e w4⟨rfl,rfl⟩;go_wp2_with fail
    go_ret;exact⟨ze HF.out.symm,HBw.out _ HB3.out⟩
  ·have e:k=b.ls.length:=by omega
   subst e
   have HE:Hid (yO l.ts b=true):=by
    unfold Hid;rw[HG.out];have h:=HQ.out.1;rw[tOl (Nat.le_refl _)]at h;exact h
   have HBe:=hid (HB1.out.trans (HQ.out.2.mono HB1.out.size));clear hlt hk HQ;go_wp2_with fail
   go_ret;exact⟨ze HE.out.symm,HBe.out⟩
theorem zfc {α:Type}{key:α->α->Int}{ms:List α}{k:Nat}(h:zaX key ms k)(hk:k<ms.length)(hn:∀m (e:k=m+1),key (ms[m]'(by omega)) ms[k]<0):zaX key ms (k+1):=by
 intro i hi hik
 rcases Nat.lt_or_ge (i+1) k with hlt|hge
 ·exact h i hi hlt
 ·have e:k=i+1:=by omega
  subst e;exact hn i rfl
theorem zgF {α:Type}{key:α->α->Int}{ms:List α}{k:Nat}(hk:k<ms.length)(h:∀h0:0<k,key (ms[k-1]'(by omega)) ms[k]<0):∀m (e:k=m+1),key (ms[m]'(by omega)) ms[k]<0:=by
 intro m e;subst e;exact h (by omega)
theorem zgS {α:Type}{key:α->α->Int}{ms:List α}{k:Nat}(h:zaX key ms k)(hk:ms.length<=k):zbM key ms=true:=by
 rw[zne];exact fun i hi=>h i hi (by omega)
theorem zeb {α:Type}{key:α->α->Int}{ms:List α}{k:Nat}(hk:k<ms.length)(h0:0<k)(hn:¬key (ms[k-1]'(by omega)) ms[k]<0):zbM key ms=false:=by
 obtain⟨m,rfl⟩:∃m,k=m+1:=⟨k-1,by omega⟩
 exact zf3 hk hn
theorem zjL (a b:Gr):zcp a b<0↔a.no<b.no:=by
 unfold zcp zd8;split
 ·simp_all
 ·split <;> simp_all
end Go.Proofs.YtkficnallnpjnaaGreat
