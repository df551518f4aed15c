import Derived.Test.YtnapmdofidgliaaGreatM29
import Derived.Test.YtnapmdofidgliaaGreatM30
set_option maxHeartbeats 4000000
namespace Go.Proofs.YtnapmdofidgliaaGreat
open Go.RowKit
theorem jm (fs:List Fld)(v:ByteArray):(zR fs v=-1/\fs.find? (fun f=>decide (f.nm=v))=none) \/ ∃i,∃h:i<fs.length,zR fs v=(i:Int)/\fs[i].nm=v/\fs.find? (fun f=>decide (f.nm=v))=some fs[i]:=by
 cases hf:fs.findIdx? (fun f=>decide (f.nm=v)) with
 | none=>
  left
  refine⟨by unfold zR;rw[hf],?_⟩;rw[List.findIdx?_eq_none_iff]at hf;rw[List.find?_eq_none];intro x hx
  have:=hf x hx
  simpa using this
 | some i=>
  right
  rw[List.findIdx?_eq_some_iff_getElem]at hf;obtain⟨hi,h1,h2⟩:=hf;refine⟨i,hi,?_,by simpa using h1,?_⟩
  ·unfold zR
   have:fs.findIdx? (fun f=>decide (f.nm=v))=some i:=by rw[List.findIdx?_eq_some_iff_getElem];exact⟨hi,h1,h2⟩
   rw[this]
  ·rw[List.find?_eq_some_iff_append]
   refine⟨h1,fs.take i,fs.drop (i+1),?_,?_⟩
   ·conv=>lhs;rw[<- List.take_append_drop i fs,List.drop_eq_getElem_cons hi]
   ·intro a ha
    obtain⟨k,hk,rfl⟩:=List.mem_iff_getElem.1 ha;have hk':k<i:=by simp at hk;omega
    have:=h2 k hk'
    simpa using this
def plain (fs:List Fld)(v:ByteArray):Bool:=match fs.find? (fun f=>decide (f.nm=v)) with|some f=>decide (f.kd≠4)|none=>false
def zbn (fs:List Fld)(v:ByteArray):Fld:=(fs.find? fun f=>decide (f.nm=v)).getD zbO
theorem zav {fs:List Fld}{v:ByteArray}(h:fs.find? (fun f=>decide (f.nm=v))=none):plain fs v=false:=by unfold plain;rw[h]
theorem zkd {fs:List Fld}{v:ByteArray}{f:Fld}(h:fs.find? (fun f=>decide (f.nm=v))=some f):plain fs v=decide (f.kd≠4):=by unfold plain;rw[h]
theorem zq1 (k:Int):Ending.returned (.bool (k != 4))=Ending.returned (.bool (decide (k≠4))):=by
 by_cases h:k=4
 ·subst h;rfl
 ·have h1:(k != 4)=true:=by rw[bne_iff_ne];exact h
  rw[h1,decide_eq_true h]
theorem zcT (a:Option Addr)(cap:Nat)(fs:List Fld)(v:ByteArray)(w:World)(hw:zY w a fs) :
 Calls Tryz.prog 183 #[.slice a fs.length cap,.string v] w fun e w'=>e=.returned (.bool (plain fs v))/\Below w.heap.size w w':=by
 have hl:=hw.len;unfold maxLen at hl
 rcases jm fs v with⟨h1,h2⟩|⟨i,hi,h1,h2,h3⟩
 ·have HP:Hid (plain fs v=false):=zav h2
  go_enter Tryz.func183,Tryz.ntmps183;go_wp2_with fail
  have h:=jl a cap fs v w hw;rw[h1]at h;refine h.mono ?_;rintro e w1⟨rfl,hb1⟩;clear h;go_wp2_with fail
  go_ret;exact⟨by rw[HP.out];rfl,hb1⟩
 ·have HP:Hid (plain fs v=decide (fs[i].kd≠4)):=zkd h3
  obtain⟨b,off,rfl,hb,hr⟩:=hw.rows (by rintro rfl;simp at hi);obtain⟨wa,wcap,hf0⟩:=hr i hi;go_enter Tryz.func183,Tryz.ntmps183;go_wp2_with fail
  have h:=jl (some ⟨b,off,none⟩) cap fs v w hw;rw[h1]at h;refine h.mono ?_;rintro e w1⟨rfl,hb1⟩;obtain⟨c0,c1,c2,c3,c4,c5,c6,c7,c8,c9,c10⟩:=(hf0.mono hb hb1).load;have hiI:(i:Int)<(fs.length:Int):=by omega
  have hge:decide ((i:Int)≥0)=true:=by simp
  have hb1w:b<w1.heap.size:=nLt hb hb1.size;clear h hw hr hf0 h3 h2 h1;go_wp2_with fail
  go_ret;exact⟨by rw[HP.out];exact zq1 fs[i].kd,hb1⟩
theorem zdq {P:Program}{f:FuncId}{args:Array Value}{w:World}{v v':Value}{R:World->Prop}(hb:v=v')(h:Calls P f args w fun e w'=>e=.returned v/\R w'):Calls P f args w fun e w'=>e=.returned v'/\R w':=by
 subst hb;exact h
def stage (ss:List Shp)(o:Ob):Nat->Bool
 | 0=>true
 | 1=>qH o
 | 2=>qH o&&q8 o
 | 3=>qH o&&q8 o&&qz o
 | 4=>whole ss o
 | _=>whole ss o&&decide ((jN (shapeOf ss o.kd).fs o.vs).1=0)
def zgB (ss:List Shp)(o:Ob):Value:=zlK (yH ss o).1 (yH ss o).2
theorem zgy {ss:List Shp}{o:Ob}(h:whole ss o=false):zgB ss o=.iface 281 (.agg #[.int .i64 1,.int .i64 0]):=by
 unfold zgB yH;rw[h];rfl
theorem zjc {ss:List Shp}{o:Ob}(h:whole ss o=true):zgB ss o=zlK (jN (shapeOf ss o.kd).fs o.vs).1 (jN (shapeOf ss o.kd).fs o.vs).2:=by
 unfold zgB yH;rw[if_pos h]
theorem ze5 {ss:List Shp}{o:Ob}(h:whole ss o=true):o.vs.length=(shapeOf ss o.kd).fs.length:=by
 unfold whole zy at h;simp only[Bool.and_eq_true,decide_eq_true_eq]at h;exact h.2.2
theorem zi0 (a0:Option Addr)(cap0:Nat)(ss:List Shp)(o:Ob)(a a':Option Addr)(cap cap':Nat)(w:World)(hw:yU w a0 ss)(ho:jK w o a a') :
 Calls Tryz.prog 196 #[.slice a0 ss.length cap0,.agg #[.string o.kd,.string o.nm,.string o.tm,.slice a o.vs.length cap,.bool o.en,.slice a' o.hs.length cap',.int .i64 o.vr]] w
  fun e w'=>e=.returned (zgB ss o)/\Below w.heap.size w w':=by
 go_enter Tryz.func196,Tryz.ntmps196;go_wp2_with fail
 go_loopw [10] (fun i wr=>∃k:Nat,k<=5/\i=.int .i64 k/\stage ss o k=true/\Below (w.heap.size+1+1) ((w.alloc (.cells #[.string o.kd,.string o.nm,.string o.tm,.slice a o.vs.length cap,.bool o.en,.slice a' o.hs.length cap',.int .i64 o.vr] 123)).alloc (.cells #[.func (.func 210) #[] #[],.func (.func 211) #[] #[],.func (.func 212) #[] #[],.func (.func 213) #[] #[],.func (.func 214) #[] #[]] 273)) wr) (fun i _=>5-(intOf i).toNat)
 case atStart=>exact⟨0,Nat.zero_le _,rfl,rfl,bRf _ _⟩
 case round=>
  obtain⟨k,hk,rfl,hstg,hBr⟩:=hrel;have HStg:=hid hstg;clear hstg;have hszr:w.heap.size+1<wr.heap.size:=by have:=hBr.size;simp at this;omega
  have hB:Below w.heap.size w wr:=(zw _ _ _).trans (hBr.mono (by omega));have hX:∀j,wr.cell? ⟨w.heap.size,j,none⟩=(#[.string o.kd,.string o.nm,.string o.tm,.slice a o.vs.length cap,.bool o.en,.slice a' o.hs.length cap',.int .i64 o.vr]:Array Value)[j]?:=fun j=>(hBr.cell (p:=⟨w.heap.size,j,none⟩) (by simp;omega)).trans (by rw[World.cell?_alloc_lt _ _ ⟨w.heap.size,j,none⟩ (by simp)];exact zl w _ _ j)
  have hF:∀j,wr.cell? ⟨w.heap.size+1,j,none⟩=(#[.func (.func 210) #[] #[],.func (.func 211) #[] #[],.func (.func 212) #[] #[],.func (.func 213) #[] #[],.func (.func 214) #[] #[]]:Array Value)[j]?:=fun j=>(hBr.cell (p:=⟨w.heap.size+1,j,none⟩) (by simp)).trans (by rw[World.cell?_alloc_at _ _ _ _ (by simp)])
  have hor:=ho.mono hB;have hwr:=hw.mono hB;have hcases:k=0 \/ k=1 \/ k=2 \/ k=3 \/ k=4 \/ k=5:=by omega
  rcases hcases with rfl|rfl|rfl|rfl|rfl|rfl
  ·by_cases hc:qH o=true
   ·have HV:Hid (jO (qH o)=.nilIface):=by unfold Hid;rw[hc];rfl
    have HS:Hid (stage ss o (0+1)=true):=by
     have h0:=HStg.out;simp only[stage]at h0 ⊢
     simp[hc,Hid]
    clear hc;go_wp2_with fail
    refine(zdq HV.out (zfc _ _ _ _ _ _ _ _ _ hor)).mono ?_;rintro e w1⟨rfl,hb1⟩;go_wp2_with fail
    exact⟨⟨0+1,by omega,by rfl,HS.out,hBr.trans (hb1.mono (by omega))⟩,by simp[intOf]⟩
   ·have hc':(qH o)=false:=by simpa using hc
    have HV:Hid (jO (qH o)=.iface 281 (.agg #[.int .i64 1,.int .i64 0])):=by unfold Hid;rw[hc'];rfl
    have HW:Hid (zgB ss o=.iface 281 (.agg #[.int .i64 1,.int .i64 0])):=zgy (by unfold whole;rw[hc'];simp);clear hc hc';go_wp2_with fail
    refine(zdq HV.out (zfc _ _ _ _ _ _ _ _ _ hor)).mono ?_;rintro e w1⟨rfl,hb1⟩;go_wp2_with fail
    go_ret;exact⟨by rw[HW.out];rfl,hB.trans (hb1.mono (by omega))⟩
  ·by_cases hc:q8 o=true
   ·have HV:Hid (jO (q8 o)=.nilIface):=by unfold Hid;rw[hc];rfl
    have HS:Hid (stage ss o (1+1)=true):=by
     have h0:=HStg.out;simp only[stage]at h0 ⊢
     simp[h0,hc,Hid]
    clear hc;go_wp2_with fail
    refine(zdq HV.out (zfl _ _ _ _ _ _ _ _ _ hor)).mono ?_;rintro e w1⟨rfl,hb1⟩;go_wp2_with fail
    exact⟨⟨1+1,by omega,by rfl,HS.out,hBr.trans (hb1.mono (by omega))⟩,by simp[intOf]⟩
   ·have hc':(q8 o)=false:=by simpa using hc
    have HV:Hid (jO (q8 o)=.iface 281 (.agg #[.int .i64 1,.int .i64 0])):=by unfold Hid;rw[hc'];rfl
    have HW:Hid (zgB ss o=.iface 281 (.agg #[.int .i64 1,.int .i64 0])):=zgy (by unfold whole;rw[hc'];simp);clear hc hc';go_wp2_with fail
    refine(zdq HV.out (zfl _ _ _ _ _ _ _ _ _ hor)).mono ?_;rintro e w1⟨rfl,hb1⟩;go_wp2_with fail
    go_ret;exact⟨by rw[HW.out];rfl,hB.trans (hb1.mono (by omega))⟩
  ·by_cases hc:qz o=true
   ·have HV:Hid (jO (qz o)=.nilIface):=by unfold Hid;rw[hc];rfl
    have HS:Hid (stage ss o (2+1)=true):=by
     have h0:=HStg.out;simp only[stage]at h0 ⊢
     simp[h0,hc,Hid]
    clear hc;go_wp2_with fail
    refine(zdq HV.out (zdJ _ _ _ _ _ _ _ _ _)).mono ?_;rintro e w1⟨rfl,hb1⟩;go_wp2_with fail
    exact⟨⟨2+1,by omega,by rfl,HS.out,hBr.trans (hb1.mono (by omega))⟩,by simp[intOf]⟩
   ·have hc':(qz o)=false:=by simpa using hc
    have HV:Hid (jO (qz o)=.iface 281 (.agg #[.int .i64 1,.int .i64 0])):=by unfold Hid;rw[hc'];rfl
    have HW:Hid (zgB ss o=.iface 281 (.agg #[.int .i64 1,.int .i64 0])):=zgy (by unfold whole;rw[hc'];simp);clear hc hc';go_wp2_with fail
    refine(zdq HV.out (zdJ _ _ _ _ _ _ _ _ _)).mono ?_;rintro e w1⟨rfl,hb1⟩;go_wp2_with fail
    go_ret;exact⟨by rw[HW.out];rfl,hB.trans (hb1.mono (by omega))⟩
  ·by_cases hc:zy ss o=true
   ·have HV:Hid (jO (zy ss o)=.nilIface):=by unfold Hid;rw[hc];rfl
    have HS:Hid (stage ss o (3+1)=true):=by
     have h0:=HStg.out;simp only[stage,whole]at h0 ⊢
     simp[h0,hc,Hid]
    clear hc;go_wp2_with fail
    refine(zdq HV.out (zfg _ _ _ _ _ _ _ _ _ hwr hor)).mono ?_;rintro e w1⟨rfl,hb1⟩;go_wp2_with fail
    exact⟨⟨3+1,by omega,by rfl,HS.out,hBr.trans (hb1.mono (by omega))⟩,by simp[intOf]⟩
   ·have hc':(zy ss o)=false:=by simpa using hc
    have HV:Hid (jO (zy ss o)=.iface 281 (.agg #[.int .i64 1,.int .i64 0])):=by unfold Hid;rw[hc'];rfl
    have HW:Hid (zgB ss o=.iface 281 (.agg #[.int .i64 1,.int .i64 0])):=zgy (by unfold whole;rw[hc'];simp);clear hc hc';go_wp2_with fail
    refine(zdq HV.out (zfg _ _ _ _ _ _ _ _ _ hwr hor)).mono ?_;rintro e w1⟨rfl,hb1⟩;go_wp2_with fail
    go_ret;exact⟨by rw[HW.out];rfl,hB.trans (hb1.mono (by omega))⟩
  ·have hwh:whole ss o=true:=HStg.out
   have HW:Hid (zgB ss o=zlK (jN (shapeOf ss o.kd).fs o.vs).1 (jN (shapeOf ss o.kd).fs o.vs).2):=zjc hwh
   by_cases hc:(jN (shapeOf ss o.kd).fs o.vs).1=0
   ·have HV:Hid (zlK (jN (shapeOf ss o.kd).fs o.vs).1 (jN (shapeOf ss o.kd).fs o.vs).2=.nilIface):=by unfold Hid;rw[hc];rfl
    have HS:Hid (stage ss o (4+1)=true):=by
     simp[stage,hwh,hc,Hid]
    have HCt:Hid (o.vs.length=(shapeOf ss o.kd).fs.length):=ze5 hwh;clear hc hwh;go_wp2_with fail
    refine(zdq HV.out (zeH _ _ _ _ _ _ _ _ _ hwr hor HCt.out)).mono ?_;rintro e w1⟨rfl,hb1⟩;go_wp2_with fail
    exact⟨⟨4+1,by omega,by rfl,HS.out,hBr.trans (hb1.mono (by omega))⟩,by simp[intOf]⟩
   ·have HV:Hid (zlK (jN (shapeOf ss o.kd).fs o.vs).1 (jN (shapeOf ss o.kd).fs o.vs).2=.iface 281 (.agg #[.int .i64 (jN (shapeOf ss o.kd).fs o.vs).1,.int .i64 (jN (shapeOf ss o.kd).fs o.vs).2])):=zmr hc
    have HCt:=hid (ze5 hwh);clear hc hwh;go_wp2_with fail
    refine(zdq HV.out (zeH _ _ _ _ _ _ _ _ _ hwr hor HCt.out)).mono ?_;rintro e w1⟨rfl,hb1⟩;go_wp2_with fail
    go_ret;exact⟨by rw[HW.out,HV.out];rfl,hB.trans (hb1.mono (by omega))⟩
  ·have HW:Hid (zgB ss o=.nilIface):=by
    have h0:=HStg.out;simp only[stage,Bool.and_eq_true,decide_eq_true_eq]at h0;unfold Hid;rw[zjc h0.1,h0.2];rfl
   go_wp2_with fail
   go_ret;exact⟨by rw[HW.out];rfl,hB⟩
theorem zqW (a b:ByteArray):key a b<0↔less a b=true:=by
 rw[zjk,decide_eq_true_eq]
 have:=znq a b
 omega
theorem zlc {a b c:ByteArray}(h:key a b<0)(h':key b c<0):key a c<0:=by
 rw[zqW]at h h' ⊢;exact zbh _ _ _ h h'
theorem zjO {a b c d e f:ByteArray}(h:key2 a b c d<0)(h':key2 c d e f<0):key2 a b e f<0:=by
 unfold key2 at h h' ⊢
 by_cases h1:key a c=0
 ·rw[if_pos h1]at h
  have e1:=(zbF a c).1 h1;subst e1
  by_cases h2:key a e=0
  ·rw[if_pos h2]at h' ⊢
   exact zlc h h'
  ·rw[if_neg h2]at h' ⊢
   exact h'
 ·rw[if_neg h1]at h
  by_cases h2:key c e=0
  ·have e1:=(zbF c e).1 h2
   subst e1;rw[if_neg h1];exact h
  ·rw[if_neg h2]at h'
   have h3:=zlc h h';rw[if_neg (by omega)];exact h3
theorem zbC {a b c:Lg}(h:qP a b<0)(h':qP b c<0):qP a c<0:=zjO h h'
theorem zfo {a b c d:ByteArray}:key2 a b c d=0↔a=c/\b=d:=by
 unfold key2
 by_cases h:key a c=0
 ·rw[if_pos h,zbF]
  exact⟨fun e=>⟨(zbF a c).1 h,e⟩,fun e=>e.2⟩
 ·rw[if_neg h]
  exact⟨fun e=>absurd e h,fun e=>absurd ((zbF a c).2 e.1) h⟩
theorem zcJ {α:Type}{key:α->α->Int}(ht:∀a b c:α,key a b<0->key b c<0->key a c<0){ms:List α}(h:rising key ms):∀(j:Nat) (hj:j<ms.length) (i:Nat) (hi:i<j),key (ms[i]'(by omega)) ms[j]<0
 | 0,_,i,hi=>by omega
 | j+1,hj,i,hi=>by
  rcases Nat.lt_or_ge i j with hlt|hge
  ·have hjl:j<ms.length:=by omega
   have hil:i<ms.length:=by omega
   exact ht ms[i] ms[j] ms[j+1] (zcJ ht h j hjl i hlt) (h j hj)
  ·have e:i=j:=by omega
   subst e;exact h i hj
def jr (ls:List Lg)(tm rs:ByteArray):Bool:=ls.any fun g=>decide (g.tm=tm)&&decide (g.rs=rs)
structure zfi (ls:List Lg)(tm rs:ByteArray)(p:Nat):Prop where
 le:p<=ls.length
 below:∀i (h:i<ls.length),i<p->key2 ls[i].tm ls[i].rs tm rs<0
 above:∀i (h:i<ls.length),p<=i->0<=key2 ls[i].tm ls[i].rs tm rs
theorem zfi.found {ls:List Lg}{tm rs:ByteArray}{p:Nat}(h:zfi ls tm rs p)(hr:rising qP ls):jr ls tm rs=true↔∃hp:p<ls.length,ls[p].tm=tm/\ls[p].rs=rs:=by
 unfold jr;rw[List.any_eq_true]
 constructor
 ·rintro⟨g,hg,he⟩
  obtain⟨i,hi,rfl⟩:=List.mem_iff_getElem.1 hg;simp only[Bool.and_eq_true,decide_eq_true_eq]at he;have hz:key2 ls[i].tm ls[i].rs tm rs=0:=zfo.2 he
  have hpi:p<=i:=by
   rcases Nat.lt_or_ge i p with hlt|hge
   ·have:=h.below i hi hlt;omega
   ·exact hge
  rcases Nat.eq_or_lt_of_le hpi with e|hlt
  ·subst e;exact⟨hi,he⟩
  ·have h1:=zcJ (fun a b c=>zbC (a:=a) (b:=b) (c:=c)) hr i hi p hlt
   have h2:=h.above p (by omega) (Nat.le_refl _);unfold qP at h1;rw[he.1,he.2]at h1;omega
 ·rintro⟨hp,he⟩
  exact⟨ls[p],List.getElem_mem _,by simp[he.1,he.2]⟩
def qB (ss:List Shp)(o:Ob):List ByteArray:=if zy ss o=true then zal (shapeOf ss o.kd).fs o.vs else o.vs
theorem zoP {ss:List Shp}{o:Ob}(h:zN ss=true):zi7 ss o=qB ss o:=by
 unfold zi7 qB zy
 by_cases h1:zG ss o.kd=true
 ·by_cases h2:o.vs.length=(shapeOf ss o.kd).fs.length
  ·rw[if_pos ⟨h1,h,h2⟩,if_pos (by rw[h1];simp[h2])]
  ·rw[if_neg (fun hh=>h2 hh.2.2),if_neg (by rw[h1];simp[h2])]
 ·rw[if_neg (fun hh=>h1 hh.1),if_neg (by simp[h1])]
theorem zfQ (a0:Option Addr)(cap0:Nat)(ss:List Shp)(o:Ob)(a a':Option Addr)(cap cap':Nat)(w0 w:World)(hw0:yU w0 a0 ss)(hbb:Below w0.heap.size w0 w)(hc:zy ss o=true) :
 Calls Tryz.prog 65 #[.slice a0 ss.length cap0,.agg #[.string o.kd,.string o.nm,.string o.tm,.slice a o.vs.length cap,.bool o.en,.slice a' o.hs.length cap',.int .i64 o.vr]] w fun e w'=>∃fa fcap,e=.returned (.tuple #[.slice fa (shapeOf ss o.kd).fs.length fcap,.bool true])/\zY w0 fa (shapeOf ss o.kd).fs/\Below w.heap.size w w':=by
 unfold zy at hc;simp only[Bool.and_eq_true,decide_eq_true_eq]at hc;have HK:=hid hc.1;have HL:=hid hc.2;clear hc;have hw:=hw0.mono hbb;have hl:=hw.len;unfold maxLen at hl;go_enter Tryz.func65,Tryz.ntmps65;go_wp2_with fail
 refine(jJ _ _ _ _ _ (hw.mono (bAl _ _)) HK.out).mono ?_;rintro e w1⟨ix,hix,rfl,hsh,rfl⟩;have HSh:=hid hsh;clear hsh;obtain⟨b,off,rfl,hb0,hr⟩:=hw0.rows (by rintro rfl;simp at hix);obtain⟨fa,fcap,hs0⟩:=hr ix hix;have hs:=hs0.mono hb0 hbb;have hcl:=hs.list;have hfl:=hs0.zdk;have hixI:(ix:Int)<(ss.length:Int):=by omega
 have hix0:decide ((ix:Int)<0)=false:=by simp
 have hneq:((ss[ix].fs.length:Int) != (o.vs.length:Int))=false:=by have h1:=HL.out;have h2:=HSh.out;rw[h2]at h1;simp[h1]
 have hbw:=nLt hb0 hbb.size;clear hr hs;go_wp2_with fail
 go_quiet (fail)
 go_wp2_with fail
 go_ret2
 rw[HSh.out];exact⟨fa,fcap,rfl,hfl,below_drewN (bAl _ _) _⟩
theorem zq5 {fs:List Fld}(h:zca fs):∀f∈fs,f.df.size<=maxLen:=by
 intro f hf;obtain⟨i,hi,rfl⟩:=List.mem_iff_getElem.1 hf;exact(h.small i hi).1.df
theorem zo0 {ss:List Shp}{o:Ob}(hs:zdU ss)(ho:∀s∈o.vs,s.size<=maxLen):∀s∈zi7 ss o,s.size<=maxLen:=by
 unfold zi7
 split
 ·rename_i h
  have hf:zca (shapeOf ss o.kd).fs:=by
   obtain⟨hk,_,_⟩:=h;unfold zG at hk;rw[List.any_eq_true]at hk;obtain⟨x,hx,he⟩:=hk;unfold shapeOf
   cases hfi:ss.find? (fun s=>decide (s.kd=o.kd)) with
   | none=>rw[List.find?_eq_none]at hfi;exact absurd he (hfi x hx)
   | some y=>
    obtain⟨i,hi,rfl⟩:=List.mem_iff_getElem.1 (List.mem_of_find?_eq_some hfi);exact(hs.small i hi).2.2
  intro s hm;obtain⟨i,hi,rfl⟩:=List.mem_iff_getElem.1 hm;have hl:=qR h.2.2;have e:(zal (shapeOf ss o.kd).fs o.vs)[i]=zas ((shapeOf ss o.kd).fs[i]'(by have:=h.2.2;omega)) (o.vs[i]'(by omega)):=by simp[zal]
  rw[e];unfold zas
  split
  ·exact zq5 hf _ (List.getElem_mem _)
  ·exact ho _ (List.getElem_mem _)
 ·exact ho
end Go.Proofs.YtnapmdofidgliaaGreat
