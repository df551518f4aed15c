import Derived.Test.YthdfpinbnncghaaGreatM33
import Derived.Test.YthdfpinbnncghaaGreatM34
set_option maxHeartbeats 8000000
namespace Go.Proofs.YthdfpinbnncghaaGreat
open Go.RowKit
section
variable {P:Program} {ops:Array Oper} {Q:Exit->Act->World->Prop}
theorem gL {oi:Oper}{rest:List Oper}{v:Value}{a a':Act}{w:World}(h:wpList P ops Q rest a' w)(hw:Region.wanted oi (yielded ops a.tmps)=true:=by rfl)
 (hy:(execOp a.eval oi).run P w=.ok (.value v) w:=by(go_simp;try with_reducible rfl)) (ha:a.put oi.dst v=a':=by((try simp only[Act.put,sA,s0,sS]);rfl)):wpList P ops Q (oi :: rest) a w:=
 wpList_step fun K hK=>by
  rw[if_pos hw];unfold Oper.wp;rw[hy];exact hK _ _ (ha ▸ h)
theorem kL {oi:Oper}{rest:List Oper}{a a':Act}{w:World}(h:wpList P ops Q rest a' w)(hw:Region.wanted oi (yielded ops a.tmps)=false:=by rfl)(ha:a.put oi.dst undef=a':=by((try simp only[Act.put,sA,s0,sS]);rfl)):wpList P ops Q (oi :: rest) a w:=
 wpList_step fun K hK=>by
  rw[if_neg (by rw[hw];decide)];exact hK _ _ (ha ▸ h)
theorem mL {oi:Oper}{rest:List Oper}{a a':Act}{w:World}{ty:TypeId}{x:Operand}{b o:Nat}{X:AV}{d:TypeDesc}(hR:w.rangeAt b o X.toList)(hu:P.underlying ty=some d)(hd:d.isRow=true)(hn:(P.info? ty).map (·.size)=some X.toList.length)(h:wpList P ops Q rest a' w)
 (ho:oi.op=.load ty x:=by rfl) (hx:a.eval x=.pointer (some (aD b o)):=by rfl) (hw:Region.wanted oi (yielded ops a.tmps)=true:=by rfl) (ha:a.put oi.dst (.agg X)=a':=by((try simp only[Act.put,sA,s0,sS]);rfl)):wpList P ops Q (oi :: rest) a w:=
 wpList_step fun K hK=>by
  rw[if_pos hw];have e:X.toList.toArray=X:=by simp
  refine wp_load_mid ty x ho b o hx X.toList d hR hu hd hn ?_;rw[e];exact hK _ _ (ha ▸ h)
theorem dL {oi:Oper}{rest:List Oper}{a:Act}{w:World}(h:∀K:Act->World->Prop,Shut (∀a w,wpList P ops Q rest a w->K a w)->Oper.wp P oi a w K Q)(hw:Region.wanted oi (yielded ops a.tmps)=true:=by rfl):wpList P ops Q (oi :: rest) a w:=
 wpList_step fun K hK=>by rw[if_pos hw];exact h K hK
end
def SlI (ss:List Sl)(i:Nat)(w:World)(cs:AV):Prop:=∃h:i<ss.length,∃a0 a1 a2 a3 c0 c1 c2 c3,zdo w ss[i] a0 a1 a2 a3/\cs=ss[i].cells a0 a1 a2 a3 c0 c1 c2 c3
theorem zsl {ss:List Sl}{t bo:Nat}{w:World}(hl:ss.length<=maxLen)(h:Rws t 18 bo ss.length ss.length (SlI ss) w):zcV bo w (fun w=>zbU w (some (aD bo 0)) ss):=by
 intro w' ha;obtain⟨hb,hr⟩:=h.zsw w' ha;refine⟨hl,fun _=>⟨bo,0,rfl,hb,fun i hi=>?_⟩⟩;obtain⟨cs,_,⟨_,a0,a1,a2,a3,c0,c1,c2,c3,hs,rfl⟩,hc⟩:=hr i hi;exact⟨a0,a1,a2,a3,c0,c1,c2,c3,hs,hc⟩
def zri:AV:=#[.s ByteArray.empty,.s ByteArray.empty,.i 0,.s ByteArray.empty,.s ByteArray.empty,.s ByteArray.empty,.l none 0 0,.l none 0 0,.i 0,.s ByteArray.empty,.s ByteArray.empty,.l none 0 0,.s ByteArray.empty,.s ByteArray.empty,.s ByteArray.empty,.i 0,.i 0,.l none 0 0]
theorem ziE (a:OA)(cap:Nat)(ms:List Sl)(w:World)(hw:zbU w a ms)(hl:ms.length<=1048576)(hls:∀i (h:i<ms.length),ms[i].Few) :
 Calls Tryz.prog 111 #[.l a ms.length cap] w fun e w'=>e=.returned (.l (some (aD w.heap.size 0)) ms.length ms.length)/\zcV w.heap.size w' (fun w1=>zbU w1 (some (aD w.heap.size 0)) ms)/\Bw w w':=by
 have hmk:∀w:World,(Instr.makeSlice 131 (.i ms.length) (.i ms.length)).run Tryz.prog w=.ok (.l (some (aD w.heap.size 0)) ms.length ms.length) (w.alloc (.cells (madeCells zri (ms.length*18)) 192)):=
  fun w=>qN (P:=Tryz.prog) 131 192 (.agg zri) 18 288 Tryz.underlying131 (by kernel_rfl) ms.length (by omega) (by omega) w
 have HML:Hid (ms.length<=maxLen):=hw.len;go_enter Tryz.func111,Tryz.ntmps111;go_wp2_with fail
 clear hmk
 go_loopw [4] (fun i wr=>∃k:Nat,k<=ms.length/\i=.i k/\Hid (Rws 192 18 w.heap.size ms.length k (SlI ms) wr)/\Bw w wr) (fun i _=>ms.length-(intOf i).toNat)
 case atStart=>exact⟨0,Nat.zero_le _,rfl,⟨_,(MapKept.heap_alloc w _).1,size_madeCells _ _,fun i _ h=>absurd h (by omega)⟩,bAl _ _⟩
 case round=>
  obtain⟨k,hk,rfl,HOW,hB⟩:=hrel
  by_cases hlt:k<ms.length
  ·obtain⟨b,off,a0,a1,a2,a3,c0,c1,c2,c3,rfl,hb,hsl,hr⟩:=hw.range hB k hlt
   have HLS:=zcl (hls k hlt) hsl hr;have hltI:(k:Int)<(ms.length:Int):=by omega
   clear hw hsl hr
   go_upto_region 5 with fail
   refine wp_region_list ?_;refine tL ?_;refine tL ?_;refine tL ?_;refine tL ?_;refine tL ?_;refine wpList_load_mid rfl 216 (.tmp 18) rfl b (off+k*18) rfl _ _ HLS.o.2.2 Tryz.underlying216 rfl (by kernel_rfl) ?_;refine cL fun K hK=>?_
   go_simp
   refine(zkB ms[k] a0 a1 a2 a3 c0 c1 c2 c3 _ HLS.o.2.1 HLS.o.1).mono ?_;rintro e w1⟨b0,b1,b2,b3,rfl,hf1,hb1⟩;have hB1:=hB.trans (hb1.mono hB.size);have HP:=hid (HOW.o.later hb1);have HI:Hid (zcV (w.heap.size+1) w1 (fun w=>SlI ms k w (ms[k].cells b0 b1 b2 b3 ms[k].x.vs.length ms[k].x.hs.length ms[k].x.r.vs.length ms[k].ws.length))):=fun w2 h2=>⟨hlt,b0,b1,b2,b3,_,_,_,_,hf1 w2 (h2.mono HOW.o.lt),rfl⟩
   clear hf1 hb1
   (try go_wp2_with fail)
   refine hK.out _ _ ?_;clear hK K
   (try simp only[Act.put,sA,s0,sS])
   refine tL ?_;refine wpList_store_mid rfl 192 (.tmp 21) (.tmp 20) rfl w.heap.size (k*18) (ms[k].cells b0 b1 b2 b3 ms[k].x.vs.length ms[k].x.hs.length ms[k].x.r.vs.length ms[k].ws.length) rfl rfl (HP.o.room hlt) (by kernel_rfl) (by simp[Sl.cells,Value.oneCell']) ?_;refine wpList_nil ?_;have HPP:=ji (HP.o.put hlt _ rfl HI.o) (zbY (Nat.le_refl _) (ms[k].cells b0 b1 b2 b3 ms[k].x.vs.length ms[k].x.hs.length ms[k].x.r.vs.length ms[k].ws.length).toList (k*18) _ hB1)
   revert HPP
   generalize w1.setCells w.heap.size (k*18) (ms[k].cells b0 b1 b2 b3 ms[k].x.vs.length ms[k].x.hs.length ms[k].x.r.vs.length ms[k].ws.length).toList=w2
   intro HPP
   (try simp only[Act.put])
   go_wp2_with fail
   exact⟨⟨k+1,by omega,by go_num,HPP.o.1,HPP.o.2⟩,by simp[intOf];omega⟩
  ·have HF:Hid (zcV w.heap.size wr (fun w1=>zbU w1 (some (aD w.heap.size 0)) ms)):=by
    have e:k=ms.length:=by omega
    subst e;exact zsl HML.o HOW.o
   clear hw HOW;go_wp2_with fail
   go_ret;exact⟨rfl,HF.o,hB⟩
theorem jQ (fs:List Fld)(v:BA):(zY fs v=-1/\fs.find? (fun f=>decide (f.nm=v))=none) \/ ∃i,∃h:i<fs.length,zY fs v=(i:Int)/\fs[i].nm=v/\fs.find? (fun f=>decide (f.nm=v))=some fs[i]:=by
 cases hf:fs.findIdx? (fun f=>decide (f.nm=v)) with
 | none=>
  left
  refine⟨by unfold zY;rw[hf],?_⟩;rw[List.findIdx?_eq_none_iff]at hf;rw[List.find?_eq_none];intro x hx
  have:=hf x hx
  simpa using this
 | some i=>
  right
  rw[List.findIdx?_eq_some_iff_getElem]at hf;obtain⟨hi,h1,h2⟩:=hf;refine⟨i,hi,?_,by simpa using h1,?_⟩
  ·unfold zY
   have:fs.findIdx? (fun f=>decide (f.nm=v))=some i:=by rw[List.findIdx?_eq_some_iff_getElem];exact⟨hi,h1,h2⟩
   rw[this]
  ·rw[List.find?_eq_some_iff_append]
   refine⟨h1,fs.take i,fs.drop (i+1),?_,?_⟩
   ·conv=>lhs;rw[<- List.take_append_drop i fs,List.drop_eq_getElem_cons hi]
   ·intro a ha
    obtain⟨k,hk,rfl⟩:=List.mem_iff_getElem.1 ha;have hk':k<i:=by simp at hk;omega
    have:=h2 k hk'
    simpa using this
def plain (fs:List Fld)(v:BA):Bool:=match fs.find? (fun f=>decide (f.nm=v)) with|some f=>decide (f.kd≠4)|none=>false
def zcU (fs:List Fld)(v:BA):Fld:=(fs.find? fun f=>decide (f.nm=v)).getD zb7
theorem zaT {fs:List Fld}{v:BA}(h:fs.find? (fun f=>decide (f.nm=v))=none):plain fs v=false:=by unfold plain;rw[h]
theorem zki {fs:List Fld}{v:BA}{f:Fld}(h:fs.find? (fun f=>decide (f.nm=v))=some f):plain fs v=decide (f.kd≠4):=by unfold plain;rw[h]
theorem zsk (k:Int):Ending.returned (.bool (k != 4))=Ending.returned (.bool (decide (k≠4))):=by
 by_cases h:k=4
 ·subst h;rfl
 ·have h1:(k != 4)=true:=by rw[bne_iff_ne];exact h
  rw[h1,decide_eq_true h]
theorem zdd (a:OA)(cap:Nat)(fs:List Fld)(v:BA)(w:World)(hw:yj w a fs) :
 Calls Tryz.prog 205 #[.l a fs.length cap,.s v] w fun e w'=>e=.returned (.bool (plain fs v))/\Bw w w':=by
 have hl:=hw.len;unfold maxLen at hl
 rcases jQ fs v with⟨h1,h2⟩|⟨i,hi,h1,h2,h3⟩
 ·have HP:Hid (plain fs v=false):=zaT h2
  go_enter Tryz.func205,Tryz.ntmps205;go_wp2_with fail
  have h:=jH a cap fs v w hw;rw[h1]at h;refine h.mono ?_;rintro e w1⟨rfl,hb1⟩;clear h;go_wp2_with fail
  go_ret;exact⟨by rw[HP.o];rfl,hb1⟩
 ·have HP:Hid (plain fs v=decide (fs[i].kd≠4)):=zki h3
  obtain⟨b,off,rfl,hb,hr⟩:=hw.rows (by rintro rfl;simp at hi);obtain⟨wa,wcap,hf0⟩:=hr i hi;go_enter Tryz.func205,Tryz.ntmps205;go_wp2_with fail
  have h:=jH (some (aD b off)) cap fs v w hw;rw[h1]at h;refine h.mono ?_;rintro e w1⟨rfl,hb1⟩;obtain⟨c0,c1,c2,c3,c4,c5,c6,c7,c8,c9,c10⟩:=(hf0.mono hb hb1).load;have hiI:(i:Int)<(fs.length:Int):=by omega
  have hge:decide ((i:Int)≥0)=true:=by simp
  have hb1w:b<w1.heap.size:=nLt hb hb1.size;clear h hw hr hf0 h3 h2 h1;go_wp2_with fail
  go_ret;exact⟨by rw[HP.o];exact zsk fs[i].kd,hb1⟩
theorem zdI {P:Program}{f:FuncId}{args:AV}{w:World}{v v':Value}{R:World->Prop}(hb:v=v')(h:Calls P f args w fun e w'=>e=.returned v/\R w'):Calls P f args w fun e w'=>e=.returned v'/\R w':=by
 subst hb;exact h
def stage (ss:List Shp)(o:Ob):Nat->Bool
 | 0=>true
 | 1=>qU o
 | 2=>qU o&&jh o
 | 3=>qU o&&jh o&&qG o
 | 4=>whole ss o
 | _=>whole ss o&&decide ((jV (shapeOf ss o.kd).fs o.vs).1=0)
def zhe (ss:List Shp)(o:Ob):Value:=zmM (yI ss o).1 (yI ss o).2
theorem zgZ {ss:List Shp}{o:Ob}(h:whole ss o=false):zhe ss o=.iface 342 (.agg #[.i 1,.i 0]):=by
 unfold zhe yI;rw[h];rfl
theorem zjD {ss:List Shp}{o:Ob}(h:whole ss o=true):zhe ss o=zmM (jV (shapeOf ss o.kd).fs o.vs).1 (jV (shapeOf ss o.kd).fs o.vs).2:=by
 unfold zhe yI;rw[if_pos h]
theorem ze9 {ss:List Shp}{o:Ob}(h:whole ss o=true):o.vs.length=(shapeOf ss o.kd).fs.length:=by
 unfold whole zH at h;simp only[Bool.and_eq_true,decide_eq_true_eq]at h;exact h.2.2
theorem zi6 (a0:OA)(cap0:Nat)(ss:List Shp)(o:Ob)(a a':OA)(cap cap':Nat)(w:World)(hw:yR w a0 ss)(ho:zab w o a a') :
 Calls Tryz.prog 218 #[.l a0 ss.length cap0,.agg #[.s o.kd,.s o.nm,.s o.tm,.l a o.vs.length cap,.bool o.en,.l a' o.hs.length cap',.i o.vr]] w
  fun e w'=>e=.returned (zhe ss o)/\Bw w w':=by
 go_enter Tryz.func218,Tryz.ntmps218;go_wp2_with fail
 go_loopw [10] (fun i wr=>∃k:Nat,k<=5/\i=.i k/\stage ss o k=true/\Below (w.heap.size+1+1) ((w.alloc (.cells #[.s o.kd,.s o.nm,.s o.tm,.l a o.vs.length cap,.bool o.en,.l a' o.hs.length cap',.i o.vr] 145)).alloc (.cells #[.func (.func 242) #[] #[],.func (.func 243) #[] #[],.func (.func 244) #[] #[],.func (.func 245) #[] #[],.func (.func 246) #[] #[]] 328)) wr) (fun i _=>5-(intOf i).toNat)
 case atStart=>exact⟨0,Nat.zero_le _,rfl,rfl,bRf _ _⟩
 case round=>
  obtain⟨k,hk,rfl,hstg,hBr⟩:=hrel;have HStg:=hid hstg;clear hstg;have hszr:w.heap.size+1<wr.heap.size:=by have:=hBr.size;simp at this;omega
  have hB:Bw w wr:=(zx _ _ _).trans (hBr.mono (by omega));have hX:∀j,wr.cell? (aD w.heap.size j)=((oC o a a' cap cap'):AV)[j]?:=fun j=>(hBr.cell (p:=(aD w.heap.size j)) (by simp;omega)).trans (by rw[World.cell?_alloc_lt _ _ (aD w.heap.size j) (by simp)];exact zn w _ _ j)
  have hF:∀j,wr.cell? (aD (w.heap.size+1) j)=(#[.func (.func 242) #[] #[],.func (.func 243) #[] #[],.func (.func 244) #[] #[],.func (.func 245) #[] #[],.func (.func 246) #[] #[]]:AV)[j]?:=fun j=>(hBr.cell (p:=(aD (w.heap.size+1) j)) (by simp)).trans (by rw[World.cell?_alloc_at _ _ _ _ (by simp)])
  have hor:=ho.mono hB;have hwr:=hw.mono hB;have hcases:k=0 \/ k=1 \/ k=2 \/ k=3 \/ k=4 \/ k=5:=by omega
  rcases hcases with rfl|rfl|rfl|rfl|rfl|rfl
  ·by_cases hc:qU o=true
   ·have HV:Hid (jX (qU o)=.nilIface):=by unfold Hid;rw[hc];rfl
    have HS:Hid (stage ss o (0+1)=true):=by
     have h0:=HStg.o;simp only[stage]at h0 ⊢
     simp[hc,Hid]
    clear hc;go_wp2_with fail
    refine(zdI HV.o (zfe _ _ _ _ _ _ _ _ _ hor)).mono ?_;rintro e w1⟨rfl,hb1⟩;go_wp2_with fail
    exact⟨⟨0+1,by omega,by rfl,HS.o,hBr.trans (hb1.mono (by omega))⟩,by simp[intOf]⟩
   ·have hc':(qU o)=false:=by simpa using hc
    have HV:Hid (jX (qU o)=.iface 342 (.agg #[.i 1,.i 0])):=by unfold Hid;rw[hc'];rfl
    have HW:Hid (zhe ss o=.iface 342 (.agg #[.i 1,.i 0])):=zgZ (by unfold whole;rw[hc'];simp);clear hc hc';go_wp2_with fail
    refine(zdI HV.o (zfe _ _ _ _ _ _ _ _ _ hor)).mono ?_;rintro e w1⟨rfl,hb1⟩;go_wp2_with fail
    go_ret;exact⟨by rw[HW.o];rfl,hB.trans (hb1.mono (by omega))⟩
  ·by_cases hc:jh o=true
   ·have HV:Hid (jX (jh o)=.nilIface):=by unfold Hid;rw[hc];rfl
    have HS:Hid (stage ss o (1+1)=true):=by
     have h0:=HStg.o;simp only[stage]at h0 ⊢
     simp[h0,hc,Hid]
    clear hc;go_wp2_with fail
    refine(zdI HV.o (ze5 _ _ _ _ _ _ _ _ _ hor)).mono ?_;rintro e w1⟨rfl,hb1⟩;go_wp2_with fail
    exact⟨⟨1+1,by omega,by rfl,HS.o,hBr.trans (hb1.mono (by omega))⟩,by simp[intOf]⟩
   ·have hc':(jh o)=false:=by simpa using hc
    have HV:Hid (jX (jh o)=.iface 342 (.agg #[.i 1,.i 0])):=by unfold Hid;rw[hc'];rfl
    have HW:Hid (zhe ss o=.iface 342 (.agg #[.i 1,.i 0])):=zgZ (by unfold whole;rw[hc'];simp);clear hc hc';go_wp2_with fail
    refine(zdI HV.o (ze5 _ _ _ _ _ _ _ _ _ hor)).mono ?_;rintro e w1⟨rfl,hb1⟩;go_wp2_with fail
    go_ret;exact⟨by rw[HW.o];rfl,hB.trans (hb1.mono (by omega))⟩
  ·by_cases hc:qG o=true
   ·have HV:Hid (jX (qG o)=.nilIface):=by unfold Hid;rw[hc];rfl
    have HS:Hid (stage ss o (2+1)=true):=by
     have h0:=HStg.o;simp only[stage]at h0 ⊢
     simp[h0,hc,Hid]
    clear hc;go_wp2_with fail
    refine(zdI HV.o (zea _ _ _ _ _ _ _ _ _)).mono ?_;rintro e w1⟨rfl,hb1⟩;go_wp2_with fail
    exact⟨⟨2+1,by omega,by rfl,HS.o,hBr.trans (hb1.mono (by omega))⟩,by simp[intOf]⟩
   ·have hc':(qG o)=false:=by simpa using hc
    have HV:Hid (jX (qG o)=.iface 342 (.agg #[.i 1,.i 0])):=by unfold Hid;rw[hc'];rfl
    have HW:Hid (zhe ss o=.iface 342 (.agg #[.i 1,.i 0])):=zgZ (by unfold whole;rw[hc'];simp);clear hc hc';go_wp2_with fail
    refine(zdI HV.o (zea _ _ _ _ _ _ _ _ _)).mono ?_;rintro e w1⟨rfl,hb1⟩;go_wp2_with fail
    go_ret;exact⟨by rw[HW.o];rfl,hB.trans (hb1.mono (by omega))⟩
  ·by_cases hc:zH ss o=true
   ·have HV:Hid (jX (zH ss o)=.nilIface):=by unfold Hid;rw[hc];rfl
    have HS:Hid (stage ss o (3+1)=true):=by
     have h0:=HStg.o;simp only[stage,whole]at h0 ⊢
     simp[h0,hc,Hid]
    clear hc;go_wp2_with fail
    refine(zdI HV.o (ze4 _ _ _ _ _ _ _ _ _ hwr hor)).mono ?_;rintro e w1⟨rfl,hb1⟩;go_wp2_with fail
    exact⟨⟨3+1,by omega,by rfl,HS.o,hBr.trans (hb1.mono (by omega))⟩,by simp[intOf]⟩
   ·have hc':(zH ss o)=false:=by simpa using hc
    have HV:Hid (jX (zH ss o)=.iface 342 (.agg #[.i 1,.i 0])):=by unfold Hid;rw[hc'];rfl
    have HW:Hid (zhe ss o=.iface 342 (.agg #[.i 1,.i 0])):=zgZ (by unfold whole;rw[hc'];simp);clear hc hc';go_wp2_with fail
    refine(zdI HV.o (ze4 _ _ _ _ _ _ _ _ _ hwr hor)).mono ?_;rintro e w1⟨rfl,hb1⟩;go_wp2_with fail
    go_ret;exact⟨by rw[HW.o];rfl,hB.trans (hb1.mono (by omega))⟩
  ·have hwh:whole ss o=true:=HStg.o
   have HW:Hid (zhe ss o=zmM (jV (shapeOf ss o.kd).fs o.vs).1 (jV (shapeOf ss o.kd).fs o.vs).2):=zjD hwh
   by_cases hc:(jV (shapeOf ss o.kd).fs o.vs).1=0
   ·have HV:Hid (zmM (jV (shapeOf ss o.kd).fs o.vs).1 (jV (shapeOf ss o.kd).fs o.vs).2=.nilIface):=by unfold Hid;rw[hc];rfl
    have HS:Hid (stage ss o (4+1)=true):=by
     simp[stage,hwh,hc,Hid]
    have HCt:Hid (o.vs.length=(shapeOf ss o.kd).fs.length):=ze9 hwh;clear hc hwh;go_wp2_with fail
    refine(zdI HV.o (zeR _ _ _ _ _ _ _ _ _ hwr hor HCt.o)).mono ?_;rintro e w1⟨rfl,hb1⟩;go_wp2_with fail
    exact⟨⟨4+1,by omega,by rfl,HS.o,hBr.trans (hb1.mono (by omega))⟩,by simp[intOf]⟩
   ·have HV:Hid (zmM (jV (shapeOf ss o.kd).fs o.vs).1 (jV (shapeOf ss o.kd).fs o.vs).2=.iface 342 (.agg #[.i (jV (shapeOf ss o.kd).fs o.vs).1,.i (jV (shapeOf ss o.kd).fs o.vs).2])):=zmT hc
    have HCt:=hid (ze9 hwh);clear hc hwh;go_wp2_with fail
    refine(zdI HV.o (zeR _ _ _ _ _ _ _ _ _ hwr hor HCt.o)).mono ?_;rintro e w1⟨rfl,hb1⟩;go_wp2_with fail
    go_ret;exact⟨by rw[HW.o,HV.o];rfl,hB.trans (hb1.mono (by omega))⟩
  ·have HW:Hid (zhe ss o=.nilIface):=by
    have h0:=HStg.o;simp only[stage,Bool.and_eq_true,decide_eq_true_eq]at h0;unfold Hid;rw[zjD h0.1,h0.2];rfl
   go_wp2_with fail
   go_ret;exact⟨by rw[HW.o];rfl,hB⟩
theorem zjE (l:Lw)(la lb lc:OA)(lca lcb lcc:Nat)(b:Bk)(a0 a1 a2 a3:OA)(c0 c1 c2 c3:Nat)(w:World)(hb:jU w b a0 a1 a2 a3)(hl:yH w l la lb lc) :
 Calls Tryz.prog 117 #[.agg (l.cells la lb lc lca lcb lcc),.agg (b.cells a0 a1 a2 a3 c0 c1 c2 c3)] w fun e w'=>e=.returned (.bool (y5 l.ts b))/\Bw w w':=by
 have HK:=hid hb;have HL:=hid hl;clear hb hl;unfold Lw.cells Bk.cells
 by_cases hln:b.ls.length<=10
 rotate_left
 ·have HF:Hid (y5 l.ts b=false):=by unfold Hid y5;rw[decide_eq_false hln];rfl
  have hg:(10:Int)<(b.ls.length:Int):=by omega
  go_enter Tryz.func117,Tryz.ntmps117;go_wp2_with fail
  go_ret;exact⟨ze HF.o.symm,zx _ _ _⟩
 have hg:decide ((10:Int)<(b.ls.length:Int))=false:=by simp;omega
 have HLN:Hid (b.ls.length<=10):=hln;clear hln;go_enter Tryz.func117,Tryz.ntmps117;go_wp2_with fail
 obtain⟨hL0,hX0⟩:=jC w #[.l la l.ss.length lca,.l lb l.ms.length lcb,.l lc l.ts.length lcc] (bC b a0 a1 a2 a3 c0 c1 c2 c3) 44 51;have HB0:Hid (Bw w ((w.alloc (.cells #[.l la l.ss.length lca,.l lb l.ms.length lcb,.l lc l.ts.length lcc] 44)).alloc (.cells (bC b a0 a1 a2 a3 c0 c1 c2 c3) 51))):=zx w _ _;obtain⟨W0,hW0⟩:=xN ((w.alloc (.cells #[.l la l.ss.length lca,.l lb l.ms.length lcb,.l lc l.ts.length lcc] 44)).alloc (.cells (bC b a0 a1 a2 a3 c0 c1 c2 c3) 51));have hz0:w.heap.size+1<W0.heap.size:=by rw[hW0];simp
 rw[<- hW0]at HB0 hX0 hL0 ⊢;clear hW0;refine(ziI _ _ b.ls _ (HK.o.ls.mono HB0.o)).mono ?_;rintro e w1⟨rfl,hb1⟩;have HB1:=hid (HB0.o.trans (hb1.mono HB0.o.size));have hX1:=za hX0 hz0 hb1;have hL1:=za hL0 (nSl hz0) hb1;have hz1:=nLt hz0 hb1.size;clear hb1 hX0 hL0 hz0 HB0
 by_cases has:zaQ q9 b.ls=true
 rotate_left
 ·have has':zaQ q9 b.ls=false:=by simpa using has
  have HF:Hid (y5 l.ts b=false):=by unfold Hid y5;rw[has'];simp
  rw[has'];clear has has';go_wp2_with fail
  go_ret;exact⟨ze HF.o.symm,HB1.o⟩
 have HG:Hid (y5 l.ts b=b.ls.all (yT l.ts)):=by unfold Hid y5;rw[has,decide_eq_true HLN.o];rfl
 rw[has];clear has;go_wp2_with fail
 go_loopw [20] (fun iv wr=>∃k:Nat,k<=b.ls.length/\iv=.i k/\Hid ((b.ls.take k).all (yT l.ts)=true/\Bw w1 wr)) (fun iv _=>b.ls.length-(intOf iv).toNat)
 case atStart=>exact⟨0,Nat.zero_le _,rfl,by simp,bRf _ _⟩
 case round=>
  obtain⟨k,hk,rfl,HQ⟩:=hrel;have hkn:k<=10:=by have:=HLN.o;omega
  by_cases hlt:k<b.ls.length
  ·obtain⟨ob,off,rfl,hob,d0,d1,d2,d3⟩:=HK.o.ls.load (HB1.o.trans (HQ.o.2.mono HB1.o.size)) k hlt
   have hob':=nLt hob (HB1.o.trans (HQ.o.2.mono HB1.o.size)).size;have hltI:(k:Int)<(b.ls.length:Int):=by omega
   have hX:=za hX1 hz1 HQ.o.2;have hz:w.heap.size+1<wr.heap.size:=nLt hz1 HQ.o.2.size;have HSn:Hid ((b.ls.take (k+1)).all (yT l.ts)=((b.ls.take k).all (yT l.ts)&&(yT l.ts) b.ls[k])):=qM _ _ _ hlt;have HBo:Hid (∀ob,Bw w1 (wr.alloc ob)):=fun ob=>HQ.o.2.alloc HQ.o.2.size _
   have HBw:Hid (∀W,Bw w1 W->Bw w W):=fun W hW=>HB1.o.trans (hW.mono HB1.o.size)
   have HNo:Hid ((yT l.ts) b.ls[k]=false->y5 l.ts b=false):=fun h=>by rw[HG.o];exact zaH _ _ _ hlt h
   have HYes:Hid ((yT l.ts) b.ls[k]=true->(b.ls.take (k+1)).all (yT l.ts)=true):=fun h=>by rw[HSn.o,HQ.o.1,h];rfl
   have hL:=za hL1 (nSl hz1) HQ.o.2;have hzL:=nSl hz;have HSm:Hid b.ls[k].Small:=HK.o.ls.small k hlt;go_wp2_with fail
   have hbN:Bw wr (wr.alloc (.cells #[.s b.ls[k].tm,.s b.ls[k].rs,.i b.ls[k].mo,.i b.ls[k].fr] 148)):=bAl _ _;have hN:=zn wr #[.s b.ls[k].tm,.s b.ls[k].rs,.i b.ls[k].mo,.i b.ls[k].fr] 148;obtain⟨w2,hw2⟩:=xN (wr.alloc (.cells #[.s b.ls[k].tm,.s b.ls[k].rs,.i b.ls[k].mo,.i b.ls[k].fr] 148));have hn2:wr.heap.size<w2.heap.size:=by rw[hw2];simp
   rw[<- hw2]at hbN hN ⊢;have HB2:Hid (Bw w1 w2):=by unfold Hid;rw[hw2];exact HBo.o _
   clear hw2 d0 d1 d2 d3 hX hL hbN;refine(zcc _ _ l.ts b.ls[k].tm _ (HL.o.ts.mono (HBw.o _ HB2.o))).mono ?_;rintro e w3⟨rfl,hb3⟩;have HB3:=hid (HB2.o.trans (hb3.mono HB2.o.size));have hN3:=za hN hn2 hb3;have hn3:=nLt hn2 hb3.size;clear hb3 hN hn2 HB2;have HN1:∀v,zm b.ls[k].rs=v->Hid (∀W,Calls Tryz.prog 153 #[.s b.ls[k].rs] W fun e w'=>e=.returned (.bool v)/\w'=W):=fun v h W=>zf h (zB _ W HSm.o.rs)
   by_cases t1:yD l.ts b.ls[k].tm=true
   rotate_left
   ·have HF:Hid (y5 l.ts b=false):=HNo.o (by unfold yT;rw[bFi t1];rfl)
    rw[bFi t1];clear HN1 t1;go_wp2_with fail
    go_ret;exact⟨ze HF.o.symm,HBw.o _ HB3.o⟩
   rw[t1]
   by_cases t2:zm b.ls[k].rs=true
   rotate_left
   ·have HF:Hid (y5 l.ts b=false):=HNo.o (by unfold yT;rw[t1,bFi t2];rfl)
    have H2:=HN1 false (bFi t2);clear HN1 t1 t2;go_wp2_with fail
    refine(H2.o _).mono ?_;rintro e w4⟨rfl,rfl⟩;go_wp2_with fail
    go_ret;exact⟨ze HF.o.symm,HBw.o _ HB3.o⟩
   have H2:=HN1 true t2
   by_cases t3:jN b.ls[k].fr b.ls[k].mo 0 1000000=true
   ·have HY:Hid ((b.ls.take (k+1)).all (yT l.ts)=true):=HYes.o (by unfold yT;rw[t1,t2,t3];rfl)
    have H3:Hid (∀W,Calls Tryz.prog 169 #[.i b.ls[k].fr,.i b.ls[k].mo,.i 0,.i 1000000] W fun e w'=>e=.returned (.bool true)/\w'=W):=fun W=>zf t3 (zbD _ _ _ _ W)
    clear HN1 t1 t2 t3;go_wp2_with fail
    refine(H2.o _).mono ?_;rintro e w4⟨rfl,rfl⟩;go_wp2_with fail
    refine(H3.o _).mono ?_;rintro e w4⟨rfl,rfl⟩;go_wp2_with fail
    exact⟨⟨k+1,by omega,by go_num,HY.o,HB3.o⟩,zw hlt⟩
   ·have HF:Hid (y5 l.ts b=false):=HNo.o (by unfold yT;rw[t1,t2,bFi t3];rfl)
    have H3:Hid (∀W,Calls Tryz.prog 169 #[.i b.ls[k].fr,.i b.ls[k].mo,.i 0,.i 1000000] W fun e w'=>e=.returned (.bool false)/\w'=W):=fun W=>zf (bFi t3) (zbD _ _ _ _ W)
    clear HN1 t1 t2 t3;go_wp2_with fail
    refine(H2.o _).mono ?_;rintro e w4⟨rfl,rfl⟩;go_wp2_with fail
    refine(H3.o _).mono ?_;rintro e w4⟨rfl,rfl⟩;go_wp2_with fail
    go_ret;exact⟨ze HF.o.symm,HBw.o _ HB3.o⟩
  ·have e:k=b.ls.length:=by omega
   subst e
   have HE:Hid (y5 l.ts b=true):=by
    unfold Hid;rw[HG.o];have h:=HQ.o.1;rw[tOl (Nat.le_refl _)]at h;exact h
   have HBe:=hid (HB1.o.trans (HQ.o.2.mono HB1.o.size));clear hlt hk HQ;go_wp2_with fail
   go_ret;exact⟨ze HE.o.symm,HBe.o⟩
theorem zfF {α:Type}{key:α->α->Int}{ms:List α}{k:Nat}(h:zaa key ms k)(hk:k<ms.length)(hn:∀m (e:k=m+1),key (ms[m]'(by omega)) ms[k]<0):zaa key ms (k+1):=by
 intro i hi hik
 rcases Nat.lt_or_ge (i+1) k with hlt|hge
 ·exact h i hi hlt
 ·have e:k=i+1:=by omega
  subst e;exact hn i rfl
theorem zgE {α:Type}{key:α->α->Int}{ms:List α}{k:Nat}(hk:k<ms.length)(h:∀h0:0<k,key (ms[k-1]'(by omega)) ms[k]<0):∀m (e:k=m+1),key (ms[m]'(by omega)) ms[k]<0:=by
 intro m e;subst e;exact h (by omega)
theorem zhc {α:Type}{key:α->α->Int}{ms:List α}{k:Nat}(h:zaa key ms k)(hk:ms.length<=k):zaQ key ms=true:=by
 rw[zkT];exact fun i hi=>h i hi (by omega)
theorem zex {α:Type}{key:α->α->Int}{ms:List α}{k:Nat}(hk:k<ms.length)(h0:0<k)(hn:¬key (ms[k-1]'(by omega)) ms[k]<0):zaQ key ms=false:=by
 obtain⟨m,rfl⟩:∃m,k=m+1:=⟨k-1,by omega⟩
 exact zeB hk hn
theorem zky (a b:Gr):zcK a b<0↔a.no<b.no:=by
 unfold zcK zeG;split
 ·simp_all
 ·split <;> simp_all
def qJ (ss:List Shp)(o:Ob):List BA:=if zH ss o=true then zaq (shapeOf ss o.kd).fs o.vs else o.vs
theorem zoQ {ss:List Shp}{o:Ob}(h:yg ss=true):zjw ss o=qJ ss o:=by
 unfold zjw qJ zH
 by_cases h1:zC ss o.kd=true
 ·by_cases h2:o.vs.length=(shapeOf ss o.kd).fs.length
  ·rw[if_pos ⟨h1,h,h2⟩,if_pos (by rw[h1];simp[h2])]
  ·rw[if_neg (fun hh=>h2 hh.2.2),if_neg (by rw[h1];simp[h2])]
 ·rw[if_neg (fun hh=>h1 hh.1),if_neg (by simp[h1])]
theorem zfU (a0:OA)(cap0:Nat)(ss:List Shp)(o:Ob)(a a':OA)(cap cap':Nat)(w0 w:World)(hw0:yR w0 a0 ss)(hbb:Bw w0 w)(hc:zH ss o=true) :
 Calls Tryz.prog 98 #[.l a0 ss.length cap0,.agg #[.s o.kd,.s o.nm,.s o.tm,.l a o.vs.length cap,.bool o.en,.l a' o.hs.length cap',.i o.vr]] w fun e w'=>∃fa fcap,e=.returned (.tuple #[.l fa (shapeOf ss o.kd).fs.length fcap,.bool true])/\yj w0 fa (shapeOf ss o.kd).fs/\Bw w w':=by
 unfold zH at hc;simp only[Bool.and_eq_true,decide_eq_true_eq]at hc;have HK:=hid hc.1;have HL:=hid hc.2;clear hc;have hw:=hw0.mono hbb;have hl:=hw.len;unfold maxLen at hl;go_enter Tryz.func98,Tryz.ntmps98;go_wp2_with fail
 refine(yN _ _ _ _ _ (hw.mono (bAl _ _)) HK.o).mono ?_;rintro e w1⟨ix,hix,rfl,hsh,rfl⟩;have HSh:=hid hsh;clear hsh;obtain⟨b,off,rfl,hb0,hr⟩:=hw0.rows (by rintro rfl;simp at hix);obtain⟨fa,fcap,hs0⟩:=hr ix hix;have hs:=hs0.mono hb0 hbb;have hcl:=hs.list;have hfl:=hs0.flds;have hixI:(ix:Int)<(ss.length:Int):=by omega
 have hix0:decide ((ix:Int)<0)=false:=by simp
 have hneq:((ss[ix].fs.length:Int) != (o.vs.length:Int))=false:=by have h1:=HL.o;have h2:=HSh.o;rw[h2]at h1;simp[h1]
 have hbw:=nLt hb0 hbb.size;clear hr hs;go_wp2_with fail
 go_quiet (fail)
 go_wp2_with fail
 go_ret2
 rw[HSh.o];exact⟨fa,fcap,rfl,hfl,below_drewN (bAl _ _) _⟩
end Go.Proofs.YthdfpinbnncghaaGreat
