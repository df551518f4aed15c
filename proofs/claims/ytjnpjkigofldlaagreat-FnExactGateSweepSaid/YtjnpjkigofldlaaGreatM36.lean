import Derived.Test.YtjnpjkigofldlaaGreatM34
set_option maxHeartbeats 4000000
namespace Go.Proofs.YtjnpjkigofldlaaGreat
open Go.RowKit
variable {ss:List Shp}{o:Ob}
theorem zdN {P:Program}{f:FuncId}{args:AV}{w:World}{v v':Value}{R:World->Prop}(hb:v=v')(h:Calls P f args w fun e w'=>e=.returned v/\R w'):Calls P f args w fun e w'=>e=.returned v'/\R w':=by
 subst hb;exact h
def stage (ss:List Shp)(o:Ob):Nat->Bool
 | 0=>true
 | 1=>qH o
 | 2=>qH o&&qP o
 | 3=>qH o&&qP o&&qw o
 | 4=>whole ss o
 | _=>whole ss o&&decide ((jJ (shapeOf ss o.kd).fs o.vs).1=0)
def zhs (ss:List Shp)(o:Ob):Value:=znw (yI ss o).1 (yI ss o).2
theorem zhd (h:whole ss o=false):zhs ss o=.iface 296 (.agg #[.i 1,.i 0]):=by
 unfold zhs yI;rw[h];rfl
theorem zkR (h:whole ss o=true):zhs ss o=znw (jJ (shapeOf ss o.kd).fs o.vs).1 (jJ (shapeOf ss o.kd).fs o.vs).2:=by
 unfold zhs yI;rw[if_pos h]
theorem zfo (h:whole ss o=true):o.vs.length=(shapeOf ss o.kd).fs.length:=by
 unfold whole zq at h;simp only[Bool.and_eq_true,decide_eq_true_eq]at h;exact h.2.2
theorem zjW (a0:OA)(cap0:Nat)(ss:List Shp)(o:Ob)(a a':OA)(cap cap':Nat)(w:World)(hw:yU w a0 ss)(ho:qY w o a a') :
 Calls Tryz.prog 225 #[.l a0 ss.length cap0,.agg (oC o a a' cap cap')] w
  fun e w'=>e=.returned (zhs ss o)/\Bw w w':=by
 go_in;go_wp2
 go_loopw [10] (fun i wr=>∃k:Nat,k<=5/\i=.i k/\stage ss o k=true/\Below (w.heap.size+1+1) ((w.alloc (.cells (oC o a a' cap cap') 116)).alloc (.cells #[.func (.func 239) #[] #[],.func (.func 240) #[] #[],.func (.func 241) #[] #[],.func (.func 242) #[] #[],.func (.func 243) #[] #[]] 288)) wr) (fun i _=>5-(intOf i).toNat)
 case atStart=>exact⟨0,Nat.zero_le _,rfl,rfl,bRf _ _⟩
 case round=>
  obtain⟨k,hk,rfl,hstg,hBr⟩:=hrel;have HStg:=hid hstg;clear hstg;have hszr:w.heap.size+1<wr.heap.size:=by have:=hBr.size;simp at this;omega
  have hB:Bw w wr:=(zo _ _ _).trans (hBr.mono (by omega));have hX:∀j,wr.cell? (aD w.heap.size j)=(oC o a a' cap cap')[j]?:=fun j=>(hBr.cell (p:=(aD w.heap.size j)) (by simp;omega)).trans (by rw[World.cell?_alloc_lt _ _ (aD w.heap.size j) (by simp)];exact zI w _ _ j)
  have hF:∀j,wr.cell? (aD (w.heap.size+1) j)=(#[.func (.func 239) #[] #[],.func (.func 240) #[] #[],.func (.func 241) #[] #[],.func (.func 242) #[] #[],.func (.func 243) #[] #[]]:AV)[j]?:=fun j=>(hBr.cell (p:=(aD (w.heap.size+1) j)) (by simp)).trans (by rw[World.cell?_alloc_at _ _ _ _ (by simp)])
  have hor:=ho.mono hB;have hwr:=hw.mono hB;have hcases:k=0 \/ k=1 \/ k=2 \/ k=3 \/ k=4 \/ k=5:=by omega
  rcases hcases with rfl|rfl|rfl|rfl|rfl|rfl
  ·by_cases hc:qH o=true
   ·have HV:Hid (jE (qH o)=.nilIface):=by unfold Hid;rw[hc];rfl
    have HS:Hid (stage ss o (0+1)=true):=by
     have h0:=HStg.o;simp only[stage]at h0 ⊢
     simp[hc,Hid]
    clear hc;go_wp2_with fail
    refine(zdN HV.o (zfE _ _ _ _ _ _ _ _ _ hor)).mono ?_;rintro e w1⟨rfl,hb1⟩;go_wp2
    exact⟨⟨0+1,by omega,by rfl,HS.o,hBr.trans (hb1.mono (by omega))⟩,by simp[intOf]⟩
   ·have hc':(qH o)=false:=by simpa using hc
    have HV:Hid (jE (qH o)=.iface 296 (.agg #[.i 1,.i 0])):=by unfold Hid;rw[hc'];rfl
    have HW:Hid (zhs ss o=.iface 296 (.agg #[.i 1,.i 0])):=zhd (by unfold whole;rw[hc'];simp);clear hc hc';go_wp2_with fail
    refine(zdN HV.o (zfE _ _ _ _ _ _ _ _ _ hor)).mono ?_;rintro e w1⟨rfl,hb1⟩;go_wp2
    go_ret;exact⟨by rw[HW.o];rfl,hB.trans (hb1.mono (by omega))⟩
  ·by_cases hc:qP o=true
   ·have HV:Hid (jE (qP o)=.nilIface):=by unfold Hid;rw[hc];rfl
    have HS:Hid (stage ss o (1+1)=true):=by
     have h0:=HStg.o;simp only[stage]at h0 ⊢
     simp[h0,hc,Hid]
    clear hc;go_wp2_with fail
    refine(zdN HV.o (zfD _ _ _ _ _ _ _ _ _ hor)).mono ?_;rintro e w1⟨rfl,hb1⟩;go_wp2
    exact⟨⟨1+1,by omega,by rfl,HS.o,hBr.trans (hb1.mono (by omega))⟩,by simp[intOf]⟩
   ·have hc':(qP o)=false:=by simpa using hc
    have HV:Hid (jE (qP o)=.iface 296 (.agg #[.i 1,.i 0])):=by unfold Hid;rw[hc'];rfl
    have HW:Hid (zhs ss o=.iface 296 (.agg #[.i 1,.i 0])):=zhd (by unfold whole;rw[hc'];simp);clear hc hc';go_wp2_with fail
    refine(zdN HV.o (zfD _ _ _ _ _ _ _ _ _ hor)).mono ?_;rintro e w1⟨rfl,hb1⟩;go_wp2
    go_ret;exact⟨by rw[HW.o];rfl,hB.trans (hb1.mono (by omega))⟩
  ·by_cases hc:qw o=true
   ·have HV:Hid (jE (qw o)=.nilIface):=by unfold Hid;rw[hc];rfl
    have HS:Hid (stage ss o (2+1)=true):=by
     have h0:=HStg.o;simp only[stage]at h0 ⊢
     simp[h0,hc,Hid]
    clear hc;go_wp2_with fail
    refine(zdN HV.o (zdU _ _ _ _ _ _ _ _ _)).mono ?_;rintro e w1⟨rfl,hb1⟩;go_wp2
    exact⟨⟨2+1,by omega,by rfl,HS.o,hBr.trans (hb1.mono (by omega))⟩,by simp[intOf]⟩
   ·have hc':(qw o)=false:=by simpa using hc
    have HV:Hid (jE (qw o)=.iface 296 (.agg #[.i 1,.i 0])):=by unfold Hid;rw[hc'];rfl
    have HW:Hid (zhs ss o=.iface 296 (.agg #[.i 1,.i 0])):=zhd (by unfold whole;rw[hc'];simp);clear hc hc';go_wp2_with fail
    refine(zdN HV.o (zdU _ _ _ _ _ _ _ _ _)).mono ?_;rintro e w1⟨rfl,hb1⟩;go_wp2
    go_ret;exact⟨by rw[HW.o];rfl,hB.trans (hb1.mono (by omega))⟩
  ·by_cases hc:zq ss o=true
   ·have HV:Hid (jE (zq ss o)=.nilIface):=by unfold Hid;rw[hc];rfl
    have HS:Hid (stage ss o (3+1)=true):=by
     have h0:=HStg.o;simp only[stage,whole]at h0 ⊢
     simp[h0,hc,Hid]
    clear hc;go_wp2_with fail
    refine(zdN HV.o (zfC _ _ _ _ _ _ _ _ _ hwr hor)).mono ?_;rintro e w1⟨rfl,hb1⟩;go_wp2
    exact⟨⟨3+1,by omega,by rfl,HS.o,hBr.trans (hb1.mono (by omega))⟩,by simp[intOf]⟩
   ·have hc':(zq ss o)=false:=by simpa using hc
    have HV:Hid (jE (zq ss o)=.iface 296 (.agg #[.i 1,.i 0])):=by unfold Hid;rw[hc'];rfl
    have HW:Hid (zhs ss o=.iface 296 (.agg #[.i 1,.i 0])):=zhd (by unfold whole;rw[hc'];simp);clear hc hc';go_wp2_with fail
    refine(zdN HV.o (zfC _ _ _ _ _ _ _ _ _ hwr hor)).mono ?_;rintro e w1⟨rfl,hb1⟩;go_wp2
    go_ret;exact⟨by rw[HW.o];rfl,hB.trans (hb1.mono (by omega))⟩
  ·have hwh:whole ss o=true:=HStg.o
   have HW:Hid (zhs ss o=znw (jJ (shapeOf ss o.kd).fs o.vs).1 (jJ (shapeOf ss o.kd).fs o.vs).2):=zkR hwh
   by_cases hc:(jJ (shapeOf ss o.kd).fs o.vs).1=0
   ·have HV:Hid (znw (jJ (shapeOf ss o.kd).fs o.vs).1 (jJ (shapeOf ss o.kd).fs o.vs).2=.nilIface):=by unfold Hid;rw[hc];rfl
    have HS:Hid (stage ss o (4+1)=true):=by
     simp[stage,hwh,hc,Hid]
    have HCt:Hid (o.vs.length=(shapeOf ss o.kd).fs.length):=zfo hwh;clear hc hwh;go_wp2_with fail
    refine(zdN HV.o (ze6 _ _ _ _ _ _ _ _ _ hwr hor HCt.o)).mono ?_;rintro e w1⟨rfl,hb1⟩;go_wp2
    exact⟨⟨4+1,by omega,by rfl,HS.o,hBr.trans (hb1.mono (by omega))⟩,by simp[intOf]⟩
   ·have HV:Hid (znw (jJ (shapeOf ss o.kd).fs o.vs).1 (jJ (shapeOf ss o.kd).fs o.vs).2=.iface 296 (.agg #[.i (jJ (shapeOf ss o.kd).fs o.vs).1,.i (jJ (shapeOf ss o.kd).fs o.vs).2])):=zoa hc
    have HCt:=hid (zfo hwh);clear hc hwh;go_wp2_with fail
    refine(zdN HV.o (ze6 _ _ _ _ _ _ _ _ _ hwr hor HCt.o)).mono ?_;rintro e w1⟨rfl,hb1⟩;go_wp2
    go_ret;exact⟨by rw[HW.o,HV.o];rfl,hB.trans (hb1.mono (by omega))⟩
  ·have HW:Hid (zhs ss o=.nilIface):=by
    have h0:=HStg.o;simp only[stage,Bool.and_eq_true,decide_eq_true_eq]at h0;unfold Hid;rw[zkR h0.1,h0.2];rfl
   go_wp2
   go_ret;exact⟨by rw[HW.o];rfl,hB⟩
end Go.Proofs.YtjnpjkigofldlaaGreat
