import Derived.Test.YtihdafafigceiaaGreatM24
import Derived.Deep.RegionWith
import Derived.Deep.QuietTactic
import Derived.BigQuiet
import Derived.Test.YtihdafafigceiaaGreatM07
import Derived.Deep.RegionHeld3
set_option maxHeartbeats 4000000
namespace Go.Proofs.YtihdafafigceiaaGreat
open Go.RowKit
theorem zkA {c p:Int} (h:c ≠ 0):zkF c p = .iface 273 (.agg #[.int .i64 c,.int .i64 p]):=by simp [zkF,h]
theorem zd1 (a0:Option Addr) (cap0:Nat) (ss:List Shp) (o:Ob) (a a':Option Addr) (cap cap':Nat) (w:World) (hw:yI w a0 ss) (ho:qj w o a a') (hcnt:o.vs.length=(Gate.shapeOf ss o.kd).fs.length) :
 Calls Tryz.prog 209 #[.slice a0 ss.length cap0,.agg #[.string o.kd,.string o.nm,.string o.tm,.slice a o.vs.length cap,.bool o.en,.slice a' o.hs.length cap',.int .i64 o.vr]] w
  fun e w'=>e = .returned (zkF (Gate.jL (Gate.shapeOf ss o.kd).fs o.vs).1 (Gate.jL (Gate.shapeOf ss o.kd).fs o.vs).2)/\Below w.heap.size w w':=by
 have HC:Hid (o.vs.length=(Gate.shapeOf ss o.kd).fs.length):=hcnt
 clear hcnt
 go_enter Tryz.func209,Tryz.ntmps209
 go_wp2_with fail
 refine (zcp _).mono ?_
 rintro e w0 ⟨rfl,hw0⟩
 have hX0:∀ j,w0.cell? ⟨w.heap.size,j,none⟩=(#[.string o.kd,.string o.nm,.string o.tm,.slice a o.vs.length cap,.bool o.en,.slice a' o.hs.length cap',.int .i64 o.vr]:Array Value)[j]?:=fun j=>by
  rw [hw0,World.cell?_alloc_lt _ _ ⟨w.heap.size,j,none⟩ (by simp)];exact zm w _ _ j
 have hm0:w0.heap[w.heap.size+1]?=some (.map yM 4):=by
  rw [hw0];have:=alloc_at (w.alloc (.cells #[.string o.kd,.string o.nm,.string o.tm,.slice a o.vs.length cap,.bool o.en,.slice a' o.hs.length cap',.int .i64 o.vr] 115)) (.map yM 4);simpa using this
 have hB00:Below w.heap.size w w0:=by rw [hw0];exact zA _ _ _
 have hz0:w.heap.size+1 < w0.heap.size:=by rw [hw0];simp
 clear hw0
 simp only [World.size_alloc]
 have hzz:w.heap.size < w0.heap.size:=by omega
 go_wp2_with fail
 refine (qJ _ _ _ _ _ (hw.mono hB00)).mono ?_
 rintro e w1 ⟨fa,fcap,rfl,hfl0,hb1⟩
 have hX1:=za hX0 hzz hb1
 have hm1:=(hb1.block _ hz0).trans hm0
 have hz1:w.heap.size+1 < w1.heap.size:=by have:=hb1.size;omega
 have hB01:=hB00.trans (hb1.mono (by omega))
 have hfl1:=hfl0.mono hb1
 clear hX0 hm0 hb1 hfl0 hz0 hzz
 generalize hfs:(Gate.shapeOf ss o.kd).fs=fs at *
 have hlen:=hfl1.len
 unfold maxLen at hlen
 go_wp2_with fail
 go_loopw [22] (fun i wr=>∃ k:Nat,k<=fs.length/\i = .int .i64 k/\Gate.up (Gate.za5 fs o.vs) k=true/\Below w1.heap.size w1 wr) (fun i _=>fs.length - (intOf i).toNat)
 case atStart=>exact ⟨0,Nat.zero_le _,rfl,rfl,(Below.refl _ _).alloc (Nat.le_refl _) _⟩
 case round =>
  obtain ⟨k,hk,rfl,hup,hBr⟩:=hrel
  have hszr:=hBr.size
  have hB:Below w.heap.size w wr:=hB01.trans (hBr.mono (by omega))
  by_cases hlt:k < fs.length
  ·have hXr:=za hX1 (by omega) hBr
   have hmr:=(hBr.block _ hz1).trans hm1
   obtain ⟨b,off,rfl,hb,hr⟩:=hfl1.rows (by rintro rfl;simp at hlt)
   obtain ⟨wa,wcap,hf0⟩:=hr k hlt
   have hf:=hf0.mono hb hBr
   obtain ⟨c0,c1,c2,c3,c4,c5,c6,c7,c8,c9,c10⟩:=hf.load
   have hst:=hf.strs
   have hltv:k < o.vs.length:=by rw [HC.out];exact hlt
   obtain ⟨vb,voff,rfl,hvb,hvc⟩:=ho.vals.cells (by intro h;rw [h] at hltv;simp at hltv)
   have hcv:=(hB.cell (p:=⟨vb,voff+k,none⟩) hvb).trans (hvc k hltv)
   have hvs:=ho.vals.small _ (List.getElem_mem hltv)
   have hltI:(k:Int) < (fs.length:Int):=by omega
   have hltV:(k:Int) < (o.vs.length:Int):=by omega
   have hbr:b < wr.heap.size:=by omega
   have hvbr:vb < wr.heap.size:=by omega
   have hwr1:w.heap.size < wr.heap.size:=by omega
   have HFX:Hid (Gate.zdO fs o.vs k=Gate.zac fs[k] o.vs[k]):=Gate.zi9 hlt hltv
   have HS:Hid (Gate.zac fs[k] o.vs[k]=0->Gate.up (Gate.za5 fs o.vs) (k+1)=true):=fun h=>by
    rw [Gate.qZ,hup];unfold Gate.za5;rw [HFX.out,h];rfl
   have HN:Hid (∀ n:Int,n ≠ 0->Gate.zac fs[k] o.vs[k]=n->zkF (Gate.jL fs o.vs).1 (Gate.jL fs o.vs).2 = .iface 273 (.agg #[.int .i64 n,.int .i64 k])):=fun n hn0 h=>by
    rw [Gate.zjZ hlt hup (by unfold Gate.za5;rw [HFX.out,h];simp [hn0]),HFX.out,h];exact zkA hn0
   clear hX1 hm1 hr hf0 hf hup
   by_cases he:o.vs[k].size=0
   ·have hne:o.vs[k].toList.isEmpty=true:=by rw [Gate.zu];simp [he]
    have HE:Hid (o.vs[k].size=0):=he
    clear he
    by_cases hmu:fs[k].mu=true
    ·have HM:Hid (fs[k].mu=true):=hmu
     go_wp2_with fail
     go_ret
     have hv:=HN.out 2 (by decide) (by unfold Gate.zac;rw [if_pos HE.out,if_pos HM.out])
     exact ⟨by rw [hfs,hv];rfl,hB.alloc (by omega) _⟩
    ·have hmu':fs[k].mu=false:=by simpa using hmu
     have HM:Hid (fs[k].mu=false):=hmu'
     clear hmu
     go_wp2_with fail
     go_quiet (fail)
     go_wp2_with fail
     exact ⟨⟨k+1,by omega,by go_num,HS.out (by unfold Gate.zac;rw [if_pos HE.out,HM.out];rfl),below_drewN (hBr.alloc (by omega) _) _⟩,by simp [intOf];omega⟩
   ·have hne:o.vs[k].toList.isEmpty=false:=by rw [Gate.zu];simp [he]
    have HE:Hid (¬ o.vs[k].size=0):=he
    clear he
    by_cases hfit:Gate.fits fs[k].kd fs[k].ls fs[k].ms fs[k].ws o.vs[k]=true
    all_goals
     first
      | (have HFT:Hid (Gate.fits fs[k].kd fs[k].ls fs[k].ms fs[k].ws o.vs[k]=true):=hfit)
      | (have HFT:Hid (Gate.fits fs[k].kd fs[k].ls fs[k].ms fs[k].ws o.vs[k]=false):=by simpa [Hid] using hfit)
     clear hfit
     go_wp2_with fail
     have hbx:Below wr.heap.size wr ((wr.alloc (.cells #[.string fs[k].nm,.int .i64 fs[k].kd,.int .i64 fs[k].ls,.int .i64 fs[k].ms,.slice wa fs[k].ws.length wcap,.string fs[k].to,.int .i64 fs[k].rl,.bool fs[k].mu,.bool fs[k].fx,.string fs[k].df,.string fs[k].wg] 161)).drew):=((Below.refl _ _).alloc (Nat.le_refl _) _).drew
     have hmx:=(hbx.block _ (by omega)).trans hmr
     have hstx:=hst.mono hbx
     go_region_with (go_at_call 180;refine (zf HFT.out (zeQ _ _ _ _ _ _ _ _ _ _ _ _ _ _ _ _ (by exact hmx) hvs (by exact hstx))).mono ?_;rintro e w3 ⟨rfl,hb3⟩)
     all_goals go_wp2_with fail
    all_goals have hB3:Below wr.heap.size wr w3:=hbx.trans (hb3.mono (by simp))
    all_goals first
     | (have hft:Gate.fits fs[k].kd fs[k].ls fs[k].ms fs[k].ws o.vs[k]=true:=HFT.out
        exact ⟨⟨k+1,by omega,by go_num,HS.out (by unfold Gate.zac;rw [if_neg HE.out];unfold Gate.zez;rw [hft];rfl),hBr.trans (hB3.mono hszr)⟩,by simp [intOf];omega⟩)
     | (have hft:Gate.fits fs[k].kd fs[k].ls fs[k].ms fs[k].ws o.vs[k]=false:=HFT.out
        go_ret
        have hv:=HN.out 3 (by decide) (by unfold Gate.zac;rw [if_neg HE.out];unfold Gate.zez;rw [hft];rfl)
        exact ⟨by rw [hfs,hv];rfl,hB.trans (hB3.mono (by omega))⟩)
  ·have HF:Hid (Gate.jL fs o.vs=(0,0)):=by
    have e:k=fs.length:=by omega
    subst e;exact Gate.zhf hup
   clear hup
   go_wp2_with fail
   go_ret
   exact ⟨by rw [hfs,HF.out];rfl,hB⟩
theorem zcS {P:Program} {f:FuncId} {args:Array Value} {w:World} {v v':Value} {R:World->Prop} (hb:v=v') (h:Calls P f args w fun e w'=>e = .returned v/\R w'):Calls P f args w fun e w'=>e = .returned v'/\R w':=by
 subst hb;exact h
def stage (ss:List Shp) (o:Ob):Nat->Bool
 | 0=>true
 | 1=>Gate.qI o
 | 2=>Gate.qI o && Gate.qW o
 | 3=>Gate.qI o && Gate.qW o && Gate.qx o
 | 4=>Gate.whole ss o
 | _=>Gate.whole ss o && decide ((Gate.jL (Gate.shapeOf ss o.kd).fs o.vs).1=0)
def zfe (ss:List Shp) (o:Ob):Value:=zkF (Gate.yH ss o).1 (Gate.yH ss o).2
theorem zfy {ss:List Shp} {o:Ob} (h:Gate.whole ss o=false):zfe ss o = .iface 273 (.agg #[.int .i64 1,.int .i64 0]):=by
 unfold zfe Gate.yH;rw [h];rfl
theorem zi7 {ss:List Shp} {o:Ob} (h:Gate.whole ss o=true):zfe ss o=zkF (Gate.jL (Gate.shapeOf ss o.kd).fs o.vs).1 (Gate.jL (Gate.shapeOf ss o.kd).fs o.vs).2:=by
 unfold zfe Gate.yH;rw [if_pos h]
theorem zel {ss:List Shp} {o:Ob} (h:Gate.whole ss o=true):o.vs.length=(Gate.shapeOf ss o.kd).fs.length:=by
 unfold Gate.whole Gate.zx at h
 simp only [Bool.and_eq_true,decide_eq_true_eq] at h
 exact h.2.2
theorem zhq (a0:Option Addr) (cap0:Nat) (ss:List Shp) (o:Ob) (a a':Option Addr) (cap cap':Nat) (w:World) (hw:yI w a0 ss) (ho:qj w o a a') :
 Calls Tryz.prog 191 #[.slice a0 ss.length cap0,.agg #[.string o.kd,.string o.nm,.string o.tm,.slice a o.vs.length cap,.bool o.en,.slice a' o.hs.length cap',.int .i64 o.vr]] w
  fun e w'=>e = .returned (zfe ss o)/\Below w.heap.size w w':=by
 go_enter Tryz.func191,Tryz.ntmps191
 go_wp2_with fail
 go_loopw [10] (fun i wr=>∃ k:Nat,k<=5/\i = .int .i64 k/\stage ss o k=true/\Below (w.heap.size+1+1) ((w.alloc (.cells #[.string o.kd,.string o.nm,.string o.tm,.slice a o.vs.length cap,.bool o.en,.slice a' o.hs.length cap',.int .i64 o.vr] 115)).alloc (.cells #[.func (.func 205) #[] #[],.func (.func 206) #[] #[],.func (.func 207) #[] #[],.func (.func 208) #[] #[],.func (.func 209) #[] #[]] 265)) wr) (fun i _=>5 - (intOf i).toNat)
 case atStart=>exact ⟨0,Nat.zero_le _,rfl,rfl,Below.refl _ _⟩
 case round =>
  obtain ⟨k,hk,rfl,hstg,hBr⟩:=hrel
  have HStg:Hid (stage ss o k=true):=hstg
  clear hstg
  have hszr:w.heap.size+1 < wr.heap.size:=by have:=hBr.size;simp at this;omega
  have hB:Below w.heap.size w wr:=(zA _ _ _).trans (hBr.mono (by omega))
  have hX:∀ j,wr.cell? ⟨w.heap.size,j,none⟩=(#[.string o.kd,.string o.nm,.string o.tm,.slice a o.vs.length cap,.bool o.en,.slice a' o.hs.length cap',.int .i64 o.vr]:Array Value)[j]?:=fun j=>(hBr.cell (p:=⟨w.heap.size,j,none⟩) (by simp;omega)).trans (by rw [World.cell?_alloc_lt _ _ ⟨w.heap.size,j,none⟩ (by simp)];exact zm w _ _ j)
  have hF:∀ j,wr.cell? ⟨w.heap.size+1,j,none⟩=(#[.func (.func 205) #[] #[],.func (.func 206) #[] #[],.func (.func 207) #[] #[],.func (.func 208) #[] #[],.func (.func 209) #[] #[]]:Array Value)[j]?:=fun j=>(hBr.cell (p:=⟨w.heap.size+1,j,none⟩) (by simp)).trans (by rw [World.cell?_alloc_at _ _ _ _ (by simp)])
  have hor:=ho.mono hB
  have hwr:=hw.mono hB
  have hcases:k=0 \/ k=1 \/ k=2 \/ k=3 \/ k=4 \/ k=5:=by omega
  rcases hcases with rfl | rfl | rfl | rfl | rfl | rfl
  ·by_cases hc:Gate.qI o=true
   ·have HV:Hid (jO (Gate.qI o) = .nilIface):=by unfold Hid;rw [hc];rfl
    have HS:Hid (stage ss o (0+1)=true):=by
     have h0:=HStg.out
     simp only [stage] at h0 ⊢
     simp [hc,Hid]
    clear hc
    go_wp2_with fail
    refine (zcS HV.out (zeg _ _ _ _ _ _ _ _ _ hor)).mono ?_
    rintro e w1 ⟨rfl,hb1⟩
    go_wp2_with fail
    exact ⟨⟨0+1,by omega,by rfl,HS.out,hBr.trans (hb1.mono (by omega))⟩,by simp [intOf]⟩
   ·have hc':(Gate.qI o)=false:=by simpa using hc
    have HV:Hid (jO (Gate.qI o) = .iface 273 (.agg #[.int .i64 1,.int .i64 0])):=by unfold Hid;rw [hc'];rfl
    have HW:Hid (zfe ss o = .iface 273 (.agg #[.int .i64 1,.int .i64 0])):=zfy (by unfold Gate.whole;rw [hc'];simp)
    clear hc hc'
    go_wp2_with fail
    refine (zcS HV.out (zeg _ _ _ _ _ _ _ _ _ hor)).mono ?_
    rintro e w1 ⟨rfl,hb1⟩
    go_wp2_with fail
    go_ret
    exact ⟨by rw [HW.out];rfl,hB.trans (hb1.mono (by omega))⟩
  ·by_cases hc:Gate.qW o=true
   ·have HV:Hid (jO (Gate.qW o) = .nilIface):=by unfold Hid;rw [hc];rfl
    have HS:Hid (stage ss o (1+1)=true):=by
     have h0:=HStg.out
     simp only [stage] at h0 ⊢
     simp [h0,hc,Hid]
    clear hc
    go_wp2_with fail
    refine (zcS HV.out (zer _ _ _ _ _ _ _ _ _ hor)).mono ?_
    rintro e w1 ⟨rfl,hb1⟩
    go_wp2_with fail
    exact ⟨⟨1+1,by omega,by rfl,HS.out,hBr.trans (hb1.mono (by omega))⟩,by simp [intOf]⟩
   ·have hc':(Gate.qW o)=false:=by simpa using hc
    have HV:Hid (jO (Gate.qW o) = .iface 273 (.agg #[.int .i64 1,.int .i64 0])):=by unfold Hid;rw [hc'];rfl
    have HW:Hid (zfe ss o = .iface 273 (.agg #[.int .i64 1,.int .i64 0])):=zfy (by unfold Gate.whole;rw [hc'];simp)
    clear hc hc'
    go_wp2_with fail
    refine (zcS HV.out (zer _ _ _ _ _ _ _ _ _ hor)).mono ?_
    rintro e w1 ⟨rfl,hb1⟩
    go_wp2_with fail
    go_ret
    exact ⟨by rw [HW.out];rfl,hB.trans (hb1.mono (by omega))⟩
  ·by_cases hc:Gate.qx o=true
   ·have HV:Hid (jO (Gate.qx o) = .nilIface):=by unfold Hid;rw [hc];rfl
    have HS:Hid (stage ss o (2+1)=true):=by
     have h0:=HStg.out
     simp only [stage] at h0 ⊢
     simp [h0,hc,Hid]
    clear hc
    go_wp2_with fail
    refine (zcS HV.out (zdf _ _ _ _ _ _ _ _ _)).mono ?_
    rintro e w1 ⟨rfl,hb1⟩
    go_wp2_with fail
    exact ⟨⟨2+1,by omega,by rfl,HS.out,hBr.trans (hb1.mono (by omega))⟩,by simp [intOf]⟩
   ·have hc':(Gate.qx o)=false:=by simpa using hc
    have HV:Hid (jO (Gate.qx o) = .iface 273 (.agg #[.int .i64 1,.int .i64 0])):=by unfold Hid;rw [hc'];rfl
    have HW:Hid (zfe ss o = .iface 273 (.agg #[.int .i64 1,.int .i64 0])):=zfy (by unfold Gate.whole;rw [hc'];simp)
    clear hc hc'
    go_wp2_with fail
    refine (zcS HV.out (zdf _ _ _ _ _ _ _ _ _)).mono ?_
    rintro e w1 ⟨rfl,hb1⟩
    go_wp2_with fail
    go_ret
    exact ⟨by rw [HW.out];rfl,hB.trans (hb1.mono (by omega))⟩
  ·by_cases hc:Gate.zx ss o=true
   ·have HV:Hid (jO (Gate.zx ss o) = .nilIface):=by unfold Hid;rw [hc];rfl
    have HS:Hid (stage ss o (3+1)=true):=by
     have h0:=HStg.out
     simp only [stage,Gate.whole] at h0 ⊢
     simp [h0,hc,Hid]
    clear hc
    go_wp2_with fail
    refine (zcS HV.out (zej _ _ _ _ _ _ _ _ _ hwr hor)).mono ?_
    rintro e w1 ⟨rfl,hb1⟩
    go_wp2_with fail
    exact ⟨⟨3+1,by omega,by rfl,HS.out,hBr.trans (hb1.mono (by omega))⟩,by simp [intOf]⟩
   ·have hc':(Gate.zx ss o)=false:=by simpa using hc
    have HV:Hid (jO (Gate.zx ss o) = .iface 273 (.agg #[.int .i64 1,.int .i64 0])):=by unfold Hid;rw [hc'];rfl
    have HW:Hid (zfe ss o = .iface 273 (.agg #[.int .i64 1,.int .i64 0])):=zfy (by unfold Gate.whole;rw [hc'];simp)
    clear hc hc'
    go_wp2_with fail
    refine (zcS HV.out (zej _ _ _ _ _ _ _ _ _ hwr hor)).mono ?_
    rintro e w1 ⟨rfl,hb1⟩
    go_wp2_with fail
    go_ret
    exact ⟨by rw [HW.out];rfl,hB.trans (hb1.mono (by omega))⟩
  ·have hwh:Gate.whole ss o=true:=HStg.out
   have HW:Hid (zfe ss o=zkF (Gate.jL (Gate.shapeOf ss o.kd).fs o.vs).1 (Gate.jL (Gate.shapeOf ss o.kd).fs o.vs).2):=zi7 hwh
   by_cases hc:(Gate.jL (Gate.shapeOf ss o.kd).fs o.vs).1=0
   ·have HV:Hid (zkF (Gate.jL (Gate.shapeOf ss o.kd).fs o.vs).1 (Gate.jL (Gate.shapeOf ss o.kd).fs o.vs).2 = .nilIface):=by unfold Hid;rw [hc];rfl
    have HS:Hid (stage ss o (4+1)=true):=by
     simp [stage,hwh,hc,Hid]
    have HCt:Hid (o.vs.length=(Gate.shapeOf ss o.kd).fs.length):=zel hwh
    clear hc hwh
    go_wp2_with fail
    refine (zcS HV.out (zd1 _ _ _ _ _ _ _ _ _ hwr hor HCt.out)).mono ?_
    rintro e w1 ⟨rfl,hb1⟩
    go_wp2_with fail
    exact ⟨⟨4+1,by omega,by rfl,HS.out,hBr.trans (hb1.mono (by omega))⟩,by simp [intOf]⟩
   ·have HV:Hid (zkF (Gate.jL (Gate.shapeOf ss o.kd).fs o.vs).1 (Gate.jL (Gate.shapeOf ss o.kd).fs o.vs).2 = .iface 273 (.agg #[.int .i64 (Gate.jL (Gate.shapeOf ss o.kd).fs o.vs).1,.int .i64 (Gate.jL (Gate.shapeOf ss o.kd).fs o.vs).2])):=zkA hc
    have HCt:Hid (o.vs.length=(Gate.shapeOf ss o.kd).fs.length):=zel hwh
    clear hc hwh
    go_wp2_with fail
    refine (zcS HV.out (zd1 _ _ _ _ _ _ _ _ _ hwr hor HCt.out)).mono ?_
    rintro e w1 ⟨rfl,hb1⟩
    go_wp2_with fail
    go_ret
    exact ⟨by rw [HW.out,HV.out];rfl,hB.trans (hb1.mono (by omega))⟩
  ·have HW:Hid (zfe ss o = .nilIface):=by
    have h0:=HStg.out
    simp only [stage,Bool.and_eq_true,decide_eq_true_eq] at h0
    unfold Hid;rw [zi7 h0.1,h0.2];rfl
   go_wp2_with fail
   go_ret
   exact ⟨by rw [HW.out];rfl,hB⟩
structure Lg where
 tm:ByteArray
 rs:ByteArray
 mo:Int
 fr:Int
def Lg.cells (m:Lg):Array Value:=#[.string m.tm,.string m.rs,.int .i64 m.mo,.int .i64 m.fr]
structure Lg.Small (m:Lg):Prop where
 tm:m.tm.size<=maxLen
 rs:m.rs.size<=maxLen
structure zbY (w:World) (a:Option Addr) (ms:List Lg):Prop where
 len:ms.length<=maxLen
 small:∀ i (h:i < ms.length),ms[i].Small
 rows:ms ≠ []->∃ b off,a=some ⟨b,off,none⟩/\b < w.heap.size/\∀ i (h:i < ms.length),∀ j,j < 4->w.cell? ⟨b,off+i * 4+j,none⟩=ms[i].cells[j]?
theorem zbY.mono {w w':World} {a:Option Addr} {ms:List Lg} (h:zbY w a ms) (hl:Below w.heap.size w w'):zbY w' a ms :=
 ⟨h.len,h.small,fun hne=>by
  obtain ⟨b,off,ha,hb,hr⟩:=h.rows hne
  exact ⟨b,off,ha,Nat.lt_of_lt_of_le hb hl.size,fun i hi j hj=>(hl.cell (p:=⟨b,off+i * 4+j,none⟩) hb).trans (hr i hi j hj)⟩⟩
theorem zbY.load {w w':World} {a:Option Addr} {ms:List Lg} (h:zbY w a ms) (hl:Below w.heap.size w w') (i:Nat) (hi:i < ms.length):∃ b off,a=some ⟨b,off,none⟩/\b < w.heap.size /\
 w'.cell? ⟨b,off+i * 4,none⟩=some (.string ms[i].tm)/\w'.cell? ⟨b,off+i * 4+1,none⟩=some (.string ms[i].rs)/\w'.cell? ⟨b,off+i * 4+2,none⟩=some (.int .i64 ms[i].mo)/\w'.cell? ⟨b,off+i * 4+3,none⟩=some (.int .i64 ms[i].fr):=by
 obtain ⟨b,off,ha,hb,hr⟩:=h.rows (by rintro rfl;simp at hi)
 have hc:∀ j,j < 4->w'.cell? ⟨b,off+i * 4+j,none⟩=ms[i].cells[j]?:=fun j hj=>(hl.cell (p:=⟨b,off+i * 4+j,none⟩) hb).trans (hr i hi j hj)
 exact ⟨b,off,ha,hb,hc 0 (by omega),hc 1 (by omega),hc 2 (by omega),hc 3 (by omega)⟩
def Lg.sz (m:Lg):Nat:=m.tm.size+m.rs.size
def zdd (ms:List Lg):Nat:=(ms.map Lg.sz).sum
def zco (ms:List Lg):Nat:=ms.length+zdd ms
theorem zde (m:Lg) (left:Int) (w:World) (hm:m.Small) (h0:0<=left) (h1:left<=1048576) :
 Calls Tryz.prog 54 #[.agg m.cells,.int .i64 left] w fun e w'=>e = .returned (.int .i64 (zK m.sz left))/\Below w.heap.size w w':=by
 have k0:=hm.tm
 have k1:=hm.rs
 unfold maxLen at k0 k1
 unfold Lg.cells
 have hB:∀ ob,Below w.heap.size w (w.alloc ob):=fun ob=>(Below.refl _ _).alloc (Nat.le_refl _) _
 by_cases hf:(m.sz:Int)<=left
 ·have HF:Hid (zK m.sz left=left - m.tm.size - m.rs.size):=by
   unfold Hid;rw [zL hf];unfold Lg.sz;omega
  unfold Lg.sz at hf
  go_enter Tryz.func54,Tryz.ntmps54
  go_wp2_with fail
  go_ret
  exact ⟨zq HF.out.symm,hB _⟩
 ·have HF:Hid (zK m.sz left=-1):=zC hf
  have HN:Hid (¬ ((m.tm.size+m.rs.size:Nat):Int)<=left):=hf
  clear hf
  go_enter Tryz.func54,Tryz.ntmps54
  go_wp2_with fail
  all_goals go_ret
  all_goals first | exact ⟨zq HF.out.symm,hB _⟩ | (exfalso;have:=HN.out;simp at *;omega)
theorem zgf (m:Lg) (left:Int) (w:World) (hm:m.Small) (h0:0<=left) (h1:left<=1048576) (h:(m.sz:Int)<=left) :
 Calls Tryz.prog 54 #[.agg m.cells,.int .i64 left] w fun e w'=>e = .returned (.int .i64 (left - m.sz))/\Below w.heap.size w w':=by
 refine (zde m left w hm h0 h1).mono ?_
 rintro e w' ⟨rfl,hb⟩
 exact ⟨zq (zL h),hb⟩
theorem zhv (m:Lg) (left:Int) (w:World) (hm:m.Small) (h0:0<=left) (h1:left<=1048576) (h:¬ (m.sz:Int)<=left) :
 Calls Tryz.prog 54 #[.agg m.cells,.int .i64 left] w fun e w'=>e = .returned (.int .i64 (-1))/\Below w.heap.size w w':=by
 refine (zde m left w hm h0 h1).mono ?_
 rintro e w' ⟨rfl,hb⟩
 exact ⟨zq (zC h),hb⟩
theorem zfD (a:Option Addr) (cap:Nat) (ms:List Lg) (left:Int) (w:World) (hw:zbY w a ms) (h0:0<=left) (h1:left<=1048576) :
 Calls Tryz.prog 22 #[.slice a ms.length cap,.int .i64 left] w fun e w'=>e = .returned (.int .i64 (zK (zco ms) left))/\Below w.heap.size w w':=by
 have hl:=hw.len
 unfold maxLen at hl
 by_cases hfit:(ms.length:Int)<=left
 ·go_enter Tryz.func22,Tryz.ntmps22
  go_wp2_with fail
  go_loopw [1,5] (fun l i wr=>∃ k:Nat,k<=ms.length/\i = .int .i64 k/\0<=left - ms.length - zdd (ms.take k)/\l = .int .i64 (left - ms.length - zdd (ms.take k))/\Below w.heap.size w wr) (fun _ i _=>ms.length - (intOf i).toNat)
  case atStart=>exact ⟨0,Nat.zero_le _,rfl,by simp [zdd];omega,by simp [zdd],Below.refl _ _⟩
  case round =>
   obtain ⟨k,hk,rfl,hpos,rfl,hB⟩:=hrel
   by_cases hlt:k < ms.length
   ·obtain ⟨b,off,rfl,hb,c0,c1,c2,c3⟩:=hw.load hB k hlt
    have hsm:=hw.small k hlt
    have HS:Hid (zdd (ms.take (k+1))=zdd (ms.take k)+ms[k].sz):=za1 Lg.sz ms k hlt
    have hle:zdd (ms.take (k+1))<=zdd ms:=zcB Lg.sz ms (k+1)
    clear hw
    by_cases hneg:(ms[k].sz:Int)<=left - ms.length - zdd (ms.take k)
    ·have HNG:Hid ((ms[k].sz:Int)<=left - ms.length - zdd (ms.take k)):=hneg
     clear hle
     go_wp2_with fail
     refine (zgf _ _ _ hsm hpos (by omega) HNG.out).mono ?_
     rintro e w1 ⟨rfl,hb1⟩
     have hB1:=hB.trans (hb1.mono hB.size)
     clear hb1
     go_wp2_with fail
     exact ⟨⟨k+1,by omega,by go_num,by rw [HS.out];omega,by rw [HS.out];congr 1;omega,hB1⟩,by simp [intOf];omega⟩
    ·have HF:Hid (zK (zco ms) left=-1):=zC (by have:=HS.out;unfold zco;omega)
     have HNG:Hid (¬ (ms[k].sz:Int)<=left - ms.length - zdd (ms.take k)):=hneg
     clear hneg hle
     go_wp2_with fail
     refine (zhv _ _ _ hsm hpos (by omega) (by have:=HNG.out;omega)).mono ?_
     rintro e w1 ⟨rfl,hb1⟩
     have hB1:=hB.trans (hb1.mono hB.size)
     clear hb1
     go_wp2_with fail
     go_ret
     exact ⟨zq HF.out.symm,hB1⟩
   ·have HF:Hid (zK (zco ms) left=left - ms.length - zdd (ms.take k)):=by
     rw [List.take_of_length_le (by omega)] at hpos ⊢
     have e:zK (zco ms) left=left - zco ms:=zL (by unfold zco;omega)
     unfold Hid;rw [e];unfold zco;omega
    clear hw
    go_wp2
    go_ret
    exact ⟨zq HF.out.symm,hB⟩
 ·have HF:Hid (zK (zco ms) left=-1):=zC (by unfold zco;omega)
  clear hw
  go_enter Tryz.func22,Tryz.ntmps22
  go_wp2
  go_ret
  exact ⟨zq HF.out.symm,Below.refl _ _⟩
theorem zgK (m:Lg) (w:World):Calls Tryz.prog 78 #[.agg m.cells,.agg m.cells] w fun e w'=>e = .returned (.bool true)/\Below w.heap.size w w':=by
 unfold Lg.cells
 have hn2:(m.mo != m.mo)=false:=by simp
 have hn3:(m.fr != m.fr)=false:=by simp
 go_enter Tryz.func78,Tryz.ntmps78
 go_wp2_with fail
 go_ret
 exact ⟨rfl,zA _ _ _⟩
theorem zf9 (a a':Option Addr) (cap cap':Nat) (ms:List Lg) (w:World) (hw:zbY w a ms) (hw':zbY w a' ms) :
 Calls Tryz.prog 40 #[.slice a ms.length cap,.slice a' ms.length cap'] w fun e w'=>e = .returned (.bool true)/\Below w.heap.size w w':=by
 have hl:=hw.len
 unfold maxLen at hl
 have hnn:((ms.length:Int) != ms.length)=false:=by simp
 go_enter Tryz.func40,Tryz.ntmps40
 go_wp2_with fail
 go_loopw [5] (fun i wr=>∃ k:Nat,k<=ms.length/\i = .int .i64 k/\Below w.heap.size w wr) (fun i _=>ms.length - (intOf i).toNat)
 case atStart=>exact ⟨0,Nat.zero_le _,rfl,Below.refl _ _⟩
 case round =>
  obtain ⟨k,hk,rfl,hB⟩:=hrel
  by_cases hlt:k < ms.length
  ·obtain ⟨b,off,rfl,hb,c0,c1,c2,c3⟩:=hw.load hB k hlt
   obtain ⟨b',off',rfl,hb',d0,d1,d2,d3⟩:=hw'.load hB k hlt
   have hltI:(k:Int) < (ms.length:Int):=by omega
   clear hw hw'
   go_wp2_with fail
   go_region_with (go_at_call 78;refine (zgK ms[k] _).mono ?_;rintro e w1 ⟨rfl,hb1'⟩;have hb1:=(Below.refl wr.heap.size wr).drew.trans hb1';clear hb1')
   all_goals go_wp2_with fail
   all_goals exact ⟨⟨k+1,by omega,by go_num,hB.trans (hb1.mono hB.size)⟩,by simp [intOf];omega⟩
  ·clear hw hw'
   go_wp2_with fail
   go_ret
   exact ⟨rfl,hB⟩
structure jR (lo:Nat) (w:World) (bo:Nat) (ms:List Lg) (k:Nat):Prop where
 low:lo<=bo
 rows:∃ C,w.heap[bo]?=some (.cells C 130)/\C.size=ms.length * 4/\∀ i (h:i < ms.length),i < k->∀ j,j < 4->C[i * 4+j]?=ms[i].cells[j]?
theorem jR.at {lo:Nat} {w:World} {bo:Nat} {ms:List Lg} (h:jR lo w bo ms ms.length) (hs:∀ i (h:i < ms.length),ms[i].Small) (hl:ms.length<=maxLen):zbY w (some ⟨bo,0,none⟩) ms:=by
 obtain ⟨C,hC,hsz,hr⟩:=h.rows
 refine ⟨hl,hs,fun _=>⟨bo,0,rfl,(Array.getElem?_eq_some_iff.1 hC).1,fun i hi j hj=>?_⟩⟩
 rw [cell_of_block hC,Nat.zero_add]
 exact hr i hi hi j hj
theorem jR.later {lo:Nat} {w w':World} {bo:Nat} {ms:List Lg} {k:Nat} (h:jR lo w bo ms k) (hb:Below w.heap.size w w'):jR lo w' bo ms k:=by
 obtain ⟨C,hC,hsz,hr⟩:=h.rows
 exact ⟨h.low,C,(hb.block bo (Array.getElem?_eq_some_iff.1 hC).1).trans hC,hsz,hr⟩
theorem jR.above {lo:Nat} {w w':World} {bo:Nat} {ms:List Lg} {k:Nat} (h:jR lo w bo ms k) (ha:yO lo w w'):jR lo w' bo ms k:=by
 obtain ⟨C,hC,hr⟩:=h.rows
 exact ⟨h.low,C,(ha.same _ h.low (Array.getElem?_eq_some_iff.1 hC).1).trans hC,hr⟩
theorem jR.weaken {lo lo':Nat} {w:World} {bo:Nat} {ms:List Lg} {k:Nat} (h:jR lo w bo ms k) (hl:lo'<=lo):jR lo' w bo ms k:=⟨Nat.le_trans hl h.low,h.rows⟩
def zoj (w:World) (b o:Nat) (v0 v1 v2 v3:Value):World:=((((w.setCell ⟨b,o,none⟩ v0).setCell ⟨b,o+1,none⟩ v1).setCell ⟨b,o+2,none⟩ v2).setCell ⟨b,o+3,none⟩ v3)
def zij (C:Array Value) (o:Nat) (v0 v1 v2 v3:Value):Array Value:=((((C.setIfInBounds (o) v0).setIfInBounds (o+1) v1).setIfInBounds (o+2) v2).setIfInBounds (o+3) v3)
theorem zlm {w:World} {b o:Nat} {C:Array Value} {t:TypeId} (h:w.heap[b]?=some (.cells C t)) (v0 v1 v2 v3:Value):(zoj w b o v0 v1 v2 v3).heap[b]?=some (.cells (zij C o v0 v1 v2 v3) t) :=
 zk (zk (zk (zk h v0) v1) v2) v3
theorem zl6 {B:Nat} {a w:World} (h:Below B a w) {b:Nat} (hb:B<=b) (o:Nat) (v0 v1 v2 v3:Value):Below B a (zoj w b o v0 v1 v2 v3) :=
 (((h.setCell hb v0).setCell hb v1).setCell hb v2).setCell hb v3
theorem znc (C:Array Value) (o:Nat) (v0 v1 v2 v3:Value):(zij C o v0 v1 v2 v3).size=C.size:=by simp [zij]
theorem znP (C:Array Value) (o i:Nat) (v0 v1 v2 v3:Value) (h:i < o \/ o+4<=i):(zij C o v0 v1 v2 v3)[i]?=C[i]?:=by
 unfold zij
 iterate 4 rw [Array.getElem?_setIfInBounds,if_neg (by omega)]
theorem zos (C:Array Value) (o j:Nat) (v0 v1 v2 v3:Value) (hj:j < 4) (ho:o+4<=C.size):(zij C o v0 v1 v2 v3)[o+j]?=(#[v0,v1,v2,v3]:Array Value)[j]?:=by
 have hc:j=0 \/ j=1 \/ j=2 \/ j=3:=by omega
 unfold zij
 rcases hc with h | h | h | h <;> subst h <;> simp [Array.getElem?_setIfInBounds] <;> omega
theorem jR.put {lo:Nat} {w:World} {bo:Nat} {ms:List Lg} {k:Nat} (h:jR lo w bo ms k) (hk:k < ms.length) :
 jR lo (zoj w bo (k * 4) (.string ms[k].tm) (.string ms[k].rs) (.int .i64 ms[k].mo) (.int .i64 ms[k].fr)) bo ms (k+1):=by
 obtain ⟨C,hC,hsz,hr⟩:=h.rows
 refine ⟨h.low,_,zlm hC _ _ _ _,by rw [znc];exact hsz,fun i hi hik j hj=>?_⟩
 rcases Nat.lt_or_ge i k with hlt | hge
 ·rw [znP _ _ _ _ _ _ _ (by omega)]
  exact hr i hi hlt j hj
 ·have e:i=k:=by omega
  subst e
  rw [zos _ _ _ _ _ _ _ hj (by omega)]
  rfl
theorem zgd (m:Lg) (w:World) :
 Calls Tryz.prog 67 #[.agg m.cells] w fun e w'=>e = .returned (.agg m.cells)/\Below w.heap.size w w':=by
 unfold Lg.cells
 go_enter Tryz.func67,Tryz.ntmps67
 go_wp2_with fail
 refine bodyPost_ret (v:=.agg #[.string m.tm,.string m.rs,.int .i64 m.mo,.int .i64 m.fr]) (by simp [results,Tryz.results67,go_sem]) rfl ⟨rfl,?_⟩
 exact ((((Below.refl _ _).alloc (Nat.le_refl _) _).alloc (by simp) _).alloc (by simp;omega) _)
def zoT:Array Value:=#[.string ByteArray.empty,.string ByteArray.empty,.int .i64 0,.int .i64 0]
def znt (n:Nat):Array Value:=madeCells zoT (n * 4)
theorem zfp (a:Option Addr) (cap:Nat) (ms:List Lg) (w:World) (hw:zbY w a ms) (hl:ms.length<=1048576) :
 Calls Tryz.prog 31 #[.slice a ms.length cap] w fun e w'=>e = .returned (.slice (some ⟨w.heap.size,0,none⟩) ms.length ms.length)/\jR w.heap.size w' w.heap.size ms ms.length/\Below w.heap.size w w':=by
 have hmk:∀ w:World,(Instr.makeSlice 45 (.int .i64 ms.length) (.int .i64 ms.length)).run Tryz.prog w = .ok (.slice (some ⟨w.heap.size,0,none⟩) ms.length ms.length) (w.alloc (.cells (znt ms.length) 130)) :=
  fun w=>jI (P:=Tryz.prog) 45 130 (.agg zoT) 4 48 Tryz.underlying45 (by kernel_rfl) ms.length (by omega) (by omega) w
 go_enter Tryz.func31,Tryz.ntmps31
 go_wp2_with fail
 clear hmk
 go_loopw [4] (fun i wr=>∃ k:Nat,k<=ms.length/\i = .int .i64 k/\jR w.heap.size wr w.heap.size ms k/\Below w.heap.size w wr) (fun i _=>ms.length - (intOf i).toNat)
 case atStart=>exact ⟨0,Nat.zero_le _,rfl,⟨Nat.le_refl _,znt ms.length,(MapKept.heap_alloc w _).1,size_madeCells _ _,fun i _ h=>absurd h (by omega)⟩,(Below.refl _ _).alloc (Nat.le_refl _) _⟩
 case round =>
  obtain ⟨k,hk,rfl,hown,hB⟩:=hrel
  by_cases hlt:k < ms.length
  ·obtain ⟨b,off,rfl,hb,c0,c1,c2,c3⟩:=hw.load hB k hlt
   have hltI:(k:Int) < (ms.length:Int):=by omega
   clear hw
   go_wp2_with fail
   refine (zgd ms[k] _).mono ?_
   rintro e w1 ⟨rfl,hb1⟩
   have hB1:=hB.trans (hb1.mono hB.size)
   have hown1:=hown.later hb1
   have hbo:w.heap.size < wr.heap.size:=by
    obtain ⟨C',hC',_⟩:=hown.rows
    exact (Array.getElem?_eq_some_iff.1 hC').1
   obtain ⟨C,hC,hsz,_⟩:=hown1.rows
   have hfz:∀ o,w1.frozen? ⟨w.heap.size,o,none⟩=false:=fun o=>zi hC
   have hex:∀ o,o < ms.length * 4->∃ v,w1.cell? ⟨w.heap.size,o,none⟩=some v:=fun o ho=>⟨C[o]'(by omega),by rw [cell_of_block hC];exact Array.getElem?_eq_getElem (by omega)⟩
   obtain ⟨v0,hv0⟩:=hex (k * 4) (by omega)
   obtain ⟨v1,hv1⟩:=hex (k * 4+1) (by omega)
   obtain ⟨v2,hv2⟩:=hex (k * 4+2) (by omega)
   obtain ⟨v3,hv3⟩:=hex (k * 4+3) (by omega)
   have HP:Hid (jR w.heap.size w1 w.heap.size ms k):=hown1
   clear hex hC hsz c0 c1 c2 c3 hown hown1
   unfold Lg.cells
   go_wp2_with fail
   exact ⟨⟨k+1,by omega,by go_num,HP.out.put hlt,zl6 hB1 (Nat.le_refl _) _ _ _ _ _⟩,by simp [intOf];omega⟩
  ·have HF:Hid (jR w.heap.size wr w.heap.size ms ms.length):=by
    have e:k=ms.length:=by omega
    subst e;exact hown
   clear hw hown
   go_wp2_with fail
   go_ret
   exact ⟨rfl,HF.out,hB⟩
structure Pu where
 dr:ByteArray
 tm:ByteArray
 rs:ByteArray
 am:Int
 un:Int
def Pu.cells (m:Pu):Array Value:=#[.string m.dr,.string m.tm,.string m.rs,.int .i64 m.am,.int .i64 m.un]
structure Pu.Small (m:Pu):Prop where
 dr:m.dr.size<=maxLen
 tm:m.tm.size<=maxLen
 rs:m.rs.size<=maxLen
structure zcO (w:World) (a:Option Addr) (ms:List Pu):Prop where
 len:ms.length<=maxLen
 small:∀ i (h:i < ms.length),ms[i].Small
 rows:ms ≠ []->∃ b off,a=some ⟨b,off,none⟩/\b < w.heap.size/\∀ i (h:i < ms.length),∀ j,j < 5->w.cell? ⟨b,off+i * 5+j,none⟩=ms[i].cells[j]?
theorem zcO.mono {w w':World} {a:Option Addr} {ms:List Pu} (h:zcO w a ms) (hl:Below w.heap.size w w'):zcO w' a ms :=
 ⟨h.len,h.small,fun hne=>by
  obtain ⟨b,off,ha,hb,hr⟩:=h.rows hne
  exact ⟨b,off,ha,Nat.lt_of_lt_of_le hb hl.size,fun i hi j hj=>(hl.cell (p:=⟨b,off+i * 5+j,none⟩) hb).trans (hr i hi j hj)⟩⟩
theorem zcO.load {w w':World} {a:Option Addr} {ms:List Pu} (h:zcO w a ms) (hl:Below w.heap.size w w') (i:Nat) (hi:i < ms.length):∃ b off,a=some ⟨b,off,none⟩/\b < w.heap.size /\
 w'.cell? ⟨b,off+i * 5,none⟩=some (.string ms[i].dr)/\w'.cell? ⟨b,off+i * 5+1,none⟩=some (.string ms[i].tm)/\w'.cell? ⟨b,off+i * 5+2,none⟩=some (.string ms[i].rs)/\w'.cell? ⟨b,off+i * 5+3,none⟩=some (.int .i64 ms[i].am)/\w'.cell? ⟨b,off+i * 5+4,none⟩=some (.int .i64 ms[i].un):=by
 obtain ⟨b,off,ha,hb,hr⟩:=h.rows (by rintro rfl;simp at hi)
 have hc:∀ j,j < 5->w'.cell? ⟨b,off+i * 5+j,none⟩=ms[i].cells[j]?:=fun j hj=>(hl.cell (p:=⟨b,off+i * 5+j,none⟩) hb).trans (hr i hi j hj)
 exact ⟨b,off,ha,hb,hc 0 (by omega),hc 1 (by omega),hc 2 (by omega),hc 3 (by omega),hc 4 (by omega)⟩
def Pu.sz (m:Pu):Nat:=m.dr.size+m.tm.size+m.rs.size
def zdj (ms:List Pu):Nat:=(ms.map Pu.sz).sum
def zcJ (ms:List Pu):Nat:=ms.length+zdj ms
theorem zd2 (m:Pu) (left:Int) (w:World) (hm:m.Small) (h0:0<=left) (h1:left<=1048576) :
 Calls Tryz.prog 55 #[.agg m.cells,.int .i64 left] w fun e w'=>e = .returned (.int .i64 (zK m.sz left))/\Below w.heap.size w w':=by
 have k0:=hm.dr
 have k1:=hm.tm
 have k2:=hm.rs
 unfold maxLen at k0 k1 k2
 unfold Pu.cells
 have hB:∀ ob,Below w.heap.size w (w.alloc ob):=fun ob=>(Below.refl _ _).alloc (Nat.le_refl _) _
 by_cases hf:(m.sz:Int)<=left
 ·have HF:Hid (zK m.sz left=left - m.dr.size - m.tm.size - m.rs.size):=by
   unfold Hid;rw [zL hf];unfold Pu.sz;omega
  unfold Pu.sz at hf
  go_enter Tryz.func55,Tryz.ntmps55
  go_wp2_with fail
  go_ret
  exact ⟨zq HF.out.symm,hB _⟩
 ·have HF:Hid (zK m.sz left=-1):=zC hf
  have HN:Hid (¬ ((m.dr.size+m.tm.size+m.rs.size:Nat):Int)<=left):=hf
  clear hf
  go_enter Tryz.func55,Tryz.ntmps55
  go_wp2_with fail
  all_goals go_ret
  all_goals first | exact ⟨zq HF.out.symm,hB _⟩ | (exfalso;have:=HN.out;simp at *;omega)
theorem zhL (m:Pu) (left:Int) (w:World) (hm:m.Small) (h0:0<=left) (h1:left<=1048576) (h:(m.sz:Int)<=left) :
 Calls Tryz.prog 55 #[.agg m.cells,.int .i64 left] w fun e w'=>e = .returned (.int .i64 (left - m.sz))/\Below w.heap.size w w':=by
 refine (zd2 m left w hm h0 h1).mono ?_
 rintro e w' ⟨rfl,hb⟩
 exact ⟨zq (zL h),hb⟩
theorem zib (m:Pu) (left:Int) (w:World) (hm:m.Small) (h0:0<=left) (h1:left<=1048576) (h:¬ (m.sz:Int)<=left) :
 Calls Tryz.prog 55 #[.agg m.cells,.int .i64 left] w fun e w'=>e = .returned (.int .i64 (-1))/\Below w.heap.size w w':=by
 refine (zd2 m left w hm h0 h1).mono ?_
 rintro e w' ⟨rfl,hb⟩
 exact ⟨zq (zC h),hb⟩
theorem zgI (a:Option Addr) (cap:Nat) (ms:List Pu) (left:Int) (w:World) (hw:zcO w a ms) (h0:0<=left) (h1:left<=1048576) :
 Calls Tryz.prog 23 #[.slice a ms.length cap,.int .i64 left] w fun e w'=>e = .returned (.int .i64 (zK (zcJ ms) left))/\Below w.heap.size w w':=by
 have hl:=hw.len
 unfold maxLen at hl
 by_cases hfit:(ms.length:Int)<=left
 ·go_enter Tryz.func23,Tryz.ntmps23
  go_wp2_with fail
  go_loopw [1,5] (fun l i wr=>∃ k:Nat,k<=ms.length/\i = .int .i64 k/\0<=left - ms.length - zdj (ms.take k)/\l = .int .i64 (left - ms.length - zdj (ms.take k))/\Below w.heap.size w wr) (fun _ i _=>ms.length - (intOf i).toNat)
  case atStart=>exact ⟨0,Nat.zero_le _,rfl,by simp [zdj];omega,by simp [zdj],Below.refl _ _⟩
  case round =>
   obtain ⟨k,hk,rfl,hpos,rfl,hB⟩:=hrel
   by_cases hlt:k < ms.length
   ·obtain ⟨b,off,rfl,hb,c0,c1,c2,c3,c4⟩:=hw.load hB k hlt
    have hsm:=hw.small k hlt
    have HS:Hid (zdj (ms.take (k+1))=zdj (ms.take k)+ms[k].sz):=za1 Pu.sz ms k hlt
    have hle:zdj (ms.take (k+1))<=zdj ms:=zcB Pu.sz ms (k+1)
    clear hw
    by_cases hneg:(ms[k].sz:Int)<=left - ms.length - zdj (ms.take k)
    ·have HNG:Hid ((ms[k].sz:Int)<=left - ms.length - zdj (ms.take k)):=hneg
     clear hle
     go_wp2_with fail
     refine (zhL _ _ _ hsm hpos (by omega) HNG.out).mono ?_
     rintro e w1 ⟨rfl,hb1⟩
     have hB1:=hB.trans (hb1.mono hB.size)
     clear hb1
     go_wp2_with fail
     exact ⟨⟨k+1,by omega,by go_num,by rw [HS.out];omega,by rw [HS.out];congr 1;omega,hB1⟩,by simp [intOf];omega⟩
    ·have HF:Hid (zK (zcJ ms) left=-1):=zC (by have:=HS.out;unfold zcJ;omega)
     have HNG:Hid (¬ (ms[k].sz:Int)<=left - ms.length - zdj (ms.take k)):=hneg
     clear hneg hle
     go_wp2_with fail
     refine (zib _ _ _ hsm hpos (by omega) (by have:=HNG.out;omega)).mono ?_
     rintro e w1 ⟨rfl,hb1⟩
     have hB1:=hB.trans (hb1.mono hB.size)
     clear hb1
     go_wp2_with fail
     go_ret
     exact ⟨zq HF.out.symm,hB1⟩
   ·have HF:Hid (zK (zcJ ms) left=left - ms.length - zdj (ms.take k)):=by
     rw [List.take_of_length_le (by omega)] at hpos ⊢
     have e:zK (zcJ ms) left=left - zcJ ms:=zL (by unfold zcJ;omega)
     unfold Hid;rw [e];unfold zcJ;omega
    clear hw
    go_wp2
    go_ret
    exact ⟨zq HF.out.symm,hB⟩
 ·have HF:Hid (zK (zcJ ms) left=-1):=zC (by unfold zcJ;omega)
  clear hw
  go_enter Tryz.func23,Tryz.ntmps23
  go_wp2
  go_ret
  exact ⟨zq HF.out.symm,Below.refl _ _⟩
theorem zhG (m:Pu) (w:World):Calls Tryz.prog 79 #[.agg m.cells,.agg m.cells] w fun e w'=>e = .returned (.bool true)/\Below w.heap.size w w':=by
 unfold Pu.cells
 have hn3:(m.am != m.am)=false:=by simp
 have hn4:(m.un != m.un)=false:=by simp
 go_enter Tryz.func79,Tryz.ntmps79
 go_wp2_with fail
 go_ret
 exact ⟨rfl,zA _ _ _⟩
theorem zgG (a a':Option Addr) (cap cap':Nat) (ms:List Pu) (w:World) (hw:zcO w a ms) (hw':zcO w a' ms) :
 Calls Tryz.prog 41 #[.slice a ms.length cap,.slice a' ms.length cap'] w fun e w'=>e = .returned (.bool true)/\Below w.heap.size w w':=by
 have hl:=hw.len
 unfold maxLen at hl
 have hnn:((ms.length:Int) != ms.length)=false:=by simp
 go_enter Tryz.func41,Tryz.ntmps41
 go_wp2_with fail
 go_loopw [5] (fun i wr=>∃ k:Nat,k<=ms.length/\i = .int .i64 k/\Below w.heap.size w wr) (fun i _=>ms.length - (intOf i).toNat)
 case atStart=>exact ⟨0,Nat.zero_le _,rfl,Below.refl _ _⟩
 case round =>
  obtain ⟨k,hk,rfl,hB⟩:=hrel
  by_cases hlt:k < ms.length
  ·obtain ⟨b,off,rfl,hb,c0,c1,c2,c3,c4⟩:=hw.load hB k hlt
   obtain ⟨b',off',rfl,hb',d0,d1,d2,d3,d4⟩:=hw'.load hB k hlt
   have hltI:(k:Int) < (ms.length:Int):=by omega
   clear hw hw'
   go_wp2_with fail
   go_region_with (go_at_call 79;refine (zhG ms[k] _).mono ?_;rintro e w1 ⟨rfl,hb1'⟩;have hb1:=(Below.refl wr.heap.size wr).drew.trans hb1';clear hb1')
   all_goals go_wp2_with fail
   all_goals exact ⟨⟨k+1,by omega,by go_num,hB.trans (hb1.mono hB.size)⟩,by simp [intOf];omega⟩
  ·clear hw hw'
   go_wp2_with fail
   go_ret
   exact ⟨rfl,hB⟩
structure jT (lo:Nat) (w:World) (bo:Nat) (ms:List Pu) (k:Nat):Prop where
 low:lo<=bo
 rows:∃ C,w.heap[bo]?=some (.cells C 132)/\C.size=ms.length * 5/\∀ i (h:i < ms.length),i < k->∀ j,j < 5->C[i * 5+j]?=ms[i].cells[j]?
theorem jT.at {lo:Nat} {w:World} {bo:Nat} {ms:List Pu} (h:jT lo w bo ms ms.length) (hs:∀ i (h:i < ms.length),ms[i].Small) (hl:ms.length<=maxLen):zcO w (some ⟨bo,0,none⟩) ms:=by
 obtain ⟨C,hC,hsz,hr⟩:=h.rows
 refine ⟨hl,hs,fun _=>⟨bo,0,rfl,(Array.getElem?_eq_some_iff.1 hC).1,fun i hi j hj=>?_⟩⟩
 rw [cell_of_block hC,Nat.zero_add]
 exact hr i hi hi j hj
theorem jT.later {lo:Nat} {w w':World} {bo:Nat} {ms:List Pu} {k:Nat} (h:jT lo w bo ms k) (hb:Below w.heap.size w w'):jT lo w' bo ms k:=by
 obtain ⟨C,hC,hsz,hr⟩:=h.rows
 exact ⟨h.low,C,(hb.block bo (Array.getElem?_eq_some_iff.1 hC).1).trans hC,hsz,hr⟩
theorem jT.above {lo:Nat} {w w':World} {bo:Nat} {ms:List Pu} {k:Nat} (h:jT lo w bo ms k) (ha:yO lo w w'):jT lo w' bo ms k:=by
 obtain ⟨C,hC,hr⟩:=h.rows
 exact ⟨h.low,C,(ha.same _ h.low (Array.getElem?_eq_some_iff.1 hC).1).trans hC,hr⟩
theorem jT.weaken {lo lo':Nat} {w:World} {bo:Nat} {ms:List Pu} {k:Nat} (h:jT lo w bo ms k) (hl:lo'<=lo):jT lo' w bo ms k:=⟨Nat.le_trans hl h.low,h.rows⟩
def zoF (w:World) (b o:Nat) (v0 v1 v2 v3 v4:Value):World:=(((((w.setCell ⟨b,o,none⟩ v0).setCell ⟨b,o+1,none⟩ v1).setCell ⟨b,o+2,none⟩ v2).setCell ⟨b,o+3,none⟩ v3).setCell ⟨b,o+4,none⟩ v4)
def ziV (C:Array Value) (o:Nat) (v0 v1 v2 v3 v4:Value):Array Value:=(((((C.setIfInBounds (o) v0).setIfInBounds (o+1) v1).setIfInBounds (o+2) v2).setIfInBounds (o+3) v3).setIfInBounds (o+4) v4)
theorem zk9 {w:World} {b o:Nat} {C:Array Value} {t:TypeId} (h:w.heap[b]?=some (.cells C t)) (v0 v1 v2 v3 v4:Value):(zoF w b o v0 v1 v2 v3 v4).heap[b]?=some (.cells (ziV C o v0 v1 v2 v3 v4) t) :=
 zk (zk (zk (zk (zk h v0) v1) v2) v3) v4
theorem zl2 {B:Nat} {a w:World} (h:Below B a w) {b:Nat} (hb:B<=b) (o:Nat) (v0 v1 v2 v3 v4:Value):Below B a (zoF w b o v0 v1 v2 v3 v4) :=
 ((((h.setCell hb v0).setCell hb v1).setCell hb v2).setCell hb v3).setCell hb v4
theorem zmA (C:Array Value) (o:Nat) (v0 v1 v2 v3 v4:Value):(ziV C o v0 v1 v2 v3 v4).size=C.size:=by simp [ziV]
theorem znS (C:Array Value) (o i:Nat) (v0 v1 v2 v3 v4:Value) (h:i < o \/ o+5<=i):(ziV C o v0 v1 v2 v3 v4)[i]?=C[i]?:=by
 unfold ziV
 iterate 5 rw [Array.getElem?_setIfInBounds,if_neg (by omega)]
theorem zog (C:Array Value) (o j:Nat) (v0 v1 v2 v3 v4:Value) (hj:j < 5) (ho:o+5<=C.size):(ziV C o v0 v1 v2 v3 v4)[o+j]?=(#[v0,v1,v2,v3,v4]:Array Value)[j]?:=by
 have hc:j=0 \/ j=1 \/ j=2 \/ j=3 \/ j=4:=by omega
 unfold ziV
 rcases hc with h | h | h | h | h <;> subst h <;> simp [Array.getElem?_setIfInBounds] <;> omega
theorem jT.put {lo:Nat} {w:World} {bo:Nat} {ms:List Pu} {k:Nat} (h:jT lo w bo ms k) (hk:k < ms.length) :
 jT lo (zoF w bo (k * 5) (.string ms[k].dr) (.string ms[k].tm) (.string ms[k].rs) (.int .i64 ms[k].am) (.int .i64 ms[k].un)) bo ms (k+1):=by
 obtain ⟨C,hC,hsz,hr⟩:=h.rows
 refine ⟨h.low,_,zk9 hC _ _ _ _ _,by rw [zmA];exact hsz,fun i hi hik j hj=>?_⟩
 rcases Nat.lt_or_ge i k with hlt | hge
 ·rw [znS _ _ _ _ _ _ _ _ (by omega)]
  exact hr i hi hlt j hj
 ·have e:i=k:=by omega
  subst e
  rw [zog _ _ _ _ _ _ _ _ hj (by omega)]
  rfl
theorem zhE (m:Pu) (w:World) :
 Calls Tryz.prog 68 #[.agg m.cells] w fun e w'=>e = .returned (.agg m.cells)/\Below w.heap.size w w':=by
 unfold Pu.cells
 go_enter Tryz.func68,Tryz.ntmps68
 go_wp2_with fail
 refine bodyPost_ret (v:=.agg #[.string m.dr,.string m.tm,.string m.rs,.int .i64 m.am,.int .i64 m.un]) (by simp [results,Tryz.results68,go_sem]) rfl ⟨rfl,?_⟩
 exact ((((Below.refl _ _).alloc (Nat.le_refl _) _).alloc (by simp) _).alloc (by simp;omega) _)
def zov:Array Value:=#[.string ByteArray.empty,.string ByteArray.empty,.string ByteArray.empty,.int .i64 0,.int .i64 0]
def znx (n:Nat):Array Value:=madeCells zov (n * 5)
theorem zgu (a:Option Addr) (cap:Nat) (ms:List Pu) (w:World) (hw:zcO w a ms) (hl:ms.length<=1048576) :
 Calls Tryz.prog 32 #[.slice a ms.length cap] w fun e w'=>e = .returned (.slice (some ⟨w.heap.size,0,none⟩) ms.length ms.length)/\jT w.heap.size w' w.heap.size ms ms.length/\Below w.heap.size w w':=by
 have hmk:∀ w:World,(Instr.makeSlice 46 (.int .i64 ms.length) (.int .i64 ms.length)).run Tryz.prog w = .ok (.slice (some ⟨w.heap.size,0,none⟩) ms.length ms.length) (w.alloc (.cells (znx ms.length) 132)) :=
  fun w=>jI (P:=Tryz.prog) 46 132 (.agg zov) 5 64 Tryz.underlying46 (by kernel_rfl) ms.length (by omega) (by omega) w
 go_enter Tryz.func32,Tryz.ntmps32
 go_wp2_with fail
 clear hmk
 go_loopw [4] (fun i wr=>∃ k:Nat,k<=ms.length/\i = .int .i64 k/\jT w.heap.size wr w.heap.size ms k/\Below w.heap.size w wr) (fun i _=>ms.length - (intOf i).toNat)
 case atStart=>exact ⟨0,Nat.zero_le _,rfl,⟨Nat.le_refl _,znx ms.length,(MapKept.heap_alloc w _).1,size_madeCells _ _,fun i _ h=>absurd h (by omega)⟩,(Below.refl _ _).alloc (Nat.le_refl _) _⟩
 case round =>
  obtain ⟨k,hk,rfl,hown,hB⟩:=hrel
  by_cases hlt:k < ms.length
  ·obtain ⟨b,off,rfl,hb,c0,c1,c2,c3,c4⟩:=hw.load hB k hlt
   have hltI:(k:Int) < (ms.length:Int):=by omega
   clear hw
   go_wp2_with fail
   refine (zhE ms[k] _).mono ?_
   rintro e w1 ⟨rfl,hb1⟩
   have hB1:=hB.trans (hb1.mono hB.size)
   have hown1:=hown.later hb1
   have hbo:w.heap.size < wr.heap.size:=by
    obtain ⟨C',hC',_⟩:=hown.rows
    exact (Array.getElem?_eq_some_iff.1 hC').1
   obtain ⟨C,hC,hsz,_⟩:=hown1.rows
   have hfz:∀ o,w1.frozen? ⟨w.heap.size,o,none⟩=false:=fun o=>zi hC
   have hex:∀ o,o < ms.length * 5->∃ v,w1.cell? ⟨w.heap.size,o,none⟩=some v:=fun o ho=>⟨C[o]'(by omega),by rw [cell_of_block hC];exact Array.getElem?_eq_getElem (by omega)⟩
   obtain ⟨v0,hv0⟩:=hex (k * 5) (by omega)
   obtain ⟨v1,hv1⟩:=hex (k * 5+1) (by omega)
   obtain ⟨v2,hv2⟩:=hex (k * 5+2) (by omega)
   obtain ⟨v3,hv3⟩:=hex (k * 5+3) (by omega)
   obtain ⟨v4,hv4⟩:=hex (k * 5+4) (by omega)
   have HP:Hid (jT w.heap.size w1 w.heap.size ms k):=hown1
   clear hex hC hsz c0 c1 c2 c3 c4 hown hown1
   unfold Pu.cells
   go_wp2_with fail
   exact ⟨⟨k+1,by omega,by go_num,HP.out.put hlt,zl2 hB1 (Nat.le_refl _) _ _ _ _ _ _⟩,by simp [intOf];omega⟩
  ·have HF:Hid (jT w.heap.size wr w.heap.size ms ms.length):=by
    have e:k=ms.length:=by omega
    subst e;exact hown
   clear hw hown
   go_wp2_with fail
   go_ret
   exact ⟨rfl,HF.out,hB⟩
end Go.Proofs.YtihdafafigceiaaGreat
