import Derived.Test.YtaickbhifenbjaaGreatM23
import Derived.Test.YtaickbhifenbjaaGreatM08
import Derived.Deep.RegionWith
import Derived.Deep.QuietTactic
import Derived.BigQuiet
import Derived.Test.YtaickbhifenbjaaGreatM19
set_option maxHeartbeats 4000000
namespace Go.Proofs.YtaickbhifenbjaaGreat
open Go.RowKit
def zki (c p:Int):Value:=if c=0 then .nilIface else .iface 275 (.agg #[.int .i64 c,.int .i64 p])
theorem zhb (w:World):Calls Tryz.prog 215 #[.bool true] w fun e w'=>e = .returned .nilIface/\w'=w:=by
 go_enter Tryz.func215,Tryz.ntmps215
 go_wp2
 go_ret
 exact ⟨rfl,rfl⟩
theorem ziJ (w:World):Calls Tryz.prog 215 #[.bool false] w fun e w'=>e = .returned (.iface 275 (.agg #[.int .i64 1,.int .i64 0]))/\w'=w:=by
 go_enter Tryz.func215,Tryz.ntmps215
 go_wp2
 go_ret
 exact ⟨rfl,rfl⟩
def jO (b:Bool):Value:=if b then .nilIface else .iface 275 (.agg #[.int .i64 1,.int .i64 0])
theorem jr (b:Bool) (w:World):Calls Tryz.prog 215 #[.bool b] w fun e w'=>e = .returned (jO b)/\w'=w:=by
 cases b
 ·exact ziJ w
 ·exact zhb w
theorem zcz {a b:Bool} (h:a=b):Ending.returned (jO a) = .returned (jO b):=by rw [h]
theorem zdZ (a0:Option Addr) (cap0:Nat) (ss:List Shp) (o:Ob) (a a':Option Addr) (cap cap':Nat) (w:World) (ho:qG w o a a') :
 Calls Tryz.prog 204 #[.slice a0 ss.length cap0,.agg #[.string o.kd,.string o.nm,.string o.tm,.slice a o.vs.length cap,.bool o.en,.slice a' o.hs.length cap',.int .i64 o.vr]] w fun e w'=>e = .returned (jO (Gate.qI o))/\Below w.heap.size w w':=by
 have h1:=ho.small.nm
 have h2:=ho.small.tm
 by_cases hn:Gate.zx o.nm=true
 ·have HN:Hid (Gate.zx o.nm=true):=hn
  clear hn ho
  go_enter Tryz.func204,Tryz.ntmps204
  go_wp2_with fail
  refine (zf HN.out (zG _ _ h1)).mono ?_
  rintro e w1 ⟨rfl,rfl⟩
  go_wp2_with fail
  refine (zG _ _ h2).mono ?_
  rintro e w1 ⟨rfl,rfl⟩
  go_wp2_with fail
  refine (jr _ _).mono ?_
  rintro e w1 ⟨rfl,rfl⟩
  go_wp2_with fail
  go_ret
  exact ⟨zcz (by unfold Gate.qI;rw [HN.out];rfl),(Below.refl _ _).alloc (Nat.le_refl _) _⟩
 ·have HN:Hid (Gate.zx o.nm=false):=by simpa [Hid] using hn
  clear hn ho
  go_enter Tryz.func204,Tryz.ntmps204
  go_wp2_with fail
  refine (zf HN.out (zG _ _ h1)).mono ?_
  rintro e w1 ⟨rfl,rfl⟩
  go_wp2_with fail
  refine (jr _ _).mono ?_
  rintro e w1 ⟨rfl,rfl⟩
  go_wp2_with fail
  go_ret
  exact ⟨zcz (a:=false) (b:=Gate.qI o) (by unfold Gate.qI;rw [HN.out];rfl),(Below.refl _ _).alloc (Nat.le_refl _) _⟩
theorem zea (a0:Option Addr) (cap0:Nat) (ss:List Shp) (o:Ob) (a a':Option Addr) (cap cap':Nat) (w:World) (ho:qG w o a a') :
 Calls Tryz.prog 205 #[.slice a0 ss.length cap0,.agg #[.string o.kd,.string o.nm,.string o.tm,.slice a o.vs.length cap,.bool o.en,.slice a' o.hs.length cap',.int .i64 o.vr]] w fun e w'=>e = .returned (jO (Gate.qU o))/\Below w.heap.size w w':=by
 have hl:=ho.holds.len
 unfold maxLen at hl
 by_cases h3:o.hs.length<=3
 ·go_enter Tryz.func205,Tryz.ntmps205
  go_wp2_with fail
  refine (ziy _ _ _ _ (ho.holds.mono ((Below.refl _ _).alloc (Nat.le_refl _) _))).mono ?_
  rintro e w1 ⟨rfl,rfl⟩
  go_wp2_with fail
  refine (jr _ _).mono ?_
  rintro e w1 ⟨rfl,rfl⟩
  go_wp2_with fail
  go_ret
  exact ⟨zcz (by unfold Gate.qU;rw [decide_eq_true h3];rfl),(Below.refl _ _).alloc (Nat.le_refl _) _⟩
 ·go_enter Tryz.func205,Tryz.ntmps205
  go_wp2_with fail
  refine (jr _ _).mono ?_
  rintro e w1 ⟨rfl,rfl⟩
  go_wp2_with fail
  go_ret
  exact ⟨zcz (a:=false) (b:=Gate.qU o) (by unfold Gate.qU;rw [decide_eq_false (show ¬ o.hs.length<=3 by omega)];rfl),(Below.refl _ _).alloc (Nat.le_refl _) _⟩
theorem zc4 (a0:Option Addr) (cap0:Nat) (ss:List Shp) (o:Ob) (a a':Option Addr) (cap cap':Nat) (w:World) :
 Calls Tryz.prog 206 #[.slice a0 ss.length cap0,.agg #[.string o.kd,.string o.nm,.string o.tm,.slice a o.vs.length cap,.bool o.en,.slice a' o.hs.length cap',.int .i64 o.vr]] w fun e w'=>e = .returned (jO (Gate.qx o))/\Below w.heap.size w w':=by
 by_cases h0:0<=o.vr
 ·have HV:Hid (Gate.qx o=decide (o.vr<=1000000)):=by unfold Hid Gate.qx;rw [decide_eq_true h0];rfl
  go_enter Tryz.func206,Tryz.ntmps206
  go_wp2_with (go_at_call 215;refine (jr _ _).mono ?_;rintro e w1 ⟨rfl,rfl⟩)
  go_ret
  exact ⟨zcz HV.out.symm,(Below.refl _ _).alloc (Nat.le_refl _) _⟩
 ·have HV:Hid (Gate.qx o=false):=by unfold Hid Gate.qx;rw [decide_eq_false h0];rfl
  go_enter Tryz.func206,Tryz.ntmps206
  go_wp2_with (go_at_call 215;refine (jr _ _).mono ?_;rintro e w1 ⟨rfl,rfl⟩)
  go_ret
  exact ⟨zcz HV.out.symm,(Below.refl _ _).alloc (Nat.le_refl _) _⟩
theorem zdX (a0:Option Addr) (cap0:Nat) (ss:List Shp) (o:Ob) (a a':Option Addr) (cap cap':Nat) (w:World) (hw:yL w a0 ss) (_ho:qG w o a a') :
 Calls Tryz.prog 207 #[.slice a0 ss.length cap0,.agg #[.string o.kd,.string o.nm,.string o.tm,.slice a o.vs.length cap,.bool o.en,.slice a' o.hs.length cap',.int .i64 o.vr]] w fun e w'=>e = .returned (jO (Gate.zy ss o))/\Below w.heap.size w w':=by
 by_cases hk:Gate.zH ss o.kd=true
 all_goals
  first
   | (have HK:Hid (Gate.zH ss o.kd=true):=hk)
   | (have HK:Hid (Gate.zH ss o.kd=false):=by simpa [Hid] using hk)
  clear hk
  go_enter Tryz.func207,Tryz.ntmps207
  go_wp2_with fail
  refine (qL _ _ _ _ _ (hw.mono ((Below.refl _ _).alloc (Nat.le_refl _) _))).mono ?_
  rintro e w1 ⟨fa,fcap,rfl,_,hb1⟩
  rw [HK.out]
  have hX1:=za (zl w _ _) (by simp) hb1
  have hz1:w.heap.size < w1.heap.size:=by have:=hb1.size;simp at this;omega
  have hB1:Below w.heap.size w w1:=((Below.refl _ _).alloc (Nat.le_refl _) _).trans (hb1.mono (by simp))
  clear hb1
  go_wp2_with (go_at_call 215;refine (jr _ _).mono ?_;rintro e w2 ⟨rfl,rfl⟩)
  go_ret
 ·refine ⟨zcz ?_,hB1.alloc (by omega) _⟩
  unfold Gate.zy;rw [HK.out]
  rw [Bool.eq_iff_iff];simp;omega
 ·refine ⟨zcz (a:=false) (b:=Gate.zy ss o) ?_,hB1.alloc (by omega) _⟩
  unfold Gate.zy;rw [HK.out];rfl
theorem zky {c p:Int} (h:c ≠ 0):zki c p = .iface 275 (.agg #[.int .i64 c,.int .i64 p]):=by simp [zki,h]
theorem zdP (a0:Option Addr) (cap0:Nat) (ss:List Shp) (o:Ob) (a a':Option Addr) (cap cap':Nat) (w:World) (hw:yL w a0 ss) (ho:qG w o a a') (hcnt:o.vs.length=(Gate.shapeOf ss o.kd).fs.length) :
 Calls Tryz.prog 208 #[.slice a0 ss.length cap0,.agg #[.string o.kd,.string o.nm,.string o.tm,.slice a o.vs.length cap,.bool o.en,.slice a' o.hs.length cap',.int .i64 o.vr]] w
  fun e w'=>e = .returned (zki (Gate.jJ (Gate.shapeOf ss o.kd).fs o.vs).1 (Gate.jJ (Gate.shapeOf ss o.kd).fs o.vs).2)/\Below w.heap.size w w':=by
 have HC:Hid (o.vs.length=(Gate.shapeOf ss o.kd).fs.length):=hcnt
 clear hcnt
 go_enter Tryz.func208,Tryz.ntmps208
 go_wp2_with fail
 refine (zcn _).mono ?_
 rintro e w0 ⟨rfl,hw0⟩
 have hX0:∀ j,w0.cell? ⟨w.heap.size,j,none⟩=(#[.string o.kd,.string o.nm,.string o.tm,.slice a o.vs.length cap,.bool o.en,.slice a' o.hs.length cap',.int .i64 o.vr]:Array Value)[j]?:=fun j=>by
  rw [hw0,World.cell?_alloc_lt _ _ ⟨w.heap.size,j,none⟩ (by simp)];exact zl w _ _ j
 have hm0:w0.heap[w.heap.size+1]?=some (.map yO 4):=by
  rw [hw0];have:=alloc_at (w.alloc (.cells #[.string o.kd,.string o.nm,.string o.tm,.slice a o.vs.length cap,.bool o.en,.slice a' o.hs.length cap',.int .i64 o.vr] 121)) (.map yO 4);simpa using this
 have hB00:Below w.heap.size w w0:=by rw [hw0];exact zC _ _ _
 have hz0:w.heap.size+1 < w0.heap.size:=by rw [hw0];simp
 clear hw0
 simp only [World.size_alloc]
 have hzz:w.heap.size < w0.heap.size:=by omega
 go_wp2_with fail
 refine (qL _ _ _ _ _ (hw.mono hB00)).mono ?_
 rintro e w1 ⟨fa,fcap,rfl,hfl0,hb1⟩
 have hX1:=za hX0 hzz hb1
 have hm1:=(hb1.block _ hz0).trans hm0
 have hz1:w.heap.size+1 < w1.heap.size:=by have:=hb1.size;omega
 have hB01:=hB00.trans (hb1.mono (by omega))
 have hfl1:=hfl0.mono hb1
 clear hX0 hm0 hb1 hfl0 hz0 hzz
 generalize hfs:(Gate.shapeOf ss o.kd).fs=fs at *
 have hlen:=hfl1.len
 unfold maxLen at hlen
 go_wp2_with fail
 go_loopw [22] (fun i wr=>∃ k:Nat,k<=fs.length/\i = .int .i64 k/\Gate.up (Gate.za0 fs o.vs) k=true/\Below w1.heap.size w1 wr) (fun i _=>fs.length - (intOf i).toNat)
 case atStart=>exact ⟨0,Nat.zero_le _,rfl,rfl,(Below.refl _ _).alloc (Nat.le_refl _) _⟩
 case round =>
  obtain ⟨k,hk,rfl,hup,hBr⟩:=hrel
  have hszr:=hBr.size
  have hB:Below w.heap.size w wr:=hB01.trans (hBr.mono (by omega))
  by_cases hlt:k < fs.length
  ·have hXr:=za hX1 (by omega) hBr
   have hmr:=(hBr.block _ hz1).trans hm1
   obtain ⟨b,off,rfl,hb,hr⟩:=hfl1.rows (by rintro rfl;simp at hlt)
   obtain ⟨wa,wcap,hf0⟩:=hr k hlt
   have hf:=hf0.mono hb hBr
   obtain ⟨c0,c1,c2,c3,c4,c5,c6,c7,c8,c9,c10⟩:=hf.load
   have hst:=hf.strs
   have hltv:k < o.vs.length:=by rw [HC.out];exact hlt
   obtain ⟨vb,voff,rfl,hvb,hvc⟩:=ho.vals.cells (by intro h;rw [h] at hltv;simp at hltv)
   have hcv:=(hB.cell (p:=⟨vb,voff+k,none⟩) hvb).trans (hvc k hltv)
   have hvs:=ho.vals.small _ (List.getElem_mem hltv)
   have hltI:(k:Int) < (fs.length:Int):=by omega
   have hltV:(k:Int) < (o.vs.length:Int):=by omega
   have hbr:b < wr.heap.size:=by omega
   have hvbr:vb < wr.heap.size:=by omega
   have hwr1:w.heap.size < wr.heap.size:=by omega
   have HFX:Hid (Gate.zdx fs o.vs k=Gate.jY fs[k] o.vs[k]):=Gate.ziH hlt hltv
   have HS:Hid (Gate.jY fs[k] o.vs[k]=0->Gate.up (Gate.za0 fs o.vs) (k+1)=true):=fun h=>by
    rw [Gate.jc,hup];unfold Gate.za0;rw [HFX.out,h];rfl
   have HN:Hid (∀ n:Int,n ≠ 0->Gate.jY fs[k] o.vs[k]=n->zki (Gate.jJ fs o.vs).1 (Gate.jJ fs o.vs).2 = .iface 275 (.agg #[.int .i64 n,.int .i64 k])):=fun n hn0 h=>by
    rw [Gate.zjG hlt hup (by unfold Gate.za0;rw [HFX.out,h];simp [hn0]),HFX.out,h];exact zky hn0
   clear hX1 hm1 hr hf0 hf hup
   by_cases he:o.vs[k].size=0
   ·have hne:o.vs[k].toList.isEmpty=true:=by rw [Gate.zq];simp [he]
    have HE:Hid (o.vs[k].size=0):=he
    clear he
    by_cases hmu:fs[k].mu=true
    ·have HM:Hid (fs[k].mu=true):=hmu
     go_wp2_with fail
     go_ret
     have hv:=HN.out 2 (by decide) (by unfold Gate.jY;rw [if_pos HE.out,if_pos HM.out])
     exact ⟨by rw [hfs,hv];rfl,hB.alloc (by omega) _⟩
    ·have hmu':fs[k].mu=false:=by simpa using hmu
     have HM:Hid (fs[k].mu=false):=hmu'
     clear hmu
     go_wp2_with fail
     go_quiet (fail)
     go_wp2_with fail
     exact ⟨⟨k+1,by omega,by go_num,HS.out (by unfold Gate.jY;rw [if_pos HE.out,HM.out];rfl),below_drewN (hBr.alloc (by omega) _) _⟩,by simp [intOf];omega⟩
   ·have hne:o.vs[k].toList.isEmpty=false:=by rw [Gate.zq];simp [he]
    have HE:Hid (¬ o.vs[k].size=0):=he
    clear he
    by_cases hfit:Gate.fits fs[k].kd fs[k].ls fs[k].ms fs[k].ws o.vs[k]=true
    all_goals
     first
      | (have HFT:Hid (Gate.fits fs[k].kd fs[k].ls fs[k].ms fs[k].ws o.vs[k]=true):=hfit)
      | (have HFT:Hid (Gate.fits fs[k].kd fs[k].ls fs[k].ms fs[k].ws o.vs[k]=false):=by simpa [Hid] using hfit)
     clear hfit
     go_wp2_with fail
     have hbx:Below wr.heap.size wr ((wr.alloc (.cells #[.string fs[k].nm,.int .i64 fs[k].kd,.int .i64 fs[k].ls,.int .i64 fs[k].ms,.slice wa fs[k].ws.length wcap,.string fs[k].to,.int .i64 fs[k].rl,.bool fs[k].mu,.bool fs[k].fx,.string fs[k].df,.string fs[k].wg] 158)).drew):=((Below.refl _ _).alloc (Nat.le_refl _) _).drew
     have hmx:=(hbx.block _ (by omega)).trans hmr
     have hstx:=hst.mono hbx
     go_region_with (go_at_call 176;refine (zf HFT.out (zeB _ _ _ _ _ _ _ _ _ _ _ _ _ _ _ _ (by exact hmx) hvs (by exact hstx))).mono ?_;rintro e w3 ⟨rfl,hb3⟩)
     all_goals go_wp2_with fail
    all_goals have hB3:Below wr.heap.size wr w3:=hbx.trans (hb3.mono (by simp))
    all_goals first
     | (have hft:Gate.fits fs[k].kd fs[k].ls fs[k].ms fs[k].ws o.vs[k]=true:=HFT.out
        exact ⟨⟨k+1,by omega,by go_num,HS.out (by unfold Gate.jY;rw [if_neg HE.out];unfold Gate.zd8;rw [hft];rfl),hBr.trans (hB3.mono hszr)⟩,by simp [intOf];omega⟩)
     | (have hft:Gate.fits fs[k].kd fs[k].ls fs[k].ms fs[k].ws o.vs[k]=false:=HFT.out
        go_ret
        have hv:=HN.out 3 (by decide) (by unfold Gate.jY;rw [if_neg HE.out];unfold Gate.zd8;rw [hft];rfl)
        exact ⟨by rw [hfs,hv];rfl,hB.trans (hB3.mono (by omega))⟩)
  ·have HF:Hid (Gate.jJ fs o.vs=(0,0)):=by
    have e:k=fs.length:=by omega
    subst e;exact Gate.zgT hup
   clear hup
   go_wp2_with fail
   go_ret
   exact ⟨by rw [hfs,HF.out];rfl,hB⟩
theorem zcT {P:Program} {f:FuncId} {args:Array Value} {w:World} {v v':Value} {R:World->Prop} (hb:v=v') (h:Calls P f args w fun e w'=>e = .returned v/\R w'):Calls P f args w fun e w'=>e = .returned v'/\R w':=by
 subst hb;exact h
def stage (ss:List Shp) (o:Ob):Nat->Bool
 | 0=>true
 | 1=>Gate.qI o
 | 2=>Gate.qI o && Gate.qU o
 | 3=>Gate.qI o && Gate.qU o && Gate.qx o
 | 4=>Gate.whole ss o
 | _=>Gate.whole ss o && decide ((Gate.jJ (Gate.shapeOf ss o.kd).fs o.vs).1=0)
def zfH (ss:List Shp) (o:Ob):Value:=zki (Gate.yI ss o).1 (Gate.yI ss o).2
theorem zfx {ss:List Shp} {o:Ob} (h:Gate.whole ss o=false):zfH ss o = .iface 275 (.agg #[.int .i64 1,.int .i64 0]):=by
 unfold zfH Gate.yI;rw [h];rfl
theorem zhQ {ss:List Shp} {o:Ob} (h:Gate.whole ss o=true):zfH ss o=zki (Gate.jJ (Gate.shapeOf ss o.kd).fs o.vs).1 (Gate.jJ (Gate.shapeOf ss o.kd).fs o.vs).2:=by
 unfold zfH Gate.yI;rw [if_pos h]
theorem zd9 {ss:List Shp} {o:Ob} (h:Gate.whole ss o=true):o.vs.length=(Gate.shapeOf ss o.kd).fs.length:=by
 unfold Gate.whole Gate.zy at h
 simp only [Bool.and_eq_true,decide_eq_true_eq] at h
 exact h.2.2
theorem zhn (a0:Option Addr) (cap0:Nat) (ss:List Shp) (o:Ob) (a a':Option Addr) (cap cap':Nat) (w:World) (hw:yL w a0 ss) (ho:qG w o a a') :
 Calls Tryz.prog 188 #[.slice a0 ss.length cap0,.agg #[.string o.kd,.string o.nm,.string o.tm,.slice a o.vs.length cap,.bool o.en,.slice a' o.hs.length cap',.int .i64 o.vr]] w
  fun e w'=>e = .returned (zfH ss o)/\Below w.heap.size w w':=by
 go_enter Tryz.func188,Tryz.ntmps188
 go_wp2_with fail
 go_loopw [10] (fun i wr=>∃ k:Nat,k<=5/\i = .int .i64 k/\stage ss o k=true/\Below (w.heap.size+1+1) ((w.alloc (.cells #[.string o.kd,.string o.nm,.string o.tm,.slice a o.vs.length cap,.bool o.en,.slice a' o.hs.length cap',.int .i64 o.vr] 121)).alloc (.cells #[.func (.func 204) #[] #[],.func (.func 205) #[] #[],.func (.func 206) #[] #[],.func (.func 207) #[] #[],.func (.func 208) #[] #[]] 266)) wr) (fun i _=>5 - (intOf i).toNat)
 case atStart=>exact ⟨0,Nat.zero_le _,rfl,rfl,Below.refl _ _⟩
 case round =>
  obtain ⟨k,hk,rfl,hstg,hBr⟩:=hrel
  have HStg:Hid (stage ss o k=true):=hstg
  clear hstg
  have hszr:w.heap.size+1 < wr.heap.size:=by have:=hBr.size;simp at this;omega
  have hB:Below w.heap.size w wr:=(zC _ _ _).trans (hBr.mono (by omega))
  have hX:∀ j,wr.cell? ⟨w.heap.size,j,none⟩=(#[.string o.kd,.string o.nm,.string o.tm,.slice a o.vs.length cap,.bool o.en,.slice a' o.hs.length cap',.int .i64 o.vr]:Array Value)[j]?:=fun j=>(hBr.cell (p:=⟨w.heap.size,j,none⟩) (by simp;omega)).trans (by rw [World.cell?_alloc_lt _ _ ⟨w.heap.size,j,none⟩ (by simp)];exact zl w _ _ j)
  have hF:∀ j,wr.cell? ⟨w.heap.size+1,j,none⟩=(#[.func (.func 204) #[] #[],.func (.func 205) #[] #[],.func (.func 206) #[] #[],.func (.func 207) #[] #[],.func (.func 208) #[] #[]]:Array Value)[j]?:=fun j=>(hBr.cell (p:=⟨w.heap.size+1,j,none⟩) (by simp)).trans (by rw [World.cell?_alloc_at _ _ _ _ (by simp)])
  have hor:=ho.mono hB
  have hwr:=hw.mono hB
  have hcases:k=0 \/ k=1 \/ k=2 \/ k=3 \/ k=4 \/ k=5:=by omega
  rcases hcases with rfl | rfl | rfl | rfl | rfl | rfl
  ·by_cases hc:Gate.qI o=true
   ·have HV:Hid (jO (Gate.qI o) = .nilIface):=by unfold Hid;rw [hc];rfl
    have HS:Hid (stage ss o (0+1)=true):=by
     have h0:=HStg.out
     simp only [stage] at h0 ⊢
     simp [hc,Hid]
    clear hc
    go_wp2_with fail
    refine (zcT HV.out (zdZ _ _ _ _ _ _ _ _ _ hor)).mono ?_
    rintro e w1 ⟨rfl,hb1⟩
    go_wp2_with fail
    exact ⟨⟨0+1,by omega,by rfl,HS.out,hBr.trans (hb1.mono (by omega))⟩,by simp [intOf]⟩
   ·have hc':(Gate.qI o)=false:=by simpa using hc
    have HV:Hid (jO (Gate.qI o) = .iface 275 (.agg #[.int .i64 1,.int .i64 0])):=by unfold Hid;rw [hc'];rfl
    have HW:Hid (zfH ss o = .iface 275 (.agg #[.int .i64 1,.int .i64 0])):=zfx (by unfold Gate.whole;rw [hc'];simp)
    clear hc hc'
    go_wp2_with fail
    refine (zcT HV.out (zdZ _ _ _ _ _ _ _ _ _ hor)).mono ?_
    rintro e w1 ⟨rfl,hb1⟩
    go_wp2_with fail
    go_ret
    exact ⟨by rw [HW.out];rfl,hB.trans (hb1.mono (by omega))⟩
  ·by_cases hc:Gate.qU o=true
   ·have HV:Hid (jO (Gate.qU o) = .nilIface):=by unfold Hid;rw [hc];rfl
    have HS:Hid (stage ss o (1+1)=true):=by
     have h0:=HStg.out
     simp only [stage] at h0 ⊢
     simp [h0,hc,Hid]
    clear hc
    go_wp2_with fail
    refine (zcT HV.out (zea _ _ _ _ _ _ _ _ _ hor)).mono ?_
    rintro e w1 ⟨rfl,hb1⟩
    go_wp2_with fail
    exact ⟨⟨1+1,by omega,by rfl,HS.out,hBr.trans (hb1.mono (by omega))⟩,by simp [intOf]⟩
   ·have hc':(Gate.qU o)=false:=by simpa using hc
    have HV:Hid (jO (Gate.qU o) = .iface 275 (.agg #[.int .i64 1,.int .i64 0])):=by unfold Hid;rw [hc'];rfl
    have HW:Hid (zfH ss o = .iface 275 (.agg #[.int .i64 1,.int .i64 0])):=zfx (by unfold Gate.whole;rw [hc'];simp)
    clear hc hc'
    go_wp2_with fail
    refine (zcT HV.out (zea _ _ _ _ _ _ _ _ _ hor)).mono ?_
    rintro e w1 ⟨rfl,hb1⟩
    go_wp2_with fail
    go_ret
    exact ⟨by rw [HW.out];rfl,hB.trans (hb1.mono (by omega))⟩
  ·by_cases hc:Gate.qx o=true
   ·have HV:Hid (jO (Gate.qx o) = .nilIface):=by unfold Hid;rw [hc];rfl
    have HS:Hid (stage ss o (2+1)=true):=by
     have h0:=HStg.out
     simp only [stage] at h0 ⊢
     simp [h0,hc,Hid]
    clear hc
    go_wp2_with fail
    refine (zcT HV.out (zc4 _ _ _ _ _ _ _ _ _)).mono ?_
    rintro e w1 ⟨rfl,hb1⟩
    go_wp2_with fail
    exact ⟨⟨2+1,by omega,by rfl,HS.out,hBr.trans (hb1.mono (by omega))⟩,by simp [intOf]⟩
   ·have hc':(Gate.qx o)=false:=by simpa using hc
    have HV:Hid (jO (Gate.qx o) = .iface 275 (.agg #[.int .i64 1,.int .i64 0])):=by unfold Hid;rw [hc'];rfl
    have HW:Hid (zfH ss o = .iface 275 (.agg #[.int .i64 1,.int .i64 0])):=zfx (by unfold Gate.whole;rw [hc'];simp)
    clear hc hc'
    go_wp2_with fail
    refine (zcT HV.out (zc4 _ _ _ _ _ _ _ _ _)).mono ?_
    rintro e w1 ⟨rfl,hb1⟩
    go_wp2_with fail
    go_ret
    exact ⟨by rw [HW.out];rfl,hB.trans (hb1.mono (by omega))⟩
  ·by_cases hc:Gate.zy ss o=true
   ·have HV:Hid (jO (Gate.zy ss o) = .nilIface):=by unfold Hid;rw [hc];rfl
    have HS:Hid (stage ss o (3+1)=true):=by
     have h0:=HStg.out
     simp only [stage,Gate.whole] at h0 ⊢
     simp [h0,hc,Hid]
    clear hc
    go_wp2_with fail
    refine (zcT HV.out (zdX _ _ _ _ _ _ _ _ _ hwr hor)).mono ?_
    rintro e w1 ⟨rfl,hb1⟩
    go_wp2_with fail
    exact ⟨⟨3+1,by omega,by rfl,HS.out,hBr.trans (hb1.mono (by omega))⟩,by simp [intOf]⟩
   ·have hc':(Gate.zy ss o)=false:=by simpa using hc
    have HV:Hid (jO (Gate.zy ss o) = .iface 275 (.agg #[.int .i64 1,.int .i64 0])):=by unfold Hid;rw [hc'];rfl
    have HW:Hid (zfH ss o = .iface 275 (.agg #[.int .i64 1,.int .i64 0])):=zfx (by unfold Gate.whole;rw [hc'];simp)
    clear hc hc'
    go_wp2_with fail
    refine (zcT HV.out (zdX _ _ _ _ _ _ _ _ _ hwr hor)).mono ?_
    rintro e w1 ⟨rfl,hb1⟩
    go_wp2_with fail
    go_ret
    exact ⟨by rw [HW.out];rfl,hB.trans (hb1.mono (by omega))⟩
  ·have hwh:Gate.whole ss o=true:=HStg.out
   have HW:Hid (zfH ss o=zki (Gate.jJ (Gate.shapeOf ss o.kd).fs o.vs).1 (Gate.jJ (Gate.shapeOf ss o.kd).fs o.vs).2):=zhQ hwh
   by_cases hc:(Gate.jJ (Gate.shapeOf ss o.kd).fs o.vs).1=0
   ·have HV:Hid (zki (Gate.jJ (Gate.shapeOf ss o.kd).fs o.vs).1 (Gate.jJ (Gate.shapeOf ss o.kd).fs o.vs).2 = .nilIface):=by unfold Hid;rw [hc];rfl
    have HS:Hid (stage ss o (4+1)=true):=by
     simp [stage,hwh,hc,Hid]
    have HCt:Hid (o.vs.length=(Gate.shapeOf ss o.kd).fs.length):=zd9 hwh
    clear hc hwh
    go_wp2_with fail
    refine (zcT HV.out (zdP _ _ _ _ _ _ _ _ _ hwr hor HCt.out)).mono ?_
    rintro e w1 ⟨rfl,hb1⟩
    go_wp2_with fail
    exact ⟨⟨4+1,by omega,by rfl,HS.out,hBr.trans (hb1.mono (by omega))⟩,by simp [intOf]⟩
   ·have HV:Hid (zki (Gate.jJ (Gate.shapeOf ss o.kd).fs o.vs).1 (Gate.jJ (Gate.shapeOf ss o.kd).fs o.vs).2 = .iface 275 (.agg #[.int .i64 (Gate.jJ (Gate.shapeOf ss o.kd).fs o.vs).1,.int .i64 (Gate.jJ (Gate.shapeOf ss o.kd).fs o.vs).2])):=zky hc
    have HCt:Hid (o.vs.length=(Gate.shapeOf ss o.kd).fs.length):=zd9 hwh
    clear hc hwh
    go_wp2_with fail
    refine (zcT HV.out (zdP _ _ _ _ _ _ _ _ _ hwr hor HCt.out)).mono ?_
    rintro e w1 ⟨rfl,hb1⟩
    go_wp2_with fail
    go_ret
    exact ⟨by rw [HW.out,HV.out];rfl,hB.trans (hb1.mono (by omega))⟩
  ·have HW:Hid (zfH ss o = .nilIface):=by
    have h0:=HStg.out
    simp only [stage,Bool.and_eq_true,decide_eq_true_eq] at h0
    unfold Hid;rw [zhQ h0.1,h0.2];rfl
   go_wp2_with fail
   go_ret
   exact ⟨by rw [HW.out];rfl,hB⟩
theorem zhI (l:Lw) (la lb lc:Option Addr) (lca lcb lcc:Nat) (b:Bk) (a0 a1 a2 a3:Option Addr) (c0 c1 c2 c3:Nat) (w:World) (hb:qA w b a0 a1 a2 a3) (hl:qp w l la lb lc) :
 Calls Tryz.prog 103 #[.agg (l.cells la lb lc lca lcb lcc),.agg (b.cells a0 a1 a2 a3 c0 c1 c2 c3)] w fun e w'=>e = .returned (.bool (Gate.yP l.ts b))/\Below w.heap.size w w':=by
 have HK:Hid (qA w b a0 a1 a2 a3):=hb
 have HL:Hid (qp w l la lb lc):=hl
 clear hb hl
 unfold Lw.cells Bk.cells
 by_cases hln:b.ls.length<=10
 rotate_left
 ·have HF:Hid (Gate.yP l.ts b=false):=by unfold Hid Gate.yP;rw [decide_eq_false hln];rfl
  have hg:(10:Int) < (b.ls.length:Int):=by omega
  go_enter Tryz.func103,Tryz.ntmps103
  go_wp2_with fail
  go_ret
  exact ⟨ze HF.out.symm,zC _ _ _⟩
 have hg:decide ((10:Int) < (b.ls.length:Int))=false:=by simp;omega
 have HLN:Hid (b.ls.length<=10):=hln
 clear hln
 go_enter Tryz.func103,Tryz.ntmps103
 go_wp2_with fail
 obtain ⟨hL0,hX0⟩:=jd w #[.slice la l.ss.length lca,.slice lb l.ms.length lcb,.slice lc l.ts.length lcc] #[.int .i64 b.now,.int .i64 b.tick,.int .i64 b.given,.slice a0 b.os.length c0,.slice a1 b.gs.length c1,.slice a2 b.ls.length c2,.slice a3 b.ps.length c3] 43 50
 have HB0:Hid (Below w.heap.size w ((w.alloc (.cells #[.slice la l.ss.length lca,.slice lb l.ms.length lcb,.slice lc l.ts.length lcc] 43)).alloc (.cells #[.int .i64 b.now,.int .i64 b.tick,.int .i64 b.given,.slice a0 b.os.length c0,.slice a1 b.gs.length c1,.slice a2 b.ls.length c2,.slice a3 b.ps.length c3] 50))):=zC w _ _
 obtain ⟨W0,hW0⟩:∃ W0,W0=(w.alloc (.cells #[.slice la l.ss.length lca,.slice lb l.ms.length lcb,.slice lc l.ts.length lcc] 43)).alloc (.cells #[.int .i64 b.now,.int .i64 b.tick,.int .i64 b.given,.slice a0 b.os.length c0,.slice a1 b.gs.length c1,.slice a2 b.ls.length c2,.slice a3 b.ps.length c3] 50):=⟨_,rfl⟩
 have hz0:w.heap.size+1 < W0.heap.size:=by rw [hW0];simp
 rw [<- hW0] at HB0 hX0 hL0 ⊢
 clear hW0
 refine (zhx _ _ b.ls _ (HK.out.ls.mono HB0.out)).mono ?_
 rintro e w1 ⟨rfl,hb1⟩
 have HB1:Hid (Below w.heap.size w w1):=HB0.out.trans (hb1.mono HB0.out.size)
 have hX1:=za hX0 hz0 hb1
 have hL1:=za hL0 (Nat.lt_of_succ_lt hz0) hb1
 have hz1:=Nat.lt_of_lt_of_le hz0 hb1.size
 clear hb1 hX0 hL0 hz0 HB0
 by_cases has:Gate.zaV Gate.qz b.ls=true
 rotate_left
 ·have has':Gate.zaV Gate.qz b.ls=false:=by simpa using has
  have HF:Hid (Gate.yP l.ts b=false):=by unfold Hid Gate.yP;rw [has'];simp
  rw [has']
  clear has has'
  go_wp2_with fail
  go_ret
  exact ⟨ze HF.out.symm,HB1.out⟩
 have HG:Hid (Gate.yP l.ts b=b.ls.all (Gate.yM l.ts)):=by unfold Hid Gate.yP;rw [has,decide_eq_true HLN.out];rfl
 rw [has]
 clear has
 go_wp2_with fail
 go_loopw [20] (fun iv wr=>∃ k:Nat,k<=b.ls.length/\iv = .int .i64 k/\Hid ((b.ls.take k).all (Gate.yM l.ts)=true/\Below w1.heap.size w1 wr)) (fun iv _=>b.ls.length - (intOf iv).toNat)
 case atStart=>exact ⟨0,Nat.zero_le _,rfl,by simp,Below.refl _ _⟩
 case round =>
  obtain ⟨k,hk,rfl,HQ⟩:=hrel
  have hkn:k<=10:=by have:=HLN.out;omega
  by_cases hlt:k < b.ls.length
  ·obtain ⟨ob,off,rfl,hob,d0,d1,d2,d3⟩:=HK.out.ls.load (HB1.out.trans (HQ.out.2.mono HB1.out.size)) k hlt
   have hob':ob < wr.heap.size:=Nat.lt_of_lt_of_le hob (HB1.out.trans (HQ.out.2.mono HB1.out.size)).size
   have hltI:(k:Int) < (b.ls.length:Int):=by omega
   have hX:=za hX1 hz1 HQ.out.2
   have hz:w.heap.size+1 < wr.heap.size:=Nat.lt_of_lt_of_le hz1 HQ.out.2.size
   have HSn:Hid ((b.ls.take (k+1)).all (Gate.yM l.ts)=((b.ls.take k).all (Gate.yM l.ts) && (Gate.yM l.ts) b.ls[k])):=Gate.qR _ _ _ hlt
   have HBo:Hid (∀ ob,Below w1.heap.size w1 (wr.alloc ob)):=fun ob=>HQ.out.2.alloc HQ.out.2.size _
   have HBw:Hid (∀ W,Below w1.heap.size w1 W->Below w.heap.size w W):=fun W hW=>HB1.out.trans (hW.mono HB1.out.size)
   have HNo:Hid ((Gate.yM l.ts) b.ls[k]=false->Gate.yP l.ts b=false):=fun h=>by rw [HG.out];exact Gate.zar _ _ _ hlt h
   have HYes:Hid ((Gate.yM l.ts) b.ls[k]=true->(b.ls.take (k+1)).all (Gate.yM l.ts)=true):=fun h=>by rw [HSn.out,HQ.out.1,h];rfl
   have hL:=za hL1 (Nat.lt_of_succ_lt hz1) HQ.out.2
   have hzL:w.heap.size < wr.heap.size:=Nat.lt_of_succ_lt hz
   have HSm:Hid b.ls[k].Small:=HK.out.ls.small k hlt
   go_wp2_with fail
   have hbN:Below wr.heap.size wr (wr.alloc (.cells #[.string b.ls[k].tm,.string b.ls[k].rs,.int .i64 b.ls[k].mo,.int .i64 b.ls[k].fr] 126)):=(Below.refl _ _).alloc (Nat.le_refl _) _
   have hN:=zl wr #[.string b.ls[k].tm,.string b.ls[k].rs,.int .i64 b.ls[k].mo,.int .i64 b.ls[k].fr] 126
   obtain ⟨w2,hw2⟩:∃ w2,w2=wr.alloc (.cells #[.string b.ls[k].tm,.string b.ls[k].rs,.int .i64 b.ls[k].mo,.int .i64 b.ls[k].fr] 126):=⟨_,rfl⟩
   have hn2:wr.heap.size < w2.heap.size:=by rw [hw2];simp
   rw [<- hw2] at hbN hN ⊢
   have HB2:Hid (Below w1.heap.size w1 w2):=by unfold Hid;rw [hw2];exact HBo.out _
   clear hw2 d0 d1 d2 d3 hX hL hbN
   refine (zbv _ _ l.ts b.ls[k].tm _ (HL.out.ts.mono (HBw.out _ HB2.out))).mono ?_
   rintro e w3 ⟨rfl,hb3⟩
   have HB3:Hid (Below w1.heap.size w1 w3):=HB2.out.trans (hb3.mono HB2.out.size)
   have hN3:=za hN hn2 hb3
   have hn3:=Nat.lt_of_lt_of_le hn2 hb3.size
   clear hb3 hN hn2 HB2
   have HN1:∀ v,Gate.zx b.ls[k].rs=v->Hid (∀ W,Calls Tryz.prog 134 #[.string b.ls[k].rs] W fun e w'=>e = .returned (.bool v)/\w'=W):=fun v h W=>zf h (zG _ W HSm.out.rs)
   by_cases t1:Gate.yC l.ts b.ls[k].tm=true
   rotate_left
   ·have HF:Hid (Gate.yP l.ts b=false):=HNo.out (by unfold Gate.yM;rw [Bool.eq_false_iff.2 t1];rfl)
    rw [Bool.eq_false_iff.2 t1]
    clear HN1 t1
    go_wp2_with fail
    go_ret
    exact ⟨ze HF.out.symm,HBw.out _ HB3.out⟩
   rw [t1]
   by_cases t2:Gate.zx b.ls[k].rs=true
   rotate_left
   ·have HF:Hid (Gate.yP l.ts b=false):=HNo.out (by unfold Gate.yM;rw [t1,Bool.eq_false_iff.2 t2];rfl)
    have H2:=HN1 false (Bool.eq_false_iff.2 t2)
    clear HN1 t1 t2
    go_wp2_with fail
    refine (H2.out _).mono ?_
    rintro e w4 ⟨rfl,rfl⟩
    go_wp2_with fail
    go_ret
    exact ⟨ze HF.out.symm,HBw.out _ HB3.out⟩
   have H2:=HN1 true t2
   by_cases t3:Gate.jA b.ls[k].fr b.ls[k].mo 0 1000000=true
   ·have HY:Hid ((b.ls.take (k+1)).all (Gate.yM l.ts)=true):=HYes.out (by unfold Gate.yM;rw [t1,t2,t3];rfl)
    have H3:Hid (∀ W,Calls Tryz.prog 150 #[.int .i64 b.ls[k].fr,.int .i64 b.ls[k].mo,.int .i64 0,.int .i64 1000000] W fun e w'=>e = .returned (.bool true)/\w'=W):=fun W=>zf t3 (zba _ _ _ _ W)
    clear HN1 t1 t2 t3
    go_wp2_with fail
    refine (H2.out _).mono ?_
    rintro e w4 ⟨rfl,rfl⟩
    go_wp2_with fail
    refine (H3.out _).mono ?_
    rintro e w4 ⟨rfl,rfl⟩
    go_wp2_with fail
    exact ⟨⟨k+1,by omega,by go_num,HY.out,HB3.out⟩,zw hlt⟩
   ·have HF:Hid (Gate.yP l.ts b=false):=HNo.out (by unfold Gate.yM;rw [t1,t2,Bool.eq_false_iff.2 t3];rfl)
    have H3:Hid (∀ W,Calls Tryz.prog 150 #[.int .i64 b.ls[k].fr,.int .i64 b.ls[k].mo,.int .i64 0,.int .i64 1000000] W fun e w'=>e = .returned (.bool false)/\w'=W):=fun W=>zf (Bool.eq_false_iff.2 t3) (zba _ _ _ _ W)
    clear HN1 t1 t2 t3
    go_wp2_with fail
    refine (H2.out _).mono ?_
    rintro e w4 ⟨rfl,rfl⟩
    go_wp2_with fail
    refine (H3.out _).mono ?_
    rintro e w4 ⟨rfl,rfl⟩
    go_wp2_with fail
    go_ret
    exact ⟨ze HF.out.symm,HBw.out _ HB3.out⟩
  ·have e:k=b.ls.length:=by omega
   subst e
   have HE:Hid (Gate.yP l.ts b=true):=by
    unfold Hid
    rw [HG.out]
    have h:=HQ.out.1
    rw [List.take_of_length_le (Nat.le_refl _)] at h
    exact h
   have HBe:Hid (Below w.heap.size w wr):=HB1.out.trans (HQ.out.2.mono HB1.out.size)
   clear hlt hk HQ
   go_wp2_with fail
   go_ret
   exact ⟨ze HE.out.symm,HBe.out⟩
end Go.Proofs.YtaickbhifenbjaaGreat
