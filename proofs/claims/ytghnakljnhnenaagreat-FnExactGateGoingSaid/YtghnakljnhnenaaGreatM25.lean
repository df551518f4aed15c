import Derived.Test.YtghnakljnhnenaaGreatM24
set_option maxHeartbeats 4000000
namespace Go.Proofs.YtghnakljnhnenaaGreat
open Go.RowKit
theorem zaA {w:World} {b:Nat} {X:Array Value} {t:TypeId} (h:w.heap[b]?=some (.cells X t)):∀ j,w.cell? ⟨b,j,none⟩=X[j]?:=fun _=>cell_of_block h
theorem znw {w:World} {b:Nat} {X:Array Value} {t:TypeId} (h:w.heap[b]?=some (.cells X t)):∀ j,w.frozen? ⟨b,j,none⟩=false:=fun _=>zi h
def zln (c p:Int):Value:=if c=0 then .nilIface else .iface 279 (.agg #[.int .i64 c,.int .i64 p])
theorem zio (w:World):Calls Tryz.prog 221 #[.bool true] w fun e w'=>e = .returned .nilIface/\w'=w:=by
 go_enter Tryz.func221,Tryz.ntmps221
 go_wp2
 go_ret;exact ⟨rfl,rfl⟩
theorem zi4 (w:World):Calls Tryz.prog 221 #[.bool false] w fun e w'=>e = .returned (.iface 279 (.agg #[.int .i64 1,.int .i64 0]))/\w'=w:=by
 go_enter Tryz.func221,Tryz.ntmps221
 go_wp2
 go_ret;exact ⟨rfl,rfl⟩
def jR (b:Bool):Value:=if b then .nilIface else .iface 279 (.agg #[.int .i64 1,.int .i64 0])
theorem jA (b:Bool) (w:World):Calls Tryz.prog 221 #[.bool b] w fun e w'=>e = .returned (jR b)/\w'=w:=by
 cases b
 ·exact zi4 w
 ·exact zio w
theorem zcS {a b:Bool} (h:a=b):Ending.returned (jR a) = .returned (jR b):=by rw [h]
theorem zev (a0:Option Addr) (cap0:Nat) (ss:List Shp) (o:Ob) (a a':Option Addr) (cap cap':Nat) (w:World) (ho:qB w o a a') :
 Calls Tryz.prog 209 #[.slice a0 ss.length cap0,.agg #[.string o.kd,.string o.nm,.string o.tm,.slice a o.vs.length cap,.bool o.en,.slice a' o.hs.length cap',.int .i64 o.vr]] w fun e w'=>e = .returned (jR (Gate.qM o))/\Below w.heap.size w w':=by
 have h1:=ho.small.nm;have h2:=ho.small.tm
 by_cases hn:Gate.zy o.nm=true
 ·have HN:Hid (Gate.zy o.nm=true):=hn
  clear hn ho;go_enter Tryz.func209,Tryz.ntmps209;go_wp2_with fail
  refine (zf HN.out (zG _ _ h1)).mono ?_;rintro e w1 ⟨rfl,rfl⟩;go_wp2_with fail
  refine (zG _ _ h2).mono ?_;rintro e w1 ⟨rfl,rfl⟩;go_wp2_with fail
  refine (jA _ _).mono ?_;rintro e w1 ⟨rfl,rfl⟩;go_wp2_with fail
  go_ret;exact ⟨zcS (by unfold Gate.qM;rw [HN.out];rfl),bAl _ _⟩
 ·have HN:Hid (Gate.zy o.nm=false):=by simpa [Hid] using hn
  clear hn ho;go_enter Tryz.func209,Tryz.ntmps209;go_wp2_with fail
  refine (zf HN.out (zG _ _ h1)).mono ?_;rintro e w1 ⟨rfl,rfl⟩;go_wp2_with fail
  refine (jA _ _).mono ?_;rintro e w1 ⟨rfl,rfl⟩;go_wp2_with fail
  go_ret;exact ⟨zcS (a:=false) (b:=Gate.qM o) (by unfold Gate.qM;rw [HN.out];rfl),bAl _ _⟩
theorem zeC (a0:Option Addr) (cap0:Nat) (ss:List Shp) (o:Ob) (a a':Option Addr) (cap cap':Nat) (w:World) (ho:qB w o a a') :
 Calls Tryz.prog 210 #[.slice a0 ss.length cap0,.agg #[.string o.kd,.string o.nm,.string o.tm,.slice a o.vs.length cap,.bool o.en,.slice a' o.hs.length cap',.int .i64 o.vr]] w fun e w'=>e = .returned (jR (Gate.qZ o))/\Below w.heap.size w w':=by
 have hl:=ho.holds.len;unfold maxLen at hl
 by_cases h3:o.hs.length<=3
 ·go_enter Tryz.func210,Tryz.ntmps210
  go_wp2_with fail
  refine (zi7 _ _ _ _ (ho.holds.mono (bAl _ _))).mono ?_;rintro e w1 ⟨rfl,rfl⟩;go_wp2_with fail
  refine (jA _ _).mono ?_;rintro e w1 ⟨rfl,rfl⟩;go_wp2_with fail
  go_ret;exact ⟨zcS (by unfold Gate.qZ;rw [decide_eq_true h3];rfl),bAl _ _⟩
 ·go_enter Tryz.func210,Tryz.ntmps210
  go_wp2_with fail
  refine (jA _ _).mono ?_;rintro e w1 ⟨rfl,rfl⟩;go_wp2_with fail
  go_ret;exact ⟨zcS (a:=false) (b:=Gate.qZ o) (by unfold Gate.qZ;rw [decide_eq_false (show ¬ o.hs.length<=3 by omega)];rfl),bAl _ _⟩
theorem zdE (a0:Option Addr) (cap0:Nat) (ss:List Shp) (o:Ob) (a a':Option Addr) (cap cap':Nat) (w:World) :
 Calls Tryz.prog 211 #[.slice a0 ss.length cap0,.agg #[.string o.kd,.string o.nm,.string o.tm,.slice a o.vs.length cap,.bool o.en,.slice a' o.hs.length cap',.int .i64 o.vr]] w fun e w'=>e = .returned (jR (Gate.qA o))/\Below w.heap.size w w':=by
 by_cases h0:0<=o.vr
 ·have HV:Hid (Gate.qA o=decide (o.vr<=1000000)):=by unfold Hid Gate.qA;rw [decide_eq_true h0];rfl
  go_enter Tryz.func211,Tryz.ntmps211
  go_wp2_with (go_at_call 221;refine (jA _ _).mono ?_;rintro e w1 ⟨rfl,rfl⟩)
  go_ret;exact ⟨zcS HV.out.symm,bAl _ _⟩
 ·have HV:Hid (Gate.qA o=false):=by unfold Hid Gate.qA;rw [decide_eq_false h0];rfl
  go_enter Tryz.func211,Tryz.ntmps211
  go_wp2_with (go_at_call 221;refine (jA _ _).mono ?_;rintro e w1 ⟨rfl,rfl⟩)
  go_ret;exact ⟨zcS HV.out.symm,bAl _ _⟩
theorem zeQ (a0:Option Addr) (cap0:Nat) (ss:List Shp) (o:Ob) (a a':Option Addr) (cap cap':Nat) (w:World) (hw:yI w a0 ss) (_ho:qB w o a a') :
 Calls Tryz.prog 212 #[.slice a0 ss.length cap0,.agg #[.string o.kd,.string o.nm,.string o.tm,.slice a o.vs.length cap,.bool o.en,.slice a' o.hs.length cap',.int .i64 o.vr]] w fun e w'=>e = .returned (jR (Gate.zx ss o))/\Below w.heap.size w w':=by
 by_cases hk:Gate.zF ss o.kd=true
 all_goals
  first
   | (have HK:Hid (Gate.zF ss o.kd=true):=hk)
   | (have HK:Hid (Gate.zF ss o.kd=false):=by simpa [Hid] using hk)
  clear hk;go_enter Tryz.func212,Tryz.ntmps212;go_wp2_with fail
  refine (qN _ _ _ _ _ (hw.mono (bAl _ _))).mono ?_;rintro e w1 ⟨fa,fcap,rfl,_,hb1⟩;rw [HK.out];have hX1:=za (zm w _ _) (by simp) hb1;have hz1:w.heap.size < w1.heap.size:=by have:=hb1.size;simp at this;omega
  have hB1:Below w.heap.size w w1:=(bAl _ _).trans (hb1.mono (by simp));clear hb1
  go_wp2_with (go_at_call 221;refine (jA _ _).mono ?_;rintro e w2 ⟨rfl,rfl⟩)
  go_ret
 ·refine ⟨zcS ?_,hB1.alloc (by omega) _⟩
  unfold Gate.zx;rw [HK.out];rw [Bool.eq_iff_iff];simp;omega
 ·refine ⟨zcS (a:=false) (b:=Gate.zx ss o) ?_,hB1.alloc (by omega) _⟩
  unfold Gate.zx;rw [HK.out];rfl
theorem zlg {c p:Int} (h:c ≠ 0):zln c p = .iface 279 (.agg #[.int .i64 c,.int .i64 p]):=by simp [zln,h]
theorem zen (a0:Option Addr) (cap0:Nat) (ss:List Shp) (o:Ob) (a a':Option Addr) (cap cap':Nat) (w:World) (hw:yI w a0 ss) (ho:qB w o a a') (hcnt:o.vs.length=(Gate.shapeOf ss o.kd).fs.length) :
 Calls Tryz.prog 213 #[.slice a0 ss.length cap0,.agg #[.string o.kd,.string o.nm,.string o.tm,.slice a o.vs.length cap,.bool o.en,.slice a' o.hs.length cap',.int .i64 o.vr]] w
  fun e w'=>e = .returned (zln (Gate.jS (Gate.shapeOf ss o.kd).fs o.vs).1 (Gate.jS (Gate.shapeOf ss o.kd).fs o.vs).2)/\Below w.heap.size w w':=by
 have HC:Hid (o.vs.length=(Gate.shapeOf ss o.kd).fs.length):=hcnt;clear hcnt;go_enter Tryz.func213,Tryz.ntmps213;go_wp2_with fail
 refine (zcG _).mono ?_;rintro e w0 ⟨rfl,hw0⟩
 have hX0:∀ j,w0.cell? ⟨w.heap.size,j,none⟩=(#[.string o.kd,.string o.nm,.string o.tm,.slice a o.vs.length cap,.bool o.en,.slice a' o.hs.length cap',.int .i64 o.vr]:Array Value)[j]?:=fun j=>by
  rw [hw0,World.cell?_alloc_lt _ _ ⟨w.heap.size,j,none⟩ (by simp)];exact zm w _ _ j
 have hm0:w0.heap[w.heap.size+1]?=some (.map yM 4):=by
  rw [hw0];have:=alloc_at (w.alloc (.cells #[.string o.kd,.string o.nm,.string o.tm,.slice a o.vs.length cap,.bool o.en,.slice a' o.hs.length cap',.int .i64 o.vr] 119)) (.map yM 4);simpa using this
 have hB00:Below w.heap.size w w0:=by rw [hw0];exact zA _ _ _
 have hz0:w.heap.size+1 < w0.heap.size:=by rw [hw0];simp
 clear hw0;simp only [World.size_alloc];have hzz:w.heap.size < w0.heap.size:=by omega
 go_wp2_with fail
 refine (qN _ _ _ _ _ (hw.mono hB00)).mono ?_;rintro e w1 ⟨fa,fcap,rfl,hfl0,hb1⟩;have hX1:=za hX0 hzz hb1;have hm1:=(hb1.block _ hz0).trans hm0;have hz1:w.heap.size+1 < w1.heap.size:=by have:=hb1.size;omega
 have hB01:=hB00.trans (hb1.mono (by omega));have hfl1:=hfl0.mono hb1;clear hX0 hm0 hb1 hfl0 hz0 hzz
 generalize hfs:(Gate.shapeOf ss o.kd).fs=fs at *
 have hlen:=hfl1.len;unfold maxLen at hlen;go_wp2_with fail
 go_loopw [22] (fun i wr=>∃ k:Nat,k<=fs.length/\i = .int .i64 k/\Gate.up (Gate.zbe fs o.vs) k=true/\Below w1.heap.size w1 wr) (fun i _=>fs.length - (intOf i).toNat)
 case atStart=>exact ⟨0,Nat.zero_le _,rfl,rfl,bAl _ _⟩
 case round =>
  obtain ⟨k,hk,rfl,hup,hBr⟩:=hrel;have hszr:=hBr.size;have hB:Below w.heap.size w wr:=hB01.trans (hBr.mono (by omega))
  by_cases hlt:k < fs.length
  ·have hXr:=za hX1 (by omega) hBr
   have hmr:=(hBr.block _ hz1).trans hm1;obtain ⟨b,off,rfl,hb,hr⟩:=hfl1.rows (by rintro rfl;simp at hlt);obtain ⟨wa,wcap,hf0⟩:=hr k hlt;have hf:=hf0.mono hb hBr;obtain ⟨c0,c1,c2,c3,c4,c5,c6,c7,c8,c9,c10⟩:=hf.load;have hst:=hf.strs;have hltv:k < o.vs.length:=by rw [HC.out];exact hlt
   obtain ⟨vb,voff,rfl,hvb,hvc⟩:=ho.vals.cells (by intro h;rw [h] at hltv;simp at hltv);have hcv:=(hB.cell (p:=⟨vb,voff+k,none⟩) hvb).trans (hvc k hltv);have hvs:=ho.vals.small _ (List.getElem_mem hltv);have hltI:(k:Int) < (fs.length:Int):=by omega
   have hltV:(k:Int) < (o.vs.length:Int):=by omega
   have hbr:b < wr.heap.size:=by omega
   have hvbr:vb < wr.heap.size:=by omega
   have hwr1:w.heap.size < wr.heap.size:=by omega
   have HFX:Hid (Gate.zdJ fs o.vs k=Gate.zaf fs[k] o.vs[k]):=Gate.zjr hlt hltv
   have HS:Hid (Gate.zaf fs[k] o.vs[k]=0->Gate.up (Gate.zbe fs o.vs) (k+1)=true):=fun h=>by
    rw [Gate.q9,hup];unfold Gate.zbe;rw [HFX.out,h];rfl
   have HN:Hid (∀ n:Int,n ≠ 0->Gate.zaf fs[k] o.vs[k]=n->zln (Gate.jS fs o.vs).1 (Gate.jS fs o.vs).2 = .iface 279 (.agg #[.int .i64 n,.int .i64 k])):=fun n hn0 h=>by
    rw [Gate.zkv hlt hup (by unfold Gate.zbe;rw [HFX.out,h];simp [hn0]),HFX.out,h];exact zlg hn0
   clear hX1 hm1 hr hf0 hf hup
   by_cases he:o.vs[k].size=0
   ·have hne:o.vs[k].toList.isEmpty=true:=by rw [Gate.zu];simp [he]
    have HE:Hid (o.vs[k].size=0):=he;clear he
    by_cases hmu:fs[k].mu=true
    ·have HM:Hid (fs[k].mu=true):=hmu
     go_wp2_with fail
     go_ret;have hv:=HN.out 2 (by decide) (by unfold Gate.zaf;rw [if_pos HE.out,if_pos HM.out]);exact ⟨by rw [hfs,hv];rfl,hB.alloc (by omega) _⟩
    ·have hmu':fs[k].mu=false:=by simpa using hmu
     have HM:Hid (fs[k].mu=false):=hmu';clear hmu;go_wp2_with fail
     go_quiet (fail)
     go_wp2_with fail
     exact ⟨⟨k+1,by omega,by go_num,HS.out (by unfold Gate.zaf;rw [if_pos HE.out,HM.out];rfl),below_drewN (hBr.alloc (by omega) _) _⟩,by simp [intOf];omega⟩
   ·have hne:o.vs[k].toList.isEmpty=false:=by rw [Gate.zu];simp [he]
    have HE:Hid (¬ o.vs[k].size=0):=he;clear he
    by_cases hfit:Gate.fits fs[k].kd fs[k].ls fs[k].ms fs[k].ws o.vs[k]=true
    all_goals
     first
      | (have HFT:Hid (Gate.fits fs[k].kd fs[k].ls fs[k].ms fs[k].ws o.vs[k]=true):=hfit)
      | (have HFT:Hid (Gate.fits fs[k].kd fs[k].ls fs[k].ms fs[k].ws o.vs[k]=false):=by simpa [Hid] using hfit)
     clear hfit;go_wp2_with fail
     have hbx:Below wr.heap.size wr ((wr.alloc (.cells #[.string fs[k].nm,.int .i64 fs[k].kd,.int .i64 fs[k].ls,.int .i64 fs[k].ms,.slice wa fs[k].ws.length wcap,.string fs[k].to,.int .i64 fs[k].rl,.bool fs[k].mu,.bool fs[k].fx,.string fs[k].df,.string fs[k].wg] 165)).drew):=(bAl _ _).drew;have hmx:=(hbx.block _ (by omega)).trans hmr;have hstx:=hst.mono hbx
     go_region_with (go_at_call 184;refine (zf HFT.out (zfk _ _ _ _ _ _ _ _ _ _ _ _ _ _ _ _ (by exact hmx) hvs (by exact hstx))).mono ?_;rintro e w3 ⟨rfl,hb3⟩)
     all_goals go_wp2_with fail
    all_goals have hB3:Below wr.heap.size wr w3:=hbx.trans (hb3.mono (by simp))
    all_goals first
     | (have hft:Gate.fits fs[k].kd fs[k].ls fs[k].ms fs[k].ws o.vs[k]=true:=HFT.out
        exact ⟨⟨k+1,by omega,by go_num,HS.out (by unfold Gate.zaf;rw [if_neg HE.out];unfold Gate.zeK;rw [hft];rfl),hBr.trans (hB3.mono hszr)⟩,by simp [intOf];omega⟩)
     | (have hft:Gate.fits fs[k].kd fs[k].ls fs[k].ms fs[k].ws o.vs[k]=false:=HFT.out
        go_ret;have hv:=HN.out 3 (by decide) (by unfold Gate.zaf;rw [if_neg HE.out];unfold Gate.zeK;rw [hft];rfl);exact ⟨by rw [hfs,hv];rfl,hB.trans (hB3.mono (by omega))⟩)
  ·have HF:Hid (Gate.jS fs o.vs=(0,0)):=by
    have e:k=fs.length:=by omega
    subst e;exact Gate.zhz hup
   clear hup;go_wp2_with fail
   go_ret;exact ⟨by rw [hfs,HF.out];rfl,hB⟩
theorem zc9 {P:Program} {f:FuncId} {args:Array Value} {w:World} {v v':Value} {R:World->Prop} (hb:v=v') (h:Calls P f args w fun e w'=>e = .returned v/\R w'):Calls P f args w fun e w'=>e = .returned v'/\R w':=by
 subst hb;exact h
def stage (ss:List Shp) (o:Ob):Nat->Bool
 | 0=>true
 | 1=>Gate.qM o
 | 2=>Gate.qM o && Gate.qZ o
 | 3=>Gate.qM o && Gate.qZ o && Gate.qA o
 | 4=>Gate.whole ss o
 | _=>Gate.whole ss o && decide ((Gate.jS (Gate.shapeOf ss o.kd).fs o.vs).1=0)
def zf0 (ss:List Shp) (o:Ob):Value:=zln (Gate.yH ss o).1 (Gate.yH ss o).2
theorem zgk {ss:List Shp} {o:Ob} (h:Gate.whole ss o=false):zf0 ss o = .iface 279 (.agg #[.int .i64 1,.int .i64 0]):=by
 unfold zf0 Gate.yH;rw [h];rfl
theorem zjf {ss:List Shp} {o:Ob} (h:Gate.whole ss o=true):zf0 ss o=zln (Gate.jS (Gate.shapeOf ss o.kd).fs o.vs).1 (Gate.jS (Gate.shapeOf ss o.kd).fs o.vs).2:=by
 unfold zf0 Gate.yH;rw [if_pos h]
theorem zeO {ss:List Shp} {o:Ob} (h:Gate.whole ss o=true):o.vs.length=(Gate.shapeOf ss o.kd).fs.length:=by
 unfold Gate.whole Gate.zx at h;simp only [Bool.and_eq_true,decide_eq_true_eq] at h;exact h.2.2
theorem zhV (a0:Option Addr) (cap0:Nat) (ss:List Shp) (o:Ob) (a a':Option Addr) (cap cap':Nat) (w:World) (hw:yI w a0 ss) (ho:qB w o a a') :
 Calls Tryz.prog 195 #[.slice a0 ss.length cap0,.agg #[.string o.kd,.string o.nm,.string o.tm,.slice a o.vs.length cap,.bool o.en,.slice a' o.hs.length cap',.int .i64 o.vr]] w
  fun e w'=>e = .returned (zf0 ss o)/\Below w.heap.size w w':=by
 go_enter Tryz.func195,Tryz.ntmps195;go_wp2_with fail
 go_loopw [10] (fun i wr=>∃ k:Nat,k<=5/\i = .int .i64 k/\stage ss o k=true/\Below (w.heap.size+1+1) ((w.alloc (.cells #[.string o.kd,.string o.nm,.string o.tm,.slice a o.vs.length cap,.bool o.en,.slice a' o.hs.length cap',.int .i64 o.vr] 119)).alloc (.cells #[.func (.func 209) #[] #[],.func (.func 210) #[] #[],.func (.func 211) #[] #[],.func (.func 212) #[] #[],.func (.func 213) #[] #[]] 271)) wr) (fun i _=>5 - (intOf i).toNat)
 case atStart=>exact ⟨0,Nat.zero_le _,rfl,rfl,bRf _ _⟩
 case round =>
  obtain ⟨k,hk,rfl,hstg,hBr⟩:=hrel;have HStg:Hid (stage ss o k=true):=hstg;clear hstg;have hszr:w.heap.size+1 < wr.heap.size:=by have:=hBr.size;simp at this;omega
  have hB:Below w.heap.size w wr:=(zA _ _ _).trans (hBr.mono (by omega));have hX:∀ j,wr.cell? ⟨w.heap.size,j,none⟩=(#[.string o.kd,.string o.nm,.string o.tm,.slice a o.vs.length cap,.bool o.en,.slice a' o.hs.length cap',.int .i64 o.vr]:Array Value)[j]?:=fun j=>(hBr.cell (p:=⟨w.heap.size,j,none⟩) (by simp;omega)).trans (by rw [World.cell?_alloc_lt _ _ ⟨w.heap.size,j,none⟩ (by simp)];exact zm w _ _ j)
  have hF:∀ j,wr.cell? ⟨w.heap.size+1,j,none⟩=(#[.func (.func 209) #[] #[],.func (.func 210) #[] #[],.func (.func 211) #[] #[],.func (.func 212) #[] #[],.func (.func 213) #[] #[]]:Array Value)[j]?:=fun j=>(hBr.cell (p:=⟨w.heap.size+1,j,none⟩) (by simp)).trans (by rw [World.cell?_alloc_at _ _ _ _ (by simp)])
  have hor:=ho.mono hB;have hwr:=hw.mono hB;have hcases:k=0 \/ k=1 \/ k=2 \/ k=3 \/ k=4 \/ k=5:=by omega
  rcases hcases with rfl | rfl | rfl | rfl | rfl | rfl
  ·by_cases hc:Gate.qM o=true
   ·have HV:Hid (jR (Gate.qM o) = .nilIface):=by unfold Hid;rw [hc];rfl
    have HS:Hid (stage ss o (0+1)=true):=by
     have h0:=HStg.out;simp only [stage] at h0 ⊢
     simp [hc,Hid]
    clear hc;go_wp2_with fail
    refine (zc9 HV.out (zev _ _ _ _ _ _ _ _ _ hor)).mono ?_;rintro e w1 ⟨rfl,hb1⟩;go_wp2_with fail
    exact ⟨⟨0+1,by omega,by rfl,HS.out,hBr.trans (hb1.mono (by omega))⟩,by simp [intOf]⟩
   ·have hc':(Gate.qM o)=false:=by simpa using hc
    have HV:Hid (jR (Gate.qM o) = .iface 279 (.agg #[.int .i64 1,.int .i64 0])):=by unfold Hid;rw [hc'];rfl
    have HW:Hid (zf0 ss o = .iface 279 (.agg #[.int .i64 1,.int .i64 0])):=zgk (by unfold Gate.whole;rw [hc'];simp);clear hc hc';go_wp2_with fail
    refine (zc9 HV.out (zev _ _ _ _ _ _ _ _ _ hor)).mono ?_;rintro e w1 ⟨rfl,hb1⟩;go_wp2_with fail
    go_ret;exact ⟨by rw [HW.out];rfl,hB.trans (hb1.mono (by omega))⟩
  ·by_cases hc:Gate.qZ o=true
   ·have HV:Hid (jR (Gate.qZ o) = .nilIface):=by unfold Hid;rw [hc];rfl
    have HS:Hid (stage ss o (1+1)=true):=by
     have h0:=HStg.out;simp only [stage] at h0 ⊢
     simp [h0,hc,Hid]
    clear hc;go_wp2_with fail
    refine (zc9 HV.out (zeC _ _ _ _ _ _ _ _ _ hor)).mono ?_;rintro e w1 ⟨rfl,hb1⟩;go_wp2_with fail
    exact ⟨⟨1+1,by omega,by rfl,HS.out,hBr.trans (hb1.mono (by omega))⟩,by simp [intOf]⟩
   ·have hc':(Gate.qZ o)=false:=by simpa using hc
    have HV:Hid (jR (Gate.qZ o) = .iface 279 (.agg #[.int .i64 1,.int .i64 0])):=by unfold Hid;rw [hc'];rfl
    have HW:Hid (zf0 ss o = .iface 279 (.agg #[.int .i64 1,.int .i64 0])):=zgk (by unfold Gate.whole;rw [hc'];simp);clear hc hc';go_wp2_with fail
    refine (zc9 HV.out (zeC _ _ _ _ _ _ _ _ _ hor)).mono ?_;rintro e w1 ⟨rfl,hb1⟩;go_wp2_with fail
    go_ret;exact ⟨by rw [HW.out];rfl,hB.trans (hb1.mono (by omega))⟩
  ·by_cases hc:Gate.qA o=true
   ·have HV:Hid (jR (Gate.qA o) = .nilIface):=by unfold Hid;rw [hc];rfl
    have HS:Hid (stage ss o (2+1)=true):=by
     have h0:=HStg.out;simp only [stage] at h0 ⊢
     simp [h0,hc,Hid]
    clear hc;go_wp2_with fail
    refine (zc9 HV.out (zdE _ _ _ _ _ _ _ _ _)).mono ?_;rintro e w1 ⟨rfl,hb1⟩;go_wp2_with fail
    exact ⟨⟨2+1,by omega,by rfl,HS.out,hBr.trans (hb1.mono (by omega))⟩,by simp [intOf]⟩
   ·have hc':(Gate.qA o)=false:=by simpa using hc
    have HV:Hid (jR (Gate.qA o) = .iface 279 (.agg #[.int .i64 1,.int .i64 0])):=by unfold Hid;rw [hc'];rfl
    have HW:Hid (zf0 ss o = .iface 279 (.agg #[.int .i64 1,.int .i64 0])):=zgk (by unfold Gate.whole;rw [hc'];simp);clear hc hc';go_wp2_with fail
    refine (zc9 HV.out (zdE _ _ _ _ _ _ _ _ _)).mono ?_;rintro e w1 ⟨rfl,hb1⟩;go_wp2_with fail
    go_ret;exact ⟨by rw [HW.out];rfl,hB.trans (hb1.mono (by omega))⟩
  ·by_cases hc:Gate.zx ss o=true
   ·have HV:Hid (jR (Gate.zx ss o) = .nilIface):=by unfold Hid;rw [hc];rfl
    have HS:Hid (stage ss o (3+1)=true):=by
     have h0:=HStg.out;simp only [stage,Gate.whole] at h0 ⊢
     simp [h0,hc,Hid]
    clear hc;go_wp2_with fail
    refine (zc9 HV.out (zeQ _ _ _ _ _ _ _ _ _ hwr hor)).mono ?_;rintro e w1 ⟨rfl,hb1⟩;go_wp2_with fail
    exact ⟨⟨3+1,by omega,by rfl,HS.out,hBr.trans (hb1.mono (by omega))⟩,by simp [intOf]⟩
   ·have hc':(Gate.zx ss o)=false:=by simpa using hc
    have HV:Hid (jR (Gate.zx ss o) = .iface 279 (.agg #[.int .i64 1,.int .i64 0])):=by unfold Hid;rw [hc'];rfl
    have HW:Hid (zf0 ss o = .iface 279 (.agg #[.int .i64 1,.int .i64 0])):=zgk (by unfold Gate.whole;rw [hc'];simp);clear hc hc';go_wp2_with fail
    refine (zc9 HV.out (zeQ _ _ _ _ _ _ _ _ _ hwr hor)).mono ?_;rintro e w1 ⟨rfl,hb1⟩;go_wp2_with fail
    go_ret;exact ⟨by rw [HW.out];rfl,hB.trans (hb1.mono (by omega))⟩
  ·have hwh:Gate.whole ss o=true:=HStg.out
   have HW:Hid (zf0 ss o=zln (Gate.jS (Gate.shapeOf ss o.kd).fs o.vs).1 (Gate.jS (Gate.shapeOf ss o.kd).fs o.vs).2):=zjf hwh
   by_cases hc:(Gate.jS (Gate.shapeOf ss o.kd).fs o.vs).1=0
   ·have HV:Hid (zln (Gate.jS (Gate.shapeOf ss o.kd).fs o.vs).1 (Gate.jS (Gate.shapeOf ss o.kd).fs o.vs).2 = .nilIface):=by unfold Hid;rw [hc];rfl
    have HS:Hid (stage ss o (4+1)=true):=by
     simp [stage,hwh,hc,Hid]
    have HCt:Hid (o.vs.length=(Gate.shapeOf ss o.kd).fs.length):=zeO hwh;clear hc hwh;go_wp2_with fail
    refine (zc9 HV.out (zen _ _ _ _ _ _ _ _ _ hwr hor HCt.out)).mono ?_;rintro e w1 ⟨rfl,hb1⟩;go_wp2_with fail
    exact ⟨⟨4+1,by omega,by rfl,HS.out,hBr.trans (hb1.mono (by omega))⟩,by simp [intOf]⟩
   ·have HV:Hid (zln (Gate.jS (Gate.shapeOf ss o.kd).fs o.vs).1 (Gate.jS (Gate.shapeOf ss o.kd).fs o.vs).2 = .iface 279 (.agg #[.int .i64 (Gate.jS (Gate.shapeOf ss o.kd).fs o.vs).1,.int .i64 (Gate.jS (Gate.shapeOf ss o.kd).fs o.vs).2])):=zlg hc
    have HCt:Hid (o.vs.length=(Gate.shapeOf ss o.kd).fs.length):=zeO hwh;clear hc hwh;go_wp2_with fail
    refine (zc9 HV.out (zen _ _ _ _ _ _ _ _ _ hwr hor HCt.out)).mono ?_;rintro e w1 ⟨rfl,hb1⟩;go_wp2_with fail
    go_ret;exact ⟨by rw [HW.out,HV.out];rfl,hB.trans (hb1.mono (by omega))⟩
  ·have HW:Hid (zf0 ss o = .nilIface):=by
    have h0:=HStg.out;simp only [stage,Bool.and_eq_true,decide_eq_true_eq] at h0;unfold Hid;rw [zjf h0.1,h0.2];rfl
   go_wp2_with fail
   go_ret;exact ⟨by rw [HW.out];rfl,hB⟩
end Go.Proofs.YtghnakljnhnenaaGreat
