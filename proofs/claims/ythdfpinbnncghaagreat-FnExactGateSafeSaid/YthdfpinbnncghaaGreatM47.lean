import Derived.Test.YthdfpinbnncghaaGreatM46
import Derived.WideKeyEntry
set_option maxHeartbeats 4000000
namespace Go.Proofs.YthdfpinbnncghaaGreat
open Go.RowKit
def zbT (l:Lw)(o:Ob):Bool:=decide ((yI l.ss o).1=0)&&decide (zbE l o=o.vs)
theorem zav {l:Lw}{o:Ob}(hok:yx l.ss l.ms=true)(h:(yI l.ss o).1=0):jm l.ss l.ms o=true:=by
 have hw:whole l.ss o=true:=by
  cases hc:whole l.ss o with
  | true=>rfl
  | false=>unfold yI at h;rw[if_neg (by rw[hc];simp)]at h;simp at h
 unfold whole zH at hw;unfold jm;simp only[Bool.and_eq_true]at hw ⊢;exact⟨hw.2.1,hw.2.2,hok⟩
theorem zeF {l:Lw}{o:Ob}(hm:jm l.ss l.ms o=true)(hs:zdQ l.ss)(hms:∀i (h:i<l.ms.length),l.ms[i].Small)(ho:∀s∈o.vs,s.size<=maxLen):∀s∈zbE l o,s.size<=maxLen:=by
 have hf:=zdk hm;have hk:zC l.ss o.kd=true:=by unfold jm at hm;simp only[Bool.and_eq_true]at hm;exact hm.1
 obtain⟨i,hi,e⟩:=zeZ hk;have h1:zcf (shapeOf l.ss o.kd).fs:=by rw[e];exact(hs.small i hi).2.2
 exact zco hms _ _ (zgU h1 ho hf.1)
theorem ze8 {l:Lw}{o:Ob}{w:World}{a:OA}{lo:Nat}(h:zA lo w a (zbE l o))(hm:jm l.ss l.ms o=true)(hl:o.vs.length<=maxLen)(hs:∀s∈zbE l o,s.size<=maxLen):zJ w a (zbE l o):=h.at (by rw[zcW hm];exact hl) hs
theorem zkv (a c:OA)(ca cc:Nat)(xs ys:List BA)(w:World)(hx:zJ w a xs)(hy:zJ w c ys)(hl:xs.length<=1048576)(hl':ys.length<=1048576)(hn:xs.length=ys.length) :
 Calls Tryz.prog 219 #[.l a ys.length ca,.l c ys.length cc] w fun e w'=>e=.returned (.bool (decide (xs=ys)))/\Bw w w':=by
 have h:=zjh a c ca cc xs ys w hx hy hl hl';rw[hn]at h;exact h
set_option maxRecDepth 20000 in
theorem zmY (l:Lw)(a b c:OA)(ca cb cc:Nat)(o:Ob)(va ha:OA)(cap cap':Nat)(w:World)(hL:yH w l a b c)(hml:l.ms.length<=1048576)(ho:zab w o va ha)(hl:o.vs.length<=1048576)(hl':o.hs.length<=1048576)(hok:yx l.ss l.ms=true) :
 Calls Tryz.prog 162 #[.agg #[.l a l.ss.length ca,.l b l.ms.length cb,.l c l.ts.length cc],.agg #[.s o.kd,.s o.nm,.s o.tm,.l va o.vs.length cap,.bool o.en,.l ha o.hs.length cap',.i o.vr]] w fun e w'=>e=.returned (.bool (zbT l o))/\Bw w w':=by
 have hfd:∀(s0 s1 s2:BA) (x y:OA) (n m p q:Nat) (t:Bool) (v:Int) (wf:World),(Instr.field 145 (.agg #[.s s0,.s s1,.s s2,.l x n p,.bool t,.l y m q,.i v]) 3).run Tryz.prog wf=.ok (.l x n p) wf:=fun s0 s1 s2 x y n m p q t v wf=>by kernel_rfl
 have HH:=ji hL ho;clear hL ho;obtain⟨r,hr⟩:=xN (zbT l o);rw[<- hr];have HR:Hid (r=zbT l o):=hr;clear hr;go_enter Tryz.func162,Tryz.ntmps162;go_wp2_with fail
 have hb2:=zx w (.cells #[.l a l.ss.length ca,.l b l.ms.length cb,.l c l.ts.length cc] 44) (.cells (oC o va ha cap cap') 145);refine(zi6 _ _ l.ss o _ _ _ _ _ (HH.o.1.ss.mono hb2) (HH.o.2.mono hb2)).mono ?_;rintro e w1⟨rfl,hb1⟩;have hX0:∀j,w1.cell? (aD w.heap.size j)=(#[.l a l.ss.length ca,.l b l.ms.length cb,.l c l.ts.length cc]:AV)[j]?:=fun j=>cell_of_block ((hb1.block w.heap.size (by simp;omega)).trans (yt _ _ _).1)
 have hX1:∀j,w1.cell? (aD (w.heap.size+1) j)=((oC o va ha cap cap'):AV)[j]?:=fun j=>cell_of_block ((hb1.block (w.heap.size+1) (by simp)).trans (yt _ _ _).2)
 have hz1:w.heap.size+1<w1.heap.size:=by have:=hb1.size;simp at this;omega
 have hz0:w.heap.size<w1.heap.size:=by omega
 have hB1:Bw w w1:=hb2.trans (hb1.mono (by simp;omega));clear hb1 hb2
 by_cases hc:(yI l.ss o).1=0
 rotate_left
 ·have HF:Hid (r=false):=by unfold Hid;rw[HR.o];unfold zbT;rw[decide_eq_false hc];rfl
  have hv:zhe l.ss o=.iface 342 (.agg #[.i (yI l.ss o).1,.i (yI l.ss o).2]):=zmT hc;rw[hv];clear hc hv;go_wp2_with fail
  go_ret;exact⟨ze HF.o.symm,hB1⟩
 have HMD:=hid (zav hok hc);have HS:=hid (zeF HMD.o HH.o.1.ss.smalls HH.o.1.ms.small HH.o.2.vals.small);have HF:Hid (decide (zbE l o=o.vs)=r):=by unfold Hid;rw[HR.o];unfold zbT;rw[decide_eq_true hc];rfl
 have hv:zhe l.ss o=.nilIface:=by unfold zhe;rw[hc];rfl
 rw[hv];have HLN:=hid (zcW HMD.o);clear hc hv;go_wp2_with fail
 have hS0:=za hX0 hz0 (bRf w1.heap.size w1).drew;have hS1:=za hX1 hz1 (bRf w1.heap.size w1).drew;have hb:=(bRf w1.heap.size w1).drew;have hzl:=hz0;have hzo:=hz1;clear hX0 hX1
 go_region_held3 (fun w'=>(∀j,w'.cell? (aD w.heap.size j)=(#[.l a l.ss.length ca,.l b l.ms.length cb,.l c l.ts.length cc]:AV)[j]?)/\(∀j,w'.cell? (aD (w.heap.size+1) j)=(#[.s o.kd,.s o.nm,.s o.tm,.l va o.vs.length cap,.bool o.en,.l ha o.hs.length cap',.i o.vr]:AV)[j]?)) (exact⟨fun j=>by rw[hS0],fun j=>by rw[hS1]⟩) (first
  | (go_at_call 220;refine(zlw l a b c ca cb cc o va ha cap cap' _ (by exact HH.o.1.mono (hB1.trans (hb.mono hB1.size))) hml (by exact HH.o.2.mono (hB1.trans (hb.mono hB1.size))) hl hl' HMD.o).mono ?_;rintro e w5⟨e0,dap,e1,dap',rfl,ht5,hb5⟩;have hS0:=za hS0 hzl hb5;have hS1:=za hS1 hzo hb5;have hb:=hb.trans (hb5.mono hb.size);have hO5:zJ w5 e0 (zbE l o):=ze8 ht5 HMD.o HH.o.2.vals.len HS.o;clear ht5 hb5)
  | (go_at_call 219;refine(zkv _ va _ cap (zbE l o) o.vs _ (by exact hO5) (by exact HH.o.2.vals.mono (hB1.trans (hb.mono hB1.size))) (by rw[HLN.o];exact hl) hl HLN.o).mono ?_;rintro e w6⟨rfl,hb6⟩;rw[HF.o];have hS0:=fun j=>(hb6.cell (p:=(aD w.heap.size j)) (nLt hzl hb.size)).trans (hS0 j);have hS1:=fun j=>(hb6.cell (p:=(aD (w.heap.size+1) j)) (nLt hzo hb.size)).trans (hS1 j);have hb:=hb.trans (hb6.mono hb.size);clear hb6))
 go_wp2_with fail
 go_ret;exact⟨rfl,hB1.trans (hb.mono hB1.size)⟩
theorem znT {lo:Nat}{w:World}{v:Value}{ws:List BA}(h:w.ownsRow lo 9 1 v ws.length (ws.map Value.string))(hne:v≠.l none 0 0):∃a cap,v=.l a ws.length cap/\zA lo w a ws/\∃g,a=some (aD g 0):=by
 obtain⟨a,cap,hv,ht⟩:=zA.zgk h;refine⟨a,cap,hv,ht,?_⟩;obtain⟨_,⟨h0,_⟩|⟨g,cp,cur,h0,_⟩⟩:=id h
 ·exact absurd h0 hne
 ·rw[hv]at h0;cases h0;exact⟨g,rfl⟩
def zqw (o:Ob)(vs:List BA)(w:World)(e:Ending)(w':World):Prop:=
 ∃a dap a' dap' m,e=.returned (.agg #[.s o.kd,.s o.nm,.s o.tm,.l a o.vs.length dap,.bool o.en,.l a' o.hs.length dap',.i o.vr])/\zA w.heap.size w' a vs/\(∀g,a=some g->g.block<m)/\w.heap.size<=m/\zA m w' a' o.hs/\Bw w w'/\(∃g,a=some (aD g 0))/\∃g,a'=some (aD g 0)
set_option maxRecDepth 20000 in
theorem zic (o:Ob)(b off b' off' cap cap':Nat)(w:World)(ho:zab w o (some (aD b off)) (some (aD b' off')))(hl:o.vs.length<=1048576)(hl':o.hs.length<=1048576) :
 Calls Tryz.prog 194 #[.agg #[.s o.kd,.s o.nm,.s o.tm,.l (some (aD b off)) o.vs.length cap,.bool o.en,.l (some (aD b' off')) o.hs.length cap',.i o.vr]] w
  fun e w'=>∃a dap a' dap' m,e=.returned (.agg #[.s o.kd,.s o.nm,.s o.tm,.l a o.vs.length dap,.bool o.en,.l a' o.hs.length dap',.i o.vr])/\zA w.heap.size w' a o.vs/\(∀g,a=some g->g.block<m)/\w.heap.size<=m/\zA m w' a' o.hs/\Bw w w'/\(∃g,a=some (aD g 0))/\∃g,a'=some (aD g 0):=by
 obtain⟨i0,hi,hz0,hz1',hz2⟩:=info_parts Tryz.zdi;go_enter Tryz.func194,Tryz.ntmps194
 go_wp2_with (first
  | (at_builtin;refine wpList_append_own _ rfl (.tmp 3) (.tmp 5) 110 rfl (w.heap.size+1+1) 9 i0 (.s ByteArray.empty) 1 16 Tryz.underlying110 hi hz0 hz1' hz2 rfl (by decide) (.l (some (aD (w.heap.size+1+1) 0)) 0 0) 0 [] rfl ⟨rfl,.inr ⟨w.heap.size+1+1,0,#[],rfl,Nat.le_refl _,zcA _ _ _ _,Nat.le_refl _,by simp[maxLen],rfl,rfl⟩⟩ (aD b off) o.vs.length cap (o.vs.map Value.string) rfl (by simp) (zfA (ho.vals.mono (jR _ _ _ _))) zgC (by unfold maxLen;omega) (by omega) (by simp) ?_;intro v' w1 hown hgr hnn;simp only[Nat.zero_add,List.nil_append]at hown;obtain⟨a,dap,rfl,ht1,hsA⟩:=znT hown (fun h=>by have:=(hnn.1 h).1;cases this);clear hnn;obtain⟨hk1,hr1,hB1,hz1⟩:=zib hgr;have hX1:∀j,w1.cell? (aD w.heap.size j)=(#[.s o.kd,.s o.nm,.s o.tm,.l (some (aD b off)) o.vs.length cap,.bool o.en,.l (some (aD b' off')) o.hs.length cap',.i o.vr]:AV)[j]?:=fun j=>cell_of_block hk1;have hF1:∀j,w1.frozen? (aD w.heap.size j)=false:=fun j=>zl hk1;have hzz1:w.heap.size<w1.heap.size:=(by omega);have hone:=hB1.setCell (p:=(aD w.heap.size 3)) (Nat.le_refl _) (.l a o.vs.length dap);have HT1:Hid (zA (w.heap.size+1+1) w1 a o.vs):=ht1;have HK1:Hid (w1.heap[w.heap.size]?=some (.cells #[.s o.kd,.s o.nm,.s o.tm,.l (some (aD b off)) o.vs.length cap,.bool o.en,.l (some (aD b' off')) o.hs.length cap',.i o.vr] 145)):=hk1;have HR1:Hid (w1.heap[w.heap.size+1]?=some (.cells #[.s ByteArray.empty,.s ByteArray.empty,.s ByteArray.empty,.l none 0 0,.bool false,.l none 0 0,.i 0] 145)):=hr1;clear ht1 hk1 hr1;clear hown hgr)
  | (at_builtin;refine wpList_append_own _ rfl (.tmp 8) (.tmp 10) 110 rfl w1.heap.size 9 i0 (.s ByteArray.empty) 1 16 Tryz.underlying110 hi hz0 hz1' hz2 rfl (by decide) (.l (some (aD w1.heap.size 0)) 0 0) 0 [] rfl ⟨rfl,.inr ⟨w1.heap.size,0,#[],rfl,Nat.le_refl _,zp2 _ _ _ _,Nat.le_refl _,(by simp[maxLen]),rfl,rfl⟩⟩ (aD b' off') o.hs.length cap' (o.hs.map Value.string) rfl (by simp) (zfA (ho.holds.mono (hone.alloc hone.size _))) zgC (by unfold maxLen;omega) (by omega) (by simp[World.setCell]) ?_;intro v'' w2 hown hgr hnn;simp only[Nat.zero_add,List.nil_append]at hown;obtain⟨a',dap',rfl,ht2,hsA'⟩:=znT hown (fun h=>by have:=(hnn.1 h).1;cases this);clear hnn;obtain⟨hk2,hr2,hB2,hz2'⟩:=zlP HK1.o HR1.o hB1 hz1 hgr;have HU2:Hid (zA w1.heap.size w2 a' o.hs):=ht2;have HT2:Hid (zA (w.heap.size+1+1) w2 a o.vs):=((HT1.o.setCell _ (by simp;omega) _).mono (bAl _ _)).grown hgr (fun g hg=>Nat.ne_of_lt (HT1.o.lt g hg));have hX2:∀j,w2.cell? (aD w.heap.size j)=(#[.s o.kd,.s o.nm,.s o.tm,.l a o.vs.length dap,.bool o.en,.l (some (aD b' off')) o.hs.length cap',.i o.vr]:AV)[j]?:=fun j=>cell_of_block hk2;have hF2:∀j,w2.frozen? (aD w.heap.size j)=false:=fun j=>zl hk2;have hY2:∀j,w2.cell? (aD (w.heap.size+1) j)=(#[.s ByteArray.empty,.s ByteArray.empty,.s ByteArray.empty,.l none 0 0,.bool false,.l none 0 0,.i 0]:AV)[j]?:=fun j=>cell_of_block hr2;have hG2:∀j,w2.frozen? (aD (w.heap.size+1) j)=false:=fun j=>zl hr2;have hzz2:w.heap.size+1<w2.heap.size:=(by omega);clear hown hgr ht2 hk2 hr2 hX1 hF1))
 refine bodyPost_ret (v:=(.agg #[.s o.kd,.s o.nm,.s o.tm,.l a o.vs.length dap,.bool o.en,.l a' o.hs.length dap',.i o.vr])) (by simp[results,Tryz.results194,go_sem,hY2]) rfl ⟨a,dap,a',dap',w1.heap.size,rfl,((((((((HT2.o.setCell _ (by simp;omega) _).setCell _ (by simp) _).setCell _ (by simp) _).setCell _ (by simp) _).setCell _ (by simp) _).setCell _ (by simp) _).setCell _ (by simp) _).setCell _ (by simp) _).low (by omega),HT1.o.lt,by omega,((((((((HU2.o.setCell _ (by simp;omega) _).setCell _ (by simp;omega) _).setCell _ (by simp;omega) _).setCell _ (by simp;omega) _).setCell _ (by simp;omega) _).setCell _ (by simp;omega) _).setCell _ (by simp;omega) _).setCell _ (by simp;omega) _),((((((((hB2.setCell (Nat.le_refl _) _).setCell (by simp) _).setCell (by simp) _).setCell (by simp) _).setCell (by simp) _).setCell (by simp) _).setCell (by simp) _).setCell (by simp) _),hsA,hsA'⟩
theorem zon (a0:OA)(cap0:Nat)(ss:List Shp)(o:Ob)(b off b' off' cap cap':Nat)(w:World)(hw:yR w a0 ss)(ho:zab w o (some (aD b off)) (some (aD b' off')))(hl:o.vs.length<=1048576)(hl':o.hs.length<=1048576) :
 Calls Tryz.prog 140 #[.l a0 ss.length cap0,.agg #[.s o.kd,.s o.nm,.s o.tm,.l (some (aD b off)) o.vs.length cap,.bool o.en,.l (some (aD b' off')) o.hs.length cap',.i o.vr]] w (zqw o (qJ ss o) w):=by
 by_cases hc:zH ss o=true
 rotate_left
 ·have HC:Hid (zH ss o=false):=by simpa[Hid] using hc
  have HRES:Hid (qJ ss o=o.vs):=by unfold Hid qJ;rw[if_neg hc]
  clear hc;have HH:Hid (zab w o (some (aD b off)) (some (aD b' off'))):=ho;clear ho;go_enter Tryz.func140,Tryz.ntmps140;go_wp2_with fail
  refine(zic o b off b' off' cap cap' _ (HH.o.mono (zx w (.cells #[.s o.kd,.s o.nm,.s o.tm,.l (some (aD b off)) o.vs.length cap,.bool o.en,.l (some (aD b' off')) o.hs.length cap',.i o.vr] 145) (.cells #[.s ByteArray.empty,.s ByteArray.empty,.s ByteArray.empty,.l none 0 0,.bool false,.l none 0 0,.i 0] 145))) hl hl').mono ?_;rintro e w1⟨a,dap,a',dap',m,rfl,ht,hm,hsm,ht',hb1,hsA,hsA'⟩;have HO1:Hid (w1.heap[w.heap.size]?=some (.cells (oC o (some (aD b off)) (some (aD b' off')) cap cap') 145)):=(hb1.block w.heap.size (by simp;omega)).trans (yt _ _ _).1;have HR1:Hid (w1.heap[w.heap.size+1]?=some (.cells oZ 145)):=(hb1.block (w.heap.size+1) (by simp)).trans (yt _ _ _).2;have hX1:∀j,w1.cell? (aD w.heap.size j)=((oC o (some (aD b off)) (some (aD b' off')) cap cap'):AV)[j]?:=fun j=>cell_of_block HO1.o
  have hz1:w.heap.size+1<w1.heap.size:=by have:=hb1.size;simp at this;omega
  have hz0:w.heap.size<w1.heap.size:=by omega
  have hB1:Bw w w1:=(zx _ _ _).trans (hb1.mono (by simp;omega))
  have HT:Hid (zA (w.heap.size+1+1) w1 a o.vs/\(∀g,a=some g->g.block<m)/\w.heap.size+1+1<=m/\zA m w1 a' o.hs):=by
   simp only[World.size_alloc]at ht hsm;exact⟨ht,hm,hsm,ht'⟩
  clear ht hm hsm ht' hb1;go_wp2_with fail
  have hbs:=(bRf w1.heap.size w1).alloc (Nat.le_refl _) (.cells (oC o a a' dap dap') 145);have hBs:=hB1.trans (hbs.mono hB1.size);refine(zdC a0 cap0 ss o _ _ cap cap' _ (hw.mono hBs) (HH.o.mono hBs) HC.o).mono ?_;rintro e w2⟨v,rfl,hb2⟩;have hba:=hbs.trans (hb2.mono hbs.size);have hR2:=(hba.block _ hz1).trans HR1.o;have hU2:∀j,w2.cell? (aD w1.heap.size j)=((oC o a a' dap dap'):AV)[j]?:=za (zn w1 _ _) (by simp) hb2;have hRc:∀j,w2.cell? (aD (w.heap.size+1) j)=(oZ:AV)[j]?:=fun j=>cell_of_block hR2
  have hRf:∀j,w2.frozen? (aD (w.heap.size+1) j)=false:=fun j=>zl hR2
  have HX:Hid (zA (w.heap.size+1+1) w2 a o.vs/\zA m w2 a' o.hs/\Bw w w2):=⟨HT.o.1.mono hba,HT.o.2.2.2.mono hba,hB1.trans (hba.mono hB1.size)⟩
  clear hbs hBs hb2 hba hR2 hX1;go_wp2_with fail
  refine bodyPost_ret (v:=(.agg #[.s o.kd,.s o.nm,.s o.tm,.l a o.vs.length dap,.bool o.en,.l a' o.hs.length dap',.i o.vr])) (by simp[results,Tryz.results140,go_sem,hRc]) rfl ?_;obtain⟨ht,ht',hB⟩:=HX.o;rw[HRES.o];exact⟨a,dap,a',dap',m,rfl,(jZ ht _ (by omega) _ _ _ _ _ _ _).low (by omega),HT.o.2.1,by have:=HT.o.2.2.1;omega,jZ ht' _ (by have:=HT.o.2.2.1;omega) _ _ _ _ _ _ _,zaV hB _ (by omega) _ _ _ _ _ _ _,hsA,hsA'⟩
 have HC:Hid (zH ss o=true):=hc;have HRES:Hid (qJ ss o=zaq (shapeOf ss o.kd).fs o.vs):=by unfold Hid qJ;rw[if_pos hc]
 have HCC:Hid (o.vs.length=(shapeOf ss o.kd).fs.length):=by unfold zH at hc;simp only[Bool.and_eq_true,decide_eq_true_eq]at hc;exact hc.2
 clear hc;have HH:Hid (zab w o (some (aD b off)) (some (aD b' off'))):=ho;clear ho;go_enter Tryz.func140,Tryz.ntmps140;go_wp2_with fail
 refine(zic o b off b' off' cap cap' _ (HH.o.mono (zx w (.cells #[.s o.kd,.s o.nm,.s o.tm,.l (some (aD b off)) o.vs.length cap,.bool o.en,.l (some (aD b' off')) o.hs.length cap',.i o.vr] 145) (.cells #[.s ByteArray.empty,.s ByteArray.empty,.s ByteArray.empty,.l none 0 0,.bool false,.l none 0 0,.i 0] 145))) hl hl').mono ?_;rintro e w1⟨a,dap,a',dap',m,rfl,ht,hm,hsm,ht',hb1,hsA,hsA'⟩;have HO1:Hid (w1.heap[w.heap.size]?=some (.cells (oC o (some (aD b off)) (some (aD b' off')) cap cap') 145)):=(hb1.block w.heap.size (by simp;omega)).trans (yt _ _ _).1;have HR1:Hid (w1.heap[w.heap.size+1]?=some (.cells oZ 145)):=(hb1.block (w.heap.size+1) (by simp)).trans (yt _ _ _).2;have hX1:∀j,w1.cell? (aD w.heap.size j)=((oC o (some (aD b off)) (some (aD b' off')) cap cap'):AV)[j]?:=fun j=>cell_of_block HO1.o
 have hz1:w.heap.size+1<w1.heap.size:=by have:=hb1.size;simp at this;omega
 have hz0:w.heap.size<w1.heap.size:=by omega
 have hB1:Bw w w1:=(zx _ _ _).trans (hb1.mono (by simp;omega))
 have HT:Hid (zA (w.heap.size+1+1) w1 a o.vs/\(∀g,a=some g->g.block<m)/\w.heap.size+1+1<=m/\zA m w1 a' o.hs):=by
  simp only[World.size_alloc]at ht hsm;exact⟨ht,hm,hsm,ht'⟩
 clear ht hm hsm ht' hb1;go_wp2_with fail
 have hbs:=(bRf w1.heap.size w1).alloc (Nat.le_refl _) (.cells (oC o a a' dap dap') 145);have hBs:=hB1.trans (hbs.mono hB1.size);refine(zfU a0 cap0 ss o _ _ cap cap' w _ hw hBs HC.o).mono ?_;rintro e w2⟨fa,fcap,rfl,hf,hb2⟩;have hba:=hbs.trans (hb2.mono hbs.size);have HR2:Hid (w2.heap[w.heap.size+1]?=some (.cells oZ 145)):=(hba.block _ hz1).trans HR1.o;have HU2:Hid (w2.heap[w1.heap.size]?=some (.cells (oC o a a' dap dap') 145)):=(hb2.block _ (by simp)).trans (alloc_at _ _);have HX2:Hid (zA (w.heap.size+1+1) w2 a o.vs/\zA m w2 a' o.hs/\Bw w w2):=⟨HT.o.1.mono hba,HT.o.2.2.2.mono hba,hB1.trans (hba.mono hB1.size)⟩
 have hz2:w1.heap.size<w2.heap.size:=(gES HU2.o).1;clear hbs hBs hb2 hba hX1 hw;have hlen:=hf.len;unfold maxLen at hlen
 revert HRES HCC hf hlen
 generalize (shapeOf ss o.kd).fs=fs
 intro HRES HCC hf hlen;go_wp2_with fail
 go_loopw [8] (fun i wr=>∃k:Nat,k<=fs.length/\i=.i k/\zA (w.heap.size+1+1) wr a (jG fs o.vs k)/\zA m wr a' o.hs/\wr.heap[w.heap.size+1]?=some (.cells #[.s ByteArray.empty,.s ByteArray.empty,.s ByteArray.empty,.l none 0 0,.bool false,.l none 0 0,.i 0] 145)/\wr.heap[w1.heap.size]?=some (.cells #[.s o.kd,.s o.nm,.s o.tm,.l a o.vs.length dap,.bool o.en,.l a' o.hs.length dap',.i o.vr] 145)/\Bw w wr) (fun i _=>fs.length-(intOf i).toNat)
 case atStart=>exact⟨0,Nat.zero_le _,rfl,by rw[ziy];exact HX2.o.1,HX2.o.2.1,HR2.o,HU2.o,HX2.o.2.2⟩
 case round=>
  obtain⟨k,hk,rfl,ht,ht',hR,hO,hB⟩:=hrel;have hOc:∀j,wr.cell? (aD w1.heap.size j)=((oC o a a' dap dap'):AV)[j]?:=fun j=>cell_of_block hO
  have hOz:w1.heap.size<wr.heap.size:=(gES hO).1
  by_cases hlt:k<fs.length
  ·have hltv:k<o.vs.length:=by rw[HCC.o];exact hlt
   obtain⟨fb,foff,rfl,hfb,hr⟩:=hf.rows (by rintro rfl;simp at hlt);obtain⟨wa,wcap,hf0⟩:=hr k hlt;have hf1:=hf0.mono hfb hB;obtain⟨c0,c1,c2,c3,c4,c5,c6,c7,c8,c9,c10⟩:=hf1.load;have hltI:(k:Int)<(fs.length:Int):=by omega
   have hltV:(k:Int)<(o.vs.length:Int):=by omega
   obtain⟨g,C,hga,hgl,hgh,hgc⟩:∃g C,a=some (aD g 0)/\w.heap.size+1+1<=g/\wr.heap[g]?=some (.cells C 9)/\∀i (h:i<(jG fs o.vs k).length),C[i]?=some (.s (jG fs o.vs k)[i]):=by
    rcases ht with⟨_,h0⟩|h0
    ·have:=zaI HCC.o k;rw[h0]at this;simp at this;omega
    ·exact h0
   have hgm:g<m:=HT.o.2.1 _ hga;have hgw1:g<w1.heap.size:=HT.o.1.lt _ hga;have hgw:g<wr.heap.size:=by omega
   subst hga
   have hcell:wr.cell? (aD g k)=some (.s o.vs[k]):=by
    have h1:=zfL HCC.o k hlt;have hkl:k<(jG fs o.vs k).length:=by rw[zaI HCC.o];exact hltv
    rw[List.getElem?_eq_getElem hkl,List.getElem?_eq_getElem hltv]at h1;rw[cell_of_block hgh,hgc k hkl,Option.some.inj h1]
   have hgf:wr.frozen? (aD g k)=false:=zl hgh;have HX:Hid (zA (w.heap.size+1+1) wr (some (aD g 0)) (jG fs o.vs k)/\zA m wr a' o.hs/\wr.heap[w.heap.size+1]?=some (.cells oZ 145)/\wr.heap[w1.heap.size]?=some (.cells (oC o (some (aD g 0)) a' dap dap') 145)/\Bw w wr):=⟨ht,ht',hR,hO,hB⟩
   clear ht ht' hR hO hB hr hf0 hf1 hgh hgc hf
   by_cases hv:o.vs[k].toList.isEmpty=true
   ·have HV:Hid (zaD fs[k] o.vs[k]=fs[k].df):=by unfold Hid zaD;rw[if_pos hv]
    go_wp2_with fail
    have hfg:fb≠g:=by omega
    have hq1:(wr.setCell (aD g k) (.s fs[k].df)).drew.cell? (aD w1.heap.size 3)=some (.l (some (aD g 0)) o.vs.length dap):=(yu (by show w1.heap.size≠g;omega)).trans (hOc 3);have hq2:(wr.setCell (aD g k) (.s fs[k].df)).drew.cell? (aD fb (foff+k*11+9))=some (.s fs[k].df):=(yu hfg).trans c9;have hgd:wr.drew.frozen? (aD g k)=false:=hgf;have hcd:wr.drew.cell? (aD g k)=some (.s o.vs[k]):=hcell
    go_region_held3 (fun w'=>w'.cell? (aD w1.heap.size 3)=some (.l (some (aD g 0)) o.vs.length dap)/\w'.cell? (aD fb (foff+k*11+9))=some (.s fs[k].df)) (first|exact⟨hOc 3,c9⟩|exact⟨hq1,hq2⟩) (fail)
    go_wp2_with fail
    obtain⟨ht,ht',hR,hO,hB⟩:=HX.o;exact⟨⟨k+1,by omega,by go_num,by rw[zdq HCC.o k hlt,HV.o];exact ht.set k _,ht'.setCell _ hgm _,(Below.heap_setCell _ _ _ _ (by show w.heap.size+1≠g;omega)).trans hR,(Below.heap_setCell _ _ _ _ (by show w1.heap.size≠g;omega)).trans hO,(hB.setCell (p:=(aD g k)) (by show w.heap.size<=g;omega) _).drew⟩,zw hlt⟩
   ·have HV:Hid (zaD fs[k] o.vs[k]=o.vs[k]):=by unfold Hid zaD;rw[if_neg hv]
    go_wp2_with fail
    obtain⟨ht,ht',hR,hO,hB⟩:=HX.o
    have hsame:(jG fs o.vs k).set k o.vs[k]=jG fs o.vs k:=by
     have h1:=zfL HCC.o k hlt;have hkl:k<(jG fs o.vs k).length:=by rw[zaI HCC.o];exact hltv
     rw[List.getElem?_eq_getElem hkl,List.getElem?_eq_getElem hltv]at h1;rw[<- Option.some.inj h1,List.set_getElem_self]
    exact⟨⟨k+1,by omega,by go_num,by rw[zdq HCC.o k hlt,HV.o,hsame];exact ht,ht',hR,hO,hB⟩,zw hlt⟩
  ·have e:k=fs.length:=by omega
   subst e;rw[zj4 HCC.o]at ht;have hRc:∀j,wr.cell? (aD (w.heap.size+1) j)=(oZ:AV)[j]?:=fun j=>cell_of_block hR
   have hRf:∀j,wr.frozen? (aD (w.heap.size+1) j)=false:=fun j=>zl hR
   have HX:Hid (zA (w.heap.size+1+1) wr a (zaq fs o.vs)/\zA m wr a' o.hs/\Bw w wr):=⟨ht,ht',hB⟩
   clear ht ht' hB hR hO hf;go_wp2_with fail
   refine bodyPost_ret (v:=(.agg #[.s o.kd,.s o.nm,.s o.tm,.l a o.vs.length dap,.bool o.en,.l a' o.hs.length dap',.i o.vr])) (by simp[results,Tryz.results140,go_sem,hRc]) rfl ?_;obtain⟨ht,ht',hB⟩:=HX.o;rw[HRES.o];exact⟨a,dap,a',dap',m,rfl,(jZ ht _ (by omega) _ _ _ _ _ _ _).low (by omega),HT.o.2.1,by have:=HT.o.2.2.1;omega,jZ ht' _ (by have:=HT.o.2.2.1;omega) _ _ _ _ _ _ _,zaV hB _ (by omega) _ _ _ _ _ _ _,hsA,hsA'⟩
theorem y8.entry {kt mt:TypeId}(K:zjz kt)(hm:Tryz.prog.underlying mt=some (.map kt 3)){w:World}{r:Nat}{f:BA->BA->Option Int}(h:y8 w r f)(a b:BA)(ha:a.size<=maxLen)(hb:b.size<=maxLen)(v0:Int)(hf:f a b=some v0) :
 ∃st:Int,(Instr.mapEntry mt (.map (some r)) (jr a b)).run Tryz.prog w=.ok (.tuple #[.i v0,.i st]) w /\
  ∀v:Int,∃w',(Instr.entryStore mt (.map (some r)) (.i st) (.i v)).run Tryz.prog w=.ok () w'/\y8 w' r (fun p q=>if p=a/\q=b then some v else f p q)/\zhY r w w':=by
 obtain⟨es,clock,hh,h1,h2,h3⟩:=h.ex;obtain⟨l,hl⟩:=K.key a b ha hb;obtain⟨s1,s2⟩:=h.stamps es clock hh
 have hkeys:∀e∈es.toList,∃l,keyOf Tryz.prog kt e.key=some l:=fun e he=>by
  obtain⟨a',b',v,e1,ha',hb',_⟩:=h1 e he;rw[e1];exact K.key a' b' ha' hb'
 have hc:=K.law.check w false hl;have hs:=K.law.stays w hl
 rcases K.law.find w hl es.toList hkeys with⟨g1,g2⟩|⟨j,e,g1,g2,g3⟩
 ·obtain⟨x,hx,hk⟩:=h2 a b v0 hf
  exact absurd hk (g2 x hx)
 ·have hj:es[j]?=some e:=by simpa using g2
  have hv:e.val=.i v0:=by
   obtain⟨a',b',v',e1,_,_,e2,e3⟩:=h1 e (List.mem_of_getElem? g2);rw[g3]at e1;have hab:a=a'/\b=b':=by unfold jr at e1;simpa using e1
   obtain⟨rfl,rfl⟩:=hab;rw[e3]at hf;rw[e2,Option.some.inj hf]
  have hsame:es.modify j (fun e=>{ e with key:=jr a b })=es:=by
   apply Array.ext'
   rw[Array.toList_modify]
   apply List.ext_getElem?
   intro i;rw[List.getElem?_modify]
   by_cases e':j=i
   ·subst e'
    rw[g2]
    simp[<- g3]
   ·simp[e']
  have hset:{ w with heap:=w.heap.setIfInBounds r (.map es clock) }=w:=by
   have hr:r<w.heap.size:=(gES hh).1
   have:w.heap.setIfInBounds r (.map es clock)=w.heap:=by
    apply Array.ext_getElem?
    intro i
    by_cases e':r=i
    ·subst e';rw[Array.getElem?_setIfInBounds_self_of_lt hr,hh]
    ·rw[Array.getElem?_setIfInBounds_ne e']
   rw[this]
  refine⟨(e.born:Int),?_,fun v=>?_⟩
  ·rw[hv]at g1
   simp[Instr.mapEntry,run_underlying hm,MapKept.run_getObj_map hh,hc,g1,hj,g3,hs,hsame,MapKept.run_setObj_map _ hh,Result.andThen,goInt,hset]
  ·obtain⟨w',u1,u2,u3⟩:=h.upd K hm a b ha hb v
   refine⟨w',?_,u2,u3⟩
   have hidx:es.findIdx? (fun e'=>((e'.born:Nat):Int) == ((e.born:Nat):Int))=some j:=by
    rw[WideElems.findIdx_arr];exact WideElems.findIdx_born s2 g2
   have hmod:es.modify j (fun e=>{ e with val:=.i v })=es.modify j (fun e'=>{ e' with key:=jr a b,val:=.i v }):=by
    apply Array.ext'
    rw[Array.toList_modify,Array.toList_modify]
    apply List.ext_getElem?
    intro i;rw[List.getElem?_modify,List.getElem?_modify]
    by_cases e':j=i
    ·subst e'
     rw[g2]
     simp[<- g3]
    ·simp[e']
   simp[Instr.mapUpdate,run_underlying hm,MapKept.run_getObj_map hh,hc,g1,hj,g3,hs,MapKept.run_setObj_map _ hh,Result.andThen]at u1
   simp[Instr.entryStore,MapKept.run_getObj_map hh,asInt,asIntOf,hidx,hmod,MapKept.run_setObj_map _ hh,Result.andThen]
   exact u1
theorem zcg (ss:List Shp)(o:Ob):(qJ ss o).length=o.vs.length:=by
 unfold qJ
 split
 ·rename_i h;unfold zH at h;simp only[Bool.and_eq_true,decide_eq_true_eq]at h;exact jc h.2
 ·rfl
theorem zkw {ss:List Shp}{ms:List Mnd}(h:yx ss ms=true):yg ss=true:=by
 unfold yx at h;simp only[Bool.and_eq_true]at h;exact h.1.1.2
theorem znR {ss:List Shp}{ms:List Mnd}{o:Ob}(h:yx ss ms=true):zce ss ms o=zcT ss ms ⟨o.kd,o.nm,o.tm,qJ ss o,o.en,o.hs,o.vr⟩:=by
 have e:jm ss ms ⟨o.kd,o.nm,o.tm,qJ ss o,o.en,o.hs,o.vr⟩=jm ss ms o:=by
  unfold jm;simp only[zcg]
 unfold zce zcT;rw[e]
 by_cases hm:jm ss ms o=true
 ·rw[if_pos hm,if_pos hm]
  have hc:zH ss o=true:=by rw[<- za0 h];exact hm
  unfold zg6 qJ;rw[if_pos hc]
 ·rw[if_neg hm,if_neg hm]
  have hc:¬zH ss o=true:=by rw[<- za0 h];exact hm
  show o.vs=qJ ss o
  unfold qJ;rw[if_neg hc]
theorem zoh (a0 ma:OA)(cap0 mcap:Nat)(ss:List Shp)(ms:List Mnd)(o:Ob)(us:List BA)(hus:us.length=o.vs.length)(b off b' off' cap cap':Nat)(w:World)(hw:yR w a0 ss)(hm:qZ w ma ms)(hsm:o.Small)(ho:zJ w (some (aD b off)) us)(ho':zJ w (some (aD b' off')) o.hs)(hl:o.vs.length<=1048576)(hl':o.hs.length<=1048576)(hok:yx ss ms=true) :
 Calls Tryz.prog 139 #[.l a0 ss.length cap0,.l ma ms.length mcap,.agg #[.s o.kd,.s o.nm,.s o.tm,.l (some (aD b off)) o.vs.length cap,.bool o.en,.l (some (aD b' off')) o.hs.length cap',.i o.vr]] w (zgz o (zcT ss ms ⟨o.kd,o.nm,o.tm,us,o.en,o.hs,o.vr⟩) w):=by
 have h:=zmK a0 ma cap0 mcap ss ms ⟨o.kd,o.nm,o.tm,us,o.en,o.hs,o.vr⟩ b off b' off' cap cap' w hw hm ⟨⟨hsm.kd,hsm.nm,hsm.tm⟩,ho,ho'⟩ (by show us.length<=_;omega) hl' hok;unfold zgz at h ⊢;simp only[hus]at h;exact h
theorem zgJ (a0 ma:OA)(cap0 mcap:Nat)(ss:List Shp)(ms:List Mnd)(o:Ob)(b off b' off' cap cap':Nat)(w:World)(hw:yR w a0 ss)(hmm:qZ w ma ms)(ho:zab w o (some (aD b off)) (some (aD b' off')))(hl:o.vs.length<=1048576)(hl':o.hs.length<=1048576)(hok:yx ss ms=true) :
 Calls Tryz.prog 97 #[.l a0 ss.length cap0,.l ma ms.length mcap,.agg #[.s o.kd,.s o.nm,.s o.tm,.l (some (aD b off)) o.vs.length cap,.bool o.en,.l (some (aD b' off')) o.hs.length cap',.i o.vr]] w (zgz o (zce ss ms o) w):=by
 have HRES:Hid (zce ss ms o=zcT ss ms ⟨o.kd,o.nm,o.tm,qJ ss o,o.en,o.hs,o.vr⟩):=znR hok;have HSM:Hid ((qJ ss o).length<=maxLen/\∀s∈qJ ss o,s.size<=maxLen):=⟨by rw[zcg];exact ho.vals.len,by rw[<- zoQ (zkw hok)];exact zoN hw.smalls ho.vals.small⟩
 have HH:=zcl hw hmm ho;clear hw hmm ho;have hb2:=zx w (.cells (oC o (some (aD b off)) (some (aD b' off')) cap cap') 145) (.cells oZ 145);go_enter Tryz.func97,Tryz.ntmps97;go_wp2_with fail
 refine(zon a0 cap0 ss o b off b' off' cap cap' _ (HH.o.1.mono hb2) (HH.o.2.2.mono hb2) hl hl').mono ?_;rintro e w1⟨a1,dap1,a1',dap1',m1,rfl,ht1,hm1,hsm1,ht1',hb1,⟨g,rfl⟩,⟨g',rfl⟩⟩;have HR1:Hid (w1.heap[w.heap.size+1]?=some (.cells oZ 145)):=(hb1.block (w.heap.size+1) (by simp)).trans (yt _ _ _).2;have hz1:w.heap.size+1<w1.heap.size:=by have:=hb1.size;simp at this;omega
 have hB1:Bw w w1:=hb2.trans (hb1.mono (by simp;omega));have hv1:=ht1.at HSM.o.1 HSM.o.2;have hv1':=ht1'.at HH.o.2.2.holds.len HH.o.2.2.holds.small;clear hb1 hb2 ht1 hm1 hsm1 ht1';go_wp2_with fail
 refine(zoh a0 ma cap0 mcap ss ms o (qJ ss o) (zcg ss o) g 0 g' 0 _ _ _ (HH.o.1.mono hB1) (HH.o.2.1.mono hB1) HH.o.2.2.small hv1 hv1' hl hl' hok).mono ?_;rintro e w4⟨a,dap,a',dap',m,rfl,ht,hm,hsm,ht',hb4⟩;have hR4:=(hb4.block (w.heap.size+1) hz1).trans HR1.o;have hRc:∀j,w4.cell? (aD (w.heap.size+1) j)=(oZ:AV)[j]?:=fun j=>cell_of_block hR4
 have hRf:∀j,w4.frozen? (aD (w.heap.size+1) j)=false:=fun j=>zl hR4
 have HX:Hid (zA (w.heap.size+1+1) w4 a (zce ss ms o)/\(∀g,a=some g->g.block<m)/\w.heap.size+1+1<=m/\zA m w4 a' o.hs/\Bw w w4):=by rw[HRES.o];exact⟨ht.low hz1,hm,Nat.le_trans hz1 hsm,ht',hB1.trans (hb4.mono hB1.size)⟩
 clear ht hm hsm ht' hb4 hR4;go_wp2_with fail
 refine bodyPost_ret (v:=(.agg #[.s o.kd,.s o.nm,.s o.tm,.l a o.vs.length dap,.bool o.en,.l a' o.hs.length dap',.i o.vr])) (by simp[results,Tryz.results97,go_sem,hRc]) rfl ?_;obtain⟨ht,hm,hsm,ht',hB⟩:=HX.o;exact⟨a,dap,a',dap',m,rfl,(jZ ht _ (by omega) _ _ _ _ _ _ _).low (by omega),hm,by omega,jZ ht' _ (by omega) _ _ _ _ _ _ _,zaV hB _ (by omega) _ _ _ _ _ _ _⟩
structure zjA (b:Bk):Prop where
 one:∀i j (hi:i<b.ls.length) (hj:j<b.ls.length),b.ls[i].tm=b.ls[j].tm->b.ls[i].rs=b.ls[j].rs->i=j
 has:∀k (hk:k<b.ps.length),∃j,∃hj:j<b.ls.length,b.ls[j].tm=b.ps[k].tm/\b.ls[j].rs=b.ps[k].rs
 fr:∀i (hi:i<b.ls.length),0<=b.ls[i].fr/\b.ls[i].fr<=1000000
 am:∀i (hi:i<b.ps.length),0<=b.ps[i].am/\b.ps[i].am<=1000000
 ll:b.ls.length<=1000
 lp:b.ps.length<=1000
 sz:qR b.os<=1048576
def sumTo (l:Lw)(b:Bk)(g:Lg)(k:Nat):Int:=g.fr+used l b.os g.tm g.rs+zbt b.ps g.tm g.rs k
theorem zer (l:Lw)(b:Bk)(tm rs:BA)(h:qR b.os<=1048576):0<=used l b.os tm rs/\used l b.os tm rs<=20000000000000:=by
 have h2:=zcr l b.os tm rs b.os.length (Nat.le_refl _);rw[tOl (Nat.le_refl _)]at h2;unfold used;unfold qR at h;omega
theorem zgI {r:Nat}{w w':World}(h:zhY r w w'){b o:Nat}(hb:b≠r):w'.cell? (aD b o)=w.cell? (aD b o):=by
 unfold World.cell?
 rw[h.out b hb]
set_option maxRecDepth 20000 in
theorem zpy (l:Lw)(la lb lc:OA)(lca lcb lcc:Nat)(b:Bk)(a0 a1 a2 a3:OA)(c0 c1 c2 c3:Nat)(w:World)(hl:yH w l la lb lc)(hb:jU w b a0 a1 a2 a3)(hs:zjA b) :
 Calls Tryz.prog 174 #[.agg #[.l la l.ss.length lca,.l lb l.ms.length lcb,.l lc l.ts.length lcc],.agg #[.i b.now,.i b.tick,.i b.given,.l a0 b.os.length c0,.l a1 b.gs.length c1,.l a2 b.ls.length c2,.l a3 b.ps.length c3]] w fun e w'=>(∃r f,e=.returned (.map (some r))/\w.heap.size<=r/\y8 w' r f/\∀i (hi:i<b.ls.length),f b.ls[i].tm b.ls[i].rs=some (sumTo l b b.ls[i] b.ps.length))/\Bw w w':=by
 have HH:Hid (yH w l la lb lc/\jU w b a0 a1 a2 a3/\zjA b):=⟨hl,hb,hs⟩
 have hll:=hs.ll;have hlp:=hs.lp;have hmk:∀w:World,(Instr.makeMap 261 none).run Tryz.prog w=.ok (.map (some w.heap.size)) (w.alloc (.map #[] 0)):=fun w=>by kernel_rfl
 clear hl hb hs;go_enter Tryz.func174,Tryz.ntmps174;go_wp2_with fail
 have HB0:Hid (Bw w ((w.alloc (.cells #[.l la l.ss.length lca,.l lb l.ms.length lcb,.l lc l.ts.length lcc] 44)).alloc (.cells (bC b a0 a1 a2 a3 c0 c1 c2 c3) 51))):=zx _ _ _;have hX0:∀j,((w.alloc (.cells #[.l la l.ss.length lca,.l lb l.ms.length lcb,.l lc l.ts.length lcc] 44)).alloc (.cells (bC b a0 a1 a2 a3 c0 c1 c2 c3) 51)).cell? (aD w.heap.size j)=(#[.l la l.ss.length lca,.l lb l.ms.length lcb,.l lc l.ts.length lcc]:AV)[j]?:=fun j=>cell_of_block (yt _ _ _).1
 have hX1:∀j,((w.alloc (.cells #[.l la l.ss.length lca,.l lb l.ms.length lcb,.l lc l.ts.length lcc] 44)).alloc (.cells (bC b a0 a1 a2 a3 c0 c1 c2 c3) 51)).cell? (aD (w.heap.size+1) j)=((bC b a0 a1 a2 a3 c0 c1 c2 c3):AV)[j]?:=fun j=>cell_of_block (yt _ _ _).2
 obtain⟨W0,hW0⟩:=xN ((w.alloc (.cells #[.l la l.ss.length lca,.l lb l.ms.length lcb,.l lc l.ts.length lcc] 44)).alloc (.cells (bC b a0 a1 a2 a3 c0 c1 c2 c3) 51));have hsz:W0.heap.size=w.heap.size+1+1:=by rw[hW0];simp
 rw[<- hW0]at HB0 hX0 hX1 ⊢;clear hW0;have hz0:w.heap.size<W0.heap.size:=by omega
 have hz1:w.heap.size+1<W0.heap.size:=by omega
 have HSZ:=hid hsz;clear hsz;have hba:=(bRf W0.heap.size W0).alloc (Nat.le_refl _) (.map #[] 0);have hY1:=za hX1 hz1 hba;have hzm:=nLt hz1 hba.size;go_wp2_with fail
 clear hmk hY1 hzm hba
 go_loopw [14] (fun iv wr=>∃k:Nat,k<=b.ls.length/\iv=.i k/\Hid ((∃f,y8 wr W0.heap.size f/\∀i (hi:i<b.ls.length),i<k->f b.ls[i].tm b.ls[i].rs=some (sumTo l b b.ls[i] 0))/\Bw W0 wr)) (fun iv _=>b.ls.length-(intOf iv).toNat)
 case atStart=>exact⟨0,Nat.zero_le _,rfl,⟨_,y8.new W0,fun i hi h=>absurd h (Nat.not_lt_zero _)⟩,bAl _ _⟩
 case round=>
  obtain⟨k,hk,rfl,HQ⟩:=hrel;have hkn:k<=1000:=by omega
  by_cases hlt:k<b.ls.length
  ·obtain⟨f,hf,hfk⟩:=HQ.o.1
   have hBr:=HQ.o.2;have HBw:Hid (∀W,Bw W0 W->Bw w W):=fun W hW=>HB0.o.trans (hW.mono HB0.o.size)
   obtain⟨ob,off,rfl,hob,d0,d1,d2,d3⟩:=HH.o.2.1.ls.load (HBw.o _ hBr) k hlt;have hsm:=HH.o.2.1.ls.small k hlt;have hltI:(k:Int)<(b.ls.length:Int):=by omega
   have hob':=nLt hob (HBw.o _ hBr).size;have hfr:=HH.o.2.2.fr k hlt;have hus:=zer l b b.ls[k].tm b.ls[k].rs HH.o.2.2.sz;have hwr:IntKind.i64.wrap (b.ls[k].fr+used l b.os b.ls[k].tm b.ls[k].rs)=b.ls[k].fr+used l b.os b.ls[k].tm b.ls[k].rs:=by rw[IntKind.wrap_i64];omega
   have hS0:=za hX0 hz0 hBr;have hS1:=za hX1 hz1 hBr;have HM:=ji hf hBr;have HFK:=hid hfk;have hzl:=nLt hz0 hBr.size;have hzb:=nLt hz1 hBr.size;clear hf hfk hBr HQ;go_wp2_with fail
   have hba:=(bRf wr.heap.size wr).alloc (Nat.le_refl _) (.cells #[.s b.ls[k].tm,.s b.ls[k].rs,.i b.ls[k].mo,.i b.ls[k].fr] 148);have hT0:=za hS0 hzl hba;have hT1:=za hS1 hzb hba;have hT2:=zn wr #[.s b.ls[k].tm,.s b.ls[k].rs,.i b.ls[k].mo,.i b.ls[k].fr] 148;have hzg:wr.heap.size<(wr.alloc (.cells #[.s b.ls[k].tm,.s b.ls[k].rs,.i b.ls[k].mo,.i b.ls[k].fr] 148)).heap.size:=by simp
   obtain⟨W2,hW2⟩:=xN (wr.alloc (.cells #[.s b.ls[k].tm,.s b.ls[k].rs,.i b.ls[k].mo,.i b.ls[k].fr] 148));rw[<- hW2]at hba hT0 hT1 hT2 hzg ⊢;clear hW2 hS0 hS1 d0 d1 d2 d3;have hS0:=za hT0 (nLt hzl hba.size) (bRf W2.heap.size W2).drew;have hS1:=za hT1 (nLt hzb hba.size) (bRf W2.heap.size W2).drew;have hS2:=za hT2 hzg (bRf W2.heap.size W2).drew;have hb:=hba.trans ((bRf W2.heap.size W2).drew.mono hba.size);have hy0:=nLt hzl hb.size;have hy1:=nLt hzb hb.size;have hy2:=hzg;have hne0:w.heap.size≠W0.heap.size:=by have:=HSZ.o;omega
   have hne1:w.heap.size+1≠W0.heap.size:=by have:=HSZ.o;omega
   have hne2:wr.heap.size≠W0.heap.size:=by have:=HM.o.1.lt;omega
   have HNE:=zcl hne0 hne1 hne2;clear hne0 hne1 hne2;clear hT0 hT1 hT2 hba
   go_region_held3 (fun w'=>(∀j,w'.cell? (aD w.heap.size j)=(#[.l la l.ss.length lca,.l lb l.ms.length lcb,.l lc l.ts.length lcc]:AV)[j]?)/\(∀j,w'.cell? (aD (w.heap.size+1) j)=(#[.i b.now,.i b.tick,.i b.given,.l a0 b.os.length c0,.l a1 b.gs.length c1,.l (some (aD ob off)) b.ls.length c2,.l a3 b.ps.length c3]:AV)[j]?)/\(∀j,w'.cell? (aD wr.heap.size j)=(#[.s b.ls[k].tm,.s b.ls[k].rs,.i b.ls[k].mo,.i b.ls[k].fr]:AV)[j]?)) (first|exact⟨fun j=>by rw[hS0],fun j=>by rw[hS1],fun j=>by rw[hS2]⟩|exact⟨fun j=>by rw[hU0],fun j=>by rw[hU1],fun j=>by rw[hU2]⟩) (first
    | (go_at_call 175;refine(zbM b.ls[k] _).mono ?_;rintro e w5⟨rfl,hb5⟩;unfold jr;have hS0:=za hS0 hy0 hb5;have hS1:=za hS1 hy1 hb5;have hS2:=za hS2 hy2 hb5;have hy0:=nLt hy0 hb5.size;have hy1:=nLt hy1 hb5.size;have hy2:=nLt hy2 hb5.size;have hb:=hb.trans (hb5.mono hb.size);clear hb5)
    | (go_at_call 225;refine(zmi l la lb lc lca lcb lcc b a0 a1 (some (aD ob off)) a3 c0 c1 c2 c3 _ _ _ (by exact HH.o.1.mono ((HBw.o _ HM.o.2).trans (hb.mono (HBw.o _ HM.o.2).size))) (by exact HH.o.2.1.mono ((HBw.o _ HM.o.2).trans (hb.mono (HBw.o _ HM.o.2).size))) HH.o.2.2.sz).mono ?_;rintro e w6⟨rfl,hb6⟩;have hS0:=za hS0 hy0 hb6;have hS1:=za hS1 hy1 hb6;have hS2:=za hS2 hy2 hb6;have hb:=hb.trans (hb6.mono hb.size);have hf6:=HM.o.1.mono hb;obtain⟨w7,hup,hf7,hp7⟩:=hf6.upd zde Tryz.underlying261 b.ls[k].tm b.ls[k].rs hsm.tm hsm.rs (b.ls[k].fr+used l b.os b.ls[k].tm b.ls[k].rs);unfold jr at hup;rw[HSZ.o]at hup;have hU0:=fun j=>(zgI hp7 (o:=j) HNE.o.1).trans (hS0 j);have hU1:=fun j=>(zgI hp7 (o:=j) HNE.o.2.1).trans (hS1 j);have hU2:=fun j=>(zgI hp7 (o:=j) HNE.o.2.2).trans (hS2 j);clear hb6))
   go_wp2_with fail
   refine⟨⟨k+1,by omega,by go_num,⟨_,hf7,fun i hi hik=>?_⟩,hp7.below (HM.o.2.trans (hb.mono HM.o.2.size)) (Nat.le_refl _)⟩,zw hlt⟩
   by_cases e:i=k
   ·subst e
    rw[if_pos ⟨rfl,rfl⟩]
    simp[sumTo,zbt]
   ·rw[if_neg (fun h=>e (HH.o.2.2.one i k hi hlt h.1 h.2))]
    exact HFK.o i hi (by omega)
  ·have e:k=b.ls.length:=by omega
   have hBr:=HQ.o.2;have hS1:=za hX1 hz1 hBr;have hzb:=nLt hz1 hBr.size
   have HM:Hid (∃f,y8 wr W0.heap.size f/\∀i (hi:i<b.ls.length),f b.ls[i].tm b.ls[i].rs=some (sumTo l b b.ls[i] 0)):=by
    obtain⟨f,hf,hfk⟩:=HQ.o.1;exact⟨f,hf,fun i hi=>hfk i hi (by omega)⟩
   have HBr:=hid hBr;have HBw:Hid (∀W,Bw W0 W->Bw w W):=fun W hW=>HB0.o.trans (hW.mono HB0.o.size)
   clear hBr HQ hlt hk hkn;subst e;go_wp2_with fail
   clear hS1
   go_loopw [35] (fun iv ws=>∃k:Nat,k<=b.ps.length/\iv=.i k/\Hid ((∃f,y8 ws W0.heap.size f/\∀i (hi:i<b.ls.length),f b.ls[i].tm b.ls[i].rs=some (sumTo l b b.ls[i] k))/\Bw W0 ws)) (fun iv _=>b.ps.length-(intOf iv).toNat)
   case atStart=>exact⟨0,Nat.zero_le _,rfl,HM.o,HBr.o⟩
   case round=>
    obtain⟨k,hk,rfl,HQ⟩:=hrel;have hkn:k<=1000:=by omega
    by_cases hlt:k<b.ps.length
    ·obtain⟨f,hf,hfk⟩:=HQ.o.1
     have hBr:=HQ.o.2;obtain⟨ob,off,rfl,hob,d0,d1,d2,d3,d4⟩:=HH.o.2.1.ps.load (HBw.o _ hBr) k hlt;have hsm:=HH.o.2.1.ps.small k hlt;have hltI:(k:Int)<(b.ps.length:Int):=by omega
     have hob':=nLt hob (HBw.o _ hBr).size
     obtain⟨v,hv,hvb⟩:∃v,f b.ps[k].tm b.ps[k].rs=some v/\0<=v/\v<=30000000000000:=by
      obtain⟨j,hj,e1,e2⟩:=HH.o.2.2.has k hlt;refine⟨_,by rw[<- e1,<- e2];exact hfk j hj,?_⟩;have h1:=HH.o.2.2.fr j hj;have h2:=zer l b b.ls[j].tm b.ls[j].rs HH.o.2.2.sz;have h3:=zbV b.ps b.ls[j].tm b.ls[j].rs HH.o.2.2.am k hk;unfold sumTo;omega
     have ham:=HH.o.2.2.am k hlt;have hwr:IntKind.i64.wrap (v+b.ps[k].am)=v+b.ps[k].am:=by rw[IntKind.wrap_i64];omega
     have HM2:=zk2 hf hBr hv hfk;clear hf hfk hBr HQ hv hvb
     have HFIN:Hid (∀i (hi:i<b.ls.length),(if b.ls[i].tm=b.ps[k].tm/\b.ls[i].rs=b.ps[k].rs then some (v+b.ps[k].am) else f b.ls[i].tm b.ls[i].rs)=some (sumTo l b b.ls[i] (k+1))):=by
      intro i hi;obtain⟨_,_,g1,g2⟩:=HM2.o;have g3:=g2 i hi
      by_cases e:b.ls[i].tm=b.ps[k].tm/\b.ls[i].rs=b.ps[k].rs
      ·rw[if_pos e]
       have g4:v=sumTo l b b.ls[i] k:=by
        rw[e.1,e.2,g1]at g3;exact Option.some.inj g3
       unfold sumTo at g4 ⊢;rw[zfI _ _ _ _ hlt,if_pos (by unfold zoT;simp[e.1,e.2]),g4]
       congr 1
       omega
      ·rw[if_neg e,g3]
       unfold sumTo;rw[zfI _ _ _ _ hlt,if_neg (by unfold zoT;simp only[Bool.and_eq_true,decide_eq_true_eq];exact fun h=>e ⟨h.1.symm,h.2.symm⟩)]
       congr 1
       omega
     go_wp2_with fail
     have hba:=(bRf wr.heap.size wr).alloc (Nat.le_refl _) (.cells #[.s b.ps[k].dr,.s b.ps[k].tm,.s b.ps[k].rs,.i b.ps[k].am,.i b.ps[k].un] 150);have hT2:=zn wr #[.s b.ps[k].dr,.s b.ps[k].tm,.s b.ps[k].rs,.i b.ps[k].am,.i b.ps[k].un] 150;have hzg:wr.heap.size<(wr.alloc (.cells #[.s b.ps[k].dr,.s b.ps[k].tm,.s b.ps[k].rs,.i b.ps[k].am,.i b.ps[k].un] 150)).heap.size:=by simp
     obtain⟨W2,hW2⟩:=xN (wr.alloc (.cells #[.s b.ps[k].dr,.s b.ps[k].tm,.s b.ps[k].rs,.i b.ps[k].am,.i b.ps[k].un] 150));rw[<- hW2]at hba hT2 hzg ⊢;clear hW2 d0 d1 d2 d3 d4;have hS2:=za hT2 hzg (bRf W2.heap.size W2).drew;have hb:=hba.trans ((bRf W2.heap.size W2).drew.mono hba.size);have hy2:=hzg;have HNE:Hid (wr.heap.size≠W0.heap.size):=by have:=HM2.o.1.lt;intro h;omega
     clear hT2 hba
     go_region_held3 (fun w'=>∀j,w'.cell? (aD wr.heap.size j)=(#[.s b.ps[k].dr,.s b.ps[k].tm,.s b.ps[k].rs,.i b.ps[k].am,.i b.ps[k].un]:AV)[j]?) (first|exact fun j=>by rw[hS2]|exact fun j=>by rw[hU2]) (first
      | (go_at_call 173;refine(zd4 b.ps[k] _).mono ?_;rintro e w5⟨rfl,hb5⟩;have hS2:=za hS2 hy2 hb5;have hb:=hb.trans (hb5.mono hb.size);have hf5:=HM2.o.1.mono hb;have hlk:=hf5.look zde Tryz.underlying261 b.ps[k].tm b.ps[k].rs hsm.tm hsm.rs false;rw[HM2.o.2.2.1]at hlk;obtain⟨st,hen,hst⟩:=hf5.entry zde Tryz.underlying261 b.ps[k].tm b.ps[k].rs hsm.tm hsm.rs v HM2.o.2.2.1;obtain⟨w7,hup,hf7,hp7⟩:=hst (v+b.ps[k].am);unfold jr at hlk hen ⊢;rw[HSZ.o]at hlk hen hup;simp only[Option.getD_some,Bool.false_eq_true,if_false]at hlk;have hU2:=fun j=>(zgI hp7 (o:=j) HNE.o).trans (hS2 j);clear hb5 hst))
     all_goals first|(go_wp2_with fail;exact⟨⟨k+1,by omega,by go_num,⟨_,hf7,HFIN.o⟩,hp7.below (HM2.o.2.1.trans (hb.mono HM2.o.2.1.size)) (Nat.le_refl _)⟩,zw hlt⟩)|exact⟨⟨k+1,by omega,by go_num,⟨_,hf7,HFIN.o⟩,hp7.below (HM2.o.2.1.trans (hb.mono HM2.o.2.1.size)) (Nat.le_refl _)⟩,zw hlt⟩
    ·have e:k=b.ps.length:=by omega
     subst e;have HE:=hid HQ.o;clear HQ hlt hk;go_wp2_with fail
     go_ret;obtain⟨⟨f,h1,h2⟩,h3⟩:=HE.o;rw[HSZ.o]at h1;exact⟨⟨_,f,rfl,by omega,h1,h2⟩,HBw.o _ h3⟩
def zbc (l:Lw)(b:Bk)(g:Lg):Bool:=decide (sumTo l b g b.ps.length=g.mo)
def zc9 (l:Lw)(b:Bk):Bool:=b.ls.all (zbc l b)
set_option maxRecDepth 20000 in
theorem zn5 (l:Lw)(la lb lc:OA)(lca lcb lcc:Nat)(b:Bk)(a0 a1 a2 a3:OA)(c0 c1 c2 c3:Nat)(w:World)(hl:yH w l la lb lc)(hb:jU w b a0 a1 a2 a3)(hs:zjA b) :
 Calls Tryz.prog 119 #[.agg #[.l la l.ss.length lca,.l lb l.ms.length lcb,.l lc l.ts.length lcc],.agg #[.i b.now,.i b.tick,.i b.given,.l a0 b.os.length c0,.l a1 b.gs.length c1,.l a2 b.ls.length c2,.l a3 b.ps.length c3]] w fun e w'=>e=.returned (.bool (zc9 l b))/\Bw w w':=by
 have HH:=zcl hl hb hs;have hll:=hs.ll;clear hl hb hs;have HG:Hid (zc9 l b=b.ls.all (zbc l b)):=rfl;go_enter Tryz.func119,Tryz.ntmps119;go_wp2_with fail
 have hb2:=zx w (.cells #[.l la l.ss.length lca,.l lb l.ms.length lcb,.l lc l.ts.length lcc] 44) (.cells (bC b a0 a1 a2 a3 c0 c1 c2 c3) 51);refine(zpy l la lb lc lca lcb lcc b a0 a1 a2 a3 c0 c1 c2 c3 _ (HH.o.1.mono hb2) (HH.o.2.1.mono hb2) HH.o.2.2).mono ?_;rintro e w1⟨⟨r,f,rfl,hr,hf,hfk⟩,hb1⟩;have hX1:∀j,w1.cell? (aD (w.heap.size+1) j)=((bC b a0 a1 a2 a3 c0 c1 c2 c3):AV)[j]?:=fun j=>cell_of_block ((hb1.block (w.heap.size+1) (by simp)).trans (yt _ _ _).2)
 have hz1:w.heap.size+1<w1.heap.size:=by have:=hb1.size;simp at this;omega
 have HB1:Hid (Bw w w1):=hb2.trans (hb1.mono (by simp;omega));have HM:=ji hf hfk;clear hb1 hb2 hf hfk hr;go_wp2_with fail
 go_loopw [14] (fun iv wr=>∃k:Nat,k<=b.ls.length/\iv=.i k/\Hid ((b.ls.take k).all (zbc l b)=true/\Bw w1 wr)) (fun iv _=>b.ls.length-(intOf iv).toNat)
 case atStart=>exact⟨0,Nat.zero_le _,rfl,by simp,bRf _ _⟩
 case round=>
  obtain⟨k,hk,rfl,HQ⟩:=hrel;have hkn:k<=1000:=by omega
  by_cases hlt:k<b.ls.length
  ·have hBr:=HQ.o.2
   have hBw:=HB1.o.trans (hBr.mono HB1.o.size);obtain⟨ob,off,rfl,hob,d0,d1,d2,d3⟩:=HH.o.2.1.ls.load hBw k hlt;have hsm:=HH.o.2.1.ls.small k hlt;have hltI:(k:Int)<(b.ls.length:Int):=by omega
   have hob':ob<wr.heap.size:=nLt hob hBw.size;have HSn:Hid ((b.ls.take (k+1)).all (zbc l b)=((b.ls.take k).all (zbc l b)&&(zbc l b) b.ls[k])):=qM _ _ _ hlt;have HNo:Hid ((zbc l b) b.ls[k]=false->zc9 l b=false):=fun h=>by rw[HG.o];exact zaH _ _ _ hlt h
   have HYes:Hid ((zbc l b) b.ls[k]=true->(b.ls.take (k+1)).all (zbc l b)=true):=fun h=>by rw[HSn.o,HQ.o.1,h];rfl
   obtain⟨v,hv⟩:=xN (sumTo l b b.ls[k] b.ps.length);have HM2:Hid (y8 wr r f/\Bw w1 wr/\f b.ls[k].tm b.ls[k].rs=some v):=⟨HM.o.1.mono hBr,hBr,by rw[hv];exact HM.o.2 k hlt⟩
   have HV:=hid hv;clear hBr hBw HQ hv
   by_cases he:v=b.ls[k].mo
   ·have e2:(v != b.ls[k].mo)=false:=by simp[he]
    have HN:Hid ((b.ls.take (k+1)).all (zbc l b)=true):=HYes.o (by unfold zbc;rw[decide_eq_true_eq,<- HV.o];exact he);clear he;go_wp2_with fail
    have hba:=(bRf wr.heap.size wr).alloc (Nat.le_refl _) (.cells #[.s b.ls[k].tm,.s b.ls[k].rs,.i b.ls[k].mo,.i b.ls[k].fr] 148);have hT2:=zn wr #[.s b.ls[k].tm,.s b.ls[k].rs,.i b.ls[k].mo,.i b.ls[k].fr] 148;have hzg:wr.heap.size<(wr.alloc (.cells #[.s b.ls[k].tm,.s b.ls[k].rs,.i b.ls[k].mo,.i b.ls[k].fr] 148)).heap.size:=by simp
    obtain⟨W2,hW2⟩:=xN (wr.alloc (.cells #[.s b.ls[k].tm,.s b.ls[k].rs,.i b.ls[k].mo,.i b.ls[k].fr] 148));rw[<- hW2]at hba hT2 hzg ⊢;clear hW2 d0 d1 d2 d3;have hS2:=za hT2 hzg (bRf W2.heap.size W2).drew;have hb:=hba.trans ((bRf W2.heap.size W2).drew.mono hba.size);have hy2:=hzg;clear hT2 hba
    go_region_held3 (fun w'=>∀j,w'.cell? (aD wr.heap.size j)=(#[.s b.ls[k].tm,.s b.ls[k].rs,.i b.ls[k].mo,.i b.ls[k].fr]:AV)[j]?) (exact fun j=>by rw[hS2]) (first
     | (go_at_call 175;refine(zbM b.ls[k] _).mono ?_;rintro e w5⟨rfl,hb5⟩;have hS2:=za hS2 hy2 hb5;have hb:=hb.trans (hb5.mono hb.size);have hf5:=HM2.o.1.mono hb;have hlk:=hf5.look zde Tryz.underlying261 b.ls[k].tm b.ls[k].rs hsm.tm hsm.rs false;rw[HM2.o.2.2]at hlk;unfold jr at hlk ⊢;simp only[Option.getD_some,Bool.false_eq_true,if_false]at hlk;clear hb5))
    go_wp2_with fail
    exact⟨⟨k+1,by omega,by go_num,HN.o,HM2.o.2.1.trans (hb.mono HM2.o.2.1.size)⟩,zw hlt⟩
   ·have e2:(v != b.ls[k].mo)=true:=by simp[he]
    have HN:Hid (zc9 l b=false):=HNo.o (by unfold zbc;rw[decide_eq_false_iff_not,<- HV.o];exact he);clear he;go_wp2_with fail
    have hba:=(bRf wr.heap.size wr).alloc (Nat.le_refl _) (.cells #[.s b.ls[k].tm,.s b.ls[k].rs,.i b.ls[k].mo,.i b.ls[k].fr] 148);have hT2:=zn wr #[.s b.ls[k].tm,.s b.ls[k].rs,.i b.ls[k].mo,.i b.ls[k].fr] 148;have hzg:wr.heap.size<(wr.alloc (.cells #[.s b.ls[k].tm,.s b.ls[k].rs,.i b.ls[k].mo,.i b.ls[k].fr] 148)).heap.size:=by simp
    obtain⟨W2,hW2⟩:=xN (wr.alloc (.cells #[.s b.ls[k].tm,.s b.ls[k].rs,.i b.ls[k].mo,.i b.ls[k].fr] 148));rw[<- hW2]at hba hT2 hzg ⊢;clear hW2 d0 d1 d2 d3;have hS2:=za hT2 hzg (bRf W2.heap.size W2).drew;have hb:=hba.trans ((bRf W2.heap.size W2).drew.mono hba.size);have hy2:=hzg;clear hT2 hba
    go_region_held3 (fun w'=>∀j,w'.cell? (aD wr.heap.size j)=(#[.s b.ls[k].tm,.s b.ls[k].rs,.i b.ls[k].mo,.i b.ls[k].fr]:AV)[j]?) (exact fun j=>by rw[hS2]) (first
     | (go_at_call 175;refine(zbM b.ls[k] _).mono ?_;rintro e w5⟨rfl,hb5⟩;have hS2:=za hS2 hy2 hb5;have hb:=hb.trans (hb5.mono hb.size);have hf5:=HM2.o.1.mono hb;have hlk:=hf5.look zde Tryz.underlying261 b.ls[k].tm b.ls[k].rs hsm.tm hsm.rs false;rw[HM2.o.2.2]at hlk;unfold jr at hlk ⊢;simp only[Option.getD_some,Bool.false_eq_true,if_false]at hlk;clear hb5))
    go_wp2_with fail
    go_ret;have h9:=HM2.o.2.1.trans (hb.mono HM2.o.2.1.size);exact⟨ze HN.o.symm,HB1.o.trans (h9.mono HB1.o.size)⟩
  ·have e:k=b.ls.length:=by omega
   subst e;have HE:Hid (zc9 l b=true):=by have:=HQ.o.1;rw[tOl (Nat.le_refl _)]at this;unfold Hid;rw[HG.o];exact this
   have HB:=hid HQ.o.2;clear HQ hlt hk;go_wp2_with fail
   go_ret;exact⟨ze HE.o.symm,HB1.o.trans (HB.o.mono HB1.o.size)⟩
end Go.Proofs.YthdfpinbnncghaaGreat
