import Derived.Test.YtcgpjfcocmcodaaGreatM44
set_option maxHeartbeats 4000000
namespace Go.Proofs.YtcgpjfcocmcodaaGreat
open Go.RowKit
def zbI (l:Lw)(o:Ob):Bool:=decide ((yD l.ss o).1=0)&&decide (zbo l o=o.vs)
theorem zam {l:Lw}{o:Ob}(hok:yB l.ss l.ms=true)(h:(yD l.ss o).1=0):qP l.ss l.ms o=true:=by
 have hw:whole l.ss o=true:=by
  cases hc:whole l.ss o with
  | true=>rfl
  | false=>unfold yD at h;rw[if_neg (by rw[hc];simp)]at h;simp at h
 unfold whole zB at hw;unfold qP;simp only[Bool.and_eq_true]at hw ⊢;exact⟨hw.2.1,hw.2.2,hok⟩
theorem zeA {l:Lw}{o:Ob}(hm:qP l.ss l.ms o=true)(hs:zdX l.ss)(hms:∀i (h:i<l.ms.length),l.ms[i].Small)(ho:∀s∈o.vs,s.size<=maxLen):∀s∈zbo l o,s.size<=maxLen:=by
 have hf:=zcU hm;have hk:zJ l.ss o.kd=true:=by unfold qP at hm;simp only[Bool.and_eq_true]at hm;exact hm.1
 obtain⟨i,hi,e⟩:=zfj hk;have h1:zbU (shapeOf l.ss o.kd).fs:=by rw[e];exact(hs.small i hi).2.2
 exact zb3 hms _ _ (zgC h1 ho hf.1)
theorem zff {l:Lw}{o:Ob}{w:World}{a:OA}{lo:Nat}(h:zn lo w a (zbo l o))(hm:qP l.ss l.ms o=true)(hl:o.vs.length<=maxLen)(hs:∀s∈zbo l o,s.size<=maxLen):zG w a (zbo l o):=h.at (by rw[zcF hm];exact hl) hs
theorem zkf (a c:OA)(ca cc:Nat)(xs ys:List BA)(w:World)(hx:zG w a xs)(hy:zG w c ys)(hl:xs.length<=1048576)(hl':ys.length<=1048576)(hn:xs.length=ys.length) :
 Calls Tryz.prog 210 #[.l a ys.length ca,.l c ys.length cc] w fun e w'=>e=.returned (.bool (decide (xs=ys)))/\Bw w w':=by
 have h:=ziF a c ca cc xs ys w hx hy hl hl';rw[hn]at h;exact h
set_option maxRecDepth 20000 in
theorem zlY (l:Lw)(a b c:OA)(ca cb cc:Nat)(o:Ob)(va ha:OA)(cap cap':Nat)(w:World)(hL:jA w l a b c)(hml:l.ms.length<=1048576)(ho:jU w o va ha)(hl:o.vs.length<=1048576)(hl':o.hs.length<=1048576)(hok:yB l.ss l.ms=true) :
 Calls Tryz.prog 174 #[.agg #[.l a l.ss.length ca,.l b l.ms.length cb,.l c l.ts.length cc],.agg #[.s o.kd,.s o.nm,.s o.tm,.l va o.vs.length cap,.bool o.en,.l ha o.hs.length cap',.i o.vr]] w fun e w'=>e=.returned (.bool (zbI l o))/\Bw w w':=by
 have hfd:∀(s0 s1 s2:BA) (x y:OA) (n m p q:Nat) (t:Bool) (v:Int) (wf:World),(Instr.field 121 (.agg #[.s s0,.s s1,.s s2,.l x n p,.bool t,.l y m q,.i v]) 3).run Tryz.prog wf=.ok (.l x n p) wf:=fun s0 s1 s2 x y n m p q t v wf=>by kernel_rfl
 have HH:=ql hL ho;clear hL ho;obtain⟨r,hr⟩:=xN (zbI l o);rw[<- hr];have HR:Hid (r=zbI l o):=hr;clear hr;go_enter Tryz.func174,Tryz.ntmps174;go_wp2_with fail
 have hb2:=zw w (.cells #[.l a l.ss.length ca,.l b l.ms.length cb,.l c l.ts.length cc] 47) (.cells (oC o va ha cap cap') 121);refine(ziC _ _ l.ss o _ _ _ _ _ (HH.o.1.ss.mono hb2) (HH.o.2.mono hb2)).mono ?_;rintro e w1⟨rfl,hb1⟩;have hX0:∀j,w1.cell? (aD w.heap.size j)=(#[.l a l.ss.length ca,.l b l.ms.length cb,.l c l.ts.length cc]:AV)[j]?:=fun j=>cell_of_block ((hb1.block w.heap.size (by simp;omega)).trans (zQ _ _ _).1)
 have hX1:∀j,w1.cell? (aD (w.heap.size+1) j)=((oC o va ha cap cap'):AV)[j]?:=fun j=>cell_of_block ((hb1.block (w.heap.size+1) (by simp)).trans (zQ _ _ _).2)
 have hz1:w.heap.size+1<w1.heap.size:=by have:=hb1.size;simp at this;omega
 have hz0:w.heap.size<w1.heap.size:=by omega
 have hB1:Bw w w1:=hb2.trans (hb1.mono (by simp;omega));clear hb1 hb2
 by_cases hc:(yD l.ss o).1=0
 rotate_left
 ·have HF:Hid (r=false):=by unfold Hid;rw[HR.o];unfold zbI;rw[decide_eq_false hc];rfl
  have hv:zg7 l.ss o=.iface 279 (.agg #[.i (yD l.ss o).1,.i (yD l.ss o).2]):=zlR hc;rw[hv];clear hc hv;go_wp2_with fail
  go_ret;exact⟨ze HF.o.symm,hB1⟩
 have HMD:=hid (zam hok hc);have HS:=hid (zeA HMD.o HH.o.1.ss.smalls HH.o.1.ms.small HH.o.2.vals.small);have HF:Hid (decide (zbo l o=o.vs)=r):=by unfold Hid;rw[HR.o];unfold zbI;rw[decide_eq_true hc];rfl
 have hv:zg7 l.ss o=.nilIface:=by unfold zg7;rw[hc];rfl
 rw[hv];have HLN:=hid (zcF HMD.o);clear hc hv;go_wp2_with fail
 have hS0:=za hX0 hz0 (bRf w1.heap.size w1).drew;have hS1:=za hX1 hz1 (bRf w1.heap.size w1).drew;have hb:=(bRf w1.heap.size w1).drew;have hzl:=hz0;have hzo:=hz1;clear hX0 hX1
 go_region_held3 (fun w'=>(∀j,w'.cell? (aD w.heap.size j)=(#[.l a l.ss.length ca,.l b l.ms.length cb,.l c l.ts.length cc]:AV)[j]?)/\(∀j,w'.cell? (aD (w.heap.size+1) j)=(#[.s o.kd,.s o.nm,.s o.tm,.l va o.vs.length cap,.bool o.en,.l ha o.hs.length cap',.i o.vr]:AV)[j]?)) (exact⟨fun j=>by rw[hS0],fun j=>by rw[hS1]⟩) (first
  | (go_at_call 211;refine(zk8 l a b c ca cb cc o va ha cap cap' _ (by exact HH.o.1.mono (hB1.trans (hb.mono hB1.size))) hml (by exact HH.o.2.mono (hB1.trans (hb.mono hB1.size))) hl hl' HMD.o).mono ?_;rintro e w5⟨e0,dap,e1,dap',rfl,ht5,hb5⟩;have hS0:=za hS0 hzl hb5;have hS1:=za hS1 hzo hb5;have hb:=hb.trans (hb5.mono hb.size);have hO5:zG w5 e0 (zbo l o):=zff ht5 HMD.o HH.o.2.vals.len HS.o;clear ht5 hb5)
  | (go_at_call 210;refine(zkf _ va _ cap (zbo l o) o.vs _ (by exact hO5) (by exact HH.o.2.vals.mono (hB1.trans (hb.mono hB1.size))) (by rw[HLN.o];exact hl) hl HLN.o).mono ?_;rintro e w6⟨rfl,hb6⟩;rw[HF.o];have hS0:=fun j=>(hb6.cell (p:=(aD w.heap.size j)) (nLt hzl hb.size)).trans (hS0 j);have hS1:=fun j=>(hb6.cell (p:=(aD (w.heap.size+1) j)) (nLt hzo hb.size)).trans (hS1 j);have hb:=hb.trans (hb6.mono hb.size);clear hb6))
 go_wp2_with fail
 go_ret;exact⟨rfl,hB1.trans (hb.mono hB1.size)⟩
theorem znQ {lo:Nat}{w:World}{v:Value}{ws:List BA}(h:w.ownsRow lo 9 1 v ws.length (ws.map Value.string))(hne:v≠.l none 0 0):∃a cap,v=.l a ws.length cap/\zn lo w a ws/\∃g,a=some (aD g 0):=by
 obtain⟨a,cap,hv,ht⟩:=zn.zdq h;refine⟨a,cap,hv,ht,?_⟩;obtain⟨_,⟨h0,_⟩|⟨g,cp,cur,h0,_⟩⟩:=id h
 ·exact absurd h0 hne
 ·rw[hv]at h0;cases h0;exact⟨g,rfl⟩
def zpR (o:Ob)(vs:List BA)(w:World)(e:Ending)(w':World):Prop:=
 ∃a dap a' dap' m,e=.returned (.agg #[.s o.kd,.s o.nm,.s o.tm,.l a o.vs.length dap,.bool o.en,.l a' o.hs.length dap',.i o.vr])/\zn w.heap.size w' a vs/\(∀g,a=some g->g.block<m)/\w.heap.size<=m/\zn m w' a' o.hs/\Bw w w'/\(∃g,a=some (aD g 0))/\∃g,a'=some (aD g 0)
set_option maxRecDepth 20000 in
theorem zid (o:Ob)(b off b' off' cap cap':Nat)(w:World)(ho:jU w o (some (aD b off)) (some (aD b' off')))(hl:o.vs.length<=1048576)(hl':o.hs.length<=1048576) :
 Calls Tryz.prog 73 #[.agg #[.s o.kd,.s o.nm,.s o.tm,.l (some (aD b off)) o.vs.length cap,.bool o.en,.l (some (aD b' off')) o.hs.length cap',.i o.vr]] w
  fun e w'=>∃a dap a' dap' m,e=.returned (.agg #[.s o.kd,.s o.nm,.s o.tm,.l a o.vs.length dap,.bool o.en,.l a' o.hs.length dap',.i o.vr])/\zn w.heap.size w' a o.vs/\(∀g,a=some g->g.block<m)/\w.heap.size<=m/\zn m w' a' o.hs/\Bw w w'/\(∃g,a=some (aD g 0))/\∃g,a'=some (aD g 0):=by
 obtain⟨i0,hi,hz0,hz1',hz2⟩:=info_parts Tryz.zcV;go_enter Tryz.func73,Tryz.ntmps73
 go_wp2_with (first
  | (at_builtin;refine wpList_append_own _ rfl (.tmp 3) (.tmp 5) 105 rfl (w.heap.size+1+1) 9 i0 (.s ByteArray.empty) 1 16 Tryz.underlying105 hi hz0 hz1' hz2 rfl (by decide) (.l (some (aD (w.heap.size+1+1) 0)) 0 0) 0 [] rfl ⟨rfl,.inr ⟨w.heap.size+1+1,0,#[],rfl,Nat.le_refl _,zci _ _ _ _,Nat.le_refl _,by simp[maxLen],rfl,rfl⟩⟩ (aD b off) o.vs.length cap (o.vs.map Value.string) rfl (by simp) (zfw (ho.vals.mono (jC _ _ _ _))) zgR (by unfold maxLen;omega) (by omega) (by simp) ?_;intro v' w1 hown hgr hnn;simp only[Nat.zero_add,List.nil_append]at hown;obtain⟨a,dap,rfl,ht1,hsA⟩:=znQ hown (fun h=>by have:=(hnn.1 h).1;cases this);clear hnn;obtain⟨hk1,hr1,hB1,hz1⟩:=zih hgr;have hX1:∀j,w1.cell? (aD w.heap.size j)=(#[.s o.kd,.s o.nm,.s o.tm,.l (some (aD b off)) o.vs.length cap,.bool o.en,.l (some (aD b' off')) o.hs.length cap',.i o.vr]:AV)[j]?:=fun j=>cell_of_block hk1;have hF1:∀j,w1.frozen? (aD w.heap.size j)=false:=fun j=>zh hk1;have hzz1:w.heap.size<w1.heap.size:=(by omega);have hone:=hB1.setCell (p:=(aD w.heap.size 3)) (Nat.le_refl _) (.l a o.vs.length dap);have HT1:Hid (zn (w.heap.size+1+1) w1 a o.vs):=ht1;have HK1:Hid (w1.heap[w.heap.size]?=some (.cells #[.s o.kd,.s o.nm,.s o.tm,.l (some (aD b off)) o.vs.length cap,.bool o.en,.l (some (aD b' off')) o.hs.length cap',.i o.vr] 121)):=hk1;have HR1:Hid (w1.heap[w.heap.size+1]?=some (.cells #[.s ByteArray.empty,.s ByteArray.empty,.s ByteArray.empty,.l none 0 0,.bool false,.l none 0 0,.i 0] 121)):=hr1;clear ht1 hk1 hr1;clear hown hgr)
  | (at_builtin;refine wpList_append_own _ rfl (.tmp 8) (.tmp 10) 105 rfl w1.heap.size 9 i0 (.s ByteArray.empty) 1 16 Tryz.underlying105 hi hz0 hz1' hz2 rfl (by decide) (.l (some (aD w1.heap.size 0)) 0 0) 0 [] rfl ⟨rfl,.inr ⟨w1.heap.size,0,#[],rfl,Nat.le_refl _,zpk _ _ _ _,Nat.le_refl _,(by simp[maxLen]),rfl,rfl⟩⟩ (aD b' off') o.hs.length cap' (o.hs.map Value.string) rfl (by simp) (zfw (ho.holds.mono (hone.alloc hone.size _))) zgR (by unfold maxLen;omega) (by omega) (by simp[World.setCell]) ?_;intro v'' w2 hown hgr hnn;simp only[Nat.zero_add,List.nil_append]at hown;obtain⟨a',dap',rfl,ht2,hsA'⟩:=znQ hown (fun h=>by have:=(hnn.1 h).1;cases this);clear hnn;obtain⟨hk2,hr2,hB2,hz2'⟩:=zlI HK1.o HR1.o hB1 hz1 hgr;have HU2:Hid (zn w1.heap.size w2 a' o.hs):=ht2;have HT2:Hid (zn (w.heap.size+1+1) w2 a o.vs):=((HT1.o.setCell _ (by simp;omega) _).mono (bAl _ _)).grown hgr (fun g hg=>Nat.ne_of_lt (HT1.o.lt g hg));have hX2:∀j,w2.cell? (aD w.heap.size j)=(#[.s o.kd,.s o.nm,.s o.tm,.l a o.vs.length dap,.bool o.en,.l (some (aD b' off')) o.hs.length cap',.i o.vr]:AV)[j]?:=fun j=>cell_of_block hk2;have hF2:∀j,w2.frozen? (aD w.heap.size j)=false:=fun j=>zh hk2;have hY2:∀j,w2.cell? (aD (w.heap.size+1) j)=(#[.s ByteArray.empty,.s ByteArray.empty,.s ByteArray.empty,.l none 0 0,.bool false,.l none 0 0,.i 0]:AV)[j]?:=fun j=>cell_of_block hr2;have hG2:∀j,w2.frozen? (aD (w.heap.size+1) j)=false:=fun j=>zh hr2;have hzz2:w.heap.size+1<w2.heap.size:=(by omega);clear hown hgr ht2 hk2 hr2 hX1 hF1))
 refine bodyPost_ret (v:=(.agg #[.s o.kd,.s o.nm,.s o.tm,.l a o.vs.length dap,.bool o.en,.l a' o.hs.length dap',.i o.vr])) (by simp[results,Tryz.results73,go_sem,hY2]) rfl ⟨a,dap,a',dap',w1.heap.size,rfl,((((((((HT2.o.setCell _ (by simp;omega) _).setCell _ (by simp) _).setCell _ (by simp) _).setCell _ (by simp) _).setCell _ (by simp) _).setCell _ (by simp) _).setCell _ (by simp) _).setCell _ (by simp) _).low (by omega),HT1.o.lt,by omega,((((((((HU2.o.setCell _ (by simp;omega) _).setCell _ (by simp;omega) _).setCell _ (by simp;omega) _).setCell _ (by simp;omega) _).setCell _ (by simp;omega) _).setCell _ (by simp;omega) _).setCell _ (by simp;omega) _).setCell _ (by simp;omega) _),((((((((hB2.setCell (Nat.le_refl _) _).setCell (by simp) _).setCell (by simp) _).setCell (by simp) _).setCell (by simp) _).setCell (by simp) _).setCell (by simp) _).setCell (by simp) _),hsA,hsA'⟩
theorem znE (a0:OA)(cap0:Nat)(ss:List Shp)(o:Ob)(b off b' off' cap cap':Nat)(w:World)(hw:yT w a0 ss)(ho:jU w o (some (aD b off)) (some (aD b' off')))(hl:o.vs.length<=1048576)(hl':o.hs.length<=1048576) :
 Calls Tryz.prog 161 #[.l a0 ss.length cap0,.agg #[.s o.kd,.s o.nm,.s o.tm,.l (some (aD b off)) o.vs.length cap,.bool o.en,.l (some (aD b' off')) o.hs.length cap',.i o.vr]] w (zpR o (qA ss o) w):=by
 by_cases hc:zB ss o=true
 rotate_left
 ·have HC:Hid (zB ss o=false):=by simpa[Hid] using hc
  have HRES:Hid (qA ss o=o.vs):=by unfold Hid qA;rw[if_neg hc]
  clear hc;have HH:Hid (jU w o (some (aD b off)) (some (aD b' off'))):=ho;clear ho;go_enter Tryz.func161,Tryz.ntmps161;go_wp2_with fail
  refine(zid o b off b' off' cap cap' _ (HH.o.mono (zw w (.cells #[.s o.kd,.s o.nm,.s o.tm,.l (some (aD b off)) o.vs.length cap,.bool o.en,.l (some (aD b' off')) o.hs.length cap',.i o.vr] 121) (.cells #[.s ByteArray.empty,.s ByteArray.empty,.s ByteArray.empty,.l none 0 0,.bool false,.l none 0 0,.i 0] 121))) hl hl').mono ?_;rintro e w1⟨a,dap,a',dap',m,rfl,ht,hm,hsm,ht',hb1,hsA,hsA'⟩;have HO1:Hid (w1.heap[w.heap.size]?=some (.cells (oC o (some (aD b off)) (some (aD b' off')) cap cap') 121)):=(hb1.block w.heap.size (by simp;omega)).trans (zQ _ _ _).1;have HR1:Hid (w1.heap[w.heap.size+1]?=some (.cells oZ 121)):=(hb1.block (w.heap.size+1) (by simp)).trans (zQ _ _ _).2;have hX1:∀j,w1.cell? (aD w.heap.size j)=((oC o (some (aD b off)) (some (aD b' off')) cap cap'):AV)[j]?:=fun j=>cell_of_block HO1.o
  have hz1:w.heap.size+1<w1.heap.size:=by have:=hb1.size;simp at this;omega
  have hz0:w.heap.size<w1.heap.size:=by omega
  have hB1:Bw w w1:=(zw _ _ _).trans (hb1.mono (by simp;omega))
  have HT:Hid (zn (w.heap.size+1+1) w1 a o.vs/\(∀g,a=some g->g.block<m)/\w.heap.size+1+1<=m/\zn m w1 a' o.hs):=by
   simp only[World.size_alloc]at ht hsm;exact⟨ht,hm,hsm,ht'⟩
  clear ht hm hsm ht' hb1;go_wp2_with fail
  have hbs:=(bRf w1.heap.size w1).alloc (Nat.le_refl _) (.cells (oC o a a' dap dap') 121);have hBs:=hB1.trans (hbs.mono hB1.size);refine(zdh a0 cap0 ss o _ _ cap cap' _ (hw.mono hBs) (HH.o.mono hBs) HC.o).mono ?_;rintro e w2⟨v,rfl,hb2⟩;have hba:=hbs.trans (hb2.mono hbs.size);have hR2:=(hba.block _ hz1).trans HR1.o;have hU2:∀j,w2.cell? (aD w1.heap.size j)=((oC o a a' dap dap'):AV)[j]?:=za (zl w1 _ _) (by simp) hb2;have hRc:∀j,w2.cell? (aD (w.heap.size+1) j)=(oZ:AV)[j]?:=fun j=>cell_of_block hR2
  have hRf:∀j,w2.frozen? (aD (w.heap.size+1) j)=false:=fun j=>zh hR2
  have HX:Hid (zn (w.heap.size+1+1) w2 a o.vs/\zn m w2 a' o.hs/\Bw w w2):=⟨HT.o.1.mono hba,HT.o.2.2.2.mono hba,hB1.trans (hba.mono hB1.size)⟩
  clear hbs hBs hb2 hba hR2 hX1;go_wp2_with fail
  refine bodyPost_ret (v:=(.agg #[.s o.kd,.s o.nm,.s o.tm,.l a o.vs.length dap,.bool o.en,.l a' o.hs.length dap',.i o.vr])) (by simp[results,Tryz.results161,go_sem,hRc]) rfl ?_;obtain⟨ht,ht',hB⟩:=HX.o;rw[HRES.o];exact⟨a,dap,a',dap',m,rfl,(jO ht _ (by omega) _ _ _ _ _ _ _).low (by omega),HT.o.2.1,by have:=HT.o.2.2.1;omega,jO ht' _ (by have:=HT.o.2.2.1;omega) _ _ _ _ _ _ _,jq hB _ (by omega) _ _ _ _ _ _ _,hsA,hsA'⟩
 have HC:Hid (zB ss o=true):=hc;have HRES:Hid (qA ss o=zaj (shapeOf ss o.kd).fs o.vs):=by unfold Hid qA;rw[if_pos hc]
 have HCC:Hid (o.vs.length=(shapeOf ss o.kd).fs.length):=by unfold zB at hc;simp only[Bool.and_eq_true,decide_eq_true_eq]at hc;exact hc.2
 clear hc;have HH:Hid (jU w o (some (aD b off)) (some (aD b' off'))):=ho;clear ho;go_enter Tryz.func161,Tryz.ntmps161;go_wp2_with fail
 refine(zid o b off b' off' cap cap' _ (HH.o.mono (zw w (.cells #[.s o.kd,.s o.nm,.s o.tm,.l (some (aD b off)) o.vs.length cap,.bool o.en,.l (some (aD b' off')) o.hs.length cap',.i o.vr] 121) (.cells #[.s ByteArray.empty,.s ByteArray.empty,.s ByteArray.empty,.l none 0 0,.bool false,.l none 0 0,.i 0] 121))) hl hl').mono ?_;rintro e w1⟨a,dap,a',dap',m,rfl,ht,hm,hsm,ht',hb1,hsA,hsA'⟩;have HO1:Hid (w1.heap[w.heap.size]?=some (.cells (oC o (some (aD b off)) (some (aD b' off')) cap cap') 121)):=(hb1.block w.heap.size (by simp;omega)).trans (zQ _ _ _).1;have HR1:Hid (w1.heap[w.heap.size+1]?=some (.cells oZ 121)):=(hb1.block (w.heap.size+1) (by simp)).trans (zQ _ _ _).2;have hX1:∀j,w1.cell? (aD w.heap.size j)=((oC o (some (aD b off)) (some (aD b' off')) cap cap'):AV)[j]?:=fun j=>cell_of_block HO1.o
 have hz1:w.heap.size+1<w1.heap.size:=by have:=hb1.size;simp at this;omega
 have hz0:w.heap.size<w1.heap.size:=by omega
 have hB1:Bw w w1:=(zw _ _ _).trans (hb1.mono (by simp;omega))
 have HT:Hid (zn (w.heap.size+1+1) w1 a o.vs/\(∀g,a=some g->g.block<m)/\w.heap.size+1+1<=m/\zn m w1 a' o.hs):=by
  simp only[World.size_alloc]at ht hsm;exact⟨ht,hm,hsm,ht'⟩
 clear ht hm hsm ht' hb1;go_wp2_with fail
 have hbs:=(bRf w1.heap.size w1).alloc (Nat.le_refl _) (.cells (oC o a a' dap dap') 121);have hBs:=hB1.trans (hbs.mono hB1.size);refine(zfR a0 cap0 ss o _ _ cap cap' w _ hw hBs HC.o).mono ?_;rintro e w2⟨fa,fcap,rfl,hf,hb2⟩;have hba:=hbs.trans (hb2.mono hbs.size);have HR2:Hid (w2.heap[w.heap.size+1]?=some (.cells oZ 121)):=(hba.block _ hz1).trans HR1.o;have HU2:Hid (w2.heap[w1.heap.size]?=some (.cells (oC o a a' dap dap') 121)):=(hb2.block _ (by simp)).trans (alloc_at _ _);have HX2:Hid (zn (w.heap.size+1+1) w2 a o.vs/\zn m w2 a' o.hs/\Bw w w2):=⟨HT.o.1.mono hba,HT.o.2.2.2.mono hba,hB1.trans (hba.mono hB1.size)⟩
 have hz2:w1.heap.size<w2.heap.size:=(gES HU2.o).1;clear hbs hBs hb2 hba hX1 hw;have hlen:=hf.len;unfold maxLen at hlen
 revert HRES HCC hf hlen
 generalize (shapeOf ss o.kd).fs=fs
 intro HRES HCC hf hlen;go_wp2_with fail
 go_loopw [8] (fun i wr=>∃k:Nat,k<=fs.length/\i=.i k/\zn (w.heap.size+1+1) wr a (jh fs o.vs k)/\zn m wr a' o.hs/\wr.heap[w.heap.size+1]?=some (.cells #[.s ByteArray.empty,.s ByteArray.empty,.s ByteArray.empty,.l none 0 0,.bool false,.l none 0 0,.i 0] 121)/\wr.heap[w1.heap.size]?=some (.cells #[.s o.kd,.s o.nm,.s o.tm,.l a o.vs.length dap,.bool o.en,.l a' o.hs.length dap',.i o.vr] 121)/\Bw w wr) (fun i _=>fs.length-(intOf i).toNat)
 case atStart=>exact⟨0,Nat.zero_le _,rfl,by rw[zio];exact HX2.o.1,HX2.o.2.1,HR2.o,HU2.o,HX2.o.2.2⟩
 case round=>
  obtain⟨k,hk,rfl,ht,ht',hR,hO,hB⟩:=hrel;have hOc:∀j,wr.cell? (aD w1.heap.size j)=((oC o a a' dap dap'):AV)[j]?:=fun j=>cell_of_block hO
  have hOz:w1.heap.size<wr.heap.size:=(gES hO).1
  by_cases hlt:k<fs.length
  ·have hltv:k<o.vs.length:=by rw[HCC.o];exact hlt
   obtain⟨fb,foff,rfl,hfb,hr⟩:=hf.rows (by rintro rfl;simp at hlt);obtain⟨wa,wcap,hf0⟩:=hr k hlt;have hf1:=hf0.mono hfb hB;obtain⟨c0,c1,c2,c3,c4,c5,c6,c7,c8,c9,c10⟩:=hf1.load;have hltI:(k:Int)<(fs.length:Int):=by omega
   have hltV:(k:Int)<(o.vs.length:Int):=by omega
   obtain⟨g,C,hga,hgl,hgh,hgc⟩:∃g C,a=some (aD g 0)/\w.heap.size+1+1<=g/\wr.heap[g]?=some (.cells C 9)/\∀i (h:i<(jh fs o.vs k).length),C[i]?=some (.s (jh fs o.vs k)[i]):=by
    rcases ht with⟨_,h0⟩|h0
    ·have:=zau HCC.o k;rw[h0]at this;simp at this;omega
    ·exact h0
   have hgm:g<m:=HT.o.2.1 _ hga;have hgw1:g<w1.heap.size:=HT.o.1.lt _ hga;have hgw:g<wr.heap.size:=by omega
   subst hga
   have hcell:wr.cell? (aD g k)=some (.s o.vs[k]):=by
    have h1:=zfv HCC.o k hlt;have hkl:k<(jh fs o.vs k).length:=by rw[zau HCC.o];exact hltv
    rw[List.getElem?_eq_getElem hkl,List.getElem?_eq_getElem hltv]at h1;rw[cell_of_block hgh,hgc k hkl,Option.some.inj h1]
   have hgf:wr.frozen? (aD g k)=false:=zh hgh;have HX:Hid (zn (w.heap.size+1+1) wr (some (aD g 0)) (jh fs o.vs k)/\zn m wr a' o.hs/\wr.heap[w.heap.size+1]?=some (.cells oZ 121)/\wr.heap[w1.heap.size]?=some (.cells (oC o (some (aD g 0)) a' dap dap') 121)/\Bw w wr):=⟨ht,ht',hR,hO,hB⟩
   clear ht ht' hR hO hB hr hf0 hf1 hgh hgc hf
   by_cases hv:o.vs[k].toList.isEmpty=true
   ·have HV:Hid (zao fs[k] o.vs[k]=fs[k].df):=by unfold Hid zao;rw[if_pos hv]
    go_wp2_with fail
    have hfg:fb≠g:=by omega
    have hq1:(wr.setCell (aD g k) (.s fs[k].df)).drew.cell? (aD w1.heap.size 3)=some (.l (some (aD g 0)) o.vs.length dap):=(yh (by show w1.heap.size≠g;omega)).trans (hOc 3);have hq2:(wr.setCell (aD g k) (.s fs[k].df)).drew.cell? (aD fb (foff+k*11+9))=some (.s fs[k].df):=(yh hfg).trans c9;have hgd:wr.drew.frozen? (aD g k)=false:=hgf;have hcd:wr.drew.cell? (aD g k)=some (.s o.vs[k]):=hcell
    go_region_held3 (fun w'=>w'.cell? (aD w1.heap.size 3)=some (.l (some (aD g 0)) o.vs.length dap)/\w'.cell? (aD fb (foff+k*11+9))=some (.s fs[k].df)) (first|exact⟨hOc 3,c9⟩|exact⟨hq1,hq2⟩) (fail)
    go_wp2_with fail
    obtain⟨ht,ht',hR,hO,hB⟩:=HX.o;exact⟨⟨k+1,by omega,by go_num,by rw[zdk HCC.o k hlt,HV.o];exact ht.set k _,ht'.setCell _ hgm _,(Below.heap_setCell _ _ _ _ (by show w.heap.size+1≠g;omega)).trans hR,(Below.heap_setCell _ _ _ _ (by show w1.heap.size≠g;omega)).trans hO,(hB.setCell (p:=(aD g k)) (by show w.heap.size<=g;omega) _).drew⟩,zq hlt⟩
   ·have HV:Hid (zao fs[k] o.vs[k]=o.vs[k]):=by unfold Hid zao;rw[if_neg hv]
    go_wp2_with fail
    obtain⟨ht,ht',hR,hO,hB⟩:=HX.o
    have hsame:(jh fs o.vs k).set k o.vs[k]=jh fs o.vs k:=by
     have h1:=zfv HCC.o k hlt;have hkl:k<(jh fs o.vs k).length:=by rw[zau HCC.o];exact hltv
     rw[List.getElem?_eq_getElem hkl,List.getElem?_eq_getElem hltv]at h1;rw[<- Option.some.inj h1,List.set_getElem_self]
    exact⟨⟨k+1,by omega,by go_num,by rw[zdk HCC.o k hlt,HV.o,hsame];exact ht,ht',hR,hO,hB⟩,zq hlt⟩
  ·have e:k=fs.length:=by omega
   subst e;rw[zki HCC.o]at ht;have hRc:∀j,wr.cell? (aD (w.heap.size+1) j)=(oZ:AV)[j]?:=fun j=>cell_of_block hR
   have hRf:∀j,wr.frozen? (aD (w.heap.size+1) j)=false:=fun j=>zh hR
   have HX:Hid (zn (w.heap.size+1+1) wr a (zaj fs o.vs)/\zn m wr a' o.hs/\Bw w wr):=⟨ht,ht',hB⟩
   clear ht ht' hB hR hO hf;go_wp2_with fail
   refine bodyPost_ret (v:=(.agg #[.s o.kd,.s o.nm,.s o.tm,.l a o.vs.length dap,.bool o.en,.l a' o.hs.length dap',.i o.vr])) (by simp[results,Tryz.results161,go_sem,hRc]) rfl ?_;obtain⟨ht,ht',hB⟩:=HX.o;rw[HRES.o];exact⟨a,dap,a',dap',m,rfl,(jO ht _ (by omega) _ _ _ _ _ _ _).low (by omega),HT.o.2.1,by have:=HT.o.2.2.1;omega,jO ht' _ (by have:=HT.o.2.2.1;omega) _ _ _ _ _ _ _,jq hB _ (by omega) _ _ _ _ _ _ _,hsA,hsA'⟩
end Go.Proofs.YtcgpjfcocmcodaaGreat
