import Derived.Test.YtnapmdofidgliaaGreatM42
set_option maxHeartbeats 4000000
namespace Go.Proofs.YtnapmdofidgliaaGreat
open Go.RowKit
def zaS (l:Lw)(o:Ob):Bool:=decide ((yH l.ss o).1=0)&&decide (zbE l o=o.vs)
theorem jG {l:Lw}{o:Ob}(hok:yj l.ss l.ms=true)(h:(yH l.ss o).1=0):qI l.ss l.ms o=true:=by
 have hw:whole l.ss o=true:=by
  cases hc:whole l.ss o with
  | true=>rfl
  | false=>unfold yH at h;rw[if_neg (by rw[hc];simp)]at h;simp at h
 unfold whole zy at hw;unfold qI;simp only[Bool.and_eq_true]at hw ⊢;exact⟨hw.2.1,hw.2.2,hok⟩
theorem zem {l:Lw}{o:Ob}(hm:qI l.ss l.ms o=true)(hs:zdU l.ss)(hms:∀i (h:i<l.ms.length),l.ms[i].Small)(ho:∀s∈o.vs,s.size<=maxLen):∀s∈zbE l o,s.size<=maxLen:=by
 have hf:=zb0 hm;have hk:zG l.ss o.kd=true:=by unfold qI at hm;simp only[Bool.and_eq_true]at hm;exact hm.1
 obtain⟨i,hi,e⟩:=zco hk;have h1:zca (shapeOf l.ss o.kd).fs:=by rw[e];exact(hs.small i hi).2.2
 exact zcf hms _ _ (zgR h1 ho hf.1)
theorem zff {l:Lw}{o:Ob}{w:World}{a:Option Addr}{lo:Nat}(h:zx lo w a (zbE l o))(hm:qI l.ss l.ms o=true)(hl:o.vs.length<=maxLen)(hs:∀s∈zbE l o,s.size<=maxLen):zD w a (zbE l o):=h.at (by rw[zcy hm];exact hl) hs
theorem zju (a c:Option Addr)(ca cc:Nat)(xs ys:List ByteArray)(w:World)(hx:zD w a xs)(hy:zD w c ys)(hl:xs.length<=1048576)(hl':ys.length<=1048576)(hn:xs.length=ys.length) :
 Calls Tryz.prog 197 #[.slice a ys.length ca,.slice c ys.length cc] w fun e w'=>e=.returned (.bool (decide (xs=ys)))/\Below w.heap.size w w':=by
 have h:=ziO a c ca cc xs ys w hx hy hl hl';rw[hn]at h;exact h
set_option maxRecDepth 20000 in
theorem zlI (l:Lw)(a b c:Option Addr)(ca cb cc:Nat)(o:Ob)(va ha:Option Addr)(cap cap':Nat)(w:World)(hL:jh w l a b c)(hml:l.ms.length<=1048576)(ho:jK w o va ha)(hl:o.vs.length<=1048576)(hl':o.hs.length<=1048576)(hok:yj l.ss l.ms=true) :
 Calls Tryz.prog 155 #[.agg #[.slice a l.ss.length ca,.slice b l.ms.length cb,.slice c l.ts.length cc],.agg #[.string o.kd,.string o.nm,.string o.tm,.slice va o.vs.length cap,.bool o.en,.slice ha o.hs.length cap',.int .i64 o.vr]] w fun e w'=>e=.returned (.bool (zaS l o))/\Below w.heap.size w w':=by
 have hfd:∀(s0 s1 s2:ByteArray) (x y:Option Addr) (n m p q:Nat) (t:Bool) (v:Int) (wf:World),(Instr.field 123 (.agg #[.string s0,.string s1,.string s2,.slice x n p,.bool t,.slice y m q,.int .i64 v]) 3).run Tryz.prog wf=.ok (.slice x n p) wf:=fun s0 s1 s2 x y n m p q t v wf=>by kernel_rfl
 have HH:=jC hL ho;clear hL ho;obtain⟨r,hr⟩:∃r,r=zaS l o:=⟨_,rfl⟩
 rw[<- hr];have HR:Hid (r=zaS l o):=hr;clear hr;go_enter Tryz.func155,Tryz.ntmps155;go_wp2_with fail
 have hb2:=zw w (.cells #[.slice a l.ss.length ca,.slice b l.ms.length cb,.slice c l.ts.length cc] 41) (.cells #[.string o.kd,.string o.nm,.string o.tm,.slice va o.vs.length cap,.bool o.en,.slice ha o.hs.length cap',.int .i64 o.vr] 123);refine(zi0 _ _ l.ss o _ _ _ _ _ (HH.out.1.ss.mono hb2) (HH.out.2.mono hb2)).mono ?_;rintro e w1⟨rfl,hb1⟩;have hX0:∀j,w1.cell? ⟨w.heap.size,j,none⟩=(#[.slice a l.ss.length ca,.slice b l.ms.length cb,.slice c l.ts.length cc]:Array Value)[j]?:=fun j=>cell_of_block ((hb1.block w.heap.size (by simp;omega)).trans (zT _ _ _).1)
 have hX1:∀j,w1.cell? ⟨w.heap.size+1,j,none⟩=(#[.string o.kd,.string o.nm,.string o.tm,.slice va o.vs.length cap,.bool o.en,.slice ha o.hs.length cap',.int .i64 o.vr]:Array Value)[j]?:=fun j=>cell_of_block ((hb1.block (w.heap.size+1) (by simp)).trans (zT _ _ _).2)
 have hz1:w.heap.size+1<w1.heap.size:=by have:=hb1.size;simp at this;omega
 have hz0:w.heap.size<w1.heap.size:=by omega
 have hB1:Below w.heap.size w w1:=hb2.trans (hb1.mono (by simp;omega));clear hb1 hb2
 by_cases hc:(yH l.ss o).1=0
 rotate_left
 ·have HF:Hid (r=false):=by unfold Hid;rw[HR.out];unfold zaS;rw[decide_eq_false hc];rfl
  have hv:zgB l.ss o=.iface 281 (.agg #[.int .i64 (yH l.ss o).1,.int .i64 (yH l.ss o).2]):=zmr hc;rw[hv];clear hc hv;go_wp2_with fail
  go_ret;exact⟨ze HF.out.symm,hB1⟩
 have HMD:=hid (jG hok hc);have HS:=hid (zem HMD.out HH.out.1.ss.smalls HH.out.1.ms.small HH.out.2.vals.small);have HF:Hid (decide (zbE l o=o.vs)=r):=by unfold Hid;rw[HR.out];unfold zaS;rw[decide_eq_true hc];rfl
 have hv:zgB l.ss o=.nilIface:=by unfold zgB;rw[hc];rfl
 rw[hv];have HLN:=hid (zcy HMD.out);clear hc hv;go_wp2_with fail
 have hS0:=za hX0 hz0 (bRf w1.heap.size w1).drew;have hS1:=za hX1 hz1 (bRf w1.heap.size w1).drew;have hb:=(bRf w1.heap.size w1).drew;have hzl:=hz0;have hzo:=hz1;clear hX0 hX1
 go_region_held3 (fun w'=>(∀j,w'.cell? ⟨w.heap.size,j,none⟩=(#[.slice a l.ss.length ca,.slice b l.ms.length cb,.slice c l.ts.length cc]:Array Value)[j]?)/\(∀j,w'.cell? ⟨w.heap.size+1,j,none⟩=(#[.string o.kd,.string o.nm,.string o.tm,.slice va o.vs.length cap,.bool o.en,.slice ha o.hs.length cap',.int .i64 o.vr]:Array Value)[j]?)) (exact⟨fun j=>by rw[hS0],fun j=>by rw[hS1]⟩) (first
  | (go_at_call 198;refine(zkJ l a b c ca cb cc o va ha cap cap' _ (by exact HH.out.1.mono (hB1.trans (hb.mono hB1.size))) hml (by exact HH.out.2.mono (hB1.trans (hb.mono hB1.size))) hl hl' HMD.out).mono ?_;rintro e w5⟨e0,dap,e1,dap',rfl,ht5,hb5⟩;have hS0:=za hS0 hzl hb5;have hS1:=za hS1 hzo hb5;have hb:=hb.trans (hb5.mono hb.size);have hO5:zD w5 e0 (zbE l o):=zff ht5 HMD.out HH.out.2.vals.len HS.out;clear ht5 hb5)
  | (go_at_call 197;refine(zju _ va _ cap (zbE l o) o.vs _ (by exact hO5) (by exact HH.out.2.vals.mono (hB1.trans (hb.mono hB1.size))) (by rw[HLN.out];exact hl) hl HLN.out).mono ?_;rintro e w6⟨rfl,hb6⟩;rw[HF.out];have hS0:=fun j=>(hb6.cell (p:=⟨w.heap.size,j,none⟩) (nLt hzl hb.size)).trans (hS0 j);have hS1:=fun j=>(hb6.cell (p:=⟨w.heap.size+1,j,none⟩) (nLt hzo hb.size)).trans (hS1 j);have hb:=hb.trans (hb6.mono hb.size);clear hb6))
 go_wp2_with fail
 go_ret;exact⟨rfl,hB1.trans (hb.mono hB1.size)⟩
theorem znS {lo:Nat}{w:World}{v:Value}{ws:List ByteArray}(h:w.ownsRow lo 9 1 v ws.length (ws.map Value.string))(hne:v≠.slice none 0 0):∃a cap,v=.slice a ws.length cap/\zx lo w a ws/\∃g,a=some ⟨g,0,none⟩:=by
 obtain⟨a,cap,hv,ht⟩:=zx.zf1 h;refine⟨a,cap,hv,ht,?_⟩;obtain⟨_,⟨h0,_⟩|⟨g,cp,cur,h0,_⟩⟩:=id h
 ·exact absurd h0 hne
 ·rw[hv]at h0;cases h0;exact⟨g,rfl⟩
def zpp (o:Ob)(vs:List ByteArray)(w:World)(e:Ending)(w':World):Prop:=
 ∃a dap a' dap' m,e=.returned (.agg #[.string o.kd,.string o.nm,.string o.tm,.slice a o.vs.length dap,.bool o.en,.slice a' o.hs.length dap',.int .i64 o.vr])/\zx w.heap.size w' a vs/\(∀g,a=some g->g.block<m)/\w.heap.size<=m/\zx m w' a' o.hs/\Below w.heap.size w w'/\(∃g,a=some ⟨g,0,none⟩)/\∃g,a'=some ⟨g,0,none⟩
set_option maxRecDepth 20000 in
theorem zhV (o:Ob)(b off b' off' cap cap':Nat)(w:World)(ho:jK w o (some ⟨b,off,none⟩) (some ⟨b',off',none⟩))(hl:o.vs.length<=1048576)(hl':o.hs.length<=1048576) :
 Calls Tryz.prog 176 #[.agg #[.string o.kd,.string o.nm,.string o.tm,.slice (some ⟨b,off,none⟩) o.vs.length cap,.bool o.en,.slice (some ⟨b',off',none⟩) o.hs.length cap',.int .i64 o.vr]] w
  fun e w'=>∃a dap a' dap' m,e=.returned (.agg #[.string o.kd,.string o.nm,.string o.tm,.slice a o.vs.length dap,.bool o.en,.slice a' o.hs.length dap',.int .i64 o.vr])/\zx w.heap.size w' a o.vs/\(∀g,a=some g->g.block<m)/\w.heap.size<=m/\zx m w' a' o.hs/\Below w.heap.size w w'/\(∃g,a=some ⟨g,0,none⟩)/\∃g,a'=some ⟨g,0,none⟩:=by
 obtain⟨i0,hi,hz0,hz1',hz2⟩:=info_parts Tryz.zc1;go_enter Tryz.func176,Tryz.ntmps176
 go_wp2_with (first
  | (at_builtin;refine wpList_append_own _ rfl (.tmp 3) (.tmp 5) 106 rfl (w.heap.size+1+1) 9 i0 (.string ByteArray.empty) 1 16 Tryz.underlying106 hi hz0 hz1' hz2 rfl (by decide) (.slice (some ⟨w.heap.size+1+1,0,none⟩) 0 0) 0 [] rfl ⟨rfl,.inr ⟨w.heap.size+1+1,0,#[],rfl,Nat.le_refl _,zcp _ _ _ _,Nat.le_refl _,by simp[maxLen],rfl,rfl⟩⟩ ⟨b,off,none⟩ o.vs.length cap (o.vs.map Value.string) rfl (by simp) (zfv (ho.vals.mono (jH _ _ _ _))) zgb (by unfold maxLen;omega) (by omega) (by simp) ?_;intro v' w1 hown hgr hnn;simp only[Nat.zero_add,List.nil_append]at hown;obtain⟨a,dap,rfl,ht1,hsA⟩:=znS hown (fun h=>by have:=(hnn.1 h).1;cases this);clear hnn;obtain⟨hk1,hr1,hB1,hz1⟩:=zhX hgr;have hX1:∀j,w1.cell? ⟨w.heap.size,j,none⟩=(#[.string o.kd,.string o.nm,.string o.tm,.slice (some ⟨b,off,none⟩) o.vs.length cap,.bool o.en,.slice (some ⟨b',off',none⟩) o.hs.length cap',.int .i64 o.vr]:Array Value)[j]?:=fun j=>cell_of_block hk1;have hF1:∀j,w1.frozen? ⟨w.heap.size,j,none⟩=false:=fun j=>zh hk1;have hzz1:w.heap.size<w1.heap.size:=(by omega);have hone:=hB1.setCell (p:=⟨w.heap.size,3,none⟩) (Nat.le_refl _) (.slice a o.vs.length dap);have HT1:Hid (zx (w.heap.size+1+1) w1 a o.vs):=ht1;have HK1:Hid (w1.heap[w.heap.size]?=some (.cells #[.string o.kd,.string o.nm,.string o.tm,.slice (some ⟨b,off,none⟩) o.vs.length cap,.bool o.en,.slice (some ⟨b',off',none⟩) o.hs.length cap',.int .i64 o.vr] 123)):=hk1;have HR1:Hid (w1.heap[w.heap.size+1]?=some (.cells #[.string ByteArray.empty,.string ByteArray.empty,.string ByteArray.empty,.slice none 0 0,.bool false,.slice none 0 0,.int .i64 0] 123)):=hr1;clear ht1 hk1 hr1;clear hown hgr)
  | (at_builtin;refine wpList_append_own _ rfl (.tmp 8) (.tmp 10) 106 rfl w1.heap.size 9 i0 (.string ByteArray.empty) 1 16 Tryz.underlying106 hi hz0 hz1' hz2 rfl (by decide) (.slice (some ⟨w1.heap.size,0,none⟩) 0 0) 0 [] rfl ⟨rfl,.inr ⟨w1.heap.size,0,#[],rfl,Nat.le_refl _,zpl _ _ _ _,Nat.le_refl _,(by simp[maxLen]),rfl,rfl⟩⟩ ⟨b',off',none⟩ o.hs.length cap' (o.hs.map Value.string) rfl (by simp) (zfv (ho.holds.mono (hone.alloc hone.size _))) zgb (by unfold maxLen;omega) (by omega) (by simp[World.setCell]) ?_;intro v'' w2 hown hgr hnn;simp only[Nat.zero_add,List.nil_append]at hown;obtain⟨a',dap',rfl,ht2,hsA'⟩:=znS hown (fun h=>by have:=(hnn.1 h).1;cases this);clear hnn;obtain⟨hk2,hr2,hB2,hz2'⟩:=zlz HK1.out HR1.out hB1 hz1 hgr;have HU2:Hid (zx w1.heap.size w2 a' o.hs):=ht2;have HT2:Hid (zx (w.heap.size+1+1) w2 a o.vs):=((HT1.out.setCell _ (by simp;omega) _).mono (bAl _ _)).grown hgr (fun g hg=>Nat.ne_of_lt (HT1.out.lt g hg));have hX2:∀j,w2.cell? ⟨w.heap.size,j,none⟩=(#[.string o.kd,.string o.nm,.string o.tm,.slice a o.vs.length dap,.bool o.en,.slice (some ⟨b',off',none⟩) o.hs.length cap',.int .i64 o.vr]:Array Value)[j]?:=fun j=>cell_of_block hk2;have hF2:∀j,w2.frozen? ⟨w.heap.size,j,none⟩=false:=fun j=>zh hk2;have hY2:∀j,w2.cell? ⟨w.heap.size+1,j,none⟩=(#[.string ByteArray.empty,.string ByteArray.empty,.string ByteArray.empty,.slice none 0 0,.bool false,.slice none 0 0,.int .i64 0]:Array Value)[j]?:=fun j=>cell_of_block hr2;have hG2:∀j,w2.frozen? ⟨w.heap.size+1,j,none⟩=false:=fun j=>zh hr2;have hzz2:w.heap.size+1<w2.heap.size:=(by omega);clear hown hgr ht2 hk2 hr2 hX1 hF1))
 refine bodyPost_ret (v:=(.agg #[.string o.kd,.string o.nm,.string o.tm,.slice a o.vs.length dap,.bool o.en,.slice a' o.hs.length dap',.int .i64 o.vr])) (by simp[results,Tryz.results176,go_sem,hY2]) rfl ⟨a,dap,a',dap',w1.heap.size,rfl,((((((((HT2.out.setCell _ (by simp;omega) _).setCell _ (by simp) _).setCell _ (by simp) _).setCell _ (by simp) _).setCell _ (by simp) _).setCell _ (by simp) _).setCell _ (by simp) _).setCell _ (by simp) _).low (by omega),HT1.out.lt,by omega,((((((((HU2.out.setCell _ (by simp;omega) _).setCell _ (by simp;omega) _).setCell _ (by simp;omega) _).setCell _ (by simp;omega) _).setCell _ (by simp;omega) _).setCell _ (by simp;omega) _).setCell _ (by simp;omega) _).setCell _ (by simp;omega) _),((((((((hB2.setCell (Nat.le_refl _) _).setCell (by simp) _).setCell (by simp) _).setCell (by simp) _).setCell (by simp) _).setCell (by simp) _).setCell (by simp) _).setCell (by simp) _),hsA,hsA'⟩
theorem zmP (a0:Option Addr)(cap0:Nat)(ss:List Shp)(o:Ob)(b off b' off' cap cap':Nat)(w:World)(hw:yU w a0 ss)(ho:jK w o (some ⟨b,off,none⟩) (some ⟨b',off',none⟩))(hl:o.vs.length<=1048576)(hl':o.hs.length<=1048576) :
 Calls Tryz.prog 137 #[.slice a0 ss.length cap0,.agg #[.string o.kd,.string o.nm,.string o.tm,.slice (some ⟨b,off,none⟩) o.vs.length cap,.bool o.en,.slice (some ⟨b',off',none⟩) o.hs.length cap',.int .i64 o.vr]] w (zpp o (qB ss o) w):=by
 by_cases hc:zy ss o=true
 rotate_left
 ·have HC:Hid (zy ss o=false):=by simpa[Hid] using hc
  have HRES:Hid (qB ss o=o.vs):=by unfold Hid qB;rw[if_neg hc]
  clear hc;have HH:Hid (jK w o (some ⟨b,off,none⟩) (some ⟨b',off',none⟩)):=ho;clear ho;go_enter Tryz.func137,Tryz.ntmps137;go_wp2_with fail
  refine(zhV o b off b' off' cap cap' _ (HH.out.mono (zw w (.cells #[.string o.kd,.string o.nm,.string o.tm,.slice (some ⟨b,off,none⟩) o.vs.length cap,.bool o.en,.slice (some ⟨b',off',none⟩) o.hs.length cap',.int .i64 o.vr] 123) (.cells #[.string ByteArray.empty,.string ByteArray.empty,.string ByteArray.empty,.slice none 0 0,.bool false,.slice none 0 0,.int .i64 0] 123))) hl hl').mono ?_;rintro e w1⟨a,dap,a',dap',m,rfl,ht,hm,hsm,ht',hb1,hsA,hsA'⟩;have HO1:Hid (w1.heap[w.heap.size]?=some (.cells #[.string o.kd,.string o.nm,.string o.tm,.slice (some ⟨b,off,none⟩) o.vs.length cap,.bool o.en,.slice (some ⟨b',off',none⟩) o.hs.length cap',.int .i64 o.vr] 123)):=(hb1.block w.heap.size (by simp;omega)).trans (zT _ _ _).1;have HR1:Hid (w1.heap[w.heap.size+1]?=some (.cells #[.string ByteArray.empty,.string ByteArray.empty,.string ByteArray.empty,.slice none 0 0,.bool false,.slice none 0 0,.int .i64 0] 123)):=(hb1.block (w.heap.size+1) (by simp)).trans (zT _ _ _).2;have hX1:∀j,w1.cell? ⟨w.heap.size,j,none⟩=(#[.string o.kd,.string o.nm,.string o.tm,.slice (some ⟨b,off,none⟩) o.vs.length cap,.bool o.en,.slice (some ⟨b',off',none⟩) o.hs.length cap',.int .i64 o.vr]:Array Value)[j]?:=fun j=>cell_of_block HO1.out
  have hz1:w.heap.size+1<w1.heap.size:=by have:=hb1.size;simp at this;omega
  have hz0:w.heap.size<w1.heap.size:=by omega
  have hB1:Below w.heap.size w w1:=(zw _ _ _).trans (hb1.mono (by simp;omega))
  have HT:Hid (zx (w.heap.size+1+1) w1 a o.vs/\(∀g,a=some g->g.block<m)/\w.heap.size+1+1<=m/\zx m w1 a' o.hs):=by
   simp only[World.size_alloc]at ht hsm;exact⟨ht,hm,hsm,ht'⟩
  clear ht hm hsm ht' hb1;go_wp2_with fail
  have hbs:=(bRf w1.heap.size w1).alloc (Nat.le_refl _) (.cells #[.string o.kd,.string o.nm,.string o.tm,.slice a o.vs.length dap,.bool o.en,.slice a' o.hs.length dap',.int .i64 o.vr] 123);have hBs:=hB1.trans (hbs.mono hB1.size);refine(zdg a0 cap0 ss o _ _ cap cap' _ (hw.mono hBs) (HH.out.mono hBs) HC.out).mono ?_;rintro e w2⟨v,rfl,hb2⟩;have hba:=hbs.trans (hb2.mono hbs.size);have hR2:=(hba.block _ hz1).trans HR1.out;have hU2:∀j,w2.cell? ⟨w1.heap.size,j,none⟩=(#[.string o.kd,.string o.nm,.string o.tm,.slice a o.vs.length dap,.bool o.en,.slice a' o.hs.length dap',.int .i64 o.vr]:Array Value)[j]?:=za (zl w1 _ _) (by simp) hb2;have hRc:∀j,w2.cell? ⟨w.heap.size+1,j,none⟩=(#[.string ByteArray.empty,.string ByteArray.empty,.string ByteArray.empty,.slice none 0 0,.bool false,.slice none 0 0,.int .i64 0]:Array Value)[j]?:=fun j=>cell_of_block hR2
  have hRf:∀j,w2.frozen? ⟨w.heap.size+1,j,none⟩=false:=fun j=>zh hR2
  have HX:Hid (zx (w.heap.size+1+1) w2 a o.vs/\zx m w2 a' o.hs/\Below w.heap.size w w2):=⟨HT.out.1.mono hba,HT.out.2.2.2.mono hba,hB1.trans (hba.mono hB1.size)⟩
  clear hbs hBs hb2 hba hR2 hX1;go_wp2_with fail
  refine bodyPost_ret (v:=(.agg #[.string o.kd,.string o.nm,.string o.tm,.slice a o.vs.length dap,.bool o.en,.slice a' o.hs.length dap',.int .i64 o.vr])) (by simp[results,Tryz.results137,go_sem,hRc]) rfl ?_;obtain⟨ht,ht',hB⟩:=HX.out;rw[HRES.out];exact⟨a,dap,a',dap',m,rfl,(jT ht _ (by omega) _ _ _ _ _ _ _).low (by omega),HT.out.2.1,by have:=HT.out.2.2.1;omega,jT ht' _ (by have:=HT.out.2.2.1;omega) _ _ _ _ _ _ _,zaW hB _ (by omega) _ _ _ _ _ _ _,hsA,hsA'⟩
 have HC:Hid (zy ss o=true):=hc;have HRES:Hid (qB ss o=zal (shapeOf ss o.kd).fs o.vs):=by unfold Hid qB;rw[if_pos hc]
 have HCC:Hid (o.vs.length=(shapeOf ss o.kd).fs.length):=by unfold zy at hc;simp only[Bool.and_eq_true,decide_eq_true_eq]at hc;exact hc.2
 clear hc;have HH:Hid (jK w o (some ⟨b,off,none⟩) (some ⟨b',off',none⟩)):=ho;clear ho;go_enter Tryz.func137,Tryz.ntmps137;go_wp2_with fail
 refine(zhV o b off b' off' cap cap' _ (HH.out.mono (zw w (.cells #[.string o.kd,.string o.nm,.string o.tm,.slice (some ⟨b,off,none⟩) o.vs.length cap,.bool o.en,.slice (some ⟨b',off',none⟩) o.hs.length cap',.int .i64 o.vr] 123) (.cells #[.string ByteArray.empty,.string ByteArray.empty,.string ByteArray.empty,.slice none 0 0,.bool false,.slice none 0 0,.int .i64 0] 123))) hl hl').mono ?_;rintro e w1⟨a,dap,a',dap',m,rfl,ht,hm,hsm,ht',hb1,hsA,hsA'⟩;have HO1:Hid (w1.heap[w.heap.size]?=some (.cells #[.string o.kd,.string o.nm,.string o.tm,.slice (some ⟨b,off,none⟩) o.vs.length cap,.bool o.en,.slice (some ⟨b',off',none⟩) o.hs.length cap',.int .i64 o.vr] 123)):=(hb1.block w.heap.size (by simp;omega)).trans (zT _ _ _).1;have HR1:Hid (w1.heap[w.heap.size+1]?=some (.cells #[.string ByteArray.empty,.string ByteArray.empty,.string ByteArray.empty,.slice none 0 0,.bool false,.slice none 0 0,.int .i64 0] 123)):=(hb1.block (w.heap.size+1) (by simp)).trans (zT _ _ _).2;have hX1:∀j,w1.cell? ⟨w.heap.size,j,none⟩=(#[.string o.kd,.string o.nm,.string o.tm,.slice (some ⟨b,off,none⟩) o.vs.length cap,.bool o.en,.slice (some ⟨b',off',none⟩) o.hs.length cap',.int .i64 o.vr]:Array Value)[j]?:=fun j=>cell_of_block HO1.out
 have hz1:w.heap.size+1<w1.heap.size:=by have:=hb1.size;simp at this;omega
 have hz0:w.heap.size<w1.heap.size:=by omega
 have hB1:Below w.heap.size w w1:=(zw _ _ _).trans (hb1.mono (by simp;omega))
 have HT:Hid (zx (w.heap.size+1+1) w1 a o.vs/\(∀g,a=some g->g.block<m)/\w.heap.size+1+1<=m/\zx m w1 a' o.hs):=by
  simp only[World.size_alloc]at ht hsm;exact⟨ht,hm,hsm,ht'⟩
 clear ht hm hsm ht' hb1;go_wp2_with fail
 have hbs:=(bRf w1.heap.size w1).alloc (Nat.le_refl _) (.cells #[.string o.kd,.string o.nm,.string o.tm,.slice a o.vs.length dap,.bool o.en,.slice a' o.hs.length dap',.int .i64 o.vr] 123);have hBs:=hB1.trans (hbs.mono hB1.size);refine(zfQ a0 cap0 ss o _ _ cap cap' w _ hw hBs HC.out).mono ?_;rintro e w2⟨fa,fcap,rfl,hf,hb2⟩;have hba:=hbs.trans (hb2.mono hbs.size);have HR2:Hid (w2.heap[w.heap.size+1]?=some (.cells #[.string ByteArray.empty,.string ByteArray.empty,.string ByteArray.empty,.slice none 0 0,.bool false,.slice none 0 0,.int .i64 0] 123)):=(hba.block _ hz1).trans HR1.out;have HU2:Hid (w2.heap[w1.heap.size]?=some (.cells #[.string o.kd,.string o.nm,.string o.tm,.slice a o.vs.length dap,.bool o.en,.slice a' o.hs.length dap',.int .i64 o.vr] 123)):=(hb2.block _ (by simp)).trans (alloc_at _ _);have HX2:Hid (zx (w.heap.size+1+1) w2 a o.vs/\zx m w2 a' o.hs/\Below w.heap.size w w2):=⟨HT.out.1.mono hba,HT.out.2.2.2.mono hba,hB1.trans (hba.mono hB1.size)⟩
 have hz2:w1.heap.size<w2.heap.size:=(gES HU2.out).1;clear hbs hBs hb2 hba hX1 hw;have hlen:=hf.len;unfold maxLen at hlen
 revert HRES HCC hf hlen
 generalize (shapeOf ss o.kd).fs=fs
 intro HRES HCC hf hlen;go_wp2_with fail
 go_loopw [8] (fun i wr=>∃k:Nat,k<=fs.length/\i=.int .i64 k/\zx (w.heap.size+1+1) wr a (jo fs o.vs k)/\zx m wr a' o.hs/\wr.heap[w.heap.size+1]?=some (.cells #[.string ByteArray.empty,.string ByteArray.empty,.string ByteArray.empty,.slice none 0 0,.bool false,.slice none 0 0,.int .i64 0] 123)/\wr.heap[w1.heap.size]?=some (.cells #[.string o.kd,.string o.nm,.string o.tm,.slice a o.vs.length dap,.bool o.en,.slice a' o.hs.length dap',.int .i64 o.vr] 123)/\Below w.heap.size w wr) (fun i _=>fs.length-(intOf i).toNat)
 case atStart=>exact⟨0,Nat.zero_le _,rfl,by rw[zii];exact HX2.out.1,HX2.out.2.1,HR2.out,HU2.out,HX2.out.2.2⟩
 case round=>
  obtain⟨k,hk,rfl,ht,ht',hR,hO,hB⟩:=hrel;have hOc:∀j,wr.cell? ⟨w1.heap.size,j,none⟩=(#[.string o.kd,.string o.nm,.string o.tm,.slice a o.vs.length dap,.bool o.en,.slice a' o.hs.length dap',.int .i64 o.vr]:Array Value)[j]?:=fun j=>cell_of_block hO
  have hOz:w1.heap.size<wr.heap.size:=(gES hO).1
  by_cases hlt:k<fs.length
  ·have hltv:k<o.vs.length:=by rw[HCC.out];exact hlt
   obtain⟨fb,foff,rfl,hfb,hr⟩:=hf.rows (by rintro rfl;simp at hlt);obtain⟨wa,wcap,hf0⟩:=hr k hlt;have hf1:=hf0.mono hfb hB;obtain⟨c0,c1,c2,c3,c4,c5,c6,c7,c8,c9,c10⟩:=hf1.load;have hltI:(k:Int)<(fs.length:Int):=by omega
   have hltV:(k:Int)<(o.vs.length:Int):=by omega
   obtain⟨g,C,hga,hgl,hgh,hgc⟩:∃g C,a=some ⟨g,0,none⟩/\w.heap.size+1+1<=g/\wr.heap[g]?=some (.cells C 9)/\∀i (h:i<(jo fs o.vs k).length),C[i]?=some (.string (jo fs o.vs k)[i]):=by
    rcases ht with⟨_,h0⟩|h0
    ·have:=zaE HCC.out k;rw[h0]at this;simp at this;omega
    ·exact h0
   have hgm:g<m:=HT.out.2.1 _ hga;have hgw1:g<w1.heap.size:=HT.out.1.lt _ hga;have hgw:g<wr.heap.size:=by omega
   subst hga
   have hcell:wr.cell? ⟨g,k,none⟩=some (.string o.vs[k]):=by
    have h1:=zft HCC.out k hlt;have hkl:k<(jo fs o.vs k).length:=by rw[zaE HCC.out];exact hltv
    rw[List.getElem?_eq_getElem hkl,List.getElem?_eq_getElem hltv]at h1;rw[cell_of_block hgh,hgc k hkl,Option.some.inj h1]
   have hgf:wr.frozen? ⟨g,k,none⟩=false:=zh hgh;have HX:Hid (zx (w.heap.size+1+1) wr (some ⟨g,0,none⟩) (jo fs o.vs k)/\zx m wr a' o.hs/\wr.heap[w.heap.size+1]?=some (.cells #[.string ByteArray.empty,.string ByteArray.empty,.string ByteArray.empty,.slice none 0 0,.bool false,.slice none 0 0,.int .i64 0] 123)/\wr.heap[w1.heap.size]?=some (.cells #[.string o.kd,.string o.nm,.string o.tm,.slice (some ⟨g,0,none⟩) o.vs.length dap,.bool o.en,.slice a' o.hs.length dap',.int .i64 o.vr] 123)/\Below w.heap.size w wr):=⟨ht,ht',hR,hO,hB⟩
   clear ht ht' hR hO hB hr hf0 hf1 hgh hgc hf
   by_cases hv:o.vs[k].toList.isEmpty=true
   ·have HV:Hid (zas fs[k] o.vs[k]=fs[k].df):=by unfold Hid zas;rw[if_pos hv]
    go_wp2_with fail
    have hfg:fb≠g:=by omega
    have hq1:(wr.setCell ⟨g,k,none⟩ (.string fs[k].df)).drew.cell? ⟨w1.heap.size,3,none⟩=some (.slice (some ⟨g,0,none⟩) o.vs.length dap):=(yg (by show w1.heap.size≠g;omega)).trans (hOc 3);have hq2:(wr.setCell ⟨g,k,none⟩ (.string fs[k].df)).drew.cell? ⟨fb,foff+k*11+9,none⟩=some (.string fs[k].df):=(yg hfg).trans c9;have hgd:wr.drew.frozen? ⟨g,k,none⟩=false:=hgf;have hcd:wr.drew.cell? ⟨g,k,none⟩=some (.string o.vs[k]):=hcell
    go_region_held3 (fun w'=>w'.cell? ⟨w1.heap.size,3,none⟩=some (.slice (some ⟨g,0,none⟩) o.vs.length dap)/\w'.cell? ⟨fb,foff+k*11+9,none⟩=some (.string fs[k].df)) (first|exact⟨hOc 3,c9⟩|exact⟨hq1,hq2⟩) (fail)
    go_wp2_with fail
    obtain⟨ht,ht',hR,hO,hB⟩:=HX.out;exact⟨⟨k+1,by omega,by go_num,by rw[zde HCC.out k hlt,HV.out];exact ht.set k _,ht'.setCell _ hgm _,(Below.heap_setCell _ _ _ _ (by show w.heap.size+1≠g;omega)).trans hR,(Below.heap_setCell _ _ _ _ (by show w1.heap.size≠g;omega)).trans hO,(hB.setCell (p:=⟨g,k,none⟩) (by show w.heap.size<=g;omega) _).drew⟩,zm hlt⟩
   ·have HV:Hid (zas fs[k] o.vs[k]=o.vs[k]):=by unfold Hid zas;rw[if_neg hv]
    go_wp2_with fail
    obtain⟨ht,ht',hR,hO,hB⟩:=HX.out
    have hsame:(jo fs o.vs k).set k o.vs[k]=jo fs o.vs k:=by
     have h1:=zft HCC.out k hlt;have hkl:k<(jo fs o.vs k).length:=by rw[zaE HCC.out];exact hltv
     rw[List.getElem?_eq_getElem hkl,List.getElem?_eq_getElem hltv]at h1;rw[<- Option.some.inj h1,List.set_getElem_self]
    exact⟨⟨k+1,by omega,by go_num,by rw[zde HCC.out k hlt,HV.out,hsame];exact ht,ht',hR,hO,hB⟩,zm hlt⟩
  ·have e:k=fs.length:=by omega
   subst e;rw[zjz HCC.out]at ht;have hRc:∀j,wr.cell? ⟨w.heap.size+1,j,none⟩=(#[.string ByteArray.empty,.string ByteArray.empty,.string ByteArray.empty,.slice none 0 0,.bool false,.slice none 0 0,.int .i64 0]:Array Value)[j]?:=fun j=>cell_of_block hR
   have hRf:∀j,wr.frozen? ⟨w.heap.size+1,j,none⟩=false:=fun j=>zh hR
   have HX:Hid (zx (w.heap.size+1+1) wr a (zal fs o.vs)/\zx m wr a' o.hs/\Below w.heap.size w wr):=⟨ht,ht',hB⟩
   clear ht ht' hB hR hO hf;go_wp2_with fail
   refine bodyPost_ret (v:=(.agg #[.string o.kd,.string o.nm,.string o.tm,.slice a o.vs.length dap,.bool o.en,.slice a' o.hs.length dap',.int .i64 o.vr])) (by simp[results,Tryz.results137,go_sem,hRc]) rfl ?_;obtain⟨ht,ht',hB⟩:=HX.out;rw[HRES.out];exact⟨a,dap,a',dap',m,rfl,(jT ht _ (by omega) _ _ _ _ _ _ _).low (by omega),HT.out.2.1,by have:=HT.out.2.2.1;omega,jT ht' _ (by have:=HT.out.2.2.1;omega) _ _ _ _ _ _ _,zaW hB _ (by omega) _ _ _ _ _ _ _,hsA,hsA'⟩
end Go.Proofs.YtnapmdofidgliaaGreat
