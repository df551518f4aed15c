import Derived.Test.YtghnakljnhnenaaGreatM40
set_option maxHeartbeats 4000000
namespace Go.Proofs.YtghnakljnhnenaaGreat
open Go.RowKit
theorem zp6 {fs:List Fld} (h:zbX fs):∀ f ∈ fs,f.df.size<=maxLen:=by
 intro f hf;obtain ⟨i,hi,rfl⟩:=List.mem_iff_getElem.1 hf;exact (h.small i hi).1.df
theorem znq {ss:List Shp} {o:Ob} (hs:zdr ss) (ho:∀ s ∈ o.vs,s.size<=maxLen):∀ s ∈ Gate.zix ss o,s.size<=maxLen:=by
 unfold Gate.zix
 split
 ·rename_i h
  have hf:zbX (Gate.shapeOf ss o.kd).fs:=by
   obtain ⟨hk,_,_⟩:=h;unfold Gate.zF at hk;rw [List.any_eq_true] at hk;obtain ⟨x,hx,he⟩:=hk;unfold Gate.shapeOf
   cases hfi:ss.find? (fun s=>decide (s.kd=o.kd)) with
   | none=>rw [List.find?_eq_none] at hfi;exact absurd he (hfi x hx)
   | some y =>
    obtain ⟨i,hi,rfl⟩:=List.mem_iff_getElem.1 (List.mem_of_find?_eq_some hfi);exact (hs.small i hi).2.2
  intro s hm;obtain ⟨i,hi,rfl⟩:=List.mem_iff_getElem.1 hm;have hl:=Gate.qR h.2.2;have e:(Gate.zac (Gate.shapeOf ss o.kd).fs o.vs)[i]=Gate.zat ((Gate.shapeOf ss o.kd).fs[i]'(by have:=h.2.2;omega)) (o.vs[i]'(by omega)):=by simp [Gate.zac]
  rw [e];unfold Gate.zat
  split
  ·exact zp6 hf _ (List.getElem_mem _)
  ·exact ho _ (List.getElem_mem _)
 ·exact ho
theorem znd {lo:Nat} {w:World} {v:Value} {ws:List ByteArray} (h:w.ownsRow lo 9 1 v ws.length (ws.map Value.string)) (hne:v ≠ .slice none 0 0):∃ a cap,v = .slice a ws.length cap/\zw lo w a ws/\∃ g,a=some ⟨g,0,none⟩:=by
 obtain ⟨a,cap,hv,ht⟩:=zw.zfA h;refine ⟨a,cap,hv,ht,?_⟩;obtain ⟨_,⟨h0,_⟩ | ⟨g,cp,cur,h0,_⟩⟩:=id h
 ·exact absurd h0 hne
 ·rw [hv] at h0;cases h0;exact ⟨g,rfl⟩
def zoY (o:Ob) (vs:List ByteArray) (w:World) (e:Ending) (w':World):Prop :=
 ∃ a dap a' dap' m,e = .returned (.agg #[.string o.kd,.string o.nm,.string o.tm,.slice a o.vs.length dap,.bool o.en,.slice a' o.hs.length dap',.int .i64 o.vr])/\zw w.heap.size w' a vs/\(∀ g,a=some g->g.block < m)/\w.heap.size<=m/\zw m w' a' o.hs/\Below w.heap.size w w'/\(∃ g,a=some ⟨g,0,none⟩)/\∃ g,a'=some ⟨g,0,none⟩
set_option maxRecDepth 20000 in
theorem zhv (o:Ob) (b off b' off' cap cap':Nat) (w:World) (ho:qB w o (some ⟨b,off,none⟩) (some ⟨b',off',none⟩)) (hl:o.vs.length<=1048576) (hl':o.hs.length<=1048576) :
 Calls Tryz.prog 175 #[.agg #[.string o.kd,.string o.nm,.string o.tm,.slice (some ⟨b,off,none⟩) o.vs.length cap,.bool o.en,.slice (some ⟨b',off',none⟩) o.hs.length cap',.int .i64 o.vr]] w
  fun e w'=>∃ a dap a' dap' m,e = .returned (.agg #[.string o.kd,.string o.nm,.string o.tm,.slice a o.vs.length dap,.bool o.en,.slice a' o.hs.length dap',.int .i64 o.vr])/\zw w.heap.size w' a o.vs/\(∀ g,a=some g->g.block < m)/\w.heap.size<=m/\zw m w' a' o.hs/\Below w.heap.size w w'/\(∃ g,a=some ⟨g,0,none⟩)/\∃ g,a'=some ⟨g,0,none⟩:=by
 obtain ⟨i0,hi,hz0,hz1',hz2⟩:=info_parts Tryz.zcP;go_enter Tryz.func175,Tryz.ntmps175
 go_wp2_with (first
  | (at_builtin;refine wpList_append_own _ rfl (.tmp 3) (.tmp 5) 102 rfl (w.heap.size+1+1) 9 i0 (.string ByteArray.empty) 1 16 Tryz.underlying102 hi hz0 hz1' hz2 rfl (by decide) (.slice (some ⟨w.heap.size+1+1,0,none⟩) 0 0) 0 [] rfl ⟨rfl,.inr ⟨w.heap.size+1+1,0,#[],rfl,Nat.le_refl _,zcg _ _ _ _,Nat.le_refl _,by simp [maxLen],rfl,rfl⟩⟩ ⟨b,off,none⟩ o.vs.length cap (o.vs.map Value.string) rfl (by simp) (ze2 (ho.vals.mono (jH _ _ _ _))) zgA (by unfold maxLen;omega) (by omega) (by simp) ?_;intro v' w1 hown hgr hnn;simp only [Nat.zero_add,List.nil_append] at hown;obtain ⟨a,dap,rfl,ht1,hsA⟩:=znd hown (fun h=>by have:=(hnn.1 h).1;cases this);clear hnn;obtain ⟨hk1,hr1,hB1,hz1⟩:=zhu hgr;have hX1:∀ j,w1.cell? ⟨w.heap.size,j,none⟩=(#[.string o.kd,.string o.nm,.string o.tm,.slice (some ⟨b,off,none⟩) o.vs.length cap,.bool o.en,.slice (some ⟨b',off',none⟩) o.hs.length cap',.int .i64 o.vr]:Array Value)[j]?:=fun j=>cell_of_block hk1;have hF1:∀ j,w1.frozen? ⟨w.heap.size,j,none⟩=false:=fun j=>zi hk1;have hzz1:w.heap.size < w1.heap.size:=(by omega);have hone:=hB1.setCell (p:=⟨w.heap.size,3,none⟩) (Nat.le_refl _) (.slice a o.vs.length dap);have HT1:Hid (zw (w.heap.size+1+1) w1 a o.vs):=ht1;have HK1:Hid (w1.heap[w.heap.size]?=some (.cells #[.string o.kd,.string o.nm,.string o.tm,.slice (some ⟨b,off,none⟩) o.vs.length cap,.bool o.en,.slice (some ⟨b',off',none⟩) o.hs.length cap',.int .i64 o.vr] 119)):=hk1;have HR1:Hid (w1.heap[w.heap.size+1]?=some (.cells #[.string ByteArray.empty,.string ByteArray.empty,.string ByteArray.empty,.slice none 0 0,.bool false,.slice none 0 0,.int .i64 0] 119)):=hr1;clear ht1 hk1 hr1;clear hown hgr)
  | (at_builtin;refine wpList_append_own _ rfl (.tmp 8) (.tmp 10) 102 rfl w1.heap.size 9 i0 (.string ByteArray.empty) 1 16 Tryz.underlying102 hi hz0 hz1' hz2 rfl (by decide) (.slice (some ⟨w1.heap.size,0,none⟩) 0 0) 0 [] rfl ⟨rfl,.inr ⟨w1.heap.size,0,#[],rfl,Nat.le_refl _,zoi _ _ _ _,Nat.le_refl _,(by simp [maxLen]),rfl,rfl⟩⟩ ⟨b',off',none⟩ o.hs.length cap' (o.hs.map Value.string) rfl (by simp) (ze2 (ho.holds.mono (hone.alloc hone.size _))) zgA (by unfold maxLen;omega) (by omega) (by simp [World.setCell]) ?_;intro v'' w2 hown hgr hnn;simp only [Nat.zero_add,List.nil_append] at hown;obtain ⟨a',dap',rfl,ht2,hsA'⟩:=znd hown (fun h=>by have:=(hnn.1 h).1;cases this);clear hnn;obtain ⟨hk2,hr2,hB2,hz2'⟩:=zkF HK1.out HR1.out hB1 hz1 hgr;have HU2:Hid (zw w1.heap.size w2 a' o.hs):=ht2;have HT2:Hid (zw (w.heap.size+1+1) w2 a o.vs):=((HT1.out.setCell _ (by simp;omega) _).mono (bAl _ _)).grown hgr (fun g hg=>Nat.ne_of_lt (HT1.out.lt g hg));have hX2:∀ j,w2.cell? ⟨w.heap.size,j,none⟩=(#[.string o.kd,.string o.nm,.string o.tm,.slice a o.vs.length dap,.bool o.en,.slice (some ⟨b',off',none⟩) o.hs.length cap',.int .i64 o.vr]:Array Value)[j]?:=fun j=>cell_of_block hk2;have hF2:∀ j,w2.frozen? ⟨w.heap.size,j,none⟩=false:=fun j=>zi hk2;have hY2:∀ j,w2.cell? ⟨w.heap.size+1,j,none⟩=(#[.string ByteArray.empty,.string ByteArray.empty,.string ByteArray.empty,.slice none 0 0,.bool false,.slice none 0 0,.int .i64 0]:Array Value)[j]?:=fun j=>cell_of_block hr2;have hG2:∀ j,w2.frozen? ⟨w.heap.size+1,j,none⟩=false:=fun j=>zi hr2;have hzz2:w.heap.size+1 < w2.heap.size:=(by omega);clear hown hgr ht2 hk2 hr2 hX1 hF1))
 refine bodyPost_ret (v:=(.agg #[.string o.kd,.string o.nm,.string o.tm,.slice a o.vs.length dap,.bool o.en,.slice a' o.hs.length dap',.int .i64 o.vr])) (by simp [results,Tryz.results175,go_sem,hY2]) rfl ⟨a,dap,a',dap',w1.heap.size,rfl,((((((((HT2.out.setCell _ (by simp;omega) _).setCell _ (by simp) _).setCell _ (by simp) _).setCell _ (by simp) _).setCell _ (by simp) _).setCell _ (by simp) _).setCell _ (by simp) _).setCell _ (by simp) _).low (by omega),HT1.out.lt,by omega,((((((((HU2.out.setCell _ (by simp;omega) _).setCell _ (by simp;omega) _).setCell _ (by simp;omega) _).setCell _ (by simp;omega) _).setCell _ (by simp;omega) _).setCell _ (by simp;omega) _).setCell _ (by simp;omega) _).setCell _ (by simp;omega) _),((((((((hB2.setCell (Nat.le_refl _) _).setCell (by simp) _).setCell (by simp) _).setCell (by simp) _).setCell (by simp) _).setCell (by simp) _).setCell (by simp) _).setCell (by simp) _),hsA,hsA'⟩
theorem zmX (a0:Option Addr) (cap0:Nat) (ss:List Shp) (o:Ob) (b off b' off' cap cap':Nat) (w:World) (hw:yI w a0 ss) (ho:qB w o (some ⟨b,off,none⟩) (some ⟨b',off',none⟩)) (hl:o.vs.length<=1048576) (hl':o.hs.length<=1048576) :
 Calls Tryz.prog 133 #[.slice a0 ss.length cap0,.agg #[.string o.kd,.string o.nm,.string o.tm,.slice (some ⟨b,off,none⟩) o.vs.length cap,.bool o.en,.slice (some ⟨b',off',none⟩) o.hs.length cap',.int .i64 o.vr]] w (zoY o (Gate.qD ss o) w):=by
 by_cases hc:Gate.zx ss o=true
 rotate_left
 ·have HC:Hid (Gate.zx ss o=false):=by simpa [Hid] using hc
  have HRES:Hid (Gate.qD ss o=o.vs):=by unfold Hid Gate.qD;rw [if_neg hc]
  clear hc;have HH:Hid (qB w o (some ⟨b,off,none⟩) (some ⟨b',off',none⟩)):=ho;clear ho;go_enter Tryz.func133,Tryz.ntmps133;go_wp2_with fail
  refine (zhv o b off b' off' cap cap' _ (HH.out.mono (zA w (.cells #[.string o.kd,.string o.nm,.string o.tm,.slice (some ⟨b,off,none⟩) o.vs.length cap,.bool o.en,.slice (some ⟨b',off',none⟩) o.hs.length cap',.int .i64 o.vr] 119) (.cells #[.string ByteArray.empty,.string ByteArray.empty,.string ByteArray.empty,.slice none 0 0,.bool false,.slice none 0 0,.int .i64 0] 119))) hl hl').mono ?_;rintro e w1 ⟨a,dap,a',dap',m,rfl,ht,hm,hsm,ht',hb1,hsA,hsA'⟩;have HO1:Hid (w1.heap[w.heap.size]?=some (.cells #[.string o.kd,.string o.nm,.string o.tm,.slice (some ⟨b,off,none⟩) o.vs.length cap,.bool o.en,.slice (some ⟨b',off',none⟩) o.hs.length cap',.int .i64 o.vr] 119)):=(hb1.block w.heap.size (by simp;omega)).trans (yh _ _ _).1;have HR1:Hid (w1.heap[w.heap.size+1]?=some (.cells #[.string ByteArray.empty,.string ByteArray.empty,.string ByteArray.empty,.slice none 0 0,.bool false,.slice none 0 0,.int .i64 0] 119)):=(hb1.block (w.heap.size+1) (by simp)).trans (yh _ _ _).2;have hX1:∀ j,w1.cell? ⟨w.heap.size,j,none⟩=(#[.string o.kd,.string o.nm,.string o.tm,.slice (some ⟨b,off,none⟩) o.vs.length cap,.bool o.en,.slice (some ⟨b',off',none⟩) o.hs.length cap',.int .i64 o.vr]:Array Value)[j]?:=fun j=>cell_of_block HO1.out
  have hz1:w.heap.size+1 < w1.heap.size:=by have:=hb1.size;simp at this;omega
  have hz0:w.heap.size < w1.heap.size:=by omega
  have hB1:Below w.heap.size w w1:=(zA _ _ _).trans (hb1.mono (by simp;omega))
  have HT:Hid (zw (w.heap.size+1+1) w1 a o.vs/\(∀ g,a=some g->g.block < m)/\w.heap.size+1+1<=m/\zw m w1 a' o.hs):=by
   simp only [World.size_alloc] at ht hsm;exact ⟨ht,hm,hsm,ht'⟩
  clear ht hm hsm ht' hb1;go_wp2_with fail
  have hbs:=(bRf w1.heap.size w1).alloc (Nat.le_refl _) (.cells #[.string o.kd,.string o.nm,.string o.tm,.slice a o.vs.length dap,.bool o.en,.slice a' o.hs.length dap',.int .i64 o.vr] 119);have hBs:=hB1.trans (hbs.mono hB1.size);refine (zcZ a0 cap0 ss o _ _ cap cap' _ (hw.mono hBs) (HH.out.mono hBs) HC.out).mono ?_;rintro e w2 ⟨v,rfl,hb2⟩;have hba:=hbs.trans (hb2.mono hbs.size);have hR2:=(hba.block _ hz1).trans HR1.out;have hU2:∀ j,w2.cell? ⟨w1.heap.size,j,none⟩=(#[.string o.kd,.string o.nm,.string o.tm,.slice a o.vs.length dap,.bool o.en,.slice a' o.hs.length dap',.int .i64 o.vr]:Array Value)[j]?:=za (zm w1 _ _) (by simp) hb2;have hRc:∀ j,w2.cell? ⟨w.heap.size+1,j,none⟩=(#[.string ByteArray.empty,.string ByteArray.empty,.string ByteArray.empty,.slice none 0 0,.bool false,.slice none 0 0,.int .i64 0]:Array Value)[j]?:=fun j=>cell_of_block hR2
  have hRf:∀ j,w2.frozen? ⟨w.heap.size+1,j,none⟩=false:=fun j=>zi hR2
  have HX:Hid (zw (w.heap.size+1+1) w2 a o.vs/\zw m w2 a' o.hs/\Below w.heap.size w w2):=⟨HT.out.1.mono hba,HT.out.2.2.2.mono hba,hB1.trans (hba.mono hB1.size)⟩
  clear hbs hBs hb2 hba hR2 hX1;go_wp2_with fail
  refine bodyPost_ret (v:=(.agg #[.string o.kd,.string o.nm,.string o.tm,.slice a o.vs.length dap,.bool o.en,.slice a' o.hs.length dap',.int .i64 o.vr])) (by simp [results,Tryz.results133,go_sem,hRc]) rfl ?_;obtain ⟨ht,ht',hB⟩:=HX.out;rw [HRES.out];exact ⟨a,dap,a',dap',m,rfl,(jO ht _ (by omega) _ _ _ _ _ _ _).low (by omega),HT.out.2.1,by have:=HT.out.2.2.1;omega,jO ht' _ (by have:=HT.out.2.2.1;omega) _ _ _ _ _ _ _,zaM hB _ (by omega) _ _ _ _ _ _ _,hsA,hsA'⟩
 have HC:Hid (Gate.zx ss o=true):=hc;have HRES:Hid (Gate.qD ss o=Gate.zac (Gate.shapeOf ss o.kd).fs o.vs):=by unfold Hid Gate.qD;rw [if_pos hc]
 have HCC:Hid (o.vs.length=(Gate.shapeOf ss o.kd).fs.length):=by unfold Gate.zx at hc;simp only [Bool.and_eq_true,decide_eq_true_eq] at hc;exact hc.2
 clear hc;have HH:Hid (qB w o (some ⟨b,off,none⟩) (some ⟨b',off',none⟩)):=ho;clear ho;go_enter Tryz.func133,Tryz.ntmps133;go_wp2_with fail
 refine (zhv o b off b' off' cap cap' _ (HH.out.mono (zA w (.cells #[.string o.kd,.string o.nm,.string o.tm,.slice (some ⟨b,off,none⟩) o.vs.length cap,.bool o.en,.slice (some ⟨b',off',none⟩) o.hs.length cap',.int .i64 o.vr] 119) (.cells #[.string ByteArray.empty,.string ByteArray.empty,.string ByteArray.empty,.slice none 0 0,.bool false,.slice none 0 0,.int .i64 0] 119))) hl hl').mono ?_;rintro e w1 ⟨a,dap,a',dap',m,rfl,ht,hm,hsm,ht',hb1,hsA,hsA'⟩;have HO1:Hid (w1.heap[w.heap.size]?=some (.cells #[.string o.kd,.string o.nm,.string o.tm,.slice (some ⟨b,off,none⟩) o.vs.length cap,.bool o.en,.slice (some ⟨b',off',none⟩) o.hs.length cap',.int .i64 o.vr] 119)):=(hb1.block w.heap.size (by simp;omega)).trans (yh _ _ _).1;have HR1:Hid (w1.heap[w.heap.size+1]?=some (.cells #[.string ByteArray.empty,.string ByteArray.empty,.string ByteArray.empty,.slice none 0 0,.bool false,.slice none 0 0,.int .i64 0] 119)):=(hb1.block (w.heap.size+1) (by simp)).trans (yh _ _ _).2;have hX1:∀ j,w1.cell? ⟨w.heap.size,j,none⟩=(#[.string o.kd,.string o.nm,.string o.tm,.slice (some ⟨b,off,none⟩) o.vs.length cap,.bool o.en,.slice (some ⟨b',off',none⟩) o.hs.length cap',.int .i64 o.vr]:Array Value)[j]?:=fun j=>cell_of_block HO1.out
 have hz1:w.heap.size+1 < w1.heap.size:=by have:=hb1.size;simp at this;omega
 have hz0:w.heap.size < w1.heap.size:=by omega
 have hB1:Below w.heap.size w w1:=(zA _ _ _).trans (hb1.mono (by simp;omega))
 have HT:Hid (zw (w.heap.size+1+1) w1 a o.vs/\(∀ g,a=some g->g.block < m)/\w.heap.size+1+1<=m/\zw m w1 a' o.hs):=by
  simp only [World.size_alloc] at ht hsm;exact ⟨ht,hm,hsm,ht'⟩
 clear ht hm hsm ht' hb1;go_wp2_with fail
 have hbs:=(bRf w1.heap.size w1).alloc (Nat.le_refl _) (.cells #[.string o.kd,.string o.nm,.string o.tm,.slice a o.vs.length dap,.bool o.en,.slice a' o.hs.length dap',.int .i64 o.vr] 119);have hBs:=hB1.trans (hbs.mono hB1.size);refine (ze9 a0 cap0 ss o _ _ cap cap' w _ hw hBs HC.out).mono ?_;rintro e w2 ⟨fa,fcap,rfl,hf,hb2⟩;have hba:=hbs.trans (hb2.mono hbs.size);have HR2:Hid (w2.heap[w.heap.size+1]?=some (.cells #[.string ByteArray.empty,.string ByteArray.empty,.string ByteArray.empty,.slice none 0 0,.bool false,.slice none 0 0,.int .i64 0] 119)):=(hba.block _ hz1).trans HR1.out;have HU2:Hid (w2.heap[w1.heap.size]?=some (.cells #[.string o.kd,.string o.nm,.string o.tm,.slice a o.vs.length dap,.bool o.en,.slice a' o.hs.length dap',.int .i64 o.vr] 119)):=(hb2.block _ (by simp)).trans (alloc_at _ _);have HX2:Hid (zw (w.heap.size+1+1) w2 a o.vs/\zw m w2 a' o.hs/\Below w.heap.size w w2):=⟨HT.out.1.mono hba,HT.out.2.2.2.mono hba,hB1.trans (hba.mono hB1.size)⟩
 have hz2:w1.heap.size < w2.heap.size:=(gES HU2.out).1;clear hbs hBs hb2 hba hX1 hw;have hlen:=hf.len;unfold maxLen at hlen
 revert HRES HCC hf hlen
 generalize (Gate.shapeOf ss o.kd).fs=fs
 intro HRES HCC hf hlen;go_wp2_with fail
 go_loopw [8] (fun i wr=>∃ k:Nat,k<=fs.length/\i = .int .i64 k/\zw (w.heap.size+1+1) wr a (Gate.jd fs o.vs k)/\zw m wr a' o.hs/\wr.heap[w.heap.size+1]?=some (.cells #[.string ByteArray.empty,.string ByteArray.empty,.string ByteArray.empty,.slice none 0 0,.bool false,.slice none 0 0,.int .i64 0] 119)/\wr.heap[w1.heap.size]?=some (.cells #[.string o.kd,.string o.nm,.string o.tm,.slice a o.vs.length dap,.bool o.en,.slice a' o.hs.length dap',.int .i64 o.vr] 119)/\Below w.heap.size w wr) (fun i _=>fs.length - (intOf i).toNat)
 case atStart=>exact ⟨0,Nat.zero_le _,rfl,by rw [Gate.zhy];exact HX2.out.1,HX2.out.2.1,HR2.out,HU2.out,HX2.out.2.2⟩
 case round =>
  obtain ⟨k,hk,rfl,ht,ht',hR,hO,hB⟩:=hrel;have hOc:∀ j,wr.cell? ⟨w1.heap.size,j,none⟩=(#[.string o.kd,.string o.nm,.string o.tm,.slice a o.vs.length dap,.bool o.en,.slice a' o.hs.length dap',.int .i64 o.vr]:Array Value)[j]?:=fun j=>cell_of_block hO
  have hOz:w1.heap.size < wr.heap.size:=(gES hO).1
  by_cases hlt:k < fs.length
  ·have hltv:k < o.vs.length:=by rw [HCC.out];exact hlt
   obtain ⟨fb,foff,rfl,hfb,hr⟩:=hf.rows (by rintro rfl;simp at hlt);obtain ⟨wa,wcap,hf0⟩:=hr k hlt;have hf1:=hf0.mono hfb hB;obtain ⟨c0,c1,c2,c3,c4,c5,c6,c7,c8,c9,c10⟩:=hf1.load;have hltI:(k:Int) < (fs.length:Int):=by omega
   have hltV:(k:Int) < (o.vs.length:Int):=by omega
   obtain ⟨g,C,hga,hgl,hgh,hgc⟩:∃ g C,a=some ⟨g,0,none⟩/\w.heap.size+1+1<=g/\wr.heap[g]?=some (.cells C 9)/\∀ i (h:i < (Gate.jd fs o.vs k).length),C[i]?=some (.string (Gate.jd fs o.vs k)[i]):=by
    rcases ht with ⟨_,h0⟩ | h0
    ·have:=Gate.zaB HCC.out k;rw [h0] at this;simp at this;omega
    ·exact h0
   have hgm:g < m:=HT.out.2.1 _ hga;have hgw1:g < w1.heap.size:=HT.out.1.lt _ hga;have hgw:g < wr.heap.size:=by omega
   subst hga
   have hcell:wr.cell? ⟨g,k,none⟩=some (.string o.vs[k]):=by
    have h1:=Gate.zeW HCC.out k hlt;have hkl:k < (Gate.jd fs o.vs k).length:=by rw [Gate.zaB HCC.out];exact hltv
    rw [List.getElem?_eq_getElem hkl,List.getElem?_eq_getElem hltv] at h1;rw [cell_of_block hgh,hgc k hkl,Option.some.inj h1]
   have hgf:wr.frozen? ⟨g,k,none⟩=false:=zi hgh;have HX:Hid (zw (w.heap.size+1+1) wr (some ⟨g,0,none⟩) (Gate.jd fs o.vs k)/\zw m wr a' o.hs/\wr.heap[w.heap.size+1]?=some (.cells #[.string ByteArray.empty,.string ByteArray.empty,.string ByteArray.empty,.slice none 0 0,.bool false,.slice none 0 0,.int .i64 0] 119)/\wr.heap[w1.heap.size]?=some (.cells #[.string o.kd,.string o.nm,.string o.tm,.slice (some ⟨g,0,none⟩) o.vs.length dap,.bool o.en,.slice a' o.hs.length dap',.int .i64 o.vr] 119)/\Below w.heap.size w wr):=⟨ht,ht',hR,hO,hB⟩
   clear ht ht' hR hO hB hr hf0 hf1 hgh hgc hf
   by_cases hv:o.vs[k].toList.isEmpty=true
   ·have HV:Hid (Gate.zat fs[k] o.vs[k]=fs[k].df):=by unfold Hid Gate.zat;rw [if_pos hv]
    go_wp2_with fail
    have hfg:fb ≠ g:=by omega
    have hq1:(wr.setCell ⟨g,k,none⟩ (.string fs[k].df)).drew.cell? ⟨w1.heap.size,3,none⟩=some (.slice (some ⟨g,0,none⟩) o.vs.length dap):=(yu (by show w1.heap.size ≠ g;omega)).trans (hOc 3);have hq2:(wr.setCell ⟨g,k,none⟩ (.string fs[k].df)).drew.cell? ⟨fb,foff+k * 11+9,none⟩=some (.string fs[k].df):=(yu hfg).trans c9;have hgd:wr.drew.frozen? ⟨g,k,none⟩=false:=hgf;have hcd:wr.drew.cell? ⟨g,k,none⟩=some (.string o.vs[k]):=hcell
    go_region_held3 (fun w'=>w'.cell? ⟨w1.heap.size,3,none⟩=some (.slice (some ⟨g,0,none⟩) o.vs.length dap)/\w'.cell? ⟨fb,foff+k * 11+9,none⟩=some (.string fs[k].df)) (first | exact ⟨hOc 3,c9⟩ | exact ⟨hq1,hq2⟩) (fail)
    go_wp2_with fail
    obtain ⟨ht,ht',hR,hO,hB⟩:=HX.out;exact ⟨⟨k+1,by omega,by go_num,by rw [Gate.zcV HCC.out k hlt,HV.out];exact ht.set k _,ht'.setCell _ hgm _,(Below.heap_setCell _ _ _ _ (by show w.heap.size+1 ≠ g;omega)).trans hR,(Below.heap_setCell _ _ _ _ (by show w1.heap.size ≠ g;omega)).trans hO,(hB.setCell (p:=⟨g,k,none⟩) (by show w.heap.size<=g;omega) _).drew⟩,zn hlt⟩
   ·have HV:Hid (Gate.zat fs[k] o.vs[k]=o.vs[k]):=by unfold Hid Gate.zat;rw [if_neg hv]
    go_wp2_with fail
    obtain ⟨ht,ht',hR,hO,hB⟩:=HX.out
    have hsame:(Gate.jd fs o.vs k).set k o.vs[k]=Gate.jd fs o.vs k:=by
     have h1:=Gate.zeW HCC.out k hlt;have hkl:k < (Gate.jd fs o.vs k).length:=by rw [Gate.zaB HCC.out];exact hltv
     rw [List.getElem?_eq_getElem hkl,List.getElem?_eq_getElem hltv] at h1;rw [<- Option.some.inj h1,List.set_getElem_self]
    exact ⟨⟨k+1,by omega,by go_num,by rw [Gate.zcV HCC.out k hlt,HV.out,hsame];exact ht,ht',hR,hO,hB⟩,zn hlt⟩
  ·have e:k=fs.length:=by omega
   subst e;rw [Gate.ziT HCC.out] at ht;have hRc:∀ j,wr.cell? ⟨w.heap.size+1,j,none⟩=(#[.string ByteArray.empty,.string ByteArray.empty,.string ByteArray.empty,.slice none 0 0,.bool false,.slice none 0 0,.int .i64 0]:Array Value)[j]?:=fun j=>cell_of_block hR
   have hRf:∀ j,wr.frozen? ⟨w.heap.size+1,j,none⟩=false:=fun j=>zi hR
   have HX:Hid (zw (w.heap.size+1+1) wr a (Gate.zac fs o.vs)/\zw m wr a' o.hs/\Below w.heap.size w wr):=⟨ht,ht',hB⟩
   clear ht ht' hB hR hO hf;go_wp2_with fail
   refine bodyPost_ret (v:=(.agg #[.string o.kd,.string o.nm,.string o.tm,.slice a o.vs.length dap,.bool o.en,.slice a' o.hs.length dap',.int .i64 o.vr])) (by simp [results,Tryz.results133,go_sem,hRc]) rfl ?_;obtain ⟨ht,ht',hB⟩:=HX.out;rw [HRES.out];exact ⟨a,dap,a',dap',m,rfl,(jO ht _ (by omega) _ _ _ _ _ _ _).low (by omega),HT.out.2.1,by have:=HT.out.2.2.1;omega,jO ht' _ (by have:=HT.out.2.2.1;omega) _ _ _ _ _ _ _,zaM hB _ (by omega) _ _ _ _ _ _ _,hsA,hsA'⟩
namespace Gate
theorem zbP (ss:List Shp) (o:Ob):(qD ss o).length=o.vs.length:=by
 unfold qD
 split
 ·rename_i h;unfold zx at h;simp only [Bool.and_eq_true,decide_eq_true_eq] at h;exact qR h.2
 ·rfl
theorem zeE {ss:List Shp} {ms:List Mnd} (h:yt ss ms=true):zQ ss=true:=by
 unfold yt at h;simp only [Bool.and_eq_true] at h;exact h.1.1.2
theorem zmY {ss:List Shp} {ms:List Mnd} {o:Ob} (h:yt ss ms=true):zbO ss ms o=zcm ss ms ⟨o.kd,o.nm,o.tm,qD ss o,o.en,o.hs,o.vr⟩:=by
 have e:qG ss ms ⟨o.kd,o.nm,o.tm,qD ss o,o.en,o.hs,o.vr⟩=qG ss ms o:=by
  unfold qG;simp only [zbP]
 unfold zbO zcm;rw [e]
 by_cases hm:qG ss ms o=true
 ·rw [if_pos hm,if_pos hm]
  have hc:zx ss o=true:=by rw [<- zaV h];exact hm
  unfold zgl qD;rw [if_pos hc]
 ·rw [if_neg hm,if_neg hm]
  have hc:¬ zx ss o=true:=by rw [<- zaV h];exact hm
  show o.vs=qD ss o
  unfold qD;rw [if_neg hc]
end Gate
theorem zlP (a0 ma:Option Addr) (cap0 mcap:Nat) (ss:List Shp) (ms:List Mnd) (o:Ob) (us:List ByteArray) (hus:us.length=o.vs.length) (b off b' off' cap cap':Nat) (w:World) (hw:yI w a0 ss) (hm:yY w ma ms) (hsm:o.Small) (ho:zD w (some ⟨b,off,none⟩) us) (ho':zD w (some ⟨b',off',none⟩) o.hs) (hl:o.vs.length<=1048576) (hl':o.hs.length<=1048576) (hok:Gate.yt ss ms=true) :
 Calls Tryz.prog 132 #[.slice a0 ss.length cap0,.slice ma ms.length mcap,.agg #[.string o.kd,.string o.nm,.string o.tm,.slice (some ⟨b,off,none⟩) o.vs.length cap,.bool o.en,.slice (some ⟨b',off',none⟩) o.hs.length cap',.int .i64 o.vr]] w (zfW o (Gate.zcm ss ms ⟨o.kd,o.nm,o.tm,us,o.en,o.hs,o.vr⟩) w):=by
 have h:=zkY a0 ma cap0 mcap ss ms ⟨o.kd,o.nm,o.tm,us,o.en,o.hs,o.vr⟩ b off b' off' cap cap' w hw hm ⟨⟨hsm.kd,hsm.nm,hsm.tm⟩,ho,ho'⟩ (by show us.length<=_;omega) hl' hok;unfold zfW at h ⊢;simp only [hus] at h;exact h
theorem zgz (a0 ma:Option Addr) (cap0 mcap:Nat) (ss:List Shp) (ms:List Mnd) (o:Ob) (b off b' off' cap cap':Nat) (w:World) (hw:yI w a0 ss) (hmm:yY w ma ms) (ho:qB w o (some ⟨b,off,none⟩) (some ⟨b',off',none⟩)) (hl:o.vs.length<=1048576) (hl':o.hs.length<=1048576) (hok:Gate.yt ss ms=true) :
 Calls Tryz.prog 94 #[.slice a0 ss.length cap0,.slice ma ms.length mcap,.agg #[.string o.kd,.string o.nm,.string o.tm,.slice (some ⟨b,off,none⟩) o.vs.length cap,.bool o.en,.slice (some ⟨b',off',none⟩) o.hs.length cap',.int .i64 o.vr]] w (zfW o (Gate.zbO ss ms o) w):=by
 have HRES:Hid (Gate.zbO ss ms o=Gate.zcm ss ms ⟨o.kd,o.nm,o.tm,Gate.qD ss o,o.en,o.hs,o.vr⟩):=Gate.zmY hok;have HSM:Hid ((Gate.qD ss o).length<=maxLen/\∀ s ∈ Gate.qD ss o,s.size<=maxLen):=⟨by rw [Gate.zbP];exact ho.vals.len,by rw [<- Gate.zny (Gate.zeE hok)];exact znq hw.smalls ho.vals.small⟩
 have HH:Hid (yI w a0 ss/\yY w ma ms/\qB w o (some ⟨b,off,none⟩) (some ⟨b',off',none⟩)):=⟨hw,hmm,ho⟩
 clear hw hmm ho;have hb2:=zA w (.cells #[.string o.kd,.string o.nm,.string o.tm,.slice (some ⟨b,off,none⟩) o.vs.length cap,.bool o.en,.slice (some ⟨b',off',none⟩) o.hs.length cap',.int .i64 o.vr] 119) (.cells #[.string ByteArray.empty,.string ByteArray.empty,.string ByteArray.empty,.slice none 0 0,.bool false,.slice none 0 0,.int .i64 0] 119);go_enter Tryz.func94,Tryz.ntmps94;go_wp2_with fail
 refine (zmX a0 cap0 ss o b off b' off' cap cap' _ (HH.out.1.mono hb2) (HH.out.2.2.mono hb2) hl hl').mono ?_;rintro e w1 ⟨a1,dap1,a1',dap1',m1,rfl,ht1,hm1,hsm1,ht1',hb1,⟨g,rfl⟩,⟨g',rfl⟩⟩;have HR1:Hid (w1.heap[w.heap.size+1]?=some (.cells #[.string ByteArray.empty,.string ByteArray.empty,.string ByteArray.empty,.slice none 0 0,.bool false,.slice none 0 0,.int .i64 0] 119)):=(hb1.block (w.heap.size+1) (by simp)).trans (yh _ _ _).2;have hz1:w.heap.size+1 < w1.heap.size:=by have:=hb1.size;simp at this;omega
 have hB1:Below w.heap.size w w1:=hb2.trans (hb1.mono (by simp;omega));have hv1:=ht1.at HSM.out.1 HSM.out.2;have hv1':=ht1'.at HH.out.2.2.holds.len HH.out.2.2.holds.small;clear hb1 hb2 ht1 hm1 hsm1 ht1';go_wp2_with fail
 refine (zlP a0 ma cap0 mcap ss ms o (Gate.qD ss o) (Gate.zbP ss o) g 0 g' 0 _ _ _ (HH.out.1.mono hB1) (HH.out.2.1.mono hB1) HH.out.2.2.small hv1 hv1' hl hl' hok).mono ?_;rintro e w4 ⟨a,dap,a',dap',m,rfl,ht,hm,hsm,ht',hb4⟩;have hR4:w4.heap[w.heap.size+1]?=some (.cells #[.string ByteArray.empty,.string ByteArray.empty,.string ByteArray.empty,.slice none 0 0,.bool false,.slice none 0 0,.int .i64 0] 119):=(hb4.block (w.heap.size+1) hz1).trans HR1.out;have hRc:∀ j,w4.cell? ⟨w.heap.size+1,j,none⟩=(#[.string ByteArray.empty,.string ByteArray.empty,.string ByteArray.empty,.slice none 0 0,.bool false,.slice none 0 0,.int .i64 0]:Array Value)[j]?:=fun j=>cell_of_block hR4
 have hRf:∀ j,w4.frozen? ⟨w.heap.size+1,j,none⟩=false:=fun j=>zi hR4
 have HX:Hid (zw (w.heap.size+1+1) w4 a (Gate.zbO ss ms o)/\(∀ g,a=some g->g.block < m)/\w.heap.size+1+1<=m/\zw m w4 a' o.hs/\Below w.heap.size w w4):=by rw [HRES.out];exact ⟨ht.low hz1,hm,Nat.le_trans hz1 hsm,ht',hB1.trans (hb4.mono hB1.size)⟩
 clear ht hm hsm ht' hb4 hR4;go_wp2_with fail
 refine bodyPost_ret (v:=(.agg #[.string o.kd,.string o.nm,.string o.tm,.slice a o.vs.length dap,.bool o.en,.slice a' o.hs.length dap',.int .i64 o.vr])) (by simp [results,Tryz.results94,go_sem,hRc]) rfl ?_;obtain ⟨ht,hm,hsm,ht',hB⟩:=HX.out;exact ⟨a,dap,a',dap',m,rfl,(jO ht _ (by omega) _ _ _ _ _ _ _).low (by omega),hm,by omega,jO ht' _ (by omega) _ _ _ _ _ _ _,zaM hB _ (by omega) _ _ _ _ _ _ _⟩
theorem zmy (a0:Option Addr) (cap0:Nat) (ss:List Shp) (o:Ob) (a a':Option Addr) (cap cap':Nat) (w:World) (hw:yI w a0 ss) (ho:qB w o a a') :
 Calls Tryz.prog 90 #[.slice a0 ss.length cap0,.agg #[.string o.kd,.string o.nm,.string o.tm,.slice a o.vs.length cap,.bool o.en,.slice a' o.hs.length cap',.int .i64 o.vr]] w fun e w'=>e = .returned (.tuple #[.int .i64 (Gate.yH ss o).1,.int .i64 (Gate.yH ss o).2])/\Below w.heap.size w w':=by
 have hlh:=ho.holds.len;unfold maxLen at hlh
 by_cases hc:Gate.zx ss o=true
 rotate_left
 ·have HCt:Hid (Gate.zx ss o=false):=by simpa [Hid] using hc
  have HR:Hid (Gate.yH ss o=(1,0)):=by unfold Hid Gate.yH;rw [if_neg];unfold Gate.whole;rw [HCt.out];simp
  clear hc;go_enter Tryz.func90,Tryz.ntmps90;go_wp2_with fail
  refine (zcZ _ _ _ _ _ _ _ _ _ (hw.mono (bAl _ _)) (ho.mono (bAl _ _)) HCt.out).mono ?_;rintro e w1 ⟨v,rfl,hb1⟩;have hB1:Below w.heap.size w w1:=(bAl _ _).trans (hb1.mono (by simp));clear hb1;go_wp2_with fail
  go_ret2
  exact ⟨by rw [HR.out];rfl,hB1⟩
 have HCt:Hid (Gate.zx ss o=true):=hc
 by_cases hn:Gate.zy o.nm=true
 rotate_left
 ·have hn':Gate.zy o.nm=false:=by simpa using hn
  have HNm:Hid (Gate.zy o.nm=false):=hn';clear hn hc
  have HR:Hid (Gate.yH ss o=(1,0)):=by
   unfold Hid Gate.yH;rw [if_neg];unfold Gate.whole Gate.qM;simp [hn']
  go_enter Tryz.func90,Tryz.ntmps90;go_wp2_with fail
  refine (qY _ _ _ _ _ _ _ _ _ (hw.mono (bAl _ _)) (ho.mono (bAl _ _)) HCt.out).mono ?_;rintro e w1 ⟨fa,fcap,rfl,hfl0,hb1⟩;have hX1:=za (zm w _ _) (by simp) hb1;have hz1:w.heap.size < w1.heap.size:=by have:=hb1.size;simp at this;omega
  have hB1:Below w.heap.size w w1:=(bAl _ _).trans (hb1.mono (by simp));have hfl1:=hfl0.mono hb1;clear hb1 hfl0;go_wp2_with fail
  refine (zf HNm.out (zh _ _ ho.small.nm)).mono ?_;rintro e w2 ⟨rfl,rfl⟩;go_wp2_with fail
  go_ret2
  exact ⟨by rw [HR.out];rfl,hB1⟩
 have HNm:Hid (Gate.zy o.nm=true):=hn
 by_cases ht:Gate.zy o.tm=true
 rotate_left
 ·have ht':Gate.zy o.tm=false:=by simpa using ht
  have HTm:Hid (Gate.zy o.tm=false):=ht';clear ht hc hn
  have HR:Hid (Gate.yH ss o=(1,0)):=by
   unfold Hid Gate.yH;rw [if_neg];unfold Gate.whole Gate.qM;simp [ht']
  go_enter Tryz.func90,Tryz.ntmps90;go_wp2_with fail
  refine (qY _ _ _ _ _ _ _ _ _ (hw.mono (bAl _ _)) (ho.mono (bAl _ _)) HCt.out).mono ?_;rintro e w1 ⟨fa,fcap,rfl,hfl0,hb1⟩;have hX1:=za (zm w _ _) (by simp) hb1;have hz1:w.heap.size < w1.heap.size:=by have:=hb1.size;simp at this;omega
  have hB1:Below w.heap.size w w1:=(bAl _ _).trans (hb1.mono (by simp));have hfl1:=hfl0.mono hb1;clear hb1 hfl0;go_wp2_with fail
  refine (zf HNm.out (zh _ _ ho.small.nm)).mono ?_;rintro e w2 ⟨rfl,rfl⟩;go_wp2_with fail
  refine (zf HTm.out (zh _ _ ho.small.tm)).mono ?_;rintro e w3 ⟨rfl,rfl⟩;go_wp2_with fail
  go_ret2
  exact ⟨by rw [HR.out];rfl,hB1⟩
 have HTm:Hid (Gate.zy o.tm=true):=ht
 by_cases h3:o.hs.length<=3
 rotate_left
 ·have h3I:(3:Int) < (o.hs.length:Int):=by omega
  clear ht hc hn
  have HR:Hid (Gate.yH ss o=(1,0)):=by
   unfold Hid Gate.yH;rw [if_neg];unfold Gate.whole Gate.qZ;simp [show ¬ o.hs.length<=3 by omega]
  go_enter Tryz.func90,Tryz.ntmps90;go_wp2_with fail
  refine (qY _ _ _ _ _ _ _ _ _ (hw.mono (bAl _ _)) (ho.mono (bAl _ _)) HCt.out).mono ?_;rintro e w1 ⟨fa,fcap,rfl,hfl0,hb1⟩;have hX1:=za (zm w _ _) (by simp) hb1;have hz1:w.heap.size < w1.heap.size:=by have:=hb1.size;simp at this;omega
  have hB1:Below w.heap.size w w1:=(bAl _ _).trans (hb1.mono (by simp));have hfl1:=hfl0.mono hb1;clear hb1 hfl0;go_wp2_with fail
  refine (zf HNm.out (zh _ _ ho.small.nm)).mono ?_;rintro e w2 ⟨rfl,rfl⟩;go_wp2_with fail
  refine (zf HTm.out (zh _ _ ho.small.tm)).mono ?_;rintro e w3 ⟨rfl,rfl⟩;go_wp2_with fail
  go_ret2
  exact ⟨by rw [HR.out];rfl,hB1⟩
 have h3I:(o.hs.length:Int)<=3:=by omega
 by_cases ha:Gate.asc o.hs=true
 rotate_left
 ·have ha':Gate.asc o.hs=false:=by simpa using ha
  have HAsc:Hid (Gate.asc o.hs=false):=ha';clear ht hc hn ha
  have HR:Hid (Gate.yH ss o=(1,0)):=by
   unfold Hid Gate.yH;rw [if_neg];unfold Gate.whole Gate.qZ;simp [ha']
  go_enter Tryz.func90,Tryz.ntmps90;go_wp2_with fail
  refine (qY _ _ _ _ _ _ _ _ _ (hw.mono (bAl _ _)) (ho.mono (bAl _ _)) HCt.out).mono ?_;rintro e w1 ⟨fa,fcap,rfl,hfl0,hb1⟩;have hX1:=za (zm w _ _) (by simp) hb1;have hz1:w.heap.size < w1.heap.size:=by have:=hb1.size;simp at this;omega
  have hB1:Below w.heap.size w w1:=(bAl _ _).trans (hb1.mono (by simp));have hfl1:=hfl0.mono hb1;clear hb1 hfl0;go_wp2_with fail
  refine (zf HNm.out (zh _ _ ho.small.nm)).mono ?_;rintro e w2 ⟨rfl,rfl⟩;go_wp2_with fail
  refine (zf HTm.out (zh _ _ ho.small.tm)).mono ?_;rintro e w3 ⟨rfl,rfl⟩;go_wp2_with fail
  refine (zf HAsc.out (zaw _ _ _ _ (ho.holds.mono hB1))).mono ?_;rintro e w4 ⟨rfl,nd,rfl⟩;go_wp2_with fail
  go_ret2
  exact ⟨by rw [HR.out];rfl,below_drewN hB1 _⟩
 have HAsc:Hid (Gate.asc o.hs=true):=ha
 by_cases hv:0<=o.vr/\o.vr<=1000000
 rotate_left
 ·have HV:Hid (¬ (0<=o.vr/\o.vr<=1000000)):=hv
  have HR:Hid (Gate.yH ss o=(1,0)):=by
   unfold Hid Gate.yH;rw [if_neg];unfold Gate.whole Gate.qA;intro h;simp only [Bool.and_eq_true,decide_eq_true_eq] at h;exact hv h.1.2
  clear ht hc hn ha hv;go_enter Tryz.func90,Tryz.ntmps90;go_wp2_with fail
  refine (qY _ _ _ _ _ _ _ _ _ (hw.mono (bAl _ _)) (ho.mono (bAl _ _)) HCt.out).mono ?_;rintro e w1 ⟨fa,fcap,rfl,hfl0,hb1⟩;have hX1:=za (zm w _ _) (by simp) hb1;have hz1:w.heap.size < w1.heap.size:=by have:=hb1.size;simp at this;omega
  have hB1:Below w.heap.size w w1:=(bAl _ _).trans (hb1.mono (by simp));have hfl1:=hfl0.mono hb1;clear hb1 hfl0;go_wp2_with fail
  refine (zf HNm.out (zh _ _ ho.small.nm)).mono ?_;rintro e w2 ⟨rfl,rfl⟩;go_wp2_with fail
  refine (zf HTm.out (zh _ _ ho.small.tm)).mono ?_;rintro e w3 ⟨rfl,rfl⟩;go_wp2_with fail
  refine (zf HAsc.out (zaw _ _ _ _ (ho.holds.mono hB1))).mono ?_;rintro e w4 ⟨rfl,nd,rfl⟩;go_wp2_with fail
  refine (zcW _ _ _ _ (by have:=HV.out;omega)).mono ?_;rintro e w5 ⟨rfl,rfl⟩;go_wp2_with fail
  go_ret2
  exact ⟨by rw [HR.out];rfl,below_drewN hB1 _⟩
 obtain ⟨hv0,hv1⟩:=hv
 have HR:Hid (Gate.yH ss o=Gate.jS (Gate.shapeOf ss o.kd).fs o.vs):=by
  unfold Hid Gate.yH;rw [if_pos];unfold Gate.whole Gate.qM Gate.qZ Gate.qA;simp [hc,hn,ht,h3,ha,hv0,hv1]
 have HLn:Hid (o.vs.length=(Gate.shapeOf ss o.kd).fs.length):=by
  unfold Gate.zx at hc;simp only [Bool.and_eq_true,decide_eq_true_eq] at hc;exact hc.2
 clear hc hn ht ha;go_enter Tryz.func90,Tryz.ntmps90;go_wp2_with fail
 refine (qY _ _ _ _ _ _ _ _ _ (hw.mono (bAl _ _)) (ho.mono (bAl _ _)) HCt.out).mono ?_;rintro e w1 ⟨fa,fcap,rfl,hfl0,hb1⟩;have hX1:=za (zm w _ _) (by simp) hb1;have hz1:w.heap.size < w1.heap.size:=by have:=hb1.size;simp at this;omega
 have hB1:Below w.heap.size w w1:=(bAl _ _).trans (hb1.mono (by simp));have hfl1:=hfl0.mono hb1;clear hb1 hfl0;go_wp2_with fail
 refine (zf HNm.out (zh _ _ ho.small.nm)).mono ?_;rintro e w2 ⟨rfl,rfl⟩;go_wp2_with fail
 refine (zf HTm.out (zh _ _ ho.small.tm)).mono ?_;rintro e w3 ⟨rfl,rfl⟩;go_wp2_with fail
 refine (zf HAsc.out (zaw _ _ _ _ (ho.holds.mono hB1))).mono ?_;rintro e w4 ⟨rfl,nd,rfl⟩;go_wp2_with fail
 refine (zbb _ _ _ _ hv0 hv1).mono ?_;rintro e w5 ⟨rfl,rfl⟩
 generalize hfs:(Gate.shapeOf ss o.kd).fs=fs at *
 have hlen:=hfl1.len;unfold maxLen at hlen;go_wp2_with fail
 go_loopw [8] (fun i wr=>∃ k:Nat,k<=fs.length/\i = .int .i64 k/\Gate.up (Gate.zbe fs o.vs) k=true/\Below w3.heap.size w3 wr) (fun i _=>fs.length - (intOf i).toNat)
 case atStart=>exact ⟨0,Nat.zero_le _,rfl,rfl,below_drewN (bRf _ _) _⟩
 case round =>
  obtain ⟨k,hk,rfl,hup,hBr⟩:=hrel;have hszr:=hBr.size;have hB:Below w.heap.size w wr:=hB1.trans (hBr.mono (by omega))
  by_cases hlt:k < fs.length
  ·have hXr:=za hX1 hz1 hBr
   obtain ⟨b,off,rfl,hb,hr⟩:=hfl1.rows (by rintro rfl;simp at hlt);obtain ⟨wa,wcap,hf0⟩:=hr k hlt;have hf:=hf0.mono hb hBr;obtain ⟨c0,c1,c2,c3,c4,c5,c6,c7,c8,c9,c10⟩:=hf.load;have hst:=hf.strs;have hltv:k < o.vs.length:=by rw [HLn.out];exact hlt
   obtain ⟨vb,voff,rfl,hvb,hvc⟩:=ho.vals.cells (by intro h;rw [h] at hltv;simp at hltv);have hcv:=(hB.cell (p:=⟨vb,voff+k,none⟩) hvb).trans (hvc k hltv);have hvs:=ho.vals.small _ (List.getElem_mem hltv);have hltI:(k:Int) < (fs.length:Int):=by omega
   have hltV:(k:Int) < (o.vs.length:Int):=by omega
   have HFX:Hid (Gate.zdJ fs o.vs k=Gate.zaf fs[k] o.vs[k]):=Gate.zjr hlt hltv
   have HS:Hid (Gate.zaf fs[k] o.vs[k]=0->Gate.up (Gate.zbe fs o.vs) (k+1)=true):=fun h=>by
    rw [Gate.q9,hup];unfold Gate.zbe;rw [HFX.out,h];rfl
   have HN:Hid (∀ n:Int,n ≠ 0->Gate.zaf fs[k] o.vs[k]=n->Gate.yH ss o=(n,(k:Int))):=fun n hn0 h=>by
    rw [HR.out,Gate.zkv hlt hup (by unfold Gate.zbe;rw [HFX.out,h];simp [hn0]),HFX.out,h]
   clear hX1 hr hf0 hf hup
   by_cases he:o.vs[k].size=0
   ·have hne:o.vs[k].toList.isEmpty=true:=by rw [Gate.zu];simp [he]
    have HE:Hid (o.vs[k].size=0):=he;clear he
    by_cases hmu:fs[k].mu=true
    ·have HM:Hid (fs[k].mu=true):=hmu
     go_wp2_with fail
     go_ret2
     have hv:=HN.out 2 (by decide) (by unfold Gate.zaf;rw [if_pos HE.out,if_pos HM.out]);exact ⟨by rw [hv];rfl,hB⟩
    ·have hmu':fs[k].mu=false:=by simpa using hmu
     have HM:Hid (fs[k].mu=false):=hmu';clear hmu;go_wp2_with fail
     exact ⟨⟨k+1,by omega,by go_num,HS.out (by unfold Gate.zaf;rw [if_pos HE.out,HM.out];rfl),hBr⟩,by simp [intOf];omega⟩
   ·have hne:o.vs[k].toList.isEmpty=false:=by rw [Gate.zu];simp [he]
    have HE:Hid (¬ o.vs[k].size=0):=he;clear he
    by_cases hfit:Gate.fits fs[k].kd fs[k].ls fs[k].ms fs[k].ws o.vs[k]=true
    all_goals
     first
      | (have HFT:Hid (Gate.fits fs[k].kd fs[k].ls fs[k].ms fs[k].ws o.vs[k]=true):=hfit)
      | (have HFT:Hid (Gate.fits fs[k].kd fs[k].ls fs[k].ms fs[k].ws o.vs[k]=false):=by simpa [Hid] using hfit)
     clear hfit;go_wp2_with fail
     have hbx:Below wr.heap.size wr wr.drew:=(bRf _ _).drew
     go_region_with (go_at_call 130;refine (zf HFT.out (yS _ _ _ _ _ _ _ _ _ _ _ _ _ _ _ hvs (by exact hst.mono hbx))).mono ?_;rintro e w3 ⟨rfl,hb3⟩)
     all_goals go_wp2_with fail
    all_goals have hB3:Below wr.heap.size wr w3:=hbx.trans hb3
    all_goals first
     | (have hft:Gate.fits fs[k].kd fs[k].ls fs[k].ms fs[k].ws o.vs[k]=true:=HFT.out
        exact ⟨⟨k+1,by omega,by go_num,HS.out (by unfold Gate.zaf;rw [if_neg HE.out];unfold Gate.zeK;rw [hft];rfl),hBr.trans (hB3.mono hszr)⟩,by simp [intOf];omega⟩)
     | (have hft:Gate.fits fs[k].kd fs[k].ls fs[k].ms fs[k].ws o.vs[k]=false:=HFT.out
        go_ret2
        have hv:=HN.out 3 (by decide) (by unfold Gate.zaf;rw [if_neg HE.out];unfold Gate.zeK;rw [hft];rfl);exact ⟨by rw [hv];rfl,hB.trans (hB3.mono (by omega))⟩)
  ·have HF:Hid (Gate.yH ss o=(0,0)):=by
    have e:k=fs.length:=by omega
    subst e;rw [HR.out];exact Gate.zhz hup
   clear hup;go_wp2_with fail
   go_ret2
   exact ⟨by rw [HF.out];rfl,hB⟩
end Go.Proofs.YtghnakljnhnenaaGreat
