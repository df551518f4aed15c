import Derived.Test.YtghnakljnhnenaaGreatM10
set_option maxHeartbeats 1000000
namespace Go.Proofs.YtghnakljnhnenaaGreat
open Go.RowKit
theorem ze8 (b off cap:Nat) (ws:List ByteArray) (w:World) (hw:zD w (some ⟨b,off,none⟩) ws) (hl:ws.length<=1048576) :
 Calls Tryz.prog 226 #[.slice (some ⟨b,off,none⟩) ws.length cap] w
  fun e w'=>∃ v,e = .returned v/\w'.ownsRow w.heap.size 9 1 v ws.length (ws.map Value.string)/\Below w.heap.size w w':=by
 obtain ⟨i0,hi,hz0,hz1,hz2⟩:=info_parts Tryz.zcP
 have hnews:∀ j u,(ws.map Value.string)[j]?=some u->w.cell? ((⟨b,off,none⟩:Addr).add j)=some u:=by
  intro j u hj
  have hlt:j < ws.length:=by
   have:=(List.getElem?_eq_some_iff.1 hj).1;simpa using this
  obtain ⟨b',off',he,hb,hc⟩:=hw.cells (by rintro rfl;simp at hlt);simp only [Option.some.injEq,Addr.mk.injEq] at he;obtain ⟨rfl,rfl,_⟩:=he;have h1:=hc j hlt
  have e1:(⟨b,off,none⟩:Addr).add j=⟨b,off+j,none⟩:=by
   unfold Addr.add;split
   ·rename_i h;subst h;simp
   ·rfl
  rw [e1,h1];rw [List.getElem?_map,List.getElem?_eq_getElem hlt] at hj
  simpa using hj
 have hone:∀ u ∈ ws.map Value.string,u.oneCell'=true:=by
  intro u hu;simp only [List.mem_map] at hu;obtain ⟨s,_,rfl⟩:=hu;rfl
 go_enter Tryz.func226,Tryz.ntmps226
 go_wp2_with (at_builtin;refine wpList_append_own _ rfl _ _ 102 rfl w.heap.size 9 i0 (.string ByteArray.empty) 1 16 Tryz.underlying102 hi hz0 hz1 hz2 rfl (by decide) (.slice none 0 0) 0 [] rfl ⟨rfl,.inl ⟨rfl,rfl⟩⟩ ⟨b,off,none⟩ ws.length cap (ws.map Value.string) rfl (by simp) hnews hone (by unfold maxLen;omega) (by omega) (Nat.le_refl _) ?_;intro v' w1 hown hgr _)
 simp only [Nat.zero_add,List.nil_append] at hown;go_ret;exact ⟨v',rfl,hown,(bRf _ _).grown hgr (Nat.le_refl _) (by simp [Value.ownBlock])⟩
def zw (lo:Nat) (w:World) (a:Option Addr) (ws:List ByteArray):Prop :=
 (a=none/\ws=[]) \/ ∃ g C,a=some ⟨g,0,none⟩/\lo<=g/\w.heap[g]?=some (.cells C 9)/\∀ i (h:i < ws.length),C[i]?=some (.string ws[i])
theorem zw.zfA {lo:Nat} {w:World} {v:Value} {ws:List ByteArray} (h:w.ownsRow lo 9 1 v ws.length (ws.map Value.string)):∃ a cap,v = .slice a ws.length cap/\zw lo w a ws:=by
 obtain ⟨_,⟨rfl,h0⟩ | ⟨g,cap,cur,rfl,hg,hh,_,_,_,ht⟩⟩:=h
 ·exact ⟨none,0,by rw [h0],Or.inl ⟨rfl,List.length_eq_zero_iff.1 h0⟩⟩
 ·refine ⟨some ⟨g,0,none⟩,cap,rfl,Or.inr ⟨g,cur,rfl,hg,hh,fun i hi=>?_⟩⟩
  have h1:(cur.toList.take (ws.length * 1))[i]?=(ws.map Value.string)[i]?:=by rw [ht]
  rw [List.getElem?_take_of_lt (by omega),List.getElem?_map,List.getElem?_eq_getElem hi] at h1
  simpa using h1
theorem zw.mono {lo:Nat} {w w':World} {a:Option Addr} {ws:List ByteArray} (h:zw lo w a ws) (hb:Below w.heap.size w w'):zw lo w' a ws:=by
 rcases h with ⟨rfl,rfl⟩ | ⟨g,C,rfl,hg,hh,hc⟩
 ·exact Or.inl ⟨rfl,rfl⟩
 ·exact Or.inr ⟨g,C,rfl,hg,(hb.block g (gES hh).1).trans hh,hc⟩
theorem zw.at {lo:Nat} {w:World} {a:Option Addr} {ws:List ByteArray} (h:zw lo w a ws) (hl:ws.length<=maxLen) (hs:∀ s ∈ ws,s.size<=maxLen):zD w a ws:=by
 refine ⟨hl,hs,fun hne=>?_⟩
 rcases h with ⟨_,rfl⟩ | ⟨g,C,rfl,_,hh,hc⟩
 ·exact absurd rfl hne
 ·refine ⟨g,0,rfl,(gES hh).1,fun i hi=>?_⟩
  simp only [World.cell?,hh,Nat.zero_add]
  simpa using hc i hi
theorem zw.setCell {lo:Nat} {w:World} {a:Option Addr} {ws:List ByteArray} (h:zw lo w a ws) (p:Addr) (hp:p.block < lo) (v:Value):zw lo (w.setCell p v) a ws:=by
 rcases h with ⟨rfl,rfl⟩ | ⟨g,C,rfl,hg,hh,hc⟩
 ·exact Or.inl ⟨rfl,rfl⟩
 ·exact Or.inr ⟨g,C,rfl,hg,(Below.heap_setCell _ _ _ _ (by omega)).trans hh,hc⟩
theorem zw.low {lo lo':Nat} {w:World} {a:Option Addr} {ws:List ByteArray} (h:zw lo w a ws) (hl:lo'<=lo):zw lo' w a ws:=by
 rcases h with ⟨rfl,rfl⟩ | ⟨g,C,rfl,hg,hh,hc⟩
 ·exact Or.inl ⟨rfl,rfl⟩
 ·exact Or.inr ⟨g,C,rfl,by omega,hh,hc⟩
theorem ze2 {w:World} {b off:Nat} {ws:List ByteArray} (hw:zD w (some ⟨b,off,none⟩) ws):∀ j u,(ws.map Value.string)[j]?=some u->w.cell? ((⟨b,off,none⟩:Addr).add j)=some u:=by
 intro j u hj
 have hlt:j < ws.length:=by
  have:=(List.getElem?_eq_some_iff.1 hj).1;simpa using this
 obtain ⟨b',off',he,hb,hc⟩:=hw.cells (by rintro rfl;simp at hlt);simp only [Option.some.injEq,Addr.mk.injEq] at he;obtain ⟨rfl,rfl,_⟩:=he;have h1:=hc j hlt
 have e1:(⟨b,off,none⟩:Addr).add j=⟨b,off+j,none⟩:=by
  unfold Addr.add;split
  ·rename_i h;subst h;simp
  ·rfl
 rw [e1,h1];rw [List.getElem?_map,List.getElem?_eq_getElem hlt] at hj
 simpa using hj
theorem zgA {ws:List ByteArray}:∀ u ∈ ws.map Value.string,u.oneCell'=true:=by
 intro u hu;simp only [List.mem_map] at hu;obtain ⟨s,_,rfl⟩:=hu;rfl
theorem jH (w:World) (o1 o2 o3:Obj):Below w.heap.size w (((w.alloc o1).alloc o2).alloc o3) :=
 ((bAl _ _).alloc (by simp) _).alloc (by simp;omega) _
theorem zcg (w:World) (o1 o2 o3:Obj):(((w.alloc o1).alloc o2).alloc o3).heap[w.heap.size+1+1]?=some o3:=by
 have h:=alloc_at ((w.alloc o1).alloc o2) o3
 simpa using h
theorem zcd (w:World) (o1 o2 o3:Obj):(((w.alloc o1).alloc o2).alloc o3).heap[w.heap.size]?=some o1:=(Below.heap_alloc _ _ _ (by simp;omega)).trans (yh _ _ _).1
theorem zga (w:World) (o1 o2 o3:Obj):(((w.alloc o1).alloc o2).alloc o3).heap[w.heap.size+1]?=some o2:=(Below.heap_alloc _ _ _ (by simp)).trans (yh _ _ _).2
theorem zhu {w w1:World} {o1 o2 o3:Obj} (hg:(((w.alloc o1).alloc o2).alloc o3).grownBy w1 (some (w.heap.size+1+1))) :
 w1.heap[w.heap.size]?=some o1/\w1.heap[w.heap.size+1]?=some o2/\Below w.heap.size w w1/\w.heap.size+1+1 < w1.heap.size:=by
 refine ⟨(hg.block _ (by simp;omega) (by simp;try omega)).trans (zcd _ _ _ _),(hg.block _ (by simp) (by simp)).trans (zga _ _ _ _),(jH _ _ _ _).grown hg (jH _ _ _ _).size (by intro k hk;simp at hk;omega),?_⟩
 have:=hg.size;simp at this;omega
theorem zoi (w:World) (p:Addr) (v:Value) (o3:Obj):((w.setCell p v).alloc o3).heap[w.heap.size]?=some o3:=by
 have h:=alloc_at (w.setCell p v) o3
 simpa [World.setCell] using h
theorem zkF {w w1 w2:World} {a:Value} {C1 C2:Array Value} {t1 t2:TypeId} {o3:Obj} (hk:w1.heap[w.heap.size]?=some (.cells C1 t1)) (hr:w1.heap[w.heap.size+1]?=some (.cells C2 t2)) (hB:Below w.heap.size w w1) (hz:w.heap.size+1+1 < w1.heap.size)
 (hg:((w1.setCell ⟨w.heap.size,3,none⟩ a).alloc o3).grownBy w2 (some w1.heap.size)) :
 w2.heap[w.heap.size]?=some (.cells (C1.setIfInBounds 3 a) t1)/\w2.heap[w.heap.size+1]?=some (.cells C2 t2)/\Below w.heap.size w w2/\w1.heap.size < w2.heap.size:=by
 have hs:(w1.setCell ⟨w.heap.size,3,none⟩ a).heap.size=w1.heap.size:=by simp [World.setCell]
 refine ⟨(hg.block _ (by simp [World.setCell];omega) (by simp;omega)).trans ((Below.heap_alloc _ _ _ (by rw [hs];omega)).trans (zk hk _)),
  (hg.block _ (by simp [World.setCell];omega) (by simp;omega)).trans ((Below.heap_alloc _ _ _ (by rw [hs];omega)).trans ((Below.heap_setCell _ _ _ _ (by simp)).trans hr)),
  ((hB.setCell (Nat.le_refl _) _).alloc (by rw [hs];omega) _).grown hg (by simp [World.setCell];omega) (by intro k hk;simp at hk;omega),?_⟩
 have:=hg.size;simp [World.setCell] at this;omega
theorem zw.grown {lo:Nat} {w w2:World} {a:Option Addr} {ws:List ByteArray} {row:Nat} (h:zw lo w a ws) (hg:w.grownBy w2 (some row)) (hr:∀ g,a=some g->g.block ≠ row):zw lo w2 a ws:=by
 rcases h with ⟨rfl,rfl⟩ | ⟨g,C,rfl,hl,hh,hc⟩
 ·exact Or.inl ⟨rfl,rfl⟩
 ·exact Or.inr ⟨g,C,rfl,hl,(hg.block g (gES hh).1 (by have:=hr _ rfl;simpa using this)).trans hh,hc⟩
theorem zw.lt {lo:Nat} {w:World} {a:Option Addr} {ws:List ByteArray} (h:zw lo w a ws):∀ g,a=some g->g.block < w.heap.size:=by
 intro g hg
 rcases h with ⟨rfl,_⟩ | ⟨g',C,rfl,_,hh,_⟩
 ·cases hg
 ·cases hg;exact (gES hh).1
set_option maxRecDepth 20000 in
theorem zjE (o:Ob) (b off b' off' cap cap':Nat) (w:World) (ho:qB w o (some ⟨b,off,none⟩) (some ⟨b',off',none⟩)) (hl:o.vs.length<=1048576) (hl':o.hs.length<=1048576) :
 Calls Tryz.prog 175 #[.agg #[.string o.kd,.string o.nm,.string o.tm,.slice (some ⟨b,off,none⟩) o.vs.length cap,.bool o.en,.slice (some ⟨b',off',none⟩) o.hs.length cap',.int .i64 o.vr]] w
  fun e w'=>∃ a dap a' dap' m,e = .returned (.agg #[.string o.kd,.string o.nm,.string o.tm,.slice a o.vs.length dap,.bool o.en,.slice a' o.hs.length dap',.int .i64 o.vr])/\zw w.heap.size w' a o.vs/\(∀ g,a=some g->g.block < m)/\w.heap.size<=m/\zw m w' a' o.hs/\Below w.heap.size w w':=by
 obtain ⟨i0,hi,hz0,hz1',hz2⟩:=info_parts Tryz.zcP;go_enter Tryz.func175,Tryz.ntmps175
 go_wp2_with (first
  | (at_builtin;refine wpList_append_own _ rfl (.tmp 3) (.tmp 5) 102 rfl (w.heap.size+1+1) 9 i0 (.string ByteArray.empty) 1 16 Tryz.underlying102 hi hz0 hz1' hz2 rfl (by decide) (.slice (some ⟨w.heap.size+1+1,0,none⟩) 0 0) 0 [] rfl ⟨rfl,.inr ⟨w.heap.size+1+1,0,#[],rfl,Nat.le_refl _,zcg _ _ _ _,Nat.le_refl _,by simp [maxLen],rfl,rfl⟩⟩ ⟨b,off,none⟩ o.vs.length cap (o.vs.map Value.string) rfl (by simp) (ze2 (ho.vals.mono (jH _ _ _ _))) zgA (by unfold maxLen;omega) (by omega) (by simp) ?_;intro v' w1 hown hgr _;simp only [Nat.zero_add,List.nil_append] at hown;obtain ⟨a,dap,rfl,ht1⟩:=zw.zfA hown;obtain ⟨hk1,hr1,hB1,hz1⟩:=zhu hgr;have hX1:∀ j,w1.cell? ⟨w.heap.size,j,none⟩=(#[.string o.kd,.string o.nm,.string o.tm,.slice (some ⟨b,off,none⟩) o.vs.length cap,.bool o.en,.slice (some ⟨b',off',none⟩) o.hs.length cap',.int .i64 o.vr]:Array Value)[j]?:=fun j=>cell_of_block hk1;have hF1:∀ j,w1.frozen? ⟨w.heap.size,j,none⟩=false:=fun j=>zi hk1;have hzz1:w.heap.size < w1.heap.size:=(by omega);have hone:=hB1.setCell (p:=⟨w.heap.size,3,none⟩) (Nat.le_refl _) (.slice a o.vs.length dap);have HT1:Hid (zw (w.heap.size+1+1) w1 a o.vs):=ht1;have HK1:Hid (w1.heap[w.heap.size]?=some (.cells #[.string o.kd,.string o.nm,.string o.tm,.slice (some ⟨b,off,none⟩) o.vs.length cap,.bool o.en,.slice (some ⟨b',off',none⟩) o.hs.length cap',.int .i64 o.vr] 119)):=hk1;have HR1:Hid (w1.heap[w.heap.size+1]?=some (.cells #[.string ByteArray.empty,.string ByteArray.empty,.string ByteArray.empty,.slice none 0 0,.bool false,.slice none 0 0,.int .i64 0] 119)):=hr1;clear ht1 hk1 hr1;clear hown hgr)
  | (at_builtin;refine wpList_append_own _ rfl (.tmp 8) (.tmp 10) 102 rfl w1.heap.size 9 i0 (.string ByteArray.empty) 1 16 Tryz.underlying102 hi hz0 hz1' hz2 rfl (by decide) (.slice (some ⟨w1.heap.size,0,none⟩) 0 0) 0 [] rfl ⟨rfl,.inr ⟨w1.heap.size,0,#[],rfl,Nat.le_refl _,zoi _ _ _ _,Nat.le_refl _,(by simp [maxLen]),rfl,rfl⟩⟩ ⟨b',off',none⟩ o.hs.length cap' (o.hs.map Value.string) rfl (by simp) (ze2 (ho.holds.mono (hone.alloc hone.size _))) zgA (by unfold maxLen;omega) (by omega) (by simp [World.setCell]) ?_;intro v'' w2 hown hgr _;simp only [Nat.zero_add,List.nil_append] at hown;obtain ⟨a',dap',rfl,ht2⟩:=zw.zfA hown;obtain ⟨hk2,hr2,hB2,hz2'⟩:=zkF HK1.out HR1.out hB1 hz1 hgr;have HU2:Hid (zw w1.heap.size w2 a' o.hs):=ht2;have HT2:Hid (zw (w.heap.size+1+1) w2 a o.vs):=((HT1.out.setCell _ (by simp;omega) _).mono (bAl _ _)).grown hgr (fun g hg=>Nat.ne_of_lt (HT1.out.lt g hg));have hX2:∀ j,w2.cell? ⟨w.heap.size,j,none⟩=(#[.string o.kd,.string o.nm,.string o.tm,.slice a o.vs.length dap,.bool o.en,.slice (some ⟨b',off',none⟩) o.hs.length cap',.int .i64 o.vr]:Array Value)[j]?:=fun j=>cell_of_block hk2;have hF2:∀ j,w2.frozen? ⟨w.heap.size,j,none⟩=false:=fun j=>zi hk2;have hY2:∀ j,w2.cell? ⟨w.heap.size+1,j,none⟩=(#[.string ByteArray.empty,.string ByteArray.empty,.string ByteArray.empty,.slice none 0 0,.bool false,.slice none 0 0,.int .i64 0]:Array Value)[j]?:=fun j=>cell_of_block hr2;have hG2:∀ j,w2.frozen? ⟨w.heap.size+1,j,none⟩=false:=fun j=>zi hr2;have hzz2:w.heap.size+1 < w2.heap.size:=(by omega);clear hown hgr ht2 hk2 hr2 hX1 hF1))
 refine bodyPost_ret (v:=(.agg #[.string o.kd,.string o.nm,.string o.tm,.slice a o.vs.length dap,.bool o.en,.slice a' o.hs.length dap',.int .i64 o.vr])) (by simp [results,Tryz.results175,go_sem,hY2]) rfl ⟨a,dap,a',dap',w1.heap.size,rfl,((((((((HT2.out.setCell _ (by simp;omega) _).setCell _ (by simp) _).setCell _ (by simp) _).setCell _ (by simp) _).setCell _ (by simp) _).setCell _ (by simp) _).setCell _ (by simp) _).setCell _ (by simp) _).low (by omega),HT1.out.lt,by omega,((((((((HU2.out.setCell _ (by simp;omega) _).setCell _ (by simp;omega) _).setCell _ (by simp;omega) _).setCell _ (by simp;omega) _).setCell _ (by simp;omega) _).setCell _ (by simp;omega) _).setCell _ (by simp;omega) _).setCell _ (by simp;omega) _),((((((((hB2.setCell (Nat.le_refl _) _).setCell (by simp) _).setCell (by simp) _).setCell (by simp) _).setCell (by simp) _).setCell (by simp) _).setCell (by simp) _).setCell (by simp) _)⟩
end Go.Proofs.YtghnakljnhnenaaGreat
