import Derived.Test.YtihdafafigceiaaGreatM21
import Derived.Test.YtihdafafigceiaaGreatM10
import Derived.Test.YtihdafafigceiaaGreatM16
import Derived.Test.YtihdafafigceiaaGreatM03
import Derived.Below
set_option maxHeartbeats 1000000
namespace Go.Proofs.YtihdafafigceiaaGreat.Gate
open Go
theorem zlO {fs:List Fld} {vs:List ByteArray} (v:ByteArray) (hv:∀ x ∈ vs,x.size<=maxLen):(qN fs vs v).size<=maxLen:=by
 have he:ByteArray.empty.size<=maxLen:=by show 0<=_;exact Nat.zero_le _
 unfold qN
 split
 ·rename_i j _
  rw [List.getD_eq_getElem?_getD]
  cases h:vs[j]? with
  | none=>exact he
  | some x=>exact hv x (List.mem_of_getElem? h)
 ·exact he
theorem zjL {s:Shp} {ms:List Mnd} {vs:List ByteArray} (p:Nat) (hm:∀ i (h:i < ms.length),ms[i].Small) (hv:∀ x ∈ vs,x.size<=maxLen):(decided s ms p vs).size<=maxLen:=by
 unfold decided
 cases hf:ms.findSome? (gives s vs p) with
 | none =>
  show (vs.getD p ByteArray.empty).size<=maxLen
  rw [List.getD_eq_getElem?_getD]
  cases h:vs[p]? with
  | none=>show 0<=_;exact Nat.zero_le _
  | some x=>exact hv x (List.mem_of_getElem? h)
 | some x =>
  show x.size<=maxLen
  obtain ⟨m,hmm,hg⟩:=List.exists_of_findSome?_eq_some hf
  obtain ⟨i,hi,rfl⟩:=List.mem_iff_getElem.1 hmm
  unfold gives at hg
  split at hg
  ·split at hg
   ·split at hg
    ·rw [<- Option.some.inj hg];exact zlO _ hv
    ·cases hg
   ·rw [<- Option.some.inj hg];exact (hm i hi).pt
  ·cases hg
theorem zbU {s:Shp} {ms:List Mnd} (hm:∀ i (h:i < ms.length),ms[i].Small):∀ (row:List Nat) (vs:List ByteArray),(∀ x ∈ vs,x.size<=maxLen)->∀ x ∈ z8 (decided s ms) row vs,x.size<=maxLen
 | [],_,hv=>hv
 | p :: row,vs,hv=>by
  refine zbU hm row (vs.set p (decided s ms p vs)) (fun x hx=>?_)
  rcases List.mem_or_eq_of_mem_set hx with h | h
  ·exact hv x h
  ·rw [h];exact zjL p hm hv
end Go.Proofs.YtihdafafigceiaaGreat.Gate
namespace Go.Proofs.YtihdafafigceiaaGreat
open Go.RowKit
theorem zeH {w:World} {b off:Nat} {ws:List ByteArray} (hw:zD w (some ⟨b,off,none⟩) ws):∀ j u,(ws.map Value.string)[j]?=some u->w.cell? ((⟨b,off,none⟩:Addr).add j)=some u:=by
 intro j u hj
 have hlt:j < ws.length:=by
  have:=(List.getElem?_eq_some_iff.1 hj).1;simpa using this
 obtain ⟨b',off',he,hb,hc⟩:=hw.cells (by rintro rfl;simp at hlt)
 simp only [Option.some.injEq,Addr.mk.injEq] at he
 obtain ⟨rfl,rfl,_⟩:=he
 have h1:=hc j hlt
 have e1:(⟨b,off,none⟩:Addr).add j=⟨b,off+j,none⟩:=by
  unfold Addr.add;split
  ·rename_i h;subst h;simp
  ·rfl
 rw [e1,h1]
 rw [List.getElem?_map,List.getElem?_eq_getElem hlt] at hj
 simpa using hj
theorem zfs {ws:List ByteArray}:∀ u ∈ ws.map Value.string,u.oneCell'=true:=by
 intro u hu;simp only [List.mem_map] at hu;obtain ⟨s,_,rfl⟩:=hu;rfl
theorem ji (w:World) (o1 o2 o3:Obj):Below w.heap.size w (((w.alloc o1).alloc o2).alloc o3) :=
 (((Below.refl _ _).alloc (Nat.le_refl _) _).alloc (by simp) _).alloc (by simp;omega) _
theorem zbZ (w:World) (o1 o2 o3:Obj):(((w.alloc o1).alloc o2).alloc o3).heap[w.heap.size+1+1]?=some o3:=by
 have h:=alloc_at ((w.alloc o1).alloc o2) o3
 simpa using h
theorem zb2 (w:World) (o1 o2 o3:Obj):(((w.alloc o1).alloc o2).alloc o3).heap[w.heap.size]?=some o1:=(Below.heap_alloc _ _ _ (by simp;omega)).trans (yu _ _ _).1
theorem zfY (w:World) (o1 o2 o3:Obj):(((w.alloc o1).alloc o2).alloc o3).heap[w.heap.size+1]?=some o2:=(Below.heap_alloc _ _ _ (by simp)).trans (yu _ _ _).2
theorem zhb {w w1:World} {o1 o2 o3:Obj} (hg:(((w.alloc o1).alloc o2).alloc o3).grownBy w1 (some (w.heap.size+1+1))) :
 w1.heap[w.heap.size]?=some o1/\w1.heap[w.heap.size+1]?=some o2/\Below w.heap.size w w1/\w.heap.size+1+1 < w1.heap.size:=by
 refine ⟨(hg.block _ (by simp;omega) (by simp;try omega)).trans (zb2 _ _ _ _),(hg.block _ (by simp) (by simp)).trans (zfY _ _ _ _),(ji _ _ _ _).grown hg (ji _ _ _ _).size (by intro k hk;simp at hk;omega),?_⟩
 have:=hg.size;simp at this;omega
theorem zny (w:World) (p:Addr) (v:Value) (o3:Obj):((w.setCell p v).alloc o3).heap[w.heap.size]?=some o3:=by
 have h:=alloc_at (w.setCell p v) o3
 simpa [World.setCell] using h
theorem zjT {w w1 w2:World} {a:Value} {C1 C2:Array Value} {t1 t2:TypeId} {o3:Obj} (hk:w1.heap[w.heap.size]?=some (.cells C1 t1)) (hr:w1.heap[w.heap.size+1]?=some (.cells C2 t2)) (hB:Below w.heap.size w w1) (hz:w.heap.size+1+1 < w1.heap.size)
 (hg:((w1.setCell ⟨w.heap.size,3,none⟩ a).alloc o3).grownBy w2 (some w1.heap.size)) :
 w2.heap[w.heap.size]?=some (.cells (C1.setIfInBounds 3 a) t1)/\w2.heap[w.heap.size+1]?=some (.cells C2 t2)/\Below w.heap.size w w2/\w1.heap.size < w2.heap.size:=by
 have hs:(w1.setCell ⟨w.heap.size,3,none⟩ a).heap.size=w1.heap.size:=by simp [World.setCell]
 refine ⟨(hg.block _ (by simp [World.setCell];omega) (by simp;omega)).trans ((Below.heap_alloc _ _ _ (by rw [hs];omega)).trans (zk hk _)),
  (hg.block _ (by simp [World.setCell];omega) (by simp;omega)).trans ((Below.heap_alloc _ _ _ (by rw [hs];omega)).trans ((Below.heap_setCell _ _ _ _ (by simp)).trans hr)),
  ((hB.setCell (Nat.le_refl _) _).alloc (by rw [hs];omega) _).grown hg (by simp [World.setCell];omega) (by intro k hk;simp at hk;omega),?_⟩
 have:=hg.size;simp [World.setCell] at this;omega
theorem zw.grown {lo:Nat} {w w2:World} {a:Option Addr} {ws:List ByteArray} {row:Nat} (h:zw lo w a ws) (hg:w.grownBy w2 (some row)) (hr:∀ g,a=some g->g.block ≠ row):zw lo w2 a ws:=by
 rcases h with ⟨rfl,rfl⟩ | ⟨g,C,rfl,hl,hh,hc⟩
 ·exact Or.inl ⟨rfl,rfl⟩
 ·exact Or.inr ⟨g,C,rfl,hl,(hg.block g (Array.getElem?_eq_some_iff.1 hh).1 (by have:=hr _ rfl;simpa using this)).trans hh,hc⟩
theorem zw.lt {lo:Nat} {w:World} {a:Option Addr} {ws:List ByteArray} (h:zw lo w a ws):∀ g,a=some g->g.block < w.heap.size:=by
 intro g hg
 rcases h with ⟨rfl,_⟩ | ⟨g',C,rfl,_,hh,_⟩
 ·cases hg
 ·cases hg;exact (Array.getElem?_eq_some_iff.1 hh).1
set_option maxRecDepth 20000 in
theorem ziX (o:Ob) (b off b' off' cap cap':Nat) (w:World) (ho:qj w o (some ⟨b,off,none⟩) (some ⟨b',off',none⟩)) (hl:o.vs.length<=1048576) (hl':o.hs.length<=1048576) :
 Calls Tryz.prog 171 #[.agg #[.string o.kd,.string o.nm,.string o.tm,.slice (some ⟨b,off,none⟩) o.vs.length cap,.bool o.en,.slice (some ⟨b',off',none⟩) o.hs.length cap',.int .i64 o.vr]] w
  fun e w'=>∃ a dap a' dap' m,e = .returned (.agg #[.string o.kd,.string o.nm,.string o.tm,.slice a o.vs.length dap,.bool o.en,.slice a' o.hs.length dap',.int .i64 o.vr])/\zw w.heap.size w' a o.vs/\(∀ g,a=some g->g.block < m)/\w.heap.size<=m/\zw m w' a' o.hs/\Below w.heap.size w w':=by
 obtain ⟨i0,hi,hz0,hz1',hz2⟩:=info_parts Tryz.zcs
 go_enter Tryz.func171,Tryz.ntmps171
 go_wp2_with (first
  | (at_builtin;refine wpList_append_own _ rfl (.tmp 3) (.tmp 5) 98 rfl (w.heap.size+1+1) 9 i0 (.string ByteArray.empty) 1 16 Tryz.underlying98 hi hz0 hz1' hz2 rfl (by decide) (.slice (some ⟨w.heap.size+1+1,0,none⟩) 0 0) 0 [] rfl ⟨rfl,.inr ⟨w.heap.size+1+1,0,#[],rfl,Nat.le_refl _,zbZ _ _ _ _,Nat.le_refl _,by simp [maxLen],rfl,rfl⟩⟩ ⟨b,off,none⟩ o.vs.length cap (o.vs.map Value.string) rfl (by simp) (zeH (ho.vals.mono (ji _ _ _ _))) zfs (by unfold maxLen;omega) (by omega) (by simp) ?_;intro v' w1 hown hgr _;simp only [Nat.zero_add,List.nil_append] at hown;obtain ⟨a,dap,rfl,ht1⟩:=zw.ze8 hown;obtain ⟨hk1,hr1,hB1,hz1⟩:=zhb hgr;have hX1:∀ j,w1.cell? ⟨w.heap.size,j,none⟩=(#[.string o.kd,.string o.nm,.string o.tm,.slice (some ⟨b,off,none⟩) o.vs.length cap,.bool o.en,.slice (some ⟨b',off',none⟩) o.hs.length cap',.int .i64 o.vr]:Array Value)[j]?:=fun j=>cell_of_block hk1;have hF1:∀ j,w1.frozen? ⟨w.heap.size,j,none⟩=false:=fun j=>zi hk1;have hzz1:w.heap.size < w1.heap.size:=(by omega);have hone:=hB1.setCell (p:=⟨w.heap.size,3,none⟩) (Nat.le_refl _) (.slice a o.vs.length dap);have HT1:Hid (zw (w.heap.size+1+1) w1 a o.vs):=ht1;have HK1:Hid (w1.heap[w.heap.size]?=some (.cells #[.string o.kd,.string o.nm,.string o.tm,.slice (some ⟨b,off,none⟩) o.vs.length cap,.bool o.en,.slice (some ⟨b',off',none⟩) o.hs.length cap',.int .i64 o.vr] 115)):=hk1;have HR1:Hid (w1.heap[w.heap.size+1]?=some (.cells #[.string ByteArray.empty,.string ByteArray.empty,.string ByteArray.empty,.slice none 0 0,.bool false,.slice none 0 0,.int .i64 0] 115)):=hr1;clear ht1 hk1 hr1;clear hown hgr)
  | (at_builtin;refine wpList_append_own _ rfl (.tmp 8) (.tmp 10) 98 rfl w1.heap.size 9 i0 (.string ByteArray.empty) 1 16 Tryz.underlying98 hi hz0 hz1' hz2 rfl (by decide) (.slice (some ⟨w1.heap.size,0,none⟩) 0 0) 0 [] rfl ⟨rfl,.inr ⟨w1.heap.size,0,#[],rfl,Nat.le_refl _,zny _ _ _ _,Nat.le_refl _,(by simp [maxLen]),rfl,rfl⟩⟩ ⟨b',off',none⟩ o.hs.length cap' (o.hs.map Value.string) rfl (by simp) (zeH (ho.holds.mono (hone.alloc hone.size _))) zfs (by unfold maxLen;omega) (by omega) (by simp [World.setCell]) ?_;intro v'' w2 hown hgr _;simp only [Nat.zero_add,List.nil_append] at hown;obtain ⟨a',dap',rfl,ht2⟩:=zw.ze8 hown;obtain ⟨hk2,hr2,hB2,hz2'⟩:=zjT HK1.out HR1.out hB1 hz1 hgr;have HU2:Hid (zw w1.heap.size w2 a' o.hs):=ht2;have HT2:Hid (zw (w.heap.size+1+1) w2 a o.vs):=((HT1.out.setCell _ (by simp;omega) _).mono ((Below.refl _ _).alloc (Nat.le_refl _) _)).grown hgr (fun g hg=>Nat.ne_of_lt (HT1.out.lt g hg));have hX2:∀ j,w2.cell? ⟨w.heap.size,j,none⟩=(#[.string o.kd,.string o.nm,.string o.tm,.slice a o.vs.length dap,.bool o.en,.slice (some ⟨b',off',none⟩) o.hs.length cap',.int .i64 o.vr]:Array Value)[j]?:=fun j=>cell_of_block hk2;have hF2:∀ j,w2.frozen? ⟨w.heap.size,j,none⟩=false:=fun j=>zi hk2;have hY2:∀ j,w2.cell? ⟨w.heap.size+1,j,none⟩=(#[.string ByteArray.empty,.string ByteArray.empty,.string ByteArray.empty,.slice none 0 0,.bool false,.slice none 0 0,.int .i64 0]:Array Value)[j]?:=fun j=>cell_of_block hr2;have hG2:∀ j,w2.frozen? ⟨w.heap.size+1,j,none⟩=false:=fun j=>zi hr2;have hzz2:w.heap.size+1 < w2.heap.size:=(by omega);clear hown hgr ht2 hk2 hr2 hX1 hF1))
 refine bodyPost_ret (v:=(.agg #[.string o.kd,.string o.nm,.string o.tm,.slice a o.vs.length dap,.bool o.en,.slice a' o.hs.length dap',.int .i64 o.vr])) (by simp [results,Tryz.results171,go_sem,hY2]) rfl ⟨a,dap,a',dap',w1.heap.size,rfl,((((((((HT2.out.setCell _ (by simp;omega) _).setCell _ (by simp) _).setCell _ (by simp) _).setCell _ (by simp) _).setCell _ (by simp) _).setCell _ (by simp) _).setCell _ (by simp) _).setCell _ (by simp) _).low (by omega),HT1.out.lt,by omega,((((((((HU2.out.setCell _ (by simp;omega) _).setCell _ (by simp;omega) _).setCell _ (by simp;omega) _).setCell _ (by simp;omega) _).setCell _ (by simp;omega) _).setCell _ (by simp;omega) _).setCell _ (by simp;omega) _).setCell _ (by simp;omega) _),((((((((hB2.setCell (Nat.le_refl _) _).setCell (by simp) _).setCell (by simp) _).setCell (by simp) _).setCell (by simp) _).setCell (by simp) _).setCell (by simp) _).setCell (by simp) _)⟩
namespace Gate
def zar (f:Fld) (v:ByteArray):ByteArray:=if v.toList.isEmpty=true then f.df else v
def j3 (fs:List Fld) (vs:List ByteArray):List ByteArray:=List.zipWith zar fs vs
def jc (fs:List Fld) (vs:List ByteArray) (k:Nat):List ByteArray:=(j3 fs vs).take k ++ vs.drop k
theorem qO {fs:List Fld} {vs:List ByteArray} (h:vs.length=fs.length):(j3 fs vs).length=vs.length:=by simp [j3];omega
theorem zax {fs:List Fld} {vs:List ByteArray} (h:vs.length=fs.length) (k:Nat):(jc fs vs k).length=vs.length:=by
 simp [jc,qO h];omega
theorem zg7 (fs:List Fld) (vs:List ByteArray):jc fs vs 0=vs:=by simp [jc]
theorem ziF {fs:List Fld} {vs:List ByteArray} (h:vs.length=fs.length):jc fs vs fs.length=j3 fs vs:=by
 unfold jc
 rw [List.take_of_length_le (by rw [qO h];omega),List.drop_of_length_le (by omega),List.append_nil]
theorem zeE {fs:List Fld} {vs:List ByteArray} (h:vs.length=fs.length) (k:Nat) (hk:k < fs.length):(jc fs vs k)[k]?=vs[k]?:=by
 unfold jc
 rw [List.getElem?_append_right (by simp;omega)]
 simp [qO h,Nat.min_eq_left (show k<=vs.length by omega)]
theorem zcG {fs:List Fld} {vs:List ByteArray} (h:vs.length=fs.length) (k:Nat) (hk:k < fs.length):jc fs vs (k+1)=(jc fs vs k).set k (zar fs[k] (vs[k]'(by omega))):=by
 have hl:=qO h
 have hv:(j3 fs vs)[k]'(by omega)=zar fs[k] (vs[k]'(by omega)):=by simp [j3]
 unfold jc
 rw [List.set_append_right _ _ (by simp;omega)]
 have e:k - ((j3 fs vs).take k).length=0:=by simp;omega
 rw [e,List.drop_eq_getElem_cons (show k < vs.length by omega),List.set_cons_zero,List.take_succ_eq_append_getElem (by omega),hv]
 simp
end Gate
theorem zw.set {lo:Nat} {w:World} {g:Nat} {ws:List ByteArray} (h:zw lo w (some ⟨g,0,none⟩) ws) (k:Nat) (s:ByteArray):zw lo (w.setCell ⟨g,k,none⟩ (.string s)) (some ⟨g,0,none⟩) (ws.set k s):=by
 rcases h with ⟨h0,_⟩ | ⟨b,C,h0,hg,hh,hc⟩
 ·cases h0
 ·cases h0
  refine Or.inr ⟨g,_,rfl,hg,zk hh _,fun i hi=>?_⟩
  have hi':i < ws.length:=by rw [List.length_set] at hi;exact hi
  by_cases e:i=k
  ·subst e
   have hsz:i < C.size:=by
    rcases Nat.lt_or_ge i C.size with h1 | h1
    ·exact h1
    ·have:=hc i hi';rw [Array.getElem?_eq_none h1] at this;cases this
   rw [Array.getElem?_setIfInBounds_self_of_lt hsz,List.getElem_set_self]
  ·rw [Array.getElem?_setIfInBounds_ne (fun h=>e h.symm),hc i hi',List.getElem_set_ne (fun h=>e h.symm)]
def zpf (w:World) (b:Nat) (v0 v1 v2 v3 v4 v5 v6:Value):World:=((((((w.setCell ⟨b,0,none⟩ v0).setCell ⟨b,1,none⟩ v1).setCell ⟨b,2,none⟩ v2).setCell ⟨b,3,none⟩ v3).setCell ⟨b,4,none⟩ v4).setCell ⟨b,5,none⟩ v5).setCell ⟨b,6,none⟩ v6
theorem jM {lo:Nat} {w:World} {a:Option Addr} {ws:List ByteArray} (h:zw lo w a ws) (b:Nat) (hb:b < lo) (v0 v1 v2 v3 v4 v5 v6:Value):zw lo (zpf w b v0 v1 v2 v3 v4 v5 v6) a ws :=
 ((((((h.setCell _ hb _).setCell _ hb _).setCell _ hb _).setCell _ hb _).setCell _ hb _).setCell _ hb _).setCell _ hb _
theorem zaE {B:Nat} {w0 w:World} (h:Below B w0 w) (b:Nat) (hb:B<=b) (v0 v1 v2 v3 v4 v5 v6:Value):Below B w0 (zpf w b v0 v1 v2 v3 v4 v5 v6) :=
 ((((((h.setCell (p:=⟨b,0,none⟩) hb _).setCell (p:=⟨b,1,none⟩) hb _).setCell (p:=⟨b,2,none⟩) hb _).setCell (p:=⟨b,3,none⟩) hb _).setCell (p:=⟨b,4,none⟩) hb _).setCell (p:=⟨b,5,none⟩) hb _).setCell (p:=⟨b,6,none⟩) hb _
theorem yt {w:World} {p:Addr} {v:Value} {b o:Nat} (h:b ≠ p.block):(w.setCell p v).cell? ⟨b,o,none⟩=w.cell? ⟨b,o,none⟩:=by
 unfold World.cell?;rw [Below.heap_setCell _ _ _ _ h]
theorem zgg {w:World} {b g o:Nat} (h:b ≠ g) {v0 v1 v2 v3 v4 v5 v6:Value}:(((((((w.setCell ⟨g,0,none⟩ v0).setCell ⟨g,1,none⟩ v1).setCell ⟨g,2,none⟩ v2).setCell ⟨g,3,none⟩ v3).setCell ⟨g,4,none⟩ v4).setCell ⟨g,5,none⟩ v5).setCell ⟨g,6,none⟩ v6).cell? ⟨b,o,none⟩=w.cell? ⟨b,o,none⟩:=by
 rw [yt h,yt h,yt h,yt h,yt h,yt h,yt h]
end Go.Proofs.YtihdafafigceiaaGreat
