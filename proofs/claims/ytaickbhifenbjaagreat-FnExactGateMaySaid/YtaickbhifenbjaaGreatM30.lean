import Derived.Test.YtaickbhifenbjaaGreatM29
import Derived.Test.YtaickbhifenbjaaGreatM12
import Derived.Test.YtaickbhifenbjaaGreatM23
import Derived.Test.YtaickbhifenbjaaGreatM03
import Derived.Below
import Derived.Test.YtaickbhifenbjaaGreatM28
set_option maxHeartbeats 1000000
namespace Go.Proofs.YtaickbhifenbjaaGreat
open Go.RowKit
theorem zev {w:World} {b off:Nat} {ws:List ByteArray} (hw:zF w (some ⟨b,off,none⟩) ws):∀ j u,(ws.map Value.string)[j]?=some u->w.cell? ((⟨b,off,none⟩:Addr).add j)=some u:=by
 intro j u hj
 have hlt:j < ws.length:=by
  have:=(List.getElem?_eq_some_iff.1 hj).1;simpa using this
 obtain ⟨b',off',he,hb,hc⟩:=hw.cells (by rintro rfl;simp at hlt)
 simp only [Option.some.injEq,Addr.mk.injEq] at he
 obtain ⟨rfl,rfl,_⟩:=he
 have h1:=hc j hlt
 have e1:(⟨b,off,none⟩:Addr).add j=⟨b,off+j,none⟩:=by
  unfold Addr.add;split
  ·rename_i h;subst h;simp
  ·rfl
 rw [e1,h1]
 rw [List.getElem?_map,List.getElem?_eq_getElem hlt] at hj
 simpa using hj
theorem ze4 {ws:List ByteArray}:∀ u ∈ ws.map Value.string,u.oneCell'=true:=by
 intro u hu;simp only [List.mem_map] at hu;obtain ⟨s,_,rfl⟩:=hu;rfl
theorem jB (w:World) (o1 o2 o3:Obj):Below w.heap.size w (((w.alloc o1).alloc o2).alloc o3) :=
 (((Below.refl _ _).alloc (Nat.le_refl _) _).alloc (by simp) _).alloc (by simp;omega) _
theorem zbQ (w:World) (o1 o2 o3:Obj):(((w.alloc o1).alloc o2).alloc o3).heap[w.heap.size+1+1]?=some o3:=by
 have h:=alloc_at ((w.alloc o1).alloc o2) o3
 simpa using h
theorem zbN (w:World) (o1 o2 o3:Obj):(((w.alloc o1).alloc o2).alloc o3).heap[w.heap.size]?=some o1:=(Below.heap_alloc _ _ _ (by simp;omega)).trans (yw _ _ _).1
theorem zfb (w:World) (o1 o2 o3:Obj):(((w.alloc o1).alloc o2).alloc o3).heap[w.heap.size+1]?=some o2:=(Below.heap_alloc _ _ _ (by simp)).trans (yw _ _ _).2
theorem zgU {w w1:World} {o1 o2 o3:Obj} (hg:(((w.alloc o1).alloc o2).alloc o3).grownBy w1 (some (w.heap.size+1+1))) :
 w1.heap[w.heap.size]?=some o1/\w1.heap[w.heap.size+1]?=some o2/\Below w.heap.size w w1/\w.heap.size+1+1 < w1.heap.size:=by
 refine ⟨(hg.block _ (by simp;omega) (by simp;try omega)).trans (zbN _ _ _ _),(hg.block _ (by simp) (by simp)).trans (zfb _ _ _ _),(jB _ _ _ _).grown hg (jB _ _ _ _).size (by intro k hk;simp at hk;omega),?_⟩
 have:=hg.size;simp at this;omega
theorem zm1 (w:World) (p:Addr) (v:Value) (o3:Obj):((w.setCell p v).alloc o3).heap[w.heap.size]?=some o3:=by
 have h:=alloc_at (w.setCell p v) o3
 simpa [World.setCell] using h
theorem zjP {w w1 w2:World} {a:Value} {C1 C2:Array Value} {t1 t2:TypeId} {o3:Obj} (hk:w1.heap[w.heap.size]?=some (.cells C1 t1)) (hr:w1.heap[w.heap.size+1]?=some (.cells C2 t2)) (hB:Below w.heap.size w w1) (hz:w.heap.size+1+1 < w1.heap.size)
 (hg:((w1.setCell ⟨w.heap.size,3,none⟩ a).alloc o3).grownBy w2 (some w1.heap.size)) :
 w2.heap[w.heap.size]?=some (.cells (C1.setIfInBounds 3 a) t1)/\w2.heap[w.heap.size+1]?=some (.cells C2 t2)/\Below w.heap.size w w2/\w1.heap.size < w2.heap.size:=by
 have hs:(w1.setCell ⟨w.heap.size,3,none⟩ a).heap.size=w1.heap.size:=by simp [World.setCell]
 refine ⟨(hg.block _ (by simp [World.setCell];omega) (by simp;omega)).trans ((Below.heap_alloc _ _ _ (by rw [hs];omega)).trans (zi hk _)),
  (hg.block _ (by simp [World.setCell];omega) (by simp;omega)).trans ((Below.heap_alloc _ _ _ (by rw [hs];omega)).trans ((Below.heap_setCell _ _ _ _ (by simp)).trans hr)),
  ((hB.setCell (Nat.le_refl _) _).alloc (by rw [hs];omega) _).grown hg (by simp [World.setCell];omega) (by intro k hk;simp at hk;omega),?_⟩
 have:=hg.size;simp [World.setCell] at this;omega
theorem zu.grown {lo:Nat} {w w2:World} {a:Option Addr} {ws:List ByteArray} {row:Nat} (h:zu lo w a ws) (hg:w.grownBy w2 (some row)) (hr:∀ g,a=some g->g.block ≠ row):zu lo w2 a ws:=by
 rcases h with ⟨rfl,rfl⟩ | ⟨g,C,rfl,hl,hh,hc⟩
 ·exact Or.inl ⟨rfl,rfl⟩
 ·exact Or.inr ⟨g,C,rfl,hl,(hg.block g (Array.getElem?_eq_some_iff.1 hh).1 (by have:=hr _ rfl;simpa using this)).trans hh,hc⟩
theorem zu.lt {lo:Nat} {w:World} {a:Option Addr} {ws:List ByteArray} (h:zu lo w a ws):∀ g,a=some g->g.block < w.heap.size:=by
 intro g hg
 rcases h with ⟨rfl,_⟩ | ⟨g',C,rfl,_,hh,_⟩
 ·cases hg
 ·cases hg;exact (Array.getElem?_eq_some_iff.1 hh).1
set_option maxRecDepth 20000 in
theorem zhT (o:Ob) (b off b' off' cap cap':Nat) (w:World) (ho:qG w o (some ⟨b,off,none⟩) (some ⟨b',off',none⟩)) (hl:o.vs.length<=1048576) (hl':o.hs.length<=1048576) :
 Calls Tryz.prog 167 #[.agg #[.string o.kd,.string o.nm,.string o.tm,.slice (some ⟨b,off,none⟩) o.vs.length cap,.bool o.en,.slice (some ⟨b',off',none⟩) o.hs.length cap',.int .i64 o.vr]] w
  fun e w'=>∃ a dap a' dap' m,e = .returned (.agg #[.string o.kd,.string o.nm,.string o.tm,.slice a o.vs.length dap,.bool o.en,.slice a' o.hs.length dap',.int .i64 o.vr])/\zu w.heap.size w' a o.vs/\(∀ g,a=some g->g.block < m)/\w.heap.size<=m/\zu m w' a' o.hs/\Below w.heap.size w w':=by
 obtain ⟨i0,hi,hz0,hz1',hz2⟩:=info_parts Tryz.zcf
 go_enter Tryz.func167,Tryz.ntmps167
 go_wp2_with (first
  | (at_builtin;refine wpList_append_own _ rfl (.tmp 3) (.tmp 5) 91 rfl (w.heap.size+1+1) 9 i0 (.string ByteArray.empty) 1 16 Tryz.underlying91 hi hz0 hz1' hz2 rfl (by decide) (.slice (some ⟨w.heap.size+1+1,0,none⟩) 0 0) 0 [] rfl ⟨rfl,.inr ⟨w.heap.size+1+1,0,#[],rfl,Nat.le_refl _,zbQ _ _ _ _,Nat.le_refl _,by simp [maxLen],rfl,rfl⟩⟩ ⟨b,off,none⟩ o.vs.length cap (o.vs.map Value.string) rfl (by simp) (zev (ho.vals.mono (jB _ _ _ _))) ze4 (by unfold maxLen;omega) (by omega) (by simp) ?_;intro v' w1 hown hgr _;simp only [Nat.zero_add,List.nil_append] at hown;obtain ⟨a,dap,rfl,ht1⟩:=zu.zeL hown;obtain ⟨hk1,hr1,hB1,hz1⟩:=zgU hgr;have hX1:∀ j,w1.cell? ⟨w.heap.size,j,none⟩=(#[.string o.kd,.string o.nm,.string o.tm,.slice (some ⟨b,off,none⟩) o.vs.length cap,.bool o.en,.slice (some ⟨b',off',none⟩) o.hs.length cap',.int .i64 o.vr]:Array Value)[j]?:=fun j=>cell_of_block hk1;have hF1:∀ j,w1.frozen? ⟨w.heap.size,j,none⟩=false:=fun j=>zn hk1;have hzz1:w.heap.size < w1.heap.size:=(by omega);have hone:=hB1.setCell (p:=⟨w.heap.size,3,none⟩) (Nat.le_refl _) (.slice a o.vs.length dap);have HT1:Hid (zu (w.heap.size+1+1) w1 a o.vs):=ht1;have HK1:Hid (w1.heap[w.heap.size]?=some (.cells #[.string o.kd,.string o.nm,.string o.tm,.slice (some ⟨b,off,none⟩) o.vs.length cap,.bool o.en,.slice (some ⟨b',off',none⟩) o.hs.length cap',.int .i64 o.vr] 121)):=hk1;have HR1:Hid (w1.heap[w.heap.size+1]?=some (.cells #[.string ByteArray.empty,.string ByteArray.empty,.string ByteArray.empty,.slice none 0 0,.bool false,.slice none 0 0,.int .i64 0] 121)):=hr1;clear ht1 hk1 hr1;clear hown hgr)
  | (at_builtin;refine wpList_append_own _ rfl (.tmp 8) (.tmp 10) 91 rfl w1.heap.size 9 i0 (.string ByteArray.empty) 1 16 Tryz.underlying91 hi hz0 hz1' hz2 rfl (by decide) (.slice (some ⟨w1.heap.size,0,none⟩) 0 0) 0 [] rfl ⟨rfl,.inr ⟨w1.heap.size,0,#[],rfl,Nat.le_refl _,zm1 _ _ _ _,Nat.le_refl _,(by simp [maxLen]),rfl,rfl⟩⟩ ⟨b',off',none⟩ o.hs.length cap' (o.hs.map Value.string) rfl (by simp) (zev (ho.holds.mono (hone.alloc hone.size _))) ze4 (by unfold maxLen;omega) (by omega) (by simp [World.setCell]) ?_;intro v'' w2 hown hgr _;simp only [Nat.zero_add,List.nil_append] at hown;obtain ⟨a',dap',rfl,ht2⟩:=zu.zeL hown;obtain ⟨hk2,hr2,hB2,hz2'⟩:=zjP HK1.out HR1.out hB1 hz1 hgr;have HU2:Hid (zu w1.heap.size w2 a' o.hs):=ht2;have HT2:Hid (zu (w.heap.size+1+1) w2 a o.vs):=((HT1.out.setCell _ (by simp;omega) _).mono ((Below.refl _ _).alloc (Nat.le_refl _) _)).grown hgr (fun g hg=>Nat.ne_of_lt (HT1.out.lt g hg));have hX2:∀ j,w2.cell? ⟨w.heap.size,j,none⟩=(#[.string o.kd,.string o.nm,.string o.tm,.slice a o.vs.length dap,.bool o.en,.slice (some ⟨b',off',none⟩) o.hs.length cap',.int .i64 o.vr]:Array Value)[j]?:=fun j=>cell_of_block hk2;have hF2:∀ j,w2.frozen? ⟨w.heap.size,j,none⟩=false:=fun j=>zn hk2;have hY2:∀ j,w2.cell? ⟨w.heap.size+1,j,none⟩=(#[.string ByteArray.empty,.string ByteArray.empty,.string ByteArray.empty,.slice none 0 0,.bool false,.slice none 0 0,.int .i64 0]:Array Value)[j]?:=fun j=>cell_of_block hr2;have hG2:∀ j,w2.frozen? ⟨w.heap.size+1,j,none⟩=false:=fun j=>zn hr2;have hzz2:w.heap.size+1 < w2.heap.size:=(by omega);clear hown hgr ht2 hk2 hr2 hX1 hF1))
 refine bodyPost_ret (v:=(.agg #[.string o.kd,.string o.nm,.string o.tm,.slice a o.vs.length dap,.bool o.en,.slice a' o.hs.length dap',.int .i64 o.vr])) (by simp [results,Tryz.results167,go_sem,hY2]) rfl ⟨a,dap,a',dap',w1.heap.size,rfl,((((((((HT2.out.setCell _ (by simp;omega) _).setCell _ (by simp) _).setCell _ (by simp) _).setCell _ (by simp) _).setCell _ (by simp) _).setCell _ (by simp) _).setCell _ (by simp) _).setCell _ (by simp) _).low (by omega),HT1.out.lt,by omega,((((((((HU2.out.setCell _ (by simp;omega) _).setCell _ (by simp;omega) _).setCell _ (by simp;omega) _).setCell _ (by simp;omega) _).setCell _ (by simp;omega) _).setCell _ (by simp;omega) _).setCell _ (by simp;omega) _).setCell _ (by simp;omega) _),((((((((hB2.setCell (Nat.le_refl _) _).setCell (by simp) _).setCell (by simp) _).setCell (by simp) _).setCell (by simp) _).setCell (by simp) _).setCell (by simp) _).setCell (by simp) _)⟩
namespace Gate
def zaj (f:Fld) (v:ByteArray):ByteArray:=if v.toList.isEmpty=true then f.df else v
def jU (fs:List Fld) (vs:List ByteArray):List ByteArray:=List.zipWith zaj fs vs
def je (fs:List Fld) (vs:List ByteArray) (k:Nat):List ByteArray:=(jU fs vs).take k ++ vs.drop k
theorem qQ {fs:List Fld} {vs:List ByteArray} (h:vs.length=fs.length):(jU fs vs).length=vs.length:=by simp [jU];omega
theorem zaq {fs:List Fld} {vs:List ByteArray} (h:vs.length=fs.length) (k:Nat):(je fs vs k).length=vs.length:=by
 simp [je,qQ h];omega
theorem zgI (fs:List Fld) (vs:List ByteArray):je fs vs 0=vs:=by simp [je]
theorem zhK {fs:List Fld} {vs:List ByteArray} (h:vs.length=fs.length):je fs vs fs.length=jU fs vs:=by
 unfold je
 rw [List.take_of_length_le (by rw [qQ h];omega),List.drop_of_length_le (by omega),List.append_nil]
theorem zes {fs:List Fld} {vs:List ByteArray} (h:vs.length=fs.length) (k:Nat) (hk:k < fs.length):(je fs vs k)[k]?=vs[k]?:=by
 unfold je
 rw [List.getElem?_append_right (by simp;omega)]
 simp [qQ h,Nat.min_eq_left (show k<=vs.length by omega)]
theorem zcw {fs:List Fld} {vs:List ByteArray} (h:vs.length=fs.length) (k:Nat) (hk:k < fs.length):je fs vs (k+1)=(je fs vs k).set k (zaj fs[k] (vs[k]'(by omega))):=by
 have hl:=qQ h
 have hv:(jU fs vs)[k]'(by omega)=zaj fs[k] (vs[k]'(by omega)):=by simp [jU]
 unfold je
 rw [List.set_append_right _ _ (by simp;omega)]
 have e:k - ((jU fs vs).take k).length=0:=by simp;omega
 rw [e,List.drop_eq_getElem_cons (show k < vs.length by omega),List.set_cons_zero,List.take_succ_eq_append_getElem (by omega),hv]
 simp
end Gate
theorem zu.set {lo:Nat} {w:World} {g:Nat} {ws:List ByteArray} (h:zu lo w (some ⟨g,0,none⟩) ws) (k:Nat) (s:ByteArray):zu lo (w.setCell ⟨g,k,none⟩ (.string s)) (some ⟨g,0,none⟩) (ws.set k s):=by
 rcases h with ⟨h0,_⟩ | ⟨b,C,h0,hg,hh,hc⟩
 ·cases h0
 ·cases h0
  refine Or.inr ⟨g,_,rfl,hg,zi hh _,fun i hi=>?_⟩
  have hi':i < ws.length:=by rw [List.length_set] at hi;exact hi
  by_cases e:i=k
  ·subst e
   have hsz:i < C.size:=by
    rcases Nat.lt_or_ge i C.size with h1 | h1
    ·exact h1
    ·have:=hc i hi';rw [Array.getElem?_eq_none h1] at this;cases this
   rw [Array.getElem?_setIfInBounds_self_of_lt hsz,List.getElem_set_self]
  ·rw [Array.getElem?_setIfInBounds_ne (fun h=>e h.symm),hc i hi',List.getElem_set_ne (fun h=>e h.symm)]
def zo1 (w:World) (b:Nat) (v0 v1 v2 v3 v4 v5 v6:Value):World:=((((((w.setCell ⟨b,0,none⟩ v0).setCell ⟨b,1,none⟩ v1).setCell ⟨b,2,none⟩ v2).setCell ⟨b,3,none⟩ v3).setCell ⟨b,4,none⟩ v4).setCell ⟨b,5,none⟩ v5).setCell ⟨b,6,none⟩ v6
theorem jK {lo:Nat} {w:World} {a:Option Addr} {ws:List ByteArray} (h:zu lo w a ws) (b:Nat) (hb:b < lo) (v0 v1 v2 v3 v4 v5 v6:Value):zu lo (zo1 w b v0 v1 v2 v3 v4 v5 v6) a ws :=
 ((((((h.setCell _ hb _).setCell _ hb _).setCell _ hb _).setCell _ hb _).setCell _ hb _).setCell _ hb _).setCell _ hb _
theorem zaz {B:Nat} {w0 w:World} (h:Below B w0 w) (b:Nat) (hb:B<=b) (v0 v1 v2 v3 v4 v5 v6:Value):Below B w0 (zo1 w b v0 v1 v2 v3 v4 v5 v6) :=
 ((((((h.setCell (p:=⟨b,0,none⟩) hb _).setCell (p:=⟨b,1,none⟩) hb _).setCell (p:=⟨b,2,none⟩) hb _).setCell (p:=⟨b,3,none⟩) hb _).setCell (p:=⟨b,4,none⟩) hb _).setCell (p:=⟨b,5,none⟩) hb _).setCell (p:=⟨b,6,none⟩) hb _
theorem yu {w:World} {p:Addr} {v:Value} {b o:Nat} (h:b ≠ p.block):(w.setCell p v).cell? ⟨b,o,none⟩=w.cell? ⟨b,o,none⟩:=by
 unfold World.cell?;rw [Below.heap_setCell _ _ _ _ h]
theorem zge {w:World} {b g o:Nat} (h:b ≠ g) {v0 v1 v2 v3 v4 v5 v6:Value}:(((((((w.setCell ⟨g,0,none⟩ v0).setCell ⟨g,1,none⟩ v1).setCell ⟨g,2,none⟩ v2).setCell ⟨g,3,none⟩ v3).setCell ⟨g,4,none⟩ v4).setCell ⟨g,5,none⟩ v5).setCell ⟨g,6,none⟩ v6).cell? ⟨b,o,none⟩=w.cell? ⟨b,o,none⟩:=by
 rw [yu h,yu h,yu h,yu h,yu h,yu h,yu h]
end Go.Proofs.YtaickbhifenbjaaGreat
