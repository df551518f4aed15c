import Derived.Test.YtihdafafigceiaaGreatM03
import Derived.Deep.RegionWith
import Derived.Test.YtihdafafigceiaaGreatM02
set_option maxHeartbeats 2000000
namespace Go.Proofs.YtihdafafigceiaaGreat
open Go.RowKit
theorem zgE (a a':Option Addr) (cap cap':Nat) (fs:List Fld) (w:World) (hw:zP w a fs) (hw':zP w a' fs) :
 Calls Tryz.prog 115 #[.slice a fs.length cap,.slice a' fs.length cap'] w fun e w'=>e = .returned (.bool true)/\Below w.heap.size w w':=by
 have hl:=hw.len
 unfold maxLen at hl
 have hnn:((fs.length:Int) != fs.length)=false:=by simp
 go_enter Tryz.func115,Tryz.ntmps115
 go_wp2_with fail
 go_loopw [5] (fun i wr=>∃ k:Nat,k<=fs.length/\i = .int .i64 k/\Below w.heap.size w wr) (fun i _=>fs.length - (intOf i).toNat)
 case atStart=>exact ⟨0,Nat.zero_le _,rfl,Below.refl _ _⟩
 case round =>
  obtain ⟨k,hk,rfl,hB⟩:=hrel
  by_cases hlt:k < fs.length
  ·obtain ⟨b,off,rfl,hb,hr⟩:=hw.rows (by rintro rfl;simp at hlt)
   obtain ⟨b',off',rfl,hb',hr'⟩:=hw'.rows (by rintro rfl;simp at hlt)
   obtain ⟨wa,wcap,hf0⟩:=hr k hlt
   obtain ⟨wa',wcap',hf0'⟩:=hr' k hlt
   have hf:=hf0.mono hb hB
   have hf':=hf0'.mono hb' hB
   obtain ⟨c0,c1,c2,c3,c4,c5,c6,c7,c8,c9,c10⟩:=hf.load
   obtain ⟨d0,d1,d2,d3,d4,d5,d6,d7,d8,d9,d10⟩:=hf'.load
   have hst:=hf.strs
   have hst':=hf'.strs
   have hltI:(k:Int) < (fs.length:Int):=by omega
   clear hw hw' hr hr' hf0 hf0' hf hf'
   go_wp2_with fail
   go_region_with (go_at_call 164;refine (zhD _ _ _ _ _ _ _ _ _ _ _ _ _ _ _ _ (by exact hst.mono ((Below.refl _ _).drew)) (by exact hst'.mono ((Below.refl _ _).drew))).mono ?_;rintro e w1 ⟨rfl,hb1'⟩;have hb1:=(Below.refl wr.heap.size wr).drew.trans hb1';clear hb1')
   all_goals go_wp2_with fail
   all_goals exact ⟨⟨k+1,by omega,by go_num,hB.trans (hb1.mono hB.size)⟩,by simp [intOf];omega⟩
  ·clear hw hw'
   go_wp2_with fail
   go_ret
   exact ⟨rfl,hB⟩
theorem zhF (kd:ByteArray) (a a':Option Addr) (cap cap':Nat) (fs:List Fld) (w:World) (hw:zP w a fs) (hw':zP w a' fs) :
 Calls Tryz.prog 73 #[.agg #[.string kd,.slice a fs.length cap],.agg #[.string kd,.slice a' fs.length cap']] w fun e w'=>e = .returned (.bool true)/\Below w.heap.size w w':=by
 go_enter Tryz.func73,Tryz.ntmps73
 go_wp2_with fail
 refine (zgE _ _ _ _ _ _ (hw.mono (zA _ _ _)) (hw'.mono (zA _ _ _))).mono ?_
 rintro e w1 ⟨rfl,hb1⟩
 go_wp2_with fail
 go_ret
 exact ⟨rfl,(zA _ _ _).trans (hb1.mono (by simp;omega))⟩
theorem zgx (a a':Option Addr) (cap cap':Nat) (ss:List Shp) (w:World) (hw:yI w a ss) (hw':yI w a' ss) :
 Calls Tryz.prog 35 #[.slice a ss.length cap,.slice a' ss.length cap'] w fun e w'=>e = .returned (.bool true)/\Below w.heap.size w w':=by
 have hl:=hw.len
 unfold maxLen at hl
 have hnn:((ss.length:Int) != ss.length)=false:=by simp
 go_enter Tryz.func35,Tryz.ntmps35
 go_wp2_with fail
 go_loopw [5] (fun i wr=>∃ k:Nat,k<=ss.length/\i = .int .i64 k/\Below w.heap.size w wr) (fun i _=>ss.length - (intOf i).toNat)
 case atStart=>exact ⟨0,Nat.zero_le _,rfl,Below.refl _ _⟩
 case round =>
  obtain ⟨k,hk,rfl,hB⟩:=hrel
  by_cases hlt:k < ss.length
  ·obtain ⟨b,off,rfl,hb,hr⟩:=hw.rows (by rintro rfl;simp at hlt)
   obtain ⟨b',off',rfl,hb',hr'⟩:=hw'.rows (by rintro rfl;simp at hlt)
   obtain ⟨wa,wcap,hf0⟩:=hr k hlt
   obtain ⟨wa',wcap',hf0'⟩:=hr' k hlt
   have hf:=hf0.mono hb hB
   have hf':=hf0'.mono hb' hB
   have c0:=hf.kind
   have c1:=hf.list
   have d0:=hf'.kind
   have d1:=hf'.list
   have hst:=hf.zc8
   have hst':=hf'.zc8
   have hltI:(k:Int) < (ss.length:Int):=by omega
   clear hw hw' hr hr' hf0 hf0' hf hf'
   go_wp2_with fail
   go_region_with (go_at_call 73;refine (zhF _ _ _ _ _ _ _ (by exact hst.mono ((Below.refl _ _).drew)) (by exact hst'.mono ((Below.refl _ _).drew))).mono ?_;rintro e w1 ⟨rfl,hb1'⟩;have hb1:=(Below.refl wr.heap.size wr).drew.trans hb1';clear hb1')
   all_goals go_wp2_with fail
   all_goals exact ⟨⟨k+1,by omega,by go_num,hB.trans (hb1.mono hB.size)⟩,by simp [intOf];omega⟩
  ·clear hw hw'
   go_wp2_with fail
   go_ret
   exact ⟨rfl,hB⟩
end Go.Proofs.YtihdafafigceiaaGreat
namespace Go.Proofs.YtihdafafigceiaaGreat
structure Ob where
 kd:ByteArray
 nm:ByteArray
 tm:ByteArray
 vs:List ByteArray
 en:Bool
 hs:List ByteArray
 vr:Int
structure Ob.Small (o:Ob):Prop where
 kd:o.kd.size<=maxLen
 nm:o.nm.size<=maxLen
 tm:o.tm.size<=maxLen
namespace Gate
def zac (f:Fld) (v:ByteArray):Int:=if v.size=0 then (if f.mu then 2 else 0) else if zez f v then 0 else 3
def zdO (fs:List Fld) (vs:List ByteArray) (i:Nat):Int:=zac (fs.getD i zbv) (vs.getD i ByteArray.empty)
def za5 (fs:List Fld) (vs:List ByteArray) (i:Nat):Bool:=decide (zdO fs vs i=0)
def jL (fs:List Fld) (vs:List ByteArray):Int × Int:=match (List.range fs.length).find? (fun i=>!za5 fs vs i) with | some i=>(zdO fs vs i,i) | none=>(0,0)
theorem find_range {P:Nat->Bool} {n k:Nat} (hk:k < n) (hu:up P k=true) (hp:P k=false):(List.range n).find? (fun i=>!P i)=some k:=by
 rw [List.find?_eq_some_iff_getElem]
 refine ⟨by simp [hp],k,by simpa using hk,by simp,fun j hj=>?_⟩
 have:=zg1 hj hu
 simp [this]
theorem zht {P:Nat->Bool} {n:Nat} (hu:up P n=true):(List.range n).find? (fun i=>!P i)=none:=by
 rw [List.find?_eq_none]
 intro x hx
 have:=zg1 (List.mem_range.1 hx) hu
 simp [this]
theorem zjZ {fs:List Fld} {vs:List ByteArray} {k:Nat} (hk:k < fs.length) (hu:up (za5 fs vs) k=true) (hp:za5 fs vs k=false):jL fs vs=(zdO fs vs k,(k:Int)):=by
 unfold jL;rw [find_range hk hu hp]
theorem zhf {fs:List Fld} {vs:List ByteArray} (hu:up (za5 fs vs) fs.length=true):jL fs vs=(0,0):=by
 unfold jL;rw [zht hu]
theorem zi9 {fs:List Fld} {vs:List ByteArray} {k:Nat} (h1:k < fs.length) (h2:k < vs.length):zdO fs vs k=zac fs[k] vs[k]:=by
 unfold zdO;rw [getD_at fs k _ h1,getD_at vs k _ h2]
def qI (o:Ob):Bool:=zy o.nm && zy o.tm
def qW (o:Ob):Bool:=decide (o.hs.length<=3) && asc o.hs
def qx (o:Ob):Bool:=decide (0<=o.vr) && decide (o.vr<=1000000)
def zx (ss:List Shp) (o:Ob):Bool:=zG ss o.kd && decide (o.vs.length=(shapeOf ss o.kd).fs.length)
def whole (ss:List Shp) (o:Ob):Bool:=qI o && qW o && qx o && zx ss o
def yH (ss:List Shp) (o:Ob):Int × Int:=if whole ss o=true then jL (shapeOf ss o.kd).fs o.vs else (1,0)
end Gate
end Go.Proofs.YtihdafafigceiaaGreat
namespace Go.Proofs.YtihdafafigceiaaGreat
open Go.RowKit
structure qj (w:World) (o:Ob) (a a':Option Addr):Prop where
 small:o.Small
 vals:zD w a o.vs
 holds:zD w a' o.hs
theorem qj.mono {w w':World} {o:Ob} {a a':Option Addr} (h:qj w o a a') (hb:Below w.heap.size w w'):qj w' o a a' :=
 ⟨h.small,h.vals.mono hb,h.holds.mono hb⟩
def zdg (o:Ob):Nat:=o.kd.size+o.nm.size+o.tm.size+qV o.vs+qV o.hs
theorem zgD (o:Ob) (a a':Option Addr) (cap cap':Nat) (left:Int) (w:World) (ho:qj w o a a') (h0:0<=left) (h1:left<=1048576) :
 Calls Tryz.prog 52 #[.agg #[.string o.kd,.string o.nm,.string o.tm,.slice a o.vs.length cap,.bool o.en,.slice a' o.hs.length cap',.int .i64 o.vr],.int .i64 left] w fun e w'=>e = .returned (.int .i64 (zK (zdg o) left))/\Below w.heap.size w w':=by
 have hkd:=ho.small.kd
 have hnm:=ho.small.nm
 have htm:=ho.small.tm
 have hv:=ho.vals
 have hh:=ho.holds
 clear ho
 unfold maxLen at hkd hnm htm
 by_cases c1:(o.kd.size:Int)<=left
 rotate_left
 ·have HF:Hid (zK (zdg o) left=-1):=zC (by unfold zdg;omega)
  go_enter Tryz.func52,Tryz.ntmps52
  go_wp2_with fail
  go_ret
  exact ⟨zq HF.out.symm,(Below.refl _ _).alloc (Nat.le_refl _) _⟩
 by_cases c2:(o.nm.size:Int)<=left - o.kd.size
 rotate_left
 ·have HF:Hid (zK (zdg o) left=-1):=zC (by unfold zdg;omega)
  go_enter Tryz.func52,Tryz.ntmps52
  go_wp2_with fail
  go_ret
  exact ⟨zq HF.out.symm,(Below.refl _ _).alloc (Nat.le_refl _) _⟩
 by_cases c3:(o.tm.size:Int)<=left - o.kd.size - o.nm.size
 rotate_left
 ·have HF:Hid (zK (zdg o) left=-1):=zC (by unfold zdg;omega)
  go_enter Tryz.func52,Tryz.ntmps52
  go_wp2_with fail
  go_ret
  exact ⟨zq HF.out.symm,(Below.refl _ _).alloc (Nat.le_refl _) _⟩
 by_cases c4:(qV o.vs:Int)<=left - o.kd.size - o.nm.size - o.tm.size
 rotate_left
 ·have HF:Hid (zK (zdg o) left=-1):=zC (by unfold zdg;omega)
  go_enter Tryz.func52,Tryz.ntmps52
  go_wp2_with fail
  refine (zdG _ _ _ _ _ (hv.mono ((Below.refl _ _).alloc (Nat.le_refl _) _)) (by omega) (by omega) (by omega)).mono ?_
  rintro e w1 ⟨rfl,rfl⟩
  go_wp2_with fail
  go_ret
  exact ⟨zq HF.out.symm,(Below.refl _ _).alloc (Nat.le_refl _) _⟩
 by_cases c5:(qV o.hs:Int)<=left - o.kd.size - o.nm.size - o.tm.size - qV o.vs
 rotate_left
 ·have HF:Hid (zK (zdg o) left=-1):=zC (by unfold zdg;omega)
  go_enter Tryz.func52,Tryz.ntmps52
  go_wp2_with fail
  refine (jX _ _ _ _ _ (hv.mono ((Below.refl _ _).alloc (Nat.le_refl _) _)) (by omega) (by omega) (by omega)).mono ?_
  rintro e w1 ⟨rfl,rfl⟩
  go_wp2_with fail
  refine (zdG _ _ _ _ _ (hh.mono ((Below.refl _ _).alloc (Nat.le_refl _) _)) (by omega) (by omega) (by omega)).mono ?_
  rintro e w1 ⟨rfl,rfl⟩
  go_wp2_with fail
  go_ret
  exact ⟨zq HF.out.symm,(Below.refl _ _).alloc (Nat.le_refl _) _⟩
 ·have HF:Hid (zK (zdg o) left=left - o.kd.size - o.nm.size - o.tm.size - qV o.vs - qV o.hs):=by
   have e:zK (zdg o) left=left - zdg o:=zL (by unfold zdg;omega)
   unfold Hid;rw [e];unfold zdg;omega
  go_enter Tryz.func52,Tryz.ntmps52
  go_wp2_with fail
  refine (jX _ _ _ _ _ (hv.mono ((Below.refl _ _).alloc (Nat.le_refl _) _)) (by omega) (by omega) (by omega)).mono ?_
  rintro e w1 ⟨rfl,rfl⟩
  go_wp2_with fail
  refine (jX _ _ _ _ _ (hh.mono ((Below.refl _ _).alloc (Nat.le_refl _) _)) (by omega) (by omega) (by omega)).mono ?_
  rintro e w1 ⟨rfl,rfl⟩
  go_wp2_with fail
  go_ret
  exact ⟨zq HF.out.symm,(Below.refl _ _).alloc (Nat.le_refl _) _⟩
theorem zgC (o:Ob) (a a' b b':Option Addr) (cap cap' dap dap':Nat) (w:World) (ho:qj w o a a') (ho':qj w o b b') :
 Calls Tryz.prog 76 #[.agg #[.string o.kd,.string o.nm,.string o.tm,.slice a o.vs.length cap,.bool o.en,.slice a' o.hs.length cap',.int .i64 o.vr],.agg #[.string o.kd,.string o.nm,.string o.tm,.slice b o.vs.length dap,.bool o.en,.slice b' o.hs.length dap',.int .i64 o.vr]] w fun e w'=>e = .returned (.bool true)/\Below w.heap.size w w':=by
 go_enter Tryz.func76,Tryz.ntmps76
 go_wp2_with fail
 refine (zc2 _ _ _ _ _ _ (ho.vals.mono (zA _ _ _)) (ho'.vals.mono (zA _ _ _))).mono ?_
 rintro e w1 ⟨rfl,hb1⟩
 have hX1:=za (wk:=(w.alloc (.cells #[.string o.kd,.string o.nm,.string o.tm,.slice a o.vs.length cap,.bool o.en,.slice a' o.hs.length cap',.int .i64 o.vr] 115)).alloc (.cells #[.string o.kd,.string o.nm,.string o.tm,.slice b o.vs.length dap,.bool o.en,.slice b' o.hs.length dap',.int .i64 o.vr] 115)) (b:=w.heap.size) (X:=#[.string o.kd,.string o.nm,.string o.tm,.slice a o.vs.length cap,.bool o.en,.slice a' o.hs.length cap',.int .i64 o.vr]) (fun j=>by rw [World.cell?_alloc_lt _ _ ⟨w.heap.size,j,none⟩ (by simp)];exact zm w _ _ j) (by simp;omega) hb1
 have hY1:=za (wk:=(w.alloc (.cells #[.string o.kd,.string o.nm,.string o.tm,.slice a o.vs.length cap,.bool o.en,.slice a' o.hs.length cap',.int .i64 o.vr] 115)).alloc (.cells #[.string o.kd,.string o.nm,.string o.tm,.slice b o.vs.length dap,.bool o.en,.slice b' o.hs.length dap',.int .i64 o.vr] 115)) (b:=w.heap.size+1) (X:=#[.string o.kd,.string o.nm,.string o.tm,.slice b o.vs.length dap,.bool o.en,.slice b' o.hs.length dap',.int .i64 o.vr]) (fun j=>by rw [World.cell?_alloc_at _ _ _ _ (by simp)]) (by simp) hb1
 have hz1:w.heap.size+1 < w1.heap.size:=by have:=hb1.size;simp at this;omega
 have hB1:Below w.heap.size w w1:=(zA _ _ _).trans (hb1.mono (by simp;omega))
 clear hb1
 go_wp2_with fail
 refine (zc2 _ _ _ _ _ _ (ho.holds.mono hB1) (ho'.holds.mono hB1)).mono ?_
 rintro e w2 ⟨rfl,hb2⟩
 have hX2:=za hX1 (by omega) hb2
 have hY2:=za hY1 (by omega) hb2
 have hB2:=hB1.trans (hb2.mono (by omega))
 clear hb2 hX1 hY1
 go_wp2_with fail
 go_ret
 exact ⟨rfl,hB2⟩
theorem zpl (w:World) (o1 o2 o3 o4 o5:Obj):(((((w.alloc o1).alloc o2).alloc o3).alloc o4).alloc o5).heap[w.heap.size+1+1+1]?=some o4 :=
 (Below.heap_alloc _ _ _ (by simp)).trans (at4 _ _ _ _ _)
theorem zpj (w:World) (o1 o2 o3 o4 o5:Obj):(((((w.alloc o1).alloc o2).alloc o3).alloc o4).alloc o5).heap[w.heap.size+1+1+1+1]?=some o5:=by
 have h:=(MapKept.heap_alloc ((((w.alloc o1).alloc o2).alloc o3).alloc o4) o5).1
 simpa using h
theorem zgz (o:Ob) (a a':Option Addr) (cap cap':Nat) (w:World) (ho:qj w o a a') (hl:o.vs.length<=1048576) (hl':o.hs.length<=1048576) :
 Calls Tryz.prog 65 #[.agg #[.string o.kd,.string o.nm,.string o.tm,.slice a o.vs.length cap,.bool o.en,.slice a' o.hs.length cap',.int .i64 o.vr]] w fun e w'=>∃ bv bh,e = .returned (.agg #[.string o.kd,.string o.nm,.string o.tm,.slice (some ⟨bv,0,none⟩) o.vs.length o.vs.length,.bool o.en,.slice (some ⟨bh,0,none⟩) o.hs.length o.hs.length,.int .i64 o.vr]) /\
  w.heap.size<=bv/\w.heap.size<=bh/\bv ≠ bh/\w'.heap[bv]?=some (.cells (jA o.vs) 9)/\w'.heap[bh]?=some (.cells (jA o.hs) 9)/\Below w.heap.size w w':=by
 go_enter Tryz.func65,Tryz.ntmps65
 go_wp2_with fail
 refine (zcX _ _ _ _ (ho.vals.mono ((((Below.refl _ _).alloc (Nat.le_refl _) _).alloc (by simp) _).alloc (by simp;omega) _)) hl).mono ?_
 rintro e w1 ⟨rfl,rfl⟩
 go_wp2_with fail
 refine (zcX _ _ _ _ (ho.holds.mono (zmY _ _ _ _ _)) hl').mono ?_
 rintro e w2 ⟨rfl,rfl⟩
 go_wp2_with fail
 refine bodyPost_ret (v:=.agg #[.string o.kd,.string o.nm,.string o.tm,.slice (some ⟨w.heap.size+1+1+1,0,none⟩) o.vs.length o.vs.length,.bool o.en,.slice (some ⟨w.heap.size+1+1+1+1,0,none⟩) o.hs.length o.hs.length,.int .i64 o.vr]) (by simp [results,Tryz.results65,go_sem]) rfl ⟨w.heap.size+1+1+1,w.heap.size+1+1+1+1,rfl,by omega,by omega,by omega,zpl _ _ _ _ _ _,zpj _ _ _ _ _ _,(zmY _ _ _ _ _).alloc (by simp;omega) _⟩
end Go.Proofs.YtihdafafigceiaaGreat
