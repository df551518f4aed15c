import Derived.Test.YtjnpjkigofldlaaGreatM08
import Derived.Deep.RegionWith
import Derived.Test.YtjnpjkigofldlaaGreatM07
import Derived.Test.YtjnpjkigofldlaaGreatM06
set_option maxHeartbeats 2000000
namespace Go.Proofs.YtjnpjkigofldlaaGreat
open Go.RowKit
theorem zfq (m:Tm)(left:Int)(w:World)(hm:m.Small)(h0:0<=left)(h1:left<=1048576) :
 Calls Tryz.prog 57 #[.agg m.cells,.i left] w fun e w'=>e=.returned (.i (zJ m.sz left))/\Bw w w':=by
 have k1:=hm.nm;have k2:=hm.ov;unfold maxLen at k1 k2;unfold Tm.cells;have hB:∀ob,Bw w (w.alloc ob):=fun ob=>bAl _ _
 by_cases hf:(m.sz:Int)<=left
 ·have HF:Hid (zJ m.sz left=left-m.nm.size-m.ov.size):=by
   unfold Hid;rw[zN hf];unfold Tm.sz;omega
  unfold Tm.sz at hf;go_in;go_wp2
  go_ret;exact⟨zm HF.o.symm,hB _⟩
 ·have HF:Hid (zJ m.sz left=-1):=zy hf
  have HN:Hid (¬((m.nm.size+m.ov.size:Nat):Int)<=left):=hf;clear hf;go_in;go_wp2
  all_goals go_ret
  all_goals first|exact⟨zm HF.o.symm,hB _⟩|(exfalso;have:=HN.o;simp at *;omega)
theorem zkc (m:Tm)(left:Int)(w:World)(hm:m.Small)(h0:0<=left)(h1:left<=1048576)(h:(m.sz:Int)<=left) :
 Calls Tryz.prog 57 #[.agg m.cells,.i left] w fun e w'=>e=.returned (.i (left-m.sz))/\Bw w w':=by
 refine(zfq m left w hm h0 h1).mono ?_;rintro e w'⟨rfl,hb⟩;exact⟨zm (zN h),hb⟩
theorem zmp (m:Tm)(left:Int)(w:World)(hm:m.Small)(h0:0<=left)(h1:left<=1048576)(h:¬(m.sz:Int)<=left) :
 Calls Tryz.prog 57 #[.agg m.cells,.i left] w fun e w'=>e=.returned (.i (-1))/\Bw w w':=by
 refine(zfq m left w hm h0 h1).mono ?_;rintro e w'⟨rfl,hb⟩;exact⟨zm (zy h),hb⟩
theorem zjA (a:OA)(cap:Nat)(ts:List Tm)(left:Int)(w:World)(hw:jQ w a ts)(h0:0<=left)(h1:left<=1048576) :
 Calls Tryz.prog 17 #[.l a ts.length cap,.i left] w fun e w'=>e=.returned (.i (zJ (zds ts) left))/\Bw w w':=by
 have hl:=hw.len;unfold maxLen at hl
 by_cases hfit:(ts.length:Int)<=left
 ·go_in
  go_wp2
  go_loopw [1,5] (fun l i wr=>∃k:Nat,k<=ts.length/\i=.i k/\0<=left-ts.length-zjq (ts.take k)/\l=.i (left-ts.length-zjq (ts.take k))/\Bw w wr) (fun _ i _=>ts.length-(intOf i).toNat)
  case atStart=>exact⟨0,Nat.zero_le _,rfl,by simp[zjq];omega,by simp[zjq],bRf _ _⟩
  case round=>
   obtain⟨k,hk,rfl,hpos,rfl,hB⟩:=hrel
   by_cases hlt:k<ts.length
   ·obtain⟨b,off,rfl,hb,c0,c1⟩:=hw.load hB k hlt
    have hsm:=hw.small k hlt;have HS:Hid (zjq (ts.take (k+1))=zjq (ts.take k)+ts[k].sz):=za6 Tm.sz ts k hlt;have hle:zjq (ts.take (k+1))<=zjq ts:=zc5 Tm.sz ts (k+1);clear hw
    by_cases hneg:(ts[k].sz:Int)<=left-ts.length-zjq (ts.take k)
    ·have HNG:Hid ((ts[k].sz:Int)<=left-ts.length-zjq (ts.take k)):=hneg
     clear hle;go_wp2_with fail
     refine(zkc _ _ _ hsm hpos (by omega) HNG.o).mono ?_;rintro e w1⟨rfl,hb1⟩;have hB1:=hB.trans (hb1.mono hB.size);clear hb1;go_wp2
     exact⟨⟨k+1,by omega,by go_num,by rw[HS.o];omega,by rw[HS.o];congr 1;omega,hB1⟩,by simp[intOf];omega⟩
    ·have HF:Hid (zJ (zds ts) left=-1):=zy (by have:=HS.o;unfold zds;omega)
     have HNG:=hid hneg;clear hneg hle;go_wp2_with fail
     refine(zmp _ _ _ hsm hpos (by omega) (by have:=HNG.o;omega)).mono ?_;rintro e w1⟨rfl,hb1⟩;have hB1:=hB.trans (hb1.mono hB.size);clear hb1;go_wp2
     go_ret;exact⟨zm HF.o.symm,hB1⟩
   ·have HF:Hid (zJ (zds ts) left=left-ts.length-zjq (ts.take k)):=by
     rw[tOl (by omega)]at hpos ⊢;have e:zJ (zds ts) left=left-zds ts:=zN (by unfold zds;omega);unfold Hid;rw[e];unfold zds;omega
    clear hw
    go_wp2
    go_ret;exact⟨zm HF.o.symm,hB⟩
 ·have HF:Hid (zJ (zds ts) left=-1):=zy (by unfold zds;omega)
  clear hw;go_in
  go_wp2
  go_ret;exact⟨zm HF.o.symm,bRf _ _⟩
theorem zlf (m:Tm)(w:World):Calls Tryz.prog 103 #[.agg m.cells,.agg m.cells] w fun e w'=>e=.returned (.bool true)/\Bw w w':=by
 unfold Tm.cells;go_in;go_wp2
 go_ret;exact⟨rfl,zo _ _ _⟩
theorem zjE (a a':OA)(cap cap':Nat)(ts:List Tm)(w:World)(hw:jQ w a ts)(hw':jQ w a' ts) :
 Calls Tryz.prog 43 #[.l a ts.length cap,.l a' ts.length cap'] w fun e w'=>e=.returned (.bool true)/\Bw w w':=by
 have hl:=hw.len;unfold maxLen at hl;have hnn:((ts.length:Int) != ts.length)=false:=by simp
 go_in;go_wp2
 go_loopw [5] (fun i wr=>∃k:Nat,k<=ts.length/\i=.i k/\Bw w wr) (fun i _=>ts.length-(intOf i).toNat)
 case atStart=>exact⟨0,Nat.zero_le _,rfl,bRf _ _⟩
 case round=>
  obtain⟨k,hk,rfl,hB⟩:=hrel
  by_cases hlt:k<ts.length
  ·obtain⟨b,off,rfl,hb,c0,c1⟩:=hw.load hB k hlt
   obtain⟨b',off',rfl,hb',d0,d1⟩:=hw'.load hB k hlt;have hltI:(k:Int)<(ts.length:Int):=by omega
   clear hw hw';go_wp2_with fail
   go_region_with (go_at_call 103;refine(zlf ts[k] _).mono ?_;rintro e w1⟨rfl,hb1'⟩;have hb1:=(bRf wr.heap.size wr).drew.trans hb1';clear hb1')
   all_goals go_wp2
   all_goals exact⟨⟨k+1,by omega,by go_num,hB.trans (hb1.mono hB.size)⟩,by simp[intOf];omega⟩
  ·clear hw hw'
   go_wp2
   go_ret;exact⟨rfl,hB⟩
theorem zlj (m:Tm)(w:World) :
 Calls Tryz.prog 76 #[.agg m.cells] w fun e w'=>e=.returned (.agg m.cells)/\Bw w w':=by
 unfold Tm.cells;go_in;go_wp2
 refine bodyPost_ret (v:=.agg #[.s m.nm,.s m.ov]) (by simp[results,Tryz.results76,go_sem]) rfl ⟨rfl,?_⟩;exact(((bAl _ _).alloc (by simp) _).alloc (by simp;omega) _)
theorem zjv (a:OA)(cap:Nat)(ts:List Tm)(w:World)(hw:jQ w a ts)(hl:ts.length<=1048576) :
 Calls Tryz.prog 27 #[.l a ts.length cap] w fun e w'=>e=.returned (.l (some (aD w.heap.size 0)) ts.length ts.length)/\zaq 134 w.heap.size w' w.heap.size ts ts.length/\Bw w w':=by
 have hmk:∀w:World,(Instr.makeSlice 45 (.i ts.length) (.i ts.length)).run Tryz.prog w=.ok (.l (some (aD w.heap.size 0)) ts.length ts.length) (w.alloc (.cells (zrK ts.length) 134)):=
  fun w=>jy (P:=Tryz.prog) 45 134 (.agg ztk) 2 32 Tryz.underlying45 (by kernel_rfl) ts.length (by omega) (by omega) w
 go_in;go_wp2_with fail
 clear hmk
 go_loopw [4] (fun i wr=>∃k:Nat,k<=ts.length/\i=.i k/\zaq 134 w.heap.size wr w.heap.size ts k/\Bw w wr) (fun i _=>ts.length-(intOf i).toNat)
 case atStart=>exact⟨0,Nat.zero_le _,rfl,⟨Nat.le_refl _,zrK ts.length,(MapKept.heap_alloc w _).1,size_madeCells _ _,fun i _ h=>absurd h (by omega)⟩,bAl _ _⟩
 case round=>
  obtain⟨k,hk,rfl,hown,hB⟩:=hrel
  by_cases hlt:k<ts.length
  ·obtain⟨b,off,rfl,hb,c0,c1⟩:=hw.load hB k hlt
   have hltI:(k:Int)<(ts.length:Int):=by omega
   clear hw;go_wp2_with fail
   refine(zlj ts[k] _).mono ?_;rintro e w1⟨rfl,hb1⟩;have hB1:=hB.trans (hb1.mono hB.size);have hown1:=hown.later hb1
   have hbo:w.heap.size<wr.heap.size:=by
    obtain⟨C',hC',_⟩:=hown.rows;exact(gES hC').1
   obtain⟨C,hC,hsz,_⟩:=hown1.rows;have hfz:∀o,w1.frozen? (aD w.heap.size o)=false:=fun o=>zf hC
   have hex:∀o,o<ts.length*2->∃v,w1.cell? (aD w.heap.size o)=some v:=fun o ho=>⟨C[o]'(by omega),by rw[cell_of_block hC];exact Array.getElem?_eq_getElem (by omega)⟩
   obtain⟨v0,hv0⟩:=hex (k*2) (by omega);obtain⟨v1,hv1⟩:=hex (k*2+1) (by omega);have HP:=hid hown1;clear hex hC hsz c0 c1 hown hown1;unfold Tm.cells;go_wp2
   exact⟨⟨k+1,by omega,by go_num,HP.o.put hlt,zqR hB1 (Nat.le_refl _) _ _ _⟩,by simp[intOf];omega⟩
  ·have HF:Hid (zaq 134 w.heap.size wr w.heap.size ts ts.length):=by
    have e:k=ts.length:=by omega
    subst e;exact hown
   clear hw hown;go_wp2
   go_ret;exact⟨rfl,HF.o,hB⟩
def zd4 (o:Ob):Nat:=o.kd.size+o.nm.size+o.tm.size+qN o.vs+qN o.hs
theorem zil (o:Ob)(a a':OA)(cap cap':Nat)(left:Int)(w:World)(ho:qY w o a a')(h0:0<=left)(h1:left<=1048576) :
 Calls Tryz.prog 58 #[.agg (oC o a a' cap cap'),.i left] w fun e w'=>e=.returned (.i (zJ (zd4 o) left))/\Bw w w':=by
 have hkd:=ho.small.kd;have hnm:=ho.small.nm;have htm:=ho.small.tm;have hv:=ho.vals;have hh:=ho.holds;clear ho;unfold maxLen at hkd hnm htm
 by_cases c1:(o.kd.size:Int)<=left
 rotate_left
 ·have HF:Hid (zJ (zd4 o) left=-1):=zy (by unfold zd4;omega)
  go_in;go_wp2
  go_ret;exact⟨zm HF.o.symm,bAl _ _⟩
 by_cases c2:(o.nm.size:Int)<=left-o.kd.size
 rotate_left
 ·have HF:Hid (zJ (zd4 o) left=-1):=zy (by unfold zd4;omega)
  go_in;go_wp2
  go_ret;exact⟨zm HF.o.symm,bAl _ _⟩
 by_cases c3:(o.tm.size:Int)<=left-o.kd.size-o.nm.size
 rotate_left
 ·have HF:Hid (zJ (zd4 o) left=-1):=zy (by unfold zd4;omega)
  go_in;go_wp2
  go_ret;exact⟨zm HF.o.symm,bAl _ _⟩
 by_cases c4:(qN o.vs:Int)<=left-o.kd.size-o.nm.size-o.tm.size
 rotate_left
 ·have HF:Hid (zJ (zd4 o) left=-1):=zy (by unfold zd4;omega)
  go_in;go_wp2_with fail
  refine(zen _ _ _ _ _ (hv.mono (bAl _ _)) (by omega) (by omega) (by omega)).mono ?_;rintro e w1⟨rfl,rfl⟩;go_wp2
  go_ret;exact⟨zm HF.o.symm,bAl _ _⟩
 by_cases c5:(qN o.hs:Int)<=left-o.kd.size-o.nm.size-o.tm.size-qN o.vs
 rotate_left
 ·have HF:Hid (zJ (zd4 o) left=-1):=zy (by unfold zd4;omega)
  go_in;go_wp2_with fail
  refine(zaa _ _ _ _ _ (hv.mono (bAl _ _)) (by omega) (by omega) (by omega)).mono ?_;rintro e w1⟨rfl,rfl⟩;go_wp2_with fail
  refine(zen _ _ _ _ _ (hh.mono (bAl _ _)) (by omega) (by omega) (by omega)).mono ?_;rintro e w1⟨rfl,rfl⟩;go_wp2
  go_ret;exact⟨zm HF.o.symm,bAl _ _⟩
 ·have HF:Hid (zJ (zd4 o) left=left-o.kd.size-o.nm.size-o.tm.size-qN o.vs-qN o.hs):=by
   have e:zJ (zd4 o) left=left-zd4 o:=zN (by unfold zd4;omega);unfold Hid;rw[e];unfold zd4;omega
  go_in;go_wp2_with fail
  refine(zaa _ _ _ _ _ (hv.mono (bAl _ _)) (by omega) (by omega) (by omega)).mono ?_;rintro e w1⟨rfl,rfl⟩;go_wp2_with fail
  refine(zaa _ _ _ _ _ (hh.mono (bAl _ _)) (by omega) (by omega) (by omega)).mono ?_;rintro e w1⟨rfl,rfl⟩;go_wp2
  go_ret;exact⟨zm HF.o.symm,bAl _ _⟩
theorem ziv (o:Ob)(a a' b b':OA)(cap cap' dap dap':Nat)(w:World)(ho:qY w o a a')(ho':qY w o b b') :
 Calls Tryz.prog 97 #[.agg (oC o a a' cap cap'),.agg (oC o b b' dap dap')] w fun e w'=>e=.returned (.bool true)/\Bw w w':=by
 go_in;go_wp2_with fail
 refine(zdR _ _ _ _ _ _ (ho.vals.mono (zo _ _ _)) (ho'.vals.mono (zo _ _ _))).mono ?_;rintro e w1⟨rfl,hb1⟩;have hX1:=za (wk:=(w.alloc (.cells (oC o a a' cap cap') 116)).alloc (.cells (oC o b b' dap dap') 116)) (b:=w.heap.size) (X:=(oC o a a' cap cap')) (fun j=>by rw[World.cell?_alloc_lt _ _ (aD w.heap.size j) (by simp)];exact zI w _ _ j) (by simp;omega) hb1;have hY1:=za (wk:=(w.alloc (.cells (oC o a a' cap cap') 116)).alloc (.cells (oC o b b' dap dap') 116)) (b:=w.heap.size+1) (X:=(oC o b b' dap dap')) (fun j=>by rw[World.cell?_alloc_at _ _ _ _ (by simp)]) (by simp) hb1;have hz1:w.heap.size+1<w1.heap.size:=by have:=hb1.size;simp at this;omega
 have hB1:Bw w w1:=(zo _ _ _).trans (hb1.mono (by simp;omega));clear hb1;go_wp2_with fail
 refine(zdR _ _ _ _ _ _ (ho.holds.mono hB1) (ho'.holds.mono hB1)).mono ?_;rintro e w2⟨rfl,hb2⟩;have hX2:=za hX1 (by omega) hb2;have hY2:=za hY1 (by omega) hb2;have hB2:=hB1.trans (hb2.mono (by omega));clear hb2 hX1 hY1;go_wp2
 go_ret;exact⟨rfl,hB2⟩
theorem zum (w:World)(o1 o2 o3 o4 o5:Obj):(((((w.alloc o1).alloc o2).alloc o3).alloc o4).alloc o5).heap[w.heap.size+1+1+1]?=some o4:=
 (Below.heap_alloc _ _ _ (by simp)).trans (at4 _ _ _ _ _)
theorem zuo (w:World)(o1 o2 o3 o4 o5:Obj):(((((w.alloc o1).alloc o2).alloc o3).alloc o4).alloc o5).heap[w.heap.size+1+1+1+1]?=some o5:=by
 have h:=(MapKept.heap_alloc ((((w.alloc o1).alloc o2).alloc o3).alloc o4) o5).1
 simpa using h
theorem ziN (o:Ob)(a a':OA)(cap cap':Nat)(w:World)(ho:qY w o a a')(hl:o.vs.length<=1048576)(hl':o.hs.length<=1048576) :
 Calls Tryz.prog 77 #[.agg (oC o a a' cap cap')] w fun e w'=>∃bv bh,e=.returned (.agg #[.s o.kd,.s o.nm,.s o.tm,.l (some (aD bv 0)) o.vs.length o.vs.length,.bool o.en,.l (some (aD bh 0)) o.hs.length o.hs.length,.i o.vr]) /\
  w.heap.size<=bv/\w.heap.size<=bh/\bv≠bh/\w'.heap[bv]?=some (.cells (jS o.vs) 9)/\w'.heap[bh]?=some (.cells (jS o.hs) 9)/\Bw w w':=by
 go_in;go_wp2_with fail
 refine(zdJ _ _ _ _ (ho.vals.mono (((bAl _ _).alloc (by simp) _).alloc (by simp;omega) _)) hl).mono ?_;rintro e w1⟨rfl,rfl⟩;go_wp2_with fail
 refine(zdJ _ _ _ _ (ho.holds.mono (znP _ _ _ _ _)) hl').mono ?_;rintro e w2⟨rfl,rfl⟩;go_wp2
 refine bodyPost_ret (v:=.agg #[.s o.kd,.s o.nm,.s o.tm,.l (some (aD (w.heap.size+1+1+1) 0)) o.vs.length o.vs.length,.bool o.en,.l (some (aD (w.heap.size+1+1+1+1) 0)) o.hs.length o.hs.length,.i o.vr]) (by simp[results,Tryz.results77,go_sem]) rfl ⟨w.heap.size+1+1+1,w.heap.size+1+1+1+1,rfl,by omega,by omega,by omega,zum _ _ _ _ _ _,zuo _ _ _ _ _ _,(znP _ _ _ _ _).alloc (by simp;omega) _⟩
end Go.Proofs.YtjnpjkigofldlaaGreat
