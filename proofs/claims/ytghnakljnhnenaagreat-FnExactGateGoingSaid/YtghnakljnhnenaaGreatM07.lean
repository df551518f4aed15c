import Derived.Test.YtghnakljnhnenaaGreatM06
set_option maxHeartbeats 2000000
namespace Go.Proofs.YtghnakljnhnenaaGreat
open Go.RowKit
structure qB (w:World) (o:Ob) (a a':Option Addr):Prop where
 small:o.Small
 vals:zD w a o.vs
 holds:zD w a' o.hs
theorem qB.mono {w w':World} {o:Ob} {a a':Option Addr} (h:qB w o a a') (hb:Below w.heap.size w w'):qB w' o a a' :=
 ⟨h.small,h.vals.mono hb,h.holds.mono hb⟩
def zdF (o:Ob):Nat:=o.kd.size+o.nm.size+o.tm.size+qW o.vs+qW o.hs
theorem zgJ (o:Ob) (a a':Option Addr) (cap cap':Nat) (left:Int) (w:World) (ho:qB w o a a') (h0:0<=left) (h1:left<=1048576) :
 Calls Tryz.prog 54 #[.agg #[.string o.kd,.string o.nm,.string o.tm,.slice a o.vs.length cap,.bool o.en,.slice a' o.hs.length cap',.int .i64 o.vr],.int .i64 left] w fun e w'=>e = .returned (.int .i64 (zL (zdF o) left))/\Below w.heap.size w w':=by
 have hkd:=ho.small.kd;have hnm:=ho.small.nm;have htm:=ho.small.tm;have hv:=ho.vals;have hh:=ho.holds;clear ho;unfold maxLen at hkd hnm htm
 by_cases c1:(o.kd.size:Int)<=left
 rotate_left
 ·have HF:Hid (zL (zdF o) left=-1):=zC (by unfold zdF;omega)
  go_enter Tryz.func54,Tryz.ntmps54;go_wp2_with fail
  go_ret;exact ⟨zq HF.out.symm,bAl _ _⟩
 by_cases c2:(o.nm.size:Int)<=left - o.kd.size
 rotate_left
 ·have HF:Hid (zL (zdF o) left=-1):=zC (by unfold zdF;omega)
  go_enter Tryz.func54,Tryz.ntmps54;go_wp2_with fail
  go_ret;exact ⟨zq HF.out.symm,bAl _ _⟩
 by_cases c3:(o.tm.size:Int)<=left - o.kd.size - o.nm.size
 rotate_left
 ·have HF:Hid (zL (zdF o) left=-1):=zC (by unfold zdF;omega)
  go_enter Tryz.func54,Tryz.ntmps54;go_wp2_with fail
  go_ret;exact ⟨zq HF.out.symm,bAl _ _⟩
 by_cases c4:(qW o.vs:Int)<=left - o.kd.size - o.nm.size - o.tm.size
 rotate_left
 ·have HF:Hid (zL (zdF o) left=-1):=zC (by unfold zdF;omega)
  go_enter Tryz.func54,Tryz.ntmps54;go_wp2_with fail
  refine (zdZ _ _ _ _ _ (hv.mono (bAl _ _)) (by omega) (by omega) (by omega)).mono ?_;rintro e w1 ⟨rfl,rfl⟩;go_wp2_with fail
  go_ret;exact ⟨zq HF.out.symm,bAl _ _⟩
 by_cases c5:(qW o.hs:Int)<=left - o.kd.size - o.nm.size - o.tm.size - qW o.vs
 rotate_left
 ·have HF:Hid (zL (zdF o) left=-1):=zC (by unfold zdF;omega)
  go_enter Tryz.func54,Tryz.ntmps54;go_wp2_with fail
  refine (zaa _ _ _ _ _ (hv.mono (bAl _ _)) (by omega) (by omega) (by omega)).mono ?_;rintro e w1 ⟨rfl,rfl⟩;go_wp2_with fail
  refine (zdZ _ _ _ _ _ (hh.mono (bAl _ _)) (by omega) (by omega) (by omega)).mono ?_;rintro e w1 ⟨rfl,rfl⟩;go_wp2_with fail
  go_ret;exact ⟨zq HF.out.symm,bAl _ _⟩
 ·have HF:Hid (zL (zdF o) left=left - o.kd.size - o.nm.size - o.tm.size - qW o.vs - qW o.hs):=by
   have e:zL (zdF o) left=left - zdF o:=zN (by unfold zdF;omega);unfold Hid;rw [e];unfold zdF;omega
  go_enter Tryz.func54,Tryz.ntmps54;go_wp2_with fail
  refine (zaa _ _ _ _ _ (hv.mono (bAl _ _)) (by omega) (by omega) (by omega)).mono ?_;rintro e w1 ⟨rfl,rfl⟩;go_wp2_with fail
  refine (zaa _ _ _ _ _ (hh.mono (bAl _ _)) (by omega) (by omega) (by omega)).mono ?_;rintro e w1 ⟨rfl,rfl⟩;go_wp2_with fail
  go_ret;exact ⟨zq HF.out.symm,bAl _ _⟩
theorem zgI (o:Ob) (a a' b b':Option Addr) (cap cap' dap dap':Nat) (w:World) (ho:qB w o a a') (ho':qB w o b b') :
 Calls Tryz.prog 78 #[.agg #[.string o.kd,.string o.nm,.string o.tm,.slice a o.vs.length cap,.bool o.en,.slice a' o.hs.length cap',.int .i64 o.vr],.agg #[.string o.kd,.string o.nm,.string o.tm,.slice b o.vs.length dap,.bool o.en,.slice b' o.hs.length dap',.int .i64 o.vr]] w fun e w'=>e = .returned (.bool true)/\Below w.heap.size w w':=by
 go_enter Tryz.func78,Tryz.ntmps78;go_wp2_with fail
 refine (zdc _ _ _ _ _ _ (ho.vals.mono (zA _ _ _)) (ho'.vals.mono (zA _ _ _))).mono ?_;rintro e w1 ⟨rfl,hb1⟩;have hX1:=za (wk:=(w.alloc (.cells #[.string o.kd,.string o.nm,.string o.tm,.slice a o.vs.length cap,.bool o.en,.slice a' o.hs.length cap',.int .i64 o.vr] 119)).alloc (.cells #[.string o.kd,.string o.nm,.string o.tm,.slice b o.vs.length dap,.bool o.en,.slice b' o.hs.length dap',.int .i64 o.vr] 119)) (b:=w.heap.size) (X:=#[.string o.kd,.string o.nm,.string o.tm,.slice a o.vs.length cap,.bool o.en,.slice a' o.hs.length cap',.int .i64 o.vr]) (fun j=>by rw [World.cell?_alloc_lt _ _ ⟨w.heap.size,j,none⟩ (by simp)];exact zm w _ _ j) (by simp;omega) hb1;have hY1:=za (wk:=(w.alloc (.cells #[.string o.kd,.string o.nm,.string o.tm,.slice a o.vs.length cap,.bool o.en,.slice a' o.hs.length cap',.int .i64 o.vr] 119)).alloc (.cells #[.string o.kd,.string o.nm,.string o.tm,.slice b o.vs.length dap,.bool o.en,.slice b' o.hs.length dap',.int .i64 o.vr] 119)) (b:=w.heap.size+1) (X:=#[.string o.kd,.string o.nm,.string o.tm,.slice b o.vs.length dap,.bool o.en,.slice b' o.hs.length dap',.int .i64 o.vr]) (fun j=>by rw [World.cell?_alloc_at _ _ _ _ (by simp)]) (by simp) hb1;have hz1:w.heap.size+1 < w1.heap.size:=by have:=hb1.size;simp at this;omega
 have hB1:Below w.heap.size w w1:=(zA _ _ _).trans (hb1.mono (by simp;omega));clear hb1;go_wp2_with fail
 refine (zdc _ _ _ _ _ _ (ho.holds.mono hB1) (ho'.holds.mono hB1)).mono ?_;rintro e w2 ⟨rfl,hb2⟩;have hX2:=za hX1 (by omega) hb2;have hY2:=za hY1 (by omega) hb2;have hB2:=hB1.trans (hb2.mono (by omega));clear hb2 hX1 hY1;go_wp2_with fail
 go_ret;exact ⟨rfl,hB2⟩
theorem zqk (w:World) (o1 o2 o3 o4 o5:Obj):(((((w.alloc o1).alloc o2).alloc o3).alloc o4).alloc o5).heap[w.heap.size+1+1+1]?=some o4 :=
 (Below.heap_alloc _ _ _ (by simp)).trans (at4 _ _ _ _ _)
theorem zqj (w:World) (o1 o2 o3 o4 o5:Obj):(((((w.alloc o1).alloc o2).alloc o3).alloc o4).alloc o5).heap[w.heap.size+1+1+1+1]?=some o5:=by
 have h:=(MapKept.heap_alloc ((((w.alloc o1).alloc o2).alloc o3).alloc o4) o5).1
 simpa using h
theorem zhh (o:Ob) (a a':Option Addr) (cap cap':Nat) (w:World) (ho:qB w o a a') (hl:o.vs.length<=1048576) (hl':o.hs.length<=1048576) :
 Calls Tryz.prog 67 #[.agg #[.string o.kd,.string o.nm,.string o.tm,.slice a o.vs.length cap,.bool o.en,.slice a' o.hs.length cap',.int .i64 o.vr]] w fun e w'=>∃ bv bh,e = .returned (.agg #[.string o.kd,.string o.nm,.string o.tm,.slice (some ⟨bv,0,none⟩) o.vs.length o.vs.length,.bool o.en,.slice (some ⟨bh,0,none⟩) o.hs.length o.hs.length,.int .i64 o.vr]) /\
  w.heap.size<=bv/\w.heap.size<=bh/\bv ≠ bh/\w'.heap[bv]?=some (.cells (jB o.vs) 9)/\w'.heap[bh]?=some (.cells (jB o.hs) 9)/\Below w.heap.size w w':=by
 go_enter Tryz.func67,Tryz.ntmps67;go_wp2_with fail
 refine (zdd _ _ _ _ (ho.vals.mono (((bAl _ _).alloc (by simp) _).alloc (by simp;omega) _)) hl).mono ?_;rintro e w1 ⟨rfl,rfl⟩;go_wp2_with fail
 refine (zdd _ _ _ _ (ho.holds.mono (zk1 _ _ _ _ _)) hl').mono ?_;rintro e w2 ⟨rfl,rfl⟩;go_wp2_with fail
 refine bodyPost_ret (v:=.agg #[.string o.kd,.string o.nm,.string o.tm,.slice (some ⟨w.heap.size+1+1+1,0,none⟩) o.vs.length o.vs.length,.bool o.en,.slice (some ⟨w.heap.size+1+1+1+1,0,none⟩) o.hs.length o.hs.length,.int .i64 o.vr]) (by simp [results,Tryz.results67,go_sem]) rfl ⟨w.heap.size+1+1+1,w.heap.size+1+1+1+1,rfl,by omega,by omega,by omega,zqk _ _ _ _ _ _,zqj _ _ _ _ _ _,(zk1 _ _ _ _ _).alloc (by simp;omega) _⟩
theorem zp7 {o:Ob} {l:Int} (h:(zdF o:Int)<=l) (hl:l<=1048576):o.vs.length<=1048576/\o.hs.length<=1048576:=by
 unfold zdF qW at h;omega
def Ob.row (o:Ob) (a0 a1:Option Addr) (c0 c1:Nat):Array Value:=#[.string o.kd,.string o.nm,.string o.tm,.slice a0 o.vs.length c0,.bool o.en,.slice a1 o.hs.length c1,.int .i64 o.vr]
def Ob.sz (o:Ob):Nat:=zdF o
theorem Ob.znH {o:Ob} (h:(o.sz:Int)<=1048576):o.vs.length<=1048576/\o.hs.length<=1048576:=zp7 h (Int.le_refl _)
theorem zdu (o:Ob) (a0 a1:Option Addr) (c0 c1:Nat) (left:Int) (w:World) (hm:o.Small) (h0':zD w a0 o.vs) (h1':zD w a1 o.hs) (h0:0<=left) (h1:left<=1048576) :
 Calls Tryz.prog 54 #[.agg (o.row a0 a1 c0 c1),.int .i64 left] w fun e w'=>e = .returned (.int .i64 (zL o.sz left))/\Below w.heap.size w w':=zgJ o a0 a1 c0 c1 left w ⟨hm,h0',h1'⟩ h0 h1
theorem zhg (o:Ob) (a0 a1:Option Addr) (c0 c1:Nat) (a0' a1':Option Addr) (c0' c1':Nat) (w:World) (hm:o.Small) (h0:zD w a0 o.vs) (h1:zD w a1 o.hs) (h0':zD w a0' o.vs) (h1':zD w a1' o.hs) :
 Calls Tryz.prog 78 #[.agg (o.row a0 a1 c0 c1),.agg (o.row a0' a1' c0' c1')] w fun e w'=>e = .returned (.bool true)/\Below w.heap.size w w':=zgI o a0 a1 a0' a1' c0 c1 c0' c1' w ⟨hm,h0,h1⟩ ⟨hm,h0',h1'⟩
theorem zgG (o:Ob) (a0 a1:Option Addr) (c0 c1:Nat) (w:World) (hm:o.Small) (h0:zD w a0 o.vs) (h1:zD w a1 o.hs) (hl:o.vs.length<=1048576/\o.hs.length<=1048576) :
 Calls Tryz.prog 67 #[.agg (o.row a0 a1 c0 c1)] w fun e w'=>∃ g0 g1,e = .returned (.agg (o.row (some ⟨g0,0,none⟩) (some ⟨g1,0,none⟩) o.vs.length o.hs.length))/\w.heap.size<=g0/\w'.heap[g0]?=some (.cells (jB o.vs) 9)/\w.heap.size<=g1/\w'.heap[g1]?=some (.cells (jB o.hs) 9)/\Below w.heap.size w w':=by
 refine (zhh o a0 a1 c0 c1 w ⟨hm,h0,h1⟩ hl.1 hl.2).mono ?_;rintro e w' ⟨bv,bh,he,hv,hh,_,hbv,hbh,hb⟩;exact ⟨bv,bh,he,hv,hbv,hh,hbh,hb⟩
structure zoH (w:World) (b off:Nat) (x:Ob) (a0 a1:Option Addr) (c0 c1:Nat):Prop where
 small:x.Small
 l0:zD w a0 x.vs
 l1:zD w a1 x.hs
 cell:∀ j,j < 7->w.cell? ⟨b,off+j,none⟩=(Ob.row x a0 a1 c0 c1)[j]?
structure zby (w:World) (a:Option Addr) (ms:List Ob):Prop where
 len:ms.length<=maxLen
 rows:ms ≠ []->∃ b off,a=some ⟨b,off,none⟩/\b < w.heap.size/\∀ i (h:i < ms.length),∃ a0 a1 c0 c1,zoH w b (off+i * 7) ms[i] a0 a1 c0 c1
theorem zoH.mono {w w':World} {b off:Nat} {x:Ob} {a0 a1:Option Addr} {c0 c1:Nat} (h:zoH w b off x a0 a1 c0 c1) (hb:b < w.heap.size) (hl:Below w.heap.size w w'):zoH w' b off x a0 a1 c0 c1 :=
 ⟨h.small,h.l0.mono hl,h.l1.mono hl,fun j hj=>(hl.cell (p:=⟨b,off+j,none⟩) hb).trans (h.cell j hj)⟩
theorem zby.mono {w w':World} {a:Option Addr} {ms:List Ob} (h:zby w a ms) (hl:Below w.heap.size w w'):zby w' a ms :=
 ⟨h.len,fun hne=>by
  obtain ⟨b,off,ha,hb,hr⟩:=h.rows hne;refine ⟨b,off,ha,nLt hb hl.size,fun i hi=>?_⟩;obtain ⟨a0,a1,c0,c1,hf⟩:=hr i hi;exact ⟨a0,a1,c0,c1,hf.mono hb hl⟩⟩
theorem zby.load {w w':World} {a:Option Addr} {ms:List Ob} (h:zby w a ms) (hl:Below w.heap.size w w') (i:Nat) (hi:i < ms.length):∃ b off a0 a1 c0 c1,a=some ⟨b,off,none⟩/\b < w.heap.size/\ms[i].Small/\zD w' a0 ms[i].vs/\zD w' a1 ms[i].hs /\
 w'.cell? ⟨b,off+i * 7,none⟩=some (.string ms[i].kd)/\w'.cell? ⟨b,off+i * 7+1,none⟩=some (.string ms[i].nm)/\w'.cell? ⟨b,off+i * 7+2,none⟩=some (.string ms[i].tm)/\w'.cell? ⟨b,off+i * 7+3,none⟩=some (.slice a0 ms[i].vs.length c0)/\w'.cell? ⟨b,off+i * 7+4,none⟩=some (.bool ms[i].en)/\w'.cell? ⟨b,off+i * 7+5,none⟩=some (.slice a1 ms[i].hs.length c1)/\w'.cell? ⟨b,off+i * 7+6,none⟩=some (.int .i64 ms[i].vr):=by
 obtain ⟨b,off,ha,hb,hr⟩:=h.rows (by rintro rfl;simp at hi);obtain ⟨a0,a1,c0,c1,hf0⟩:=hr i hi;have hf:=hf0.mono hb hl;exact ⟨b,off,a0,a1,c0,c1,ha,hb,hf.small,hf.l0,hf.l1,hf.cell 0 (by omega),hf.cell 1 (by omega),hf.cell 2 (by omega),hf.cell 3 (by omega),hf.cell 4 (by omega),hf.cell 5 (by omega),hf.cell 6 (by omega)⟩
def zaZ (ms:List Ob):Nat:=(ms.map Ob.sz).sum
def qF (ms:List Ob):Nat:=ms.length+zaZ ms
structure zfL (ms:List Ob):Prop where
 small:∀ i (h:i < ms.length),ms[i].Small/\(ms[i].vs.length<=maxLen/\∀ s ∈ ms[i].vs,s.size<=maxLen)/\(ms[i].hs.length<=maxLen/\∀ s ∈ ms[i].hs,s.size<=maxLen)
theorem zby.smalls {w:World} {a:Option Addr} {ms:List Ob} (h:zby w a ms):zfL ms :=
 ⟨fun i hi=>by
  obtain ⟨b,off,_,_,hr⟩:=h.rows (by rintro rfl;simp at hi);obtain ⟨a0,a1,c0,c1,hf⟩:=hr i hi;exact ⟨hf.small,⟨hf.l0.len,hf.l0.small⟩,⟨hf.l1.len,hf.l1.small⟩⟩⟩
theorem zlt {ms:List Ob} {left:Int} (h:(qF ms:Int)<=left) (hl:left<=1048576):ms.length<=1048576/\∀ i (h:i < ms.length),ms[i].vs.length<=1048576/\ms[i].hs.length<=1048576:=by
 unfold qF at h;refine ⟨by omega,fun i hi=>?_⟩;have h1:ms[i].sz<=zaZ ms:=ziu Ob.sz ms i hi;exact Ob.znH (by omega)
theorem zgu (a:Option Addr) (cap:Nat) (ms:List Ob) (left:Int) (w:World) (hw:zby w a ms) (h0:0<=left) (h1:left<=1048576) :
 Calls Tryz.prog 20 #[.slice a ms.length cap,.int .i64 left] w fun e w'=>e = .returned (.int .i64 (zL (qF ms) left))/\Below w.heap.size w w':=by
 have hl:=hw.len;unfold maxLen at hl
 by_cases hfit:(ms.length:Int)<=left
 ·go_enter Tryz.func20,Tryz.ntmps20
  go_wp2_with fail
  go_loopw [1,5] (fun l i wr=>∃ k:Nat,k<=ms.length/\i = .int .i64 k/\0<=left - ms.length - zaZ (ms.take k)/\l = .int .i64 (left - ms.length - zaZ (ms.take k))/\Below w.heap.size w wr) (fun _ i _=>ms.length - (intOf i).toNat)
  case atStart=>exact ⟨0,Nat.zero_le _,rfl,by simp [zaZ];omega,by simp [zaZ],bRf _ _⟩
  case round =>
   obtain ⟨k,hk,rfl,hpos,rfl,hB⟩:=hrel
   by_cases hlt:k < ms.length
   ·obtain ⟨b,off,a0,a1,c0,c1,rfl,hb,hsm,hl0,hl1,d0,d1,d2,d3,d4,d5,d6⟩:=hw.load hB k hlt
    have hbr:b < wr.heap.size:=nLt hb hB.size;have HS:Hid (zaZ (ms.take (k+1))=zaZ (ms.take k)+ms[k].sz):=za5 Ob.sz ms k hlt;have hle:zaZ (ms.take (k+1))<=zaZ ms:=zcQ Ob.sz ms (k+1);have HI:Hid (zD wr a0 ms[k].vs/\zD wr a1 ms[k].hs):=⟨hl0,hl1⟩
    clear hw hl0 hl1
    by_cases hneg:(ms[k].sz:Int)<=left - ms.length - zaZ (ms.take k)
    ·have HNG:Hid ((ms[k].sz:Int)<=left - ms.length - zaZ (ms.take k)):=hneg
     clear hle;go_wp2_with fail
     refine (zdu ms[k] a0 a1 c0 c1 _ _ hsm HI.out.1 HI.out.2 hpos (by omega)).mono ?_;rintro e w1 ⟨rfl,hb1⟩;rw [zN HNG.out];have hB1:=hB.trans (hb1.mono hB.size);clear hb1;go_wp2_with fail
     exact ⟨⟨k+1,by omega,by go_num,by rw [HS.out];omega,by rw [HS.out];congr 1;omega,hB1⟩,by simp [intOf];omega⟩
    ·have HF:Hid (zL (qF ms) left=-1):=zC (by have:=HS.out;unfold qF;omega)
     have HNG:Hid (¬ (ms[k].sz:Int)<=left - ms.length - zaZ (ms.take k)):=hneg;clear hneg hle;go_wp2_with fail
     refine (zdu ms[k] a0 a1 c0 c1 _ _ hsm HI.out.1 HI.out.2 hpos (by omega)).mono ?_;rintro e w1 ⟨rfl,hb1⟩;rw [zC (by have:=HNG.out;omega)];have hB1:=hB.trans (hb1.mono hB.size);clear hb1;go_wp2_with fail
     go_ret;exact ⟨zq HF.out.symm,hB1⟩
   ·have HF:Hid (zL (qF ms) left=left - ms.length - zaZ (ms.take k)):=by
     rw [tOl (by omega)] at hpos ⊢;have e:zL (qF ms) left=left - qF ms:=zN (by unfold qF;omega);unfold Hid;rw [e];unfold qF;omega
    clear hw
    go_wp2
    go_ret;exact ⟨zq HF.out.symm,hB⟩
 ·have HF:Hid (zL (qF ms) left=-1):=zC (by unfold qF;omega)
  clear hw;go_enter Tryz.func20,Tryz.ntmps20
  go_wp2
  go_ret;exact ⟨zq HF.out.symm,bRf _ _⟩
theorem zgc (a a':Option Addr) (cap cap':Nat) (ms:List Ob) (w:World) (hw:zby w a ms) (hw':zby w a' ms) :
 Calls Tryz.prog 40 #[.slice a ms.length cap,.slice a' ms.length cap'] w fun e w'=>e = .returned (.bool true)/\Below w.heap.size w w':=by
 have hl:=hw.len;unfold maxLen at hl;have hnn:((ms.length:Int) != ms.length)=false:=by simp
 go_enter Tryz.func40,Tryz.ntmps40;go_wp2_with fail
 go_loopw [5] (fun i wr=>∃ k:Nat,k<=ms.length/\i = .int .i64 k/\Below w.heap.size w wr) (fun i _=>ms.length - (intOf i).toNat)
 case atStart=>exact ⟨0,Nat.zero_le _,rfl,bRf _ _⟩
 case round =>
  obtain ⟨k,hk,rfl,hB⟩:=hrel
  by_cases hlt:k < ms.length
  ·obtain ⟨b,off,a0,a1,c0,c1,rfl,hb,hsm,hl0,hl1,d0,d1,d2,d3,d4,d5,d6⟩:=hw.load hB k hlt
   obtain ⟨b',off',a0',a1',c0',c1',rfl,hb',_,hl0',hl1',f0,f1,f2,f3,f4,f5,f6⟩:=hw'.load hB k hlt;have hltI:(k:Int) < (ms.length:Int):=by omega
   clear hw hw';go_wp2_with fail
   go_region_with (go_at_call 78;refine (zhg ms[k] a0 a1 c0 c1 a0' a1' c0' c1' _ hsm (by exact hl0.mono ((bRf _ _).drew)) (by exact hl1.mono ((bRf _ _).drew)) (by exact hl0'.mono ((bRf _ _).drew)) (by exact hl1'.mono ((bRf _ _).drew))).mono ?_;rintro e w1 ⟨rfl,hb1'⟩;have hb1:=(bRf wr.heap.size wr).drew.trans hb1';clear hb1')
   all_goals go_wp2_with fail
   all_goals exact ⟨⟨k+1,by omega,by go_num,hB.trans (hb1.mono hB.size)⟩,by simp [intOf];omega⟩
  ·clear hw hw'
   go_wp2_with fail
   go_ret;exact ⟨rfl,hB⟩
structure j6 (lo:Nat) (w:World) (bo:Nat) (ms:List Ob) (k:Nat):Prop where
 low:lo<=bo
 rows:∃ C,w.heap[bo]?=some (.cells C 119)/\C.size=ms.length * 7 /\
  ∀ i (h:i < ms.length),i < k->∃ g0 g1,lo<=g0/\g0 ≠ bo/\w.heap[g0]?=some (.cells (jB ms[i].vs) 9)/\lo<=g1/\g1 ≠ bo/\w.heap[g1]?=some (.cells (jB ms[i].hs) 9)/\∀ j,j < 7->C[i * 7+j]?=(Ob.row ms[i] (some ⟨g0,0,none⟩) (some ⟨g1,0,none⟩) ms[i].vs.length ms[i].hs.length)[j]?
theorem j6.at {lo:Nat} {w:World} {bo:Nat} {ms:List Ob} (h:j6 lo w bo ms ms.length) (hs:zfL ms) (hl:ms.length<=maxLen):zby w (some ⟨bo,0,none⟩) ms:=by
 obtain ⟨C,hC,hsz,hr⟩:=h.rows;refine ⟨hl,fun _=>⟨bo,0,rfl,(gES hC).1,fun i hi=>?_⟩⟩;obtain ⟨g0,g1,_,_,hk0,_,_,hk1,hc⟩:=hr i hi hi;obtain ⟨s0,s1,s2⟩:=hs.small i hi;refine ⟨some ⟨g0,0,none⟩,some ⟨g1,0,none⟩,ms[i].vs.length,ms[i].hs.length,s0,zdn hk0 s1.1 s1.2,zdn hk1 s2.1 s2.2,fun j hj=>?_⟩;rw [cell_of_block hC,Nat.zero_add];exact hc j hj
theorem j6.above {lo:Nat} {w w':World} {bo:Nat} {ms:List Ob} {k:Nat} (h:j6 lo w bo ms k) (ha:yQ lo w w'):j6 lo w' bo ms k:=by
 obtain ⟨C,hC,hsz,hr⟩:=h.rows;refine ⟨h.low,C,(ha.same _ h.low (gES hC).1).trans hC,hsz,fun i hi hk=>?_⟩;obtain ⟨g0,g1,p0,q0,r0,p1,q1,r1,hc⟩:=hr i hi hk;exact ⟨g0,g1,p0,q0,(ha.same _ p0 (gES r0).1).trans r0,p1,q1,(ha.same _ p1 (gES r1).1).trans r1,hc⟩
theorem j6.later {lo:Nat} {w w':World} {bo:Nat} {ms:List Ob} {k:Nat} (h:j6 lo w bo ms k) (hb:Below w.heap.size w w'):j6 lo w' bo ms k:=h.above (yQ.below hb)
def zm1 (w:World) (b o:Nat) (v0 v1 v2 v3 v4 v5 v6:Value):World:=(((((((w.setCell ⟨b,o,none⟩ v0).setCell ⟨b,o+1,none⟩ v1).setCell ⟨b,o+2,none⟩ v2).setCell ⟨b,o+3,none⟩ v3).setCell ⟨b,o+4,none⟩ v4).setCell ⟨b,o+5,none⟩ v5).setCell ⟨b,o+6,none⟩ v6)
def zi1 (C:Array Value) (o:Nat) (v0 v1 v2 v3 v4 v5 v6:Value):Array Value:=(((((((C.setIfInBounds (o) v0).setIfInBounds (o+1) v1).setIfInBounds (o+2) v2).setIfInBounds (o+3) v3).setIfInBounds (o+4) v4).setIfInBounds (o+5) v5).setIfInBounds (o+6) v6)
theorem zmE {w:World} {b o:Nat} {C:Array Value} {t:TypeId} (h:w.heap[b]?=some (.cells C t)) (v0 v1 v2 v3 v4 v5 v6:Value):(zm1 w b o v0 v1 v2 v3 v4 v5 v6).heap[b]?=some (.cells (zi1 C o v0 v1 v2 v3 v4 v5 v6) t) :=
 zk (zk (zk (zk (zk (zk (zk h v0) v1) v2) v3) v4) v5) v6
theorem zmc {B:Nat} {a w:World} (h:Below B a w) {b:Nat} (hb:B<=b) (o:Nat) (v0 v1 v2 v3 v4 v5 v6:Value):Below B a (zm1 w b o v0 v1 v2 v3 v4 v5 v6) :=
 ((((((h.setCell hb v0).setCell hb v1).setCell hb v2).setCell hb v3).setCell hb v4).setCell hb v5).setCell hb v6
theorem zcU (w:World) (b o:Nat) (v0 v1 v2 v3 v4 v5 v6:Value) {b':Nat} (h:b' ≠ b):(zm1 w b o v0 v1 v2 v3 v4 v5 v6).heap[b']?=w.heap[b']?:=by
 unfold zm1
 iterate 7 rw [zM h]
theorem znx (C:Array Value) (o:Nat) (v0 v1 v2 v3 v4 v5 v6:Value):(zi1 C o v0 v1 v2 v3 v4 v5 v6).size=C.size:=by simp [zi1]
theorem zoP (C:Array Value) (o i:Nat) (v0 v1 v2 v3 v4 v5 v6:Value) (h:i < o \/ o+7<=i):(zi1 C o v0 v1 v2 v3 v4 v5 v6)[i]?=C[i]?:=by
 unfold zi1
 iterate 7 rw [Array.getElem?_setIfInBounds,if_neg (by omega)]
theorem zpr (C:Array Value) (o j:Nat) (v0 v1 v2 v3 v4 v5 v6:Value) (hj:j < 7) (ho:o+7<=C.size):(zi1 C o v0 v1 v2 v3 v4 v5 v6)[o+j]?=(#[v0,v1,v2,v3,v4,v5,v6]:Array Value)[j]?:=by
 have hc:j=0 \/ j=1 \/ j=2 \/ j=3 \/ j=4 \/ j=5 \/ j=6:=by omega
 unfold zi1
 rcases hc with h | h | h | h | h | h | h <;> subst h <;> simp [Array.getElem?_setIfInBounds] <;> omega
theorem j6.put {lo:Nat} {w:World} {bo:Nat} {ms:List Ob} {k:Nat} (h:j6 lo w bo ms k) (hk:k < ms.length) (g0 g1:Nat) (p0:lo<=g0) (q0:g0 ≠ bo) (r0:w.heap[g0]?=some (.cells (jB ms[k].vs) 9)) (p1:lo<=g1) (q1:g1 ≠ bo) (r1:w.heap[g1]?=some (.cells (jB ms[k].hs) 9)) :
 j6 lo (zm1 w bo (k * 7) (.string ms[k].kd) (.string ms[k].nm) (.string ms[k].tm) (.slice (some ⟨g0,0,none⟩) ms[k].vs.length ms[k].vs.length) (.bool ms[k].en) (.slice (some ⟨g1,0,none⟩) ms[k].hs.length ms[k].hs.length) (.int .i64 ms[k].vr)) bo ms (k+1):=by
 obtain ⟨C,hC,hsz,hr⟩:=h.rows;refine ⟨h.low,_,zmE hC _ _ _ _ _ _ _,by rw [znx];exact hsz,fun i hi hik=>?_⟩
 rcases Nat.lt_or_ge i k with hlt | hge
 ·obtain ⟨g0',g1',x0,y0,z0,x1,y1,z1,hc⟩:=hr i hi hlt
  refine ⟨g0',g1',x0,y0,(by rw [zcU _ _ _ _ _ _ _ _ _ _ y0];exact z0),x1,y1,(by rw [zcU _ _ _ _ _ _ _ _ _ _ y1];exact z1),fun j hj=>?_⟩;rw [zoP _ _ _ _ _ _ _ _ _ _ (by omega)];exact hc j hj
 ·have e:i=k:=by omega
  subst e;refine ⟨g0,g1,p0,q0,(by rw [zcU _ _ _ _ _ _ _ _ _ _ q0];exact r0),p1,q1,(by rw [zcU _ _ _ _ _ _ _ _ _ _ q1];exact r1),fun j hj=>?_⟩;rw [zpr _ _ _ _ _ _ _ _ _ _ hj (by omega)]
  rfl
def zpS:Array Value:=#[.string ByteArray.empty,.string ByteArray.empty,.string ByteArray.empty,.slice none 0 0,.bool false,.slice none 0 0,.int .i64 0]
def zon (n:Nat):Array Value:=madeCells zpS (n * 7)
theorem zgq (a:Option Addr) (cap:Nat) (ms:List Ob) (w:World) (hw:zby w a ms) (hl:ms.length<=1048576) (hls:∀ i (h:i < ms.length),ms[i].vs.length<=1048576/\ms[i].hs.length<=1048576) :
 Calls Tryz.prog 31 #[.slice a ms.length cap] w fun e w'=>e = .returned (.slice (some ⟨w.heap.size,0,none⟩) ms.length ms.length)/\j6 w.heap.size w' w.heap.size ms ms.length/\Below w.heap.size w w':=by
 have hmk:∀ w:World,(Instr.makeSlice 43 (.int .i64 ms.length) (.int .i64 ms.length)).run Tryz.prog w = .ok (.slice (some ⟨w.heap.size,0,none⟩) ms.length ms.length) (w.alloc (.cells (zon ms.length) 119)) :=
  fun w=>jK (P:=Tryz.prog) 43 119 (.agg zpS) 7 112 Tryz.underlying43 (by kernel_rfl) ms.length (by omega) (by omega) w
 go_enter Tryz.func31,Tryz.ntmps31;go_wp2_with fail
 clear hmk
 go_loopw [4] (fun i wr=>∃ k:Nat,k<=ms.length/\i = .int .i64 k/\Hid (j6 w.heap.size wr w.heap.size ms k)/\Below w.heap.size w wr) (fun i _=>ms.length - (intOf i).toNat)
 case atStart=>exact ⟨0,Nat.zero_le _,rfl,⟨Nat.le_refl _,zon ms.length,(MapKept.heap_alloc w _).1,size_madeCells _ _,fun i _ h=>absurd h (by omega)⟩,bAl _ _⟩
 case round =>
  obtain ⟨k,hk,rfl,HOW,hB⟩:=hrel
  by_cases hlt:k < ms.length
  ·obtain ⟨b,off,a0,a1,c0,c1,rfl,hb,hsm,hl0,hl1,d0,d1,d2,d3,d4,d5,d6⟩:=hw.load hB k hlt
   have HLS:Hid (ms[k].vs.length<=1048576/\ms[k].hs.length<=1048576):=hls k hlt;have hltI:(k:Int) < (ms.length:Int):=by omega
   clear hw;go_wp2_with fail
   refine (zgG ms[k] a0 a1 c0 c1 _ hsm hl0 hl1 HLS.out).mono ?_;rintro e w1 ⟨g0,g1,rfl,p0,r0,p1,r1,hb1⟩;have hB1:=hB.trans (hb1.mono hB.size)
   have hbo:w.heap.size < wr.heap.size:=by
    obtain ⟨C',hC',_⟩:=HOW.out.rows;exact (gES hC').1
   have HP:Hid (j6 w.heap.size w1 w.heap.size ms k):=HOW.out.later hb1;obtain ⟨C,hC,hsz,_⟩:=HP.out.rows;have hfz:∀ o,w1.frozen? ⟨w.heap.size,o,none⟩=false:=fun o=>zi hC
   have hex:∀ o,o < ms.length * 7->∃ v,w1.cell? ⟨w.heap.size,o,none⟩=some v:=fun o ho=>⟨C[o]'(by omega),by rw [cell_of_block hC];exact Array.getElem?_eq_getElem (by omega)⟩
   obtain ⟨v0,hv0⟩:=hex (k * 7) (by omega);obtain ⟨v1,hv1⟩:=hex (k * 7+1) (by omega);obtain ⟨v2,hv2⟩:=hex (k * 7+2) (by omega);obtain ⟨v3,hv3⟩:=hex (k * 7+3) (by omega);obtain ⟨v4,hv4⟩:=hex (k * 7+4) (by omega);obtain ⟨v5,hv5⟩:=hex (k * 7+5) (by omega);obtain ⟨v6,hv6⟩:=hex (k * 7+6) (by omega);have HR:Hid (wr.heap.size<=g0/\w1.heap[g0]?=some (.cells (jB ms[k].vs) 9)/\wr.heap.size<=g1/\w1.heap[g1]?=some (.cells (jB ms[k].hs) 9)):=⟨p0,r0,p1,r1⟩
   clear hex hC hsz d0 d1 d2 d3 d4 d5 d6 p0 r0 p1 r1 hl0 hl1;unfold Ob.row;go_wp2_with fail
   obtain ⟨p0,r0,p1,r1⟩:=HR.out;exact ⟨⟨k+1,by omega,by go_num,HP.out.put hlt g0 g1 (by omega) (by omega) r0 (by omega) (by omega) r1,zmc hB1 (Nat.le_refl _) _ _ _ _ _ _ _ _⟩,by simp [intOf];omega⟩
  ·have HF:Hid (j6 w.heap.size wr w.heap.size ms ms.length):=by
    have e:k=ms.length:=by omega
    subst e;exact HOW.out
   clear hw HOW;go_wp2_with fail
   go_ret;exact ⟨rfl,HF.out,hB⟩
end Go.Proofs.YtghnakljnhnenaaGreat
