import Derived.Test.YtihdafafigceiaaGreatM06
import Derived.Test.YtihdafafigceiaaGreatM07
import Derived.Deep.RegionHeld3
import Derived.Test.YtihdafafigceiaaGreatM25
set_option maxHeartbeats 2000000
namespace Go.Proofs.YtihdafafigceiaaGreat
open Go.RowKit
theorem zfc (a:Option Addr) (cap:Nat) (vs:List Int) (left:Int) (w:World) (hl:vs.length<=maxLen) (h0:0<=left) (h1:left<=1048576) :
 Calls Tryz.prog 119 #[.slice a vs.length cap,.int .i64 left] w fun e w'=>e = .returned (.int .i64 (zK vs.length left))/\w'=w:=by
 unfold maxLen at hl
 by_cases hf:(vs.length:Int)<=left
 ·have HF:Hid (zK vs.length left=left - vs.length):=zL hf
  go_enter Tryz.func119,Tryz.ntmps119
  go_wp2_with fail
  go_ret
  exact ⟨zq HF.out.symm,rfl⟩
 ·have HF:Hid (zK vs.length left=-1):=zC hf
  go_enter Tryz.func119,Tryz.ntmps119
  go_wp2_with fail
  go_ret
  exact ⟨zq HF.out.symm,rfl⟩
theorem zet (r:Rl) (a:Option Addr) (cap:Nat) (left:Int) (w:World) (hm:r.Small) (hl:r.vs.length<=maxLen) (h0:0<=left) (h1:left<=1048576) :
 Calls Tryz.prog 85 #[.agg (r.cells a cap),.int .i64 left] w fun e w'=>e = .returned (.int .i64 (zK r.sz left))/\Below w.heap.size w w':=by
 have k1:=hm.kd
 have k2:=hm.tm
 have k3:=hm.px
 have k4:=hl
 unfold maxLen at k1 k2 k3 k4
 unfold Rl.cells
 have hB:∀ ob,Below w.heap.size w (w.alloc ob):=fun ob=>(Below.refl _ _).alloc (Nat.le_refl _) _
 by_cases hv:(r.vs.length:Int)<=left
 rotate_left
 ·have HF:Hid (zK r.sz left=-1):=zC (by unfold Rl.sz;omega)
  go_enter Tryz.func85,Tryz.ntmps85
  go_wp2_with fail
  refine (zfc _ _ _ _ _ hl h0 h1).mono ?_
  rintro e w1 ⟨rfl,rfl⟩
  rw [zC (by omega)]
  go_wp2_with fail
  go_ret
  exact ⟨zq HF.out.symm,hB _⟩
 by_cases hf:(r.sz:Int)<=left
 ·have HF:Hid (zK r.sz left=left - r.vs.length - r.kd.size - r.tm.size - r.px.size):=by
   unfold Hid;rw [zL hf];unfold Rl.sz;omega
  unfold Rl.sz at hf
  go_enter Tryz.func85,Tryz.ntmps85
  go_wp2_with fail
  refine (zfc _ _ _ _ _ hl h0 h1).mono ?_
  rintro e w1 ⟨rfl,rfl⟩
  rw [zL hv]
  go_wp2_with fail
  go_ret
  exact ⟨zq HF.out.symm,hB _⟩
 ·have HF:Hid (zK r.sz left=-1):=zC hf
  have HN:Hid (¬ ((r.vs.length+r.kd.size+r.tm.size+r.px.size:Nat):Int)<=left):=hf
  clear hf
  go_enter Tryz.func85,Tryz.ntmps85
  go_wp2_with fail
  refine (zfc _ _ _ _ _ hl h0 h1).mono ?_
  rintro e w1 ⟨rfl,rfl⟩
  rw [zL hv]
  go_wp2_with fail
  all_goals go_ret
  all_goals first | exact ⟨zq HF.out.symm,hB _⟩ | (exfalso;have:=HN.out;simp at *;omega)
theorem zmn (a:Option Addr) (cap:Nat) (vs:List Int) (w:World) (hw:y8 w a vs) (hl:vs.length<=1048576) :
 Calls Tryz.prog 134 #[.slice a vs.length cap] w fun e w'=>e = .returned (.slice (some ⟨w.heap.size,0,none⟩) vs.length vs.length)/\w'=w.alloc (.cells (zbd vs) 3):=by
 have hmk:∀ w:World,(Instr.makeSlice 35 (.int .i64 vs.length) (.int .i64 vs.length)).run Tryz.prog w = .ok (.slice (some ⟨w.heap.size,0,none⟩) vs.length vs.length) (w.alloc (.cells (intCells vs 0) 3)):=by
  intro w
  have h:=run_make_row' (P:=Tryz.prog) 35 3 (.int .i64 0) 8 Tryz.underlying35 (by kernel_rfl) rfl .i64 .i64 vs.length (by omega) (by omega) w
  rw [zju] at h
  exact h
 go_enter Tryz.func134,Tryz.ntmps134
 go_wp2_with fail
 clear hmk
 go_loopw [4] (fun i wr=>∃ k:Nat,k<=vs.length/\i = .int .i64 k/\wr=w.alloc (.cells (intCells vs k) 3)) (fun i _=>vs.length - (intOf i).toNat)
 case atStart=>exact ⟨0,Nat.zero_le _,rfl,rfl⟩
 case round =>
  obtain ⟨k,hk,rfl,rfl⟩:=hrel
  by_cases hlt:k < vs.length
  ·obtain ⟨b,off,rfl,hb,hck⟩:=hw.load (Below.refl _ _) k hlt
   clear hw
   have hold:=zlG vs k hlt
   have HS:Hid ((intCells vs k).setIfInBounds k (.int .i64 vs[k])=intCells vs (k+1)):=zkS vs k hlt
   have hltI:(k:Int) < (vs.length:Int):=by omega
   go_wp2
   go_roundw
   case rel=>exact ⟨k+1,by omega,by go_num,by rw [HS.out]⟩
   case measure=>simp [intOf];omega
  ·have HA:Hid (intCells vs k=zbd vs):=zkV vs k (by omega)
   clear hw
   go_wp2
   go_ret
   exact ⟨rfl,by rw [HA.out]⟩
theorem zdD (a a':Option Addr) (cap cap':Nat) (vs:List Int) (w:World) (hw:y8 w a vs) (hw':y8 w a' vs) :
 Calls Tryz.prog 10 #[.slice a vs.length cap,.slice a' vs.length cap'] w fun e w'=>e = .returned (.bool true)/\Below w.heap.size w w':=by
 have hl:=hw.len
 unfold maxLen at hl
 have hnn:((vs.length:Int) != vs.length)=false:=by simp
 go_enter Tryz.func10,Tryz.ntmps10
 go_wp2_with fail
 go_loopw [5] (fun i wr=>∃ k:Nat,k<=vs.length/\i = .int .i64 k/\Below w.heap.size w wr) (fun i _=>vs.length - (intOf i).toNat)
 case atStart=>exact ⟨0,Nat.zero_le _,rfl,Below.refl _ _⟩
 case round =>
  obtain ⟨k,hk,rfl,hB⟩:=hrel
  by_cases hlt:k < vs.length
  ·obtain ⟨b,off,rfl,hb,c0⟩:=hw.load hB k hlt
   obtain ⟨b',off',rfl,hb',d0⟩:=hw'.load hB k hlt
   have hltI:(k:Int) < (vs.length:Int):=by omega
   have hne:(vs[k] != vs[k])=false:=by simp
   clear hw hw'
   go_wp2_with fail
   first
    | exact ⟨⟨k+1,by omega,by go_num,hB⟩,by simp [intOf];omega⟩
    | (go_quiet (fail);go_wp2_with fail;exact ⟨⟨k+1,by omega,by go_num,below_drewN hB _⟩,by simp [intOf];omega⟩)
  ·clear hw hw'
   go_wp2_with fail
   go_ret
   exact ⟨rfl,hB⟩
theorem zoM (w:World) (o1:Obj) (X:Array Value) (t:TypeId):∀ o,((w.alloc o1).alloc (.cells X t)).cell? ⟨w.heap.size+1,o,none⟩=X[o]?:=by
 intro o
 have h:=zm (w.alloc o1) X t o
 have e:(w.alloc o1).heap.size=w.heap.size+1:=by simp
 rw [e] at h;exact h
theorem zpi (w:World) (o1 o2 o3 o4:Obj):((((w.alloc o1).alloc o2).alloc o3).alloc o4).heap[w.heap.size+1+1+1]?=some o4:=by
 have h:=MapKept.heap_alloc (((w.alloc o1).alloc o2).alloc o3) o4
 simpa using h.1
theorem zoW (w:World) (o1 o2 o3 o4:Obj):Below w.heap.size w ((((w.alloc o1).alloc o2).alloc o3).alloc o4) :=
 ((((Below.refl _ _).alloc (Nat.le_refl _) _).alloc (by simp) _).alloc (by simp;omega) _).alloc (by simp;omega) _
theorem zi6 (r:Rl) (a:Option Addr) (cap:Nat) (w:World) (hw:y8 w a r.vs) (hl:r.vs.length<=1048576) :
 Calls Tryz.prog 103 #[.agg (r.cells a cap)] w
  fun e w'=>∃ bk,e = .returned (.agg (r.cells (some ⟨bk,0,none⟩) r.vs.length))/\w.heap.size<=bk/\bk < w'.heap.size/\w'.heap[bk]?=some (.cells (zbd r.vs) 3)/\Below w.heap.size w w':=by
 unfold Rl.cells
 go_enter Tryz.func103,Tryz.ntmps103
 go_wp2_with (go_at_call 134;refine (zmn _ _ _ _ (by exact hw.mono ((((Below.refl _ _).alloc (Nat.le_refl _) _).alloc (by simp) _).alloc (by simp;omega) _)) hl).mono ?_;rintro e w' ⟨rfl,rfl⟩)
 refine bodyPost_ret (v:=.agg #[.slice (some ⟨w.heap.size+1+1+1,0,none⟩) r.vs.length r.vs.length,.string r.kd,.string r.tm,.string r.px]) (by simp [results,Tryz.results103,go_sem]) rfl ⟨w.heap.size+1+1+1,rfl,by omega,by simp,zpi _ _ _ _ _,zoW _ _ _ _ _⟩
theorem zh7 (r:Rl) (a a':Option Addr) (cap cap':Nat) (w:World) (hw:y8 w a r.vs) (hw':y8 w a' r.vs) :
 Calls Tryz.prog 117 #[.agg (r.cells a cap),.agg (r.cells a' cap')] w fun e w'=>e = .returned (.bool true)/\Below w.heap.size w w':=by
 unfold Rl.cells
 go_enter Tryz.func117,Tryz.ntmps117
 go_wp2_with fail
 refine (zdD _ _ _ _ _ _ (hw.mono (zA _ _ _)) (hw'.mono (zA _ _ _))).mono ?_
 rintro e w1 ⟨rfl,hb1⟩
 have hX1:=za (za (zm w _ _) (by simp) ((Below.refl _ _).alloc (Nat.le_refl _) _)) (by simp;omega) hb1
 have hY1:=za (zoM w _ _ _) (by simp) hb1
 have hz:w.heap.size+1 < w1.heap.size:=by have:=hb1.size;simp at this;omega
 have hB1:=(zA w _ _).trans (hb1.mono (by simp;omega))
 clear hb1
 go_wp2_with fail
 go_ret
 exact ⟨rfl,hB1⟩
structure Gr where
 no:Int
 to:ByteArray
 gb:ByteArray
 r:Rl
def Gr.cells (g:Gr) (a0:Option Addr) (c0:Nat):Array Value:=#[.int .i64 g.no,.string g.to,.string g.gb,.slice a0 g.r.vs.length c0,.string g.r.kd,.string g.r.tm,.string g.r.px]
structure Gr.Small (g:Gr):Prop where
 to:g.to.size<=maxLen
 gb:g.gb.size<=maxLen
 r:g.r.Small
def Gr.sz (g:Gr):Nat:=g.to.size+g.gb.size+g.r.sz
theorem Gr.zmy {g:Gr} (h:(g.sz:Int)<=1048576):g.r.vs.length<=1048576:=by unfold Gr.sz Rl.sz at h;omega
theorem zd8 (g:Gr) (a0:Option Addr) (c0:Nat) (left:Int) (w:World) (hm:g.Small) (hi:y8 w a0 g.r.vs) (h0:0<=left) (h1:left<=1048576) :
 Calls Tryz.prog 53 #[.agg (g.cells a0 c0),.int .i64 left] w fun e w'=>e = .returned (.int .i64 (zK g.sz left))/\Below w.heap.size w w':=by
 have k1:=hm.to
 have k2:=hm.gb
 have HM:Hid (g.r.Small/\g.r.vs.length<=maxLen):=⟨hm.r,hi.len⟩
 unfold maxLen at k1 k2
 clear hm hi
 unfold Gr.cells
 have hB:∀ ob,Below w.heap.size w (w.alloc ob):=fun ob=>(Below.refl _ _).alloc (Nat.le_refl _) _
 by_cases c1:(g.to.size:Int)<=left
 rotate_left
 ·have HF:Hid (zK g.sz left=-1):=zC (by unfold Gr.sz;omega)
  go_enter Tryz.func53,Tryz.ntmps53
  go_wp2_with fail
  go_ret
  exact ⟨zq HF.out.symm,hB _⟩
 by_cases c2:(g.gb.size:Int)<=left - g.to.size
 rotate_left
 ·have HF:Hid (zK g.sz left=-1):=zC (by unfold Gr.sz;omega)
  go_enter Tryz.func53,Tryz.ntmps53
  go_wp2_with fail
  go_ret
  exact ⟨zq HF.out.symm,hB _⟩
 by_cases c3:(g.r.sz:Int)<=left - g.to.size - g.gb.size
 ·have HF:Hid (zK g.sz left=left - g.to.size - g.gb.size - g.r.sz):=by
   unfold Hid;rw [zL (by unfold Gr.sz;omega)];unfold Gr.sz;omega
  go_enter Tryz.func53,Tryz.ntmps53
  go_wp2_with fail
  refine (zet g.r a0 c0 _ _ HM.out.1 HM.out.2 (by omega) (by omega)).mono ?_
  rintro e w1 ⟨rfl,hb⟩
  rw [zL c3]
  have hB1:=(hB _).trans (hb.mono (by simp))
  clear hb
  go_wp2_with fail
  go_ret
  exact ⟨zq HF.out.symm,hB1⟩
 ·have HF:Hid (zK g.sz left=-1):=zC (by unfold Gr.sz;omega)
  have HC:Hid (¬ (g.r.sz:Int)<=left - g.to.size - g.gb.size):=c3
  clear c3
  go_enter Tryz.func53,Tryz.ntmps53
  go_wp2_with fail
  refine (zet g.r a0 c0 _ _ HM.out.1 HM.out.2 (by omega) (by omega)).mono ?_
  rintro e w1 ⟨rfl,hb⟩
  rw [zC (by have:=HC.out;omega)]
  have hB1:=(hB _).trans (hb.mono (by simp))
  clear hb
  go_wp2_with fail
  go_ret
  exact ⟨zq HF.out.symm,hB1⟩
theorem zhS (g:Gr) (a0:Option Addr) (c0:Nat) (a0':Option Addr) (c0':Nat) (w:World) (_hm:g.Small) (hi:y8 w a0 g.r.vs) (hi':y8 w a0' g.r.vs) :
 Calls Tryz.prog 77 #[.agg (g.cells a0 c0),.agg (g.cells a0' c0')] w fun e w'=>e = .returned (.bool true)/\Below w.heap.size w w':=by
 have hn:(g.no != g.no)=false:=by simp
 unfold Gr.cells
 go_enter Tryz.func77,Tryz.ntmps77
 go_wp2_with fail
 refine (zh7 g.r _ _ _ _ _ (hi.mono (zA _ _ _)) (hi'.mono (zA _ _ _))).mono ?_
 rintro e w1 ⟨rfl,hb⟩
 have hB1:=(zA w _ _).trans (hb.mono (by simp;omega))
 clear hb
 go_wp2_with fail
 go_ret
 exact ⟨rfl,hB1⟩
theorem zhB (g:Gr) (a0:Option Addr) (c0:Nat) (w:World) (_hm:g.Small) (hi:y8 w a0 g.r.vs) (hl:g.r.vs.length<=1048576) :
 Calls Tryz.prog 66 #[.agg (g.cells a0 c0)] w fun e w'=>∃ g0,e = .returned (.agg (g.cells (some ⟨g0,0,none⟩) g.r.vs.length))/\w.heap.size<=g0/\w'.heap[g0]?=some (.cells (zbd g.r.vs) 3)/\Below w.heap.size w w':=by
 unfold Gr.cells
 go_enter Tryz.func66,Tryz.ntmps66
 go_wp2_with fail
 have k0:=zon w (.cells #[.int .i64 g.no,.string g.to,.string g.gb,.slice a0 g.r.vs.length c0,.string g.r.kd,.string g.r.tm,.string g.r.px] 105) (.cells #[.int .i64 0,.string ByteArray.empty,.string ByteArray.empty,.slice none 0 0,.string ByteArray.empty,.string ByteArray.empty,.string ByteArray.empty] 128) (.cells #[.int .i64 g.no,.string g.to,.string g.gb,.slice none 0 0,.string ByteArray.empty,.string ByteArray.empty,.string ByteArray.empty] 128)
 have hB0:=below3' w (.cells #[.int .i64 g.no,.string g.to,.string g.gb,.slice a0 g.r.vs.length c0,.string g.r.kd,.string g.r.tm,.string g.r.px] 105) (.cells #[.int .i64 0,.string ByteArray.empty,.string ByteArray.empty,.slice none 0 0,.string ByteArray.empty,.string ByteArray.empty,.string ByteArray.empty] 128) (.cells #[.int .i64 g.no,.string g.to,.string g.gb,.slice none 0 0,.string ByteArray.empty,.string ByteArray.empty,.string ByteArray.empty] 128)
 refine (zi6 g.r a0 c0 _ (hi.mono (below3' _ _ _ _)) hl).mono ?_
 rintro e w1 ⟨bk,rfl,hlo,hhi,hbk,hb⟩
 have hlo':w.heap.size+1+1+1<=bk:=by simpa using hlo
 have hR1:=(hb.block _ (by simp)).trans k0.2.1
 have hO1:=(hb.block _ (by simp)).trans k0.2.2
 have hB1:=hB0.trans (hb.mono (by simp;omega))
 have HK:Hid (w1.heap[bk]?=some (.cells (zbd g.r.vs) 3)):=hbk
 have cR:=fun j=>cell_of_block (o:=j) hR1
 have fR:=fun j=>zi (o:=j) hR1
 have cO:=fun j=>cell_of_block (o:=j) hO1
 have fO:=fun j=>zi (o:=j) hO1
 have hz1:w.heap.size+1+1 < w1.heap.size:=(Array.getElem?_eq_some_iff.1 hO1).1
 clear hb hbk k0 hB0 hlo hR1 hO1
 unfold Rl.cells
 go_wp2_with fail
 refine bodyPost_ret (v:=.agg #[.int .i64 g.no,.string g.to,.string g.gb,.slice (some ⟨bk,0,none⟩) g.r.vs.length g.r.vs.length,.string g.r.kd,.string g.r.tm,.string g.r.px]) (by simp [results,Tryz.results66,go_sem,cR]) rfl ⟨bk,rfl,by omega,?_,?_⟩
 ·have h1:bk ≠ w.heap.size+1:=by omega
  have h2:bk ≠ w.heap.size+1+1:=by omega
  exact (zM h1).trans ((zM h1).trans ((zM h1).trans ((zM h1).trans ((zM h1).trans ((zM h1).trans ((zM h1).trans ((zM h2).trans ((zM h2).trans ((zM h2).trans ((zM h2).trans HK.out))))))))))
 ·have h3:w.heap.size<=w.heap.size+1:=by omega
  have h4:w.heap.size<=w.heap.size+1+1:=by omega
  exact ((((((((((hB1.setCell h4 _).setCell h4 _).setCell h4 _).setCell h4 _).setCell h3 _).setCell h3 _).setCell h3 _).setCell h3 _).setCell h3 _).setCell h3 _).setCell h3 _
structure zoH (w:World) (b off:Nat) (x:Gr) (a0:Option Addr) (c0:Nat):Prop where
 small:x.Small
 l0:y8 w a0 x.r.vs
 cell:∀ j,j < 7->w.cell? ⟨b,off+j,none⟩=(Gr.cells x a0 c0)[j]?
structure zb8 (w:World) (a:Option Addr) (ms:List Gr):Prop where
 len:ms.length<=maxLen
 rows:ms ≠ []->∃ b off,a=some ⟨b,off,none⟩/\b < w.heap.size/\∀ i (h:i < ms.length),∃ a0 c0,zoH w b (off+i * 7) ms[i] a0 c0
theorem zoH.mono {w w':World} {b off:Nat} {x:Gr} {a0:Option Addr} {c0:Nat} (h:zoH w b off x a0 c0) (hb:b < w.heap.size) (hl:Below w.heap.size w w'):zoH w' b off x a0 c0 :=
 ⟨h.small,h.l0.mono hl,fun j hj=>(hl.cell (p:=⟨b,off+j,none⟩) hb).trans (h.cell j hj)⟩
theorem zb8.mono {w w':World} {a:Option Addr} {ms:List Gr} (h:zb8 w a ms) (hl:Below w.heap.size w w'):zb8 w' a ms :=
 ⟨h.len,fun hne=>by
  obtain ⟨b,off,ha,hb,hr⟩:=h.rows hne
  refine ⟨b,off,ha,Nat.lt_of_lt_of_le hb hl.size,fun i hi=>?_⟩
  obtain ⟨a0,c0,hf⟩:=hr i hi
  exact ⟨a0,c0,hf.mono hb hl⟩⟩
theorem zb8.load {w w':World} {a:Option Addr} {ms:List Gr} (h:zb8 w a ms) (hl:Below w.heap.size w w') (i:Nat) (hi:i < ms.length):∃ b off a0 c0,a=some ⟨b,off,none⟩/\b < w.heap.size/\ms[i].Small/\y8 w' a0 ms[i].r.vs /\
 w'.cell? ⟨b,off+i * 7,none⟩=some (.int .i64 ms[i].no)/\w'.cell? ⟨b,off+i * 7+1,none⟩=some (.string ms[i].to)/\w'.cell? ⟨b,off+i * 7+2,none⟩=some (.string ms[i].gb)/\w'.cell? ⟨b,off+i * 7+3,none⟩=some (.slice a0 ms[i].r.vs.length c0)/\w'.cell? ⟨b,off+i * 7+4,none⟩=some (.string ms[i].r.kd)/\w'.cell? ⟨b,off+i * 7+5,none⟩=some (.string ms[i].r.tm)/\w'.cell? ⟨b,off+i * 7+6,none⟩=some (.string ms[i].r.px):=by
 obtain ⟨b,off,ha,hb,hr⟩:=h.rows (by rintro rfl;simp at hi)
 obtain ⟨a0,c0,hf0⟩:=hr i hi
 have hf:=hf0.mono hb hl
 exact ⟨b,off,a0,c0,ha,hb,hf.small,hf.l0,hf.cell 0 (by omega),hf.cell 1 (by omega),hf.cell 2 (by omega),hf.cell 3 (by omega),hf.cell 4 (by omega),hf.cell 5 (by omega),hf.cell 6 (by omega)⟩
def zcN (ms:List Gr):Nat:=(ms.map Gr.sz).sum
def zbX (ms:List Gr):Nat:=ms.length+zcN ms
structure zi2 (ms:List Gr):Prop where
 small:∀ i (h:i < ms.length),ms[i].Small/\ms[i].r.vs.length<=maxLen
theorem zb8.smalls {w:World} {a:Option Addr} {ms:List Gr} (h:zb8 w a ms):zi2 ms :=
 ⟨fun i hi=>by
  obtain ⟨b,off,_,_,hr⟩:=h.rows (by rintro rfl;simp at hi)
  obtain ⟨a0,c0,hf⟩:=hr i hi
  exact ⟨hf.small,hf.l0.len⟩⟩
theorem zoZ {ms:List Gr} {left:Int} (h:(zbX ms:Int)<=left) (hl:left<=1048576):ms.length<=1048576/\∀ i (h:i < ms.length),ms[i].r.vs.length<=1048576:=by
 unfold zbX at h
 refine ⟨by omega,fun i hi=>?_⟩
 have h1:ms[i].sz<=zcN ms:=zh0 Gr.sz ms i hi
 exact Gr.zmy (by omega)
theorem zgm (a:Option Addr) (cap:Nat) (ms:List Gr) (left:Int) (w:World) (hw:zb8 w a ms) (h0:0<=left) (h1:left<=1048576) :
 Calls Tryz.prog 21 #[.slice a ms.length cap,.int .i64 left] w fun e w'=>e = .returned (.int .i64 (zK (zbX ms) left))/\Below w.heap.size w w':=by
 have hl:=hw.len
 unfold maxLen at hl
 by_cases hfit:(ms.length:Int)<=left
 ·go_enter Tryz.func21,Tryz.ntmps21
  go_wp2_with fail
  go_loopw [1,5] (fun l i wr=>∃ k:Nat,k<=ms.length/\i = .int .i64 k/\0<=left - ms.length - zcN (ms.take k)/\l = .int .i64 (left - ms.length - zcN (ms.take k))/\Below w.heap.size w wr) (fun _ i _=>ms.length - (intOf i).toNat)
  case atStart=>exact ⟨0,Nat.zero_le _,rfl,by simp [zcN];omega,by simp [zcN],Below.refl _ _⟩
  case round =>
   obtain ⟨k,hk,rfl,hpos,rfl,hB⟩:=hrel
   by_cases hlt:k < ms.length
   ·obtain ⟨b,off,a0,c0,rfl,hb,hsm,hl0,d0,d1,d2,d3,d4,d5,d6⟩:=hw.load hB k hlt
    have hbr:b < wr.heap.size:=Nat.lt_of_lt_of_le hb hB.size
    have HS:Hid (zcN (ms.take (k+1))=zcN (ms.take k)+ms[k].sz):=za1 Gr.sz ms k hlt
    have hle:zcN (ms.take (k+1))<=zcN ms:=zcB Gr.sz ms (k+1)
    have HI:Hid (y8 wr a0 ms[k].r.vs):=hl0
    clear hw hl0
    by_cases hneg:(ms[k].sz:Int)<=left - ms.length - zcN (ms.take k)
    ·have HNG:Hid ((ms[k].sz:Int)<=left - ms.length - zcN (ms.take k)):=hneg
     clear hle
     go_wp2_with fail
     refine (zd8 ms[k] a0 c0 _ _ hsm HI.out hpos (by omega)).mono ?_
     rintro e w1 ⟨rfl,hb1⟩
     rw [zL HNG.out]
     have hB1:=hB.trans (hb1.mono hB.size)
     clear hb1
     go_wp2_with fail
     exact ⟨⟨k+1,by omega,by go_num,by rw [HS.out];omega,by rw [HS.out];congr 1;omega,hB1⟩,by simp [intOf];omega⟩
    ·have HF:Hid (zK (zbX ms) left=-1):=zC (by have:=HS.out;unfold zbX;omega)
     have HNG:Hid (¬ (ms[k].sz:Int)<=left - ms.length - zcN (ms.take k)):=hneg
     clear hneg hle
     go_wp2_with fail
     refine (zd8 ms[k] a0 c0 _ _ hsm HI.out hpos (by omega)).mono ?_
     rintro e w1 ⟨rfl,hb1⟩
     rw [zC (by have:=HNG.out;omega)]
     have hB1:=hB.trans (hb1.mono hB.size)
     clear hb1
     go_wp2_with fail
     go_ret
     exact ⟨zq HF.out.symm,hB1⟩
   ·have HF:Hid (zK (zbX ms) left=left - ms.length - zcN (ms.take k)):=by
     rw [List.take_of_length_le (by omega)] at hpos ⊢
     have e:zK (zbX ms) left=left - zbX ms:=zL (by unfold zbX;omega)
     unfold Hid;rw [e];unfold zbX;omega
    clear hw
    go_wp2
    go_ret
    exact ⟨zq HF.out.symm,hB⟩
 ·have HF:Hid (zK (zbX ms) left=-1):=zC (by unfold zbX;omega)
  clear hw
  go_enter Tryz.func21,Tryz.ntmps21
  go_wp2
  go_ret
  exact ⟨zq HF.out.symm,Below.refl _ _⟩
theorem zgn (a a':Option Addr) (cap cap':Nat) (ms:List Gr) (w:World) (hw:zb8 w a ms) (hw':zb8 w a' ms) :
 Calls Tryz.prog 39 #[.slice a ms.length cap,.slice a' ms.length cap'] w fun e w'=>e = .returned (.bool true)/\Below w.heap.size w w':=by
 have hl:=hw.len
 unfold maxLen at hl
 have hnn:((ms.length:Int) != ms.length)=false:=by simp
 go_enter Tryz.func39,Tryz.ntmps39
 go_wp2_with fail
 go_loopw [5] (fun i wr=>∃ k:Nat,k<=ms.length/\i = .int .i64 k/\Below w.heap.size w wr) (fun i _=>ms.length - (intOf i).toNat)
 case atStart=>exact ⟨0,Nat.zero_le _,rfl,Below.refl _ _⟩
 case round =>
  obtain ⟨k,hk,rfl,hB⟩:=hrel
  by_cases hlt:k < ms.length
  ·obtain ⟨b,off,a0,c0,rfl,hb,hsm,hl0,d0,d1,d2,d3,d4,d5,d6⟩:=hw.load hB k hlt
   obtain ⟨b',off',a0',c0',rfl,hb',_,hl0',f0,f1,f2,f3,f4,f5,f6⟩:=hw'.load hB k hlt
   have hltI:(k:Int) < (ms.length:Int):=by omega
   clear hw hw'
   go_wp2_with fail
   go_region_with (go_at_call 77;refine (zhS ms[k] a0 c0 a0' c0' _ hsm (by exact hl0.mono ((Below.refl _ _).drew)) (by exact hl0'.mono ((Below.refl _ _).drew))).mono ?_;rintro e w1 ⟨rfl,hb1'⟩;have hb1:=(Below.refl wr.heap.size wr).drew.trans hb1';clear hb1')
   all_goals go_wp2_with fail
   all_goals exact ⟨⟨k+1,by omega,by go_num,hB.trans (hb1.mono hB.size)⟩,by simp [intOf];omega⟩
  ·clear hw hw'
   go_wp2_with fail
   go_ret
   exact ⟨rfl,hB⟩
structure jS (lo:Nat) (w:World) (bo:Nat) (ms:List Gr) (k:Nat):Prop where
 low:lo<=bo
 rows:∃ C,w.heap[bo]?=some (.cells C 128)/\C.size=ms.length * 7 /\
  ∀ i (h:i < ms.length),i < k->∃ g0,lo<=g0/\g0 ≠ bo/\w.heap[g0]?=some (.cells (zbd ms[i].r.vs) 3)/\∀ j,j < 7->C[i * 7+j]?=(Gr.cells ms[i] (some ⟨g0,0,none⟩) ms[i].r.vs.length)[j]?
theorem jS.at {lo:Nat} {w:World} {bo:Nat} {ms:List Gr} (h:jS lo w bo ms ms.length) (hs:zi2 ms) (hl:ms.length<=maxLen):zb8 w (some ⟨bo,0,none⟩) ms:=by
 obtain ⟨C,hC,hsz,hr⟩:=h.rows
 refine ⟨hl,fun _=>⟨bo,0,rfl,(Array.getElem?_eq_some_iff.1 hC).1,fun i hi=>?_⟩⟩
 obtain ⟨g0,_,_,hk0,hc⟩:=hr i hi hi
 obtain ⟨s0,s1⟩:=hs.small i hi
 refine ⟨some ⟨g0,0,none⟩,ms[i].r.vs.length,s0,zgN hk0 s1,fun j hj=>?_⟩
 rw [cell_of_block hC,Nat.zero_add]
 exact hc j hj
theorem jS.above {lo:Nat} {w w':World} {bo:Nat} {ms:List Gr} {k:Nat} (h:jS lo w bo ms k) (ha:yO lo w w'):jS lo w' bo ms k:=by
 obtain ⟨C,hC,hsz,hr⟩:=h.rows
 refine ⟨h.low,C,(ha.same _ h.low (Array.getElem?_eq_some_iff.1 hC).1).trans hC,hsz,fun i hi hk=>?_⟩
 obtain ⟨g0,p0,q0,r0,hc⟩:=hr i hi hk
 exact ⟨g0,p0,q0,(ha.same _ p0 (Array.getElem?_eq_some_iff.1 r0).1).trans r0,hc⟩
theorem jS.later {lo:Nat} {w w':World} {bo:Nat} {ms:List Gr} {k:Nat} (h:jS lo w bo ms k) (hb:Below w.heap.size w w'):jS lo w' bo ms k:=h.above (yO.below hb)
theorem jS.weaken {lo lo':Nat} {w:World} {bo:Nat} {ms:List Gr} {k:Nat} (h:jS lo w bo ms k) (hl:lo'<=lo):jS lo' w bo ms k:=by
 obtain ⟨C,hC,hsz,hr⟩:=h.rows
 refine ⟨Nat.le_trans hl h.low,C,hC,hsz,fun i hi hk=>?_⟩
 obtain ⟨g0,p0,q0,r0,hc⟩:=hr i hi hk
 exact ⟨g0,Nat.le_trans hl p0,q0,r0,hc⟩
def zlI (w:World) (b o:Nat) (v0 v1 v2 v3 v4 v5 v6:Value):World:=(((((((w.setCell ⟨b,o,none⟩ v0).setCell ⟨b,o+1,none⟩ v1).setCell ⟨b,o+2,none⟩ v2).setCell ⟨b,o+3,none⟩ v3).setCell ⟨b,o+4,none⟩ v4).setCell ⟨b,o+5,none⟩ v5).setCell ⟨b,o+6,none⟩ v6)
def zio (C:Array Value) (o:Nat) (v0 v1 v2 v3 v4 v5 v6:Value):Array Value:=(((((((C.setIfInBounds (o) v0).setIfInBounds (o+1) v1).setIfInBounds (o+2) v2).setIfInBounds (o+3) v3).setIfInBounds (o+4) v4).setIfInBounds (o+5) v5).setIfInBounds (o+6) v6)
theorem zl9 {w:World} {b o:Nat} {C:Array Value} {t:TypeId} (h:w.heap[b]?=some (.cells C t)) (v0 v1 v2 v3 v4 v5 v6:Value):(zlI w b o v0 v1 v2 v3 v4 v5 v6).heap[b]?=some (.cells (zio C o v0 v1 v2 v3 v4 v5 v6) t) :=
 zk (zk (zk (zk (zk (zk (zk h v0) v1) v2) v3) v4) v5) v6
theorem zly {B:Nat} {a w:World} (h:Below B a w) {b:Nat} (hb:B<=b) (o:Nat) (v0 v1 v2 v3 v4 v5 v6:Value):Below B a (zlI w b o v0 v1 v2 v3 v4 v5 v6) :=
 ((((((h.setCell hb v0).setCell hb v1).setCell hb v2).setCell hb v3).setCell hb v4).setCell hb v5).setCell hb v6
theorem zhh (w:World) (b o:Nat) (v0 v1 v2 v3 v4 v5 v6:Value) {b':Nat} (h:b' ≠ b):(zlI w b o v0 v1 v2 v3 v4 v5 v6).heap[b']?=w.heap[b']?:=by
 unfold zlI
 iterate 7 rw [zM h]
theorem znl (C:Array Value) (o:Nat) (v0 v1 v2 v3 v4 v5 v6:Value):(zio C o v0 v1 v2 v3 v4 v5 v6).size=C.size:=by simp [zio]
theorem znW (C:Array Value) (o i:Nat) (v0 v1 v2 v3 v4 v5 v6:Value) (h:i < o \/ o+7<=i):(zio C o v0 v1 v2 v3 v4 v5 v6)[i]?=C[i]?:=by
 unfold zio
 iterate 7 rw [Array.getElem?_setIfInBounds,if_neg (by omega)]
theorem zow (C:Array Value) (o j:Nat) (v0 v1 v2 v3 v4 v5 v6:Value) (hj:j < 7) (ho:o+7<=C.size):(zio C o v0 v1 v2 v3 v4 v5 v6)[o+j]?=(#[v0,v1,v2,v3,v4,v5,v6]:Array Value)[j]?:=by
 have hc:j=0 \/ j=1 \/ j=2 \/ j=3 \/ j=4 \/ j=5 \/ j=6:=by omega
 unfold zio
 rcases hc with h | h | h | h | h | h | h <;> subst h <;> simp [Array.getElem?_setIfInBounds] <;> omega
theorem jS.put {lo:Nat} {w:World} {bo:Nat} {ms:List Gr} {k:Nat} (h:jS lo w bo ms k) (hk:k < ms.length) (g0:Nat) (p0:lo<=g0) (q0:g0 ≠ bo) (r0:w.heap[g0]?=some (.cells (zbd ms[k].r.vs) 3)) :
 jS lo (zlI w bo (k * 7) (.int .i64 ms[k].no) (.string ms[k].to) (.string ms[k].gb) (.slice (some ⟨g0,0,none⟩) ms[k].r.vs.length ms[k].r.vs.length) (.string ms[k].r.kd) (.string ms[k].r.tm) (.string ms[k].r.px)) bo ms (k+1):=by
 obtain ⟨C,hC,hsz,hr⟩:=h.rows
 refine ⟨h.low,_,zl9 hC _ _ _ _ _ _ _,by rw [znl];exact hsz,fun i hi hik=>?_⟩
 rcases Nat.lt_or_ge i k with hlt | hge
 ·obtain ⟨g0',x0,y0,z0,hc⟩:=hr i hi hlt
  refine ⟨g0',x0,y0,(by rw [zhh _ _ _ _ _ _ _ _ _ _ y0];exact z0),fun j hj=>?_⟩
  rw [znW _ _ _ _ _ _ _ _ _ _ (by omega)]
  exact hc j hj
 ·have e:i=k:=by omega
  subst e
  refine ⟨g0,p0,q0,(by rw [zhh _ _ _ _ _ _ _ _ _ _ q0];exact r0),fun j hj=>?_⟩
  rw [zow _ _ _ _ _ _ _ _ _ _ hj (by omega)]
  rfl
def zoB:Array Value:=#[.int .i64 0,.string ByteArray.empty,.string ByteArray.empty,.slice none 0 0,.string ByteArray.empty,.string ByteArray.empty,.string ByteArray.empty]
def znq (n:Nat):Array Value:=madeCells zoB (n * 7)
theorem zgA (a:Option Addr) (cap:Nat) (ms:List Gr) (w:World) (hw:zb8 w a ms) (hl:ms.length<=1048576) (hls:∀ i (h:i < ms.length),ms[i].r.vs.length<=1048576) :
 Calls Tryz.prog 30 #[.slice a ms.length cap] w fun e w'=>e = .returned (.slice (some ⟨w.heap.size,0,none⟩) ms.length ms.length)/\jS w.heap.size w' w.heap.size ms ms.length/\Below w.heap.size w w':=by
 have hmk:∀ w:World,(Instr.makeSlice 44 (.int .i64 ms.length) (.int .i64 ms.length)).run Tryz.prog w = .ok (.slice (some ⟨w.heap.size,0,none⟩) ms.length ms.length) (w.alloc (.cells (znq ms.length) 128)) :=
  fun w=>jI (P:=Tryz.prog) 44 128 (.agg zoB) 7 112 Tryz.underlying44 (by kernel_rfl) ms.length (by omega) (by omega) w
 go_enter Tryz.func30,Tryz.ntmps30
 go_wp2_with fail
 clear hmk
 go_loopw [4] (fun i wr=>∃ k:Nat,k<=ms.length/\i = .int .i64 k/\Hid (jS w.heap.size wr w.heap.size ms k)/\Below w.heap.size w wr) (fun i _=>ms.length - (intOf i).toNat)
 case atStart=>exact ⟨0,Nat.zero_le _,rfl,⟨Nat.le_refl _,znq ms.length,(MapKept.heap_alloc w _).1,size_madeCells _ _,fun i _ h=>absurd h (by omega)⟩,(Below.refl _ _).alloc (Nat.le_refl _) _⟩
 case round =>
  obtain ⟨k,hk,rfl,HOW,hB⟩:=hrel
  by_cases hlt:k < ms.length
  ·obtain ⟨b,off,a0,c0,rfl,hb,hsm,hl0,d0,d1,d2,d3,d4,d5,d6⟩:=hw.load hB k hlt
   have HLS:Hid (ms[k].r.vs.length<=1048576):=hls k hlt
   have hltI:(k:Int) < (ms.length:Int):=by omega
   clear hw
   go_wp2_with fail
   refine (zhB ms[k] a0 c0 _ hsm hl0 HLS.out).mono ?_
   rintro e w1 ⟨g0,rfl,p0,r0,hb1⟩
   have hB1:=hB.trans (hb1.mono hB.size)
   have hbo:w.heap.size < wr.heap.size:=by
    obtain ⟨C',hC',_⟩:=HOW.out.rows
    exact (Array.getElem?_eq_some_iff.1 hC').1
   have HP:Hid (jS w.heap.size w1 w.heap.size ms k):=HOW.out.later hb1
   obtain ⟨C,hC,hsz,_⟩:=HP.out.rows
   have hfz:∀ o,w1.frozen? ⟨w.heap.size,o,none⟩=false:=fun o=>zi hC
   have hex:∀ o,o < ms.length * 7->∃ v,w1.cell? ⟨w.heap.size,o,none⟩=some v:=fun o ho=>⟨C[o]'(by omega),by rw [cell_of_block hC];exact Array.getElem?_eq_getElem (by omega)⟩
   obtain ⟨v0,hv0⟩:=hex (k * 7) (by omega)
   obtain ⟨v1,hv1⟩:=hex (k * 7+1) (by omega)
   obtain ⟨v2,hv2⟩:=hex (k * 7+2) (by omega)
   obtain ⟨v3,hv3⟩:=hex (k * 7+3) (by omega)
   obtain ⟨v4,hv4⟩:=hex (k * 7+4) (by omega)
   obtain ⟨v5,hv5⟩:=hex (k * 7+5) (by omega)
   obtain ⟨v6,hv6⟩:=hex (k * 7+6) (by omega)
   have HR:Hid (wr.heap.size<=g0/\w1.heap[g0]?=some (.cells (zbd ms[k].r.vs) 3)):=⟨p0,r0⟩
   clear hex hC hsz d0 d1 d2 d3 d4 d5 d6 p0 r0 hl0
   unfold Gr.cells
   go_wp2_with fail
   obtain ⟨p0,r0⟩:=HR.out
   exact ⟨⟨k+1,by omega,by go_num,HP.out.put hlt g0 (by omega) (by omega) r0,zly hB1 (Nat.le_refl _) _ _ _ _ _ _ _ _⟩,by simp [intOf];omega⟩
  ·have HF:Hid (jS w.heap.size wr w.heap.size ms ms.length):=by
    have e:k=ms.length:=by omega
    subst e;exact HOW.out
   clear hw HOW
   go_wp2_with fail
   go_ret
   exact ⟨rfl,HF.out,hB⟩
theorem lt_of_some {w:World} {b:Nat} {o:Obj} (h:w.heap[b]?=some o):b < w.heap.size:=(Array.getElem?_eq_some_iff.1 h).1
theorem zku {lo lo':Nat} {w:World} {bo:Nat} {ms:List Mnd} {k:Nat} (h:jg lo w bo ms k) (hl:lo'<=lo):jg lo' w bo ms k:=⟨Nat.le_trans hl h.low,h.rows⟩
theorem zkp {ty:TypeId} {lo lo':Nat} {w:World} {bo:Nat} {ts:List Tm} {k:Nat} (h:j5 ty lo w bo ts k) (hl:lo'<=lo):j5 ty lo' w bo ts k:=⟨Nat.le_trans hl h.low,h.rows⟩
theorem zeM (l:Lw) (a b c:Option Addr) (ca cb cc:Nat) (w:World) (hl:y9 w l a b c) (hf:l.Few) :
 Calls Tryz.prog 7 #[.agg (l.cells a b c ca cb cc)] w fun e w'=>∃ lo a' b' c',e = .returned (.agg (l.cells (some ⟨a',0,none⟩) (some ⟨b',0,none⟩) (some ⟨c',0,none⟩) l.ss.length l.ms.length l.ts.length))/\w.heap.size<=lo/\zlf lo w' l a' b' c'/\Below w.heap.size w w':=by
 have HL:Hid (y9 w l a b c):=hl
 have HF:Hid l.Few:=hf
 clear hl hf
 unfold Lw.cells
 go_enter Tryz.func7,Tryz.ntmps7
 go_wp2_with fail
 have k0:=zon w (.cells #[.slice a l.ss.length ca,.slice b l.ms.length cb,.slice c l.ts.length cc] 26) (.cells #[.slice none 0 0,.slice none 0 0,.slice none 0 0] 41) (.cells #[.slice none 0 0,.slice none 0 0,.slice none 0 0] 41)
 have hB0:=below3' w (.cells #[.slice a l.ss.length ca,.slice b l.ms.length cb,.slice c l.ts.length cc] 26) (.cells #[.slice none 0 0,.slice none 0 0,.slice none 0 0] 41) (.cells #[.slice none 0 0,.slice none 0 0,.slice none 0 0] 41)
 obtain ⟨W0,hW0⟩:∃ W0,W0=((w.alloc (.cells #[.slice a l.ss.length ca,.slice b l.ms.length cb,.slice c l.ts.length cc] 26)).alloc (.cells #[.slice none 0 0,.slice none 0 0,.slice none 0 0] 41)).alloc (.cells #[.slice none 0 0,.slice none 0 0,.slice none 0 0] 41):=⟨_,rfl⟩
 have hz0:w.heap.size+1+1 < W0.heap.size:=by rw [hW0];simp
 rw [<- hW0] at k0 hB0 ⊢
 clear hW0
 have HLO:Hid (w.heap.size+1+1 < W0.heap.size):=hz0
 refine (zgH _ _ l.ss _ (HL.out.ss.mono hB0) HF.out.ss.1 HF.out.ss.2).mono ?_
 rintro e w1 ⟨rfl,hown,hb⟩
 obtain ⟨a',ha'⟩:∃ a',a'=W0.heap.size:=⟨_,rfl⟩
 have HO1:Hid (jQ W0.heap.size w1 a' l.ss l.ss.length):=by rw [ha'];exact hown
 have hX1:=(hb.block _ (by omega)).trans k0.1
 have hR1:=(hb.block _ (by omega)).trans k0.2.1
 have hO1:=(hb.block _ hz0).trans k0.2.2
 have HZ1:Hid (W0.heap.size<=w1.heap.size):=hb.size
 have HB1:Hid (Below w.heap.size w w1):=hB0.trans (hb.mono hB0.size)
 rw [<- ha']
 clear hown hb k0 hB0 hz0 ha'
 have cO1:=fun j=>cell_of_block (o:=j) hO1
 have fO1:=fun j=>zi (o:=j) hO1
 have HX1':Hid ((w1.setCell ⟨w.heap.size+1+1,0,none⟩ (.slice (some ⟨a',0,none⟩) l.ss.length l.ss.length)).heap[w.heap.size]?=some (.cells #[.slice a l.ss.length ca,.slice b l.ms.length cb,.slice c l.ts.length cc] 26)):=(zM (by omega)).trans hX1
 have HR1':Hid ((w1.setCell ⟨w.heap.size+1+1,0,none⟩ (.slice (some ⟨a',0,none⟩) l.ss.length l.ss.length)).heap[w.heap.size+1]?=some (.cells #[.slice none 0 0,.slice none 0 0,.slice none 0 0] 41)):=(zM (by omega)).trans hR1
 have HO1':Hid ((w1.setCell ⟨w.heap.size+1+1,0,none⟩ (.slice (some ⟨a',0,none⟩) l.ss.length l.ss.length)).heap[w.heap.size+1+1]?=some (.cells #[.slice (some ⟨a',0,none⟩) l.ss.length l.ss.length,.slice none 0 0,.slice none 0 0] 41)):=zk hO1 _
 have HAB1:Hid (yO W0.heap.size w1 (w1.setCell ⟨w.heap.size+1+1,0,none⟩ (.slice (some ⟨a',0,none⟩) l.ss.length l.ss.length))):=yO.setCell HLO.out _
 have HBB1:Hid (Below w.heap.size w (w1.setCell ⟨w.heap.size+1+1,0,none⟩ (.slice (some ⟨a',0,none⟩) l.ss.length l.ss.length))):=HB1.out.setCell (by show w.heap.size<=w.heap.size+1+1;omega) _
 have HZZ1:Hid (W0.heap.size<=(w1.setCell ⟨w.heap.size+1+1,0,none⟩ (.slice (some ⟨a',0,none⟩) l.ss.length l.ss.length)).heap.size):=by unfold Hid;rw [World.size_setCell];exact HZ1.out
 clear hX1 hR1 hO1
 have cX1:=fun j=>cell_of_block (o:=j) HX1'.out
 have cR1:=fun j=>cell_of_block (o:=j) HR1'.out
 have fR1:=fun j=>zi (o:=j) HR1'.out
 have cOO1:=fun j=>cell_of_block (o:=j) HO1'.out
 go_wp2_with fail
 refine (zhw _ _ l.ms _ (HL.out.ms.mono HBB1.out) HF.out.ms).mono ?_
 rintro e w2 ⟨rfl,hown,hb⟩
 obtain ⟨b',hp'⟩:∃ b',b'=(w1.setCell ⟨w.heap.size+1+1,0,none⟩ (.slice (some ⟨a',0,none⟩) l.ss.length l.ss.length)).heap.size:=⟨_,rfl⟩
 have HN2:Hid (jg W0.heap.size w2 b' l.ms l.ms.length):=by rw [hp'];exact zku hown HZZ1.out
 have HAA2:Hid (yO W0.heap.size w1 w2):=HAB1.out.trans (yO.below hb)
 have hX2:=(hb.block _ (lt_of_some HX1'.out)).trans HX1'.out
 have hR2:=(hb.block _ (lt_of_some HR1'.out)).trans HR1'.out
 have hO2:=(hb.block _ (lt_of_some HO1'.out)).trans HO1'.out
 have HZ2:Hid (W0.heap.size<=w2.heap.size):=Nat.le_trans HZZ1.out hb.size
 have HB2:Hid (Below w.heap.size w w2):=HBB1.out.trans (hb.mono HBB1.out.size)
 rw [<- hp']
 clear hown hb hp' cX1 cR1 fR1 cOO1
 have cO2:=fun j=>cell_of_block (o:=j) hO2
 have fO2:=fun j=>zi (o:=j) hO2
 have HX2':Hid ((w2.setCell ⟨w.heap.size+1+1,1,none⟩ (.slice (some ⟨b',0,none⟩) l.ms.length l.ms.length)).heap[w.heap.size]?=some (.cells #[.slice a l.ss.length ca,.slice b l.ms.length cb,.slice c l.ts.length cc] 26)):=(zM (by omega)).trans hX2
 have HR2':Hid ((w2.setCell ⟨w.heap.size+1+1,1,none⟩ (.slice (some ⟨b',0,none⟩) l.ms.length l.ms.length)).heap[w.heap.size+1]?=some (.cells #[.slice none 0 0,.slice none 0 0,.slice none 0 0] 41)):=(zM (by omega)).trans hR2
 have HO2':Hid ((w2.setCell ⟨w.heap.size+1+1,1,none⟩ (.slice (some ⟨b',0,none⟩) l.ms.length l.ms.length)).heap[w.heap.size+1+1]?=some (.cells #[.slice (some ⟨a',0,none⟩) l.ss.length l.ss.length,.slice (some ⟨b',0,none⟩) l.ms.length l.ms.length,.slice none 0 0] 41)):=zk hO2 _
 have HAB2:Hid (yO W0.heap.size w2 (w2.setCell ⟨w.heap.size+1+1,1,none⟩ (.slice (some ⟨b',0,none⟩) l.ms.length l.ms.length))):=yO.setCell HLO.out _
 have HBB2:Hid (Below w.heap.size w (w2.setCell ⟨w.heap.size+1+1,1,none⟩ (.slice (some ⟨b',0,none⟩) l.ms.length l.ms.length))):=HB2.out.setCell (by show w.heap.size<=w.heap.size+1+1;omega) _
 have HZZ2:Hid (W0.heap.size<=(w2.setCell ⟨w.heap.size+1+1,1,none⟩ (.slice (some ⟨b',0,none⟩) l.ms.length l.ms.length)).heap.size):=by unfold Hid;rw [World.size_setCell];exact HZ2.out
 clear hX2 hR2 hO2
 have cX2:=fun j=>cell_of_block (o:=j) HX2'.out
 have cR2:=fun j=>cell_of_block (o:=j) HR2'.out
 have fR2:=fun j=>zi (o:=j) HR2'.out
 have cOO2:=fun j=>cell_of_block (o:=j) HO2'.out
 go_wp2_with fail
 refine (zhx _ _ l.ts _ (HL.out.ts.mono HBB2.out) HF.out.ts).mono ?_
 rintro e w3 ⟨rfl,hown,hb⟩
 obtain ⟨c',hp'⟩:∃ c',c'=(w2.setCell ⟨w.heap.size+1+1,1,none⟩ (.slice (some ⟨b',0,none⟩) l.ms.length l.ms.length)).heap.size:=⟨_,rfl⟩
 have HN3:Hid (j5 123 W0.heap.size w3 c' l.ts l.ts.length):=by rw [hp'];exact zkp hown HZZ2.out
 have HAA3:Hid (yO W0.heap.size w2 w3):=HAB2.out.trans (yO.below hb)
 have hX3:=(hb.block _ (lt_of_some HX2'.out)).trans HX2'.out
 have hR3:=(hb.block _ (lt_of_some HR2'.out)).trans HR2'.out
 have hO3:=(hb.block _ (lt_of_some HO2'.out)).trans HO2'.out
 have HZ3:Hid (W0.heap.size<=w3.heap.size):=Nat.le_trans HZZ2.out hb.size
 have HB3:Hid (Below w.heap.size w w3):=HBB2.out.trans (hb.mono HBB2.out.size)
 rw [<- hp']
 clear hown hb hp' cX2 cR2 fR2 cOO2
 have cO3:=fun j=>cell_of_block (o:=j) hO3
 have fO3:=fun j=>zi (o:=j) hO3
 have HX3':Hid ((w3.setCell ⟨w.heap.size+1+1,2,none⟩ (.slice (some ⟨c',0,none⟩) l.ts.length l.ts.length)).heap[w.heap.size]?=some (.cells #[.slice a l.ss.length ca,.slice b l.ms.length cb,.slice c l.ts.length cc] 26)):=(zM (by omega)).trans hX3
 have HR3':Hid ((w3.setCell ⟨w.heap.size+1+1,2,none⟩ (.slice (some ⟨c',0,none⟩) l.ts.length l.ts.length)).heap[w.heap.size+1]?=some (.cells #[.slice none 0 0,.slice none 0 0,.slice none 0 0] 41)):=(zM (by omega)).trans hR3
 have HO3':Hid ((w3.setCell ⟨w.heap.size+1+1,2,none⟩ (.slice (some ⟨c',0,none⟩) l.ts.length l.ts.length)).heap[w.heap.size+1+1]?=some (.cells #[.slice (some ⟨a',0,none⟩) l.ss.length l.ss.length,.slice (some ⟨b',0,none⟩) l.ms.length l.ms.length,.slice (some ⟨c',0,none⟩) l.ts.length l.ts.length] 41)):=zk hO3 _
 have HAB3:Hid (yO W0.heap.size w3 (w3.setCell ⟨w.heap.size+1+1,2,none⟩ (.slice (some ⟨c',0,none⟩) l.ts.length l.ts.length))):=yO.setCell HLO.out _
 have HBB3:Hid (Below w.heap.size w (w3.setCell ⟨w.heap.size+1+1,2,none⟩ (.slice (some ⟨c',0,none⟩) l.ts.length l.ts.length))):=HB3.out.setCell (by show w.heap.size<=w.heap.size+1+1;omega) _
 have HZZ3:Hid (W0.heap.size<=(w3.setCell ⟨w.heap.size+1+1,2,none⟩ (.slice (some ⟨c',0,none⟩) l.ts.length l.ts.length)).heap.size):=by unfold Hid;rw [World.size_setCell];exact HZ3.out
 clear hX3 hR3 hO3
 have cX3:=fun j=>cell_of_block (o:=j) HX3'.out
 have cR3:=fun j=>cell_of_block (o:=j) HR3'.out
 have fR3:=fun j=>zi (o:=j) HR3'.out
 have cOO3:=fun j=>cell_of_block (o:=j) HO3'.out
 go_wp2_with fail
 refine bodyPost_ret (v:=.agg #[.slice (some ⟨a',0,none⟩) l.ss.length l.ss.length,.slice (some ⟨b',0,none⟩) l.ms.length l.ms.length,.slice (some ⟨c',0,none⟩) l.ts.length l.ts.length]) (by simp [results,Tryz.results7,go_sem,cR3]) rfl ⟨W0.heap.size,a',b',c',rfl,by have:=HLO.out;omega,?_,?_⟩
 ·have hlt1:w.heap.size+1 < W0.heap.size:=by have:=HLO.out;omega
  have hA3:∀ v0 v1 v2,yO W0.heap.size w3 ((((w3.setCell ⟨w.heap.size+1+1,2,none⟩ (.slice (some ⟨c',0,none⟩) l.ts.length l.ts.length)).setCell ⟨w.heap.size+1,0,none⟩ v0).setCell ⟨w.heap.size+1,1,none⟩ v1).setCell ⟨w.heap.size+1,2,none⟩ v2):=fun v0 v1 v2=>HAB3.out.trans (((yO.setCell (p:=⟨w.heap.size+1,0,none⟩) hlt1 v0).trans (yO.setCell (p:=⟨w.heap.size+1,1,none⟩) hlt1 v1)).trans (yO.setCell (p:=⟨w.heap.size+1,2,none⟩) hlt1 v2))
  exact ⟨HO1.out.above ((HAA2.out.trans HAA3.out).trans (hA3 _ _ _)),HN2.out.above (HAA3.out.trans (hA3 _ _ _)),HN3.out.above (hA3 _ _ _)⟩
 ·exact ((HBB3.out.setCell (Nat.le_succ _) _).setCell (Nat.le_succ _) _).setCell (Nat.le_succ _) _
theorem zcP (l:Lw) (a b c:Option Addr) (ca cb cc:Nat) (w:World) (hl:y9 w l a b c) (hf:l.Few) :
 Calls Tryz.prog 7 #[.agg (l.cells a b c ca cb cc)] w fun e w'=>∃ a' b' c',e = .returned (.agg (l.cells a' b' c' l.ss.length l.ms.length l.ts.length))/\y9 w' l a' b' c'/\Below w.heap.size w w':=by
 refine (zeM l a b c ca cb cc w hl hf).mono ?_
 rintro e w' ⟨lo,a',b',c',he,_,ho,hb⟩
 exact ⟨_,_,_,he,ho.at hl.small,hb⟩
structure Bk where
 now:Int
 tick:Int
 given:Int
 os:List Ob
 gs:List Gr
 ls:List Lg
 ps:List Pu
def Bk.cells (b:Bk) (a0 a1 a2 a3:Option Addr) (c0 c1 c2 c3:Nat):Array Value:=#[.int .i64 b.now,.int .i64 b.tick,.int .i64 b.given,.slice a0 b.os.length c0,.slice a1 b.gs.length c1,.slice a2 b.ls.length c2,.slice a3 b.ps.length c3]
structure qw (w:World) (b:Bk) (a0 a1 a2 a3:Option Addr):Prop where
 os:zbq w a0 b.os
 gs:zb8 w a1 b.gs
 ls:zbY w a2 b.ls
 ps:zcO w a3 b.ps
theorem qw.mono {w w':World} {b:Bk} {a0 a1 a2 a3:Option Addr} (h:qw w b a0 a1 a2 a3) (hb:Below w.heap.size w w'):qw w' b a0 a1 a2 a3:=⟨h.os.mono hb,h.gs.mono hb,h.ls.mono hb,h.ps.mono hb⟩
def Bk.sz (b:Bk):Nat:=qD b.os+zbX b.gs+zco b.ls+zcJ b.ps
structure Bk.Few (b:Bk):Prop where
 os:b.os.length<=1048576/\∀ i (h:i < b.os.length),b.os[i].vs.length<=1048576/\b.os[i].hs.length<=1048576
 gs:b.gs.length<=1048576/\∀ i (h:i < b.gs.length),b.gs[i].r.vs.length<=1048576
 ls:b.ls.length<=1048576
 ps:b.ps.length<=1048576
theorem Bk.few {b:Bk} (h:(b.sz:Int)<=1048576):b.Few:=by
 unfold Bk.sz at h
 refine ⟨zkY (left:=1048576) (by omega) (by omega),zoZ (left:=1048576) (by omega) (by omega),?_,?_⟩
 ·unfold zco at h;omega
 ·unfold zcJ at h;omega
structure Bk.Small (b:Bk):Prop where
 os:zfj b.os
 lo:b.os.length<=maxLen
 gs:zi2 b.gs
 lg:b.gs.length<=maxLen
 ls:∀ i (h:i < b.ls.length),b.ls[i].Small
 ll:b.ls.length<=maxLen
 ps:∀ i (h:i < b.ps.length),b.ps[i].Small
 lp:b.ps.length<=maxLen
theorem qw.small {w:World} {b:Bk} {a0 a1 a2 a3:Option Addr} (h:qw w b a0 a1 a2 a3):b.Small:=⟨h.os.smalls,h.os.len,h.gs.smalls,h.gs.len,h.ls.small,h.ls.len,h.ps.small,h.ps.len⟩
structure zlA (lo:Nat) (w:World) (b:Bk) (g0 g1 g2 g3:Nat):Prop where
 os:jZ lo w g0 b.os b.os.length
 gs:jS lo w g1 b.gs b.gs.length
 ls:jR lo w g2 b.ls b.ls.length
 ps:jT lo w g3 b.ps b.ps.length
theorem zlA.at {lo:Nat} {w:World} {b:Bk} {g0 g1 g2 g3:Nat} (h:zlA lo w b g0 g1 g2 g3) (hs:b.Small):qw w b (some ⟨g0,0,none⟩) (some ⟨g1,0,none⟩) (some ⟨g2,0,none⟩) (some ⟨g3,0,none⟩):=⟨h.os.at hs.os hs.lo,h.gs.at hs.gs hs.lg,h.ls.at hs.ls hs.ll,h.ps.at hs.ps hs.lp⟩
theorem ziD (b:Bk) (a0 a1 a2 a3:Option Addr) (c0 c1 c2 c3:Nat) (left:Int) (w:World) (hl:qw w b a0 a1 a2 a3) (h0:0<=left) (h1:left<=1048576) :
 Calls Tryz.prog 5 #[.agg (b.cells a0 a1 a2 a3 c0 c1 c2 c3),.int .i64 left] w fun e w'=>e = .returned (.int .i64 (zK b.sz left))/\Below w.heap.size w w':=by
 have HL:Hid (qw w b a0 a1 a2 a3):=hl
 clear hl
 unfold Bk.cells
 go_enter Tryz.func5,Tryz.ntmps5
 go_wp2_with fail
 refine (zf2 _ _ b.os _ _ (HL.out.os.mono ((Below.refl _ _).alloc (Nat.le_refl _) _)) h0 h1).mono ?_
 rintro e w1 ⟨rfl,hb⟩
 have hX1:=za (zm w #[.int .i64 b.now,.int .i64 b.tick,.int .i64 b.given,.slice a0 b.os.length c0,.slice a1 b.gs.length c1,.slice a2 b.ls.length c2,.slice a3 b.ps.length c3] 32) (by simp) hb
 have hz1:w.heap.size < w1.heap.size:=by have:=hb.size;simp at this;omega
 have hB1:Below w.heap.size w w1:=((Below.refl _ _).alloc (Nat.le_refl _) _).trans (hb.mono (by simp))
 clear hb
 by_cases q1:(qD b.os:Int)<=left
 rotate_left
 ·have HF:Hid (zK b.sz left=-1):=zC (by unfold Bk.sz;omega)
  rw [zC q1]
  go_wp2_with fail
  go_ret
  exact ⟨zq HF.out.symm,hB1⟩
 rw [zL q1]
 go_wp2_with fail
 refine (zgm _ _ b.gs _ _ (HL.out.gs.mono hB1) (by omega) (by omega)).mono ?_
 rintro e w2 ⟨rfl,hb⟩
 have hX2:=za hX1 hz1 hb
 have hz2:=Nat.lt_of_lt_of_le hz1 hb.size
 have hB2:=hB1.trans (hb.mono hB1.size)
 clear hb hX1 hz1 hB1
 by_cases q2:(zbX b.gs:Int)<=left - qD b.os
 rotate_left
 ·have HF:Hid (zK b.sz left=-1):=zC (by unfold Bk.sz;omega)
  rw [zC q2]
  go_wp2_with fail
  go_ret
  exact ⟨zq HF.out.symm,hB2⟩
 rw [zL q2]
 go_wp2_with fail
 refine (zfD _ _ b.ls _ _ (HL.out.ls.mono hB2) (by omega) (by omega)).mono ?_
 rintro e w3 ⟨rfl,hb⟩
 have hX3:=za hX2 hz2 hb
 have hz3:=Nat.lt_of_lt_of_le hz2 hb.size
 have hB3:=hB2.trans (hb.mono hB2.size)
 clear hb hX2 hz2 hB2
 by_cases q3:(zco b.ls:Int)<=left - qD b.os - zbX b.gs
 rotate_left
 ·have HF:Hid (zK b.sz left=-1):=zC (by unfold Bk.sz;omega)
  rw [zC q3]
  go_wp2_with fail
  go_ret
  exact ⟨zq HF.out.symm,hB3⟩
 rw [zL q3]
 go_wp2_with fail
 refine (zgI _ _ b.ps _ _ (HL.out.ps.mono hB3) (by omega) (by omega)).mono ?_
 rintro e w4 ⟨rfl,hb⟩
 have hX4:=za hX3 hz3 hb
 have hz4:=Nat.lt_of_lt_of_le hz3 hb.size
 have hB4:=hB3.trans (hb.mono hB3.size)
 clear hb hX3 hz3 hB3
 by_cases q4:(zcJ b.ps:Int)<=left - qD b.os - zbX b.gs - zco b.ls
 rotate_left
 ·have HF:Hid (zK b.sz left=-1):=zC (by unfold Bk.sz;omega)
  rw [zC q4]
  go_wp2_with fail
  go_ret
  exact ⟨zq HF.out.symm,hB4⟩
 have HF:Hid (zK b.sz left=left - qD b.os - zbX b.gs - zco b.ls - zcJ b.ps):=by
  unfold Hid;rw [zL (by unfold Bk.sz;omega)];unfold Bk.sz;omega
 rw [zL q4]
 go_wp2_with fail
 go_ret
 exact ⟨zq HF.out.symm,hB4⟩
theorem ziM (b:Bk) (a0 a1 a2 a3:Option Addr) (c0 c1 c2 c3:Nat) (a0' a1' a2' a3':Option Addr) (c0' c1' c2' c3':Nat) (w:World) (hl:qw w b a0 a1 a2 a3) (hl':qw w b a0' a1' a2' a3') :
 Calls Tryz.prog 12 #[.agg (b.cells a0 a1 a2 a3 c0 c1 c2 c3),.agg (b.cells a0' a1' a2' a3' c0' c1' c2' c3')] w fun e w'=>e = .returned (.bool true)/\Below w.heap.size w w':=by
 have HL:Hid (qw w b a0 a1 a2 a3/\qw w b a0' a1' a2' a3'):=⟨hl,hl'⟩
 clear hl hl'
 have n1:(b.now != b.now)=false:=by simp
 have n2:(b.tick != b.tick)=false:=by simp
 have n3:(b.given != b.given)=false:=by simp
 unfold Bk.cells
 go_enter Tryz.func12,Tryz.ntmps12
 go_wp2_with fail
 refine (zfB _ _ _ _ b.os _ (HL.out.1.os.mono (zA _ _ _)) (HL.out.2.os.mono (zA _ _ _))).mono ?_
 rintro e w1 ⟨rfl,hb⟩
 have hX1:=za (za (zm w _ _) (by simp) ((Below.refl _ _).alloc (Nat.le_refl _) _)) (by simp;omega) hb
 have hY1:=za (zm (w.alloc (.cells #[.int .i64 b.now,.int .i64 b.tick,.int .i64 b.given,.slice a0 b.os.length c0,.slice a1 b.gs.length c1,.slice a2 b.ls.length c2,.slice a3 b.ps.length c3] 48)) #[.int .i64 b.now,.int .i64 b.tick,.int .i64 b.given,.slice a0' b.os.length c0',.slice a1' b.gs.length c1',.slice a2' b.ls.length c2',.slice a3' b.ps.length c3'] 48) (by simp) hb
 have hz1:w.heap.size+1 < w1.heap.size:=by have:=hb.size;simp at this;omega
 have hB1:=(zA w _ _).trans (hb.mono (by simp;omega))
 rw [World.size_alloc] at hY1
 clear hb
 go_wp2_with fail
 refine (zgn _ _ _ _ b.gs _ (HL.out.1.gs.mono hB1) (HL.out.2.gs.mono hB1)).mono ?_
 rintro e w2 ⟨rfl,hb⟩
 have hX2:=za hX1 (Nat.lt_of_succ_lt hz1) hb
 have hY2:=za hY1 hz1 hb
 have hz2:=Nat.lt_of_lt_of_le hz1 hb.size
 have hB2:=hB1.trans (hb.mono hB1.size)
 clear hb hX1 hY1 hz1 hB1
 go_wp2_with fail
 refine (zf9 _ _ _ _ b.ls _ (HL.out.1.ls.mono hB2) (HL.out.2.ls.mono hB2)).mono ?_
 rintro e w3 ⟨rfl,hb⟩
 have hX3:=za hX2 (Nat.lt_of_succ_lt hz2) hb
 have hY3:=za hY2 hz2 hb
 have hz3:=Nat.lt_of_lt_of_le hz2 hb.size
 have hB3:=hB2.trans (hb.mono hB2.size)
 clear hb hX2 hY2 hz2 hB2
 go_wp2_with fail
 refine (zgG _ _ _ _ b.ps _ (HL.out.1.ps.mono hB3) (HL.out.2.ps.mono hB3)).mono ?_
 rintro e w4 ⟨rfl,hb⟩
 have hX4:=za hX3 (Nat.lt_of_succ_lt hz3) hb
 have hY4:=za hY3 hz3 hb
 have hz4:=Nat.lt_of_lt_of_le hz3 hb.size
 have hB4:=hB3.trans (hb.mono hB3.size)
 clear hb hX3 hY3 hz3 hB3
 go_wp2_with fail
 go_ret
 exact ⟨rfl,hB4⟩
end Go.Proofs.YtihdafafigceiaaGreat
