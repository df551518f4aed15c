import Derived.Test.YtaickbhifenbjaaGreatM06
import Derived.Test.YtaickbhifenbjaaGreatM07
import Derived.Test.YtaickbhifenbjaaGreatM08
import Derived.Test.YtaickbhifenbjaaGreatM01
set_option maxHeartbeats 2000000
namespace Go.Proofs.YtaickbhifenbjaaGreat
open Go.RowKit
theorem lt_of_some {w:World} {b:Nat} {o:Obj} (h:w.heap[b]?=some o):b < w.heap.size:=(Array.getElem?_eq_some_iff.1 h).1
theorem zj7 {lo lo':Nat} {w:World} {bo:Nat} {ms:List Mnd} {k:Nat} (h:jy lo w bo ms k) (hl:lo'<=lo):jy lo' w bo ms k:=⟨Nat.le_trans hl h.low,h.rows⟩
theorem zkh {ty:TypeId} {lo lo':Nat} {w:World} {bo:Nat} {ts:List Tm} {k:Nat} (h:zai ty lo w bo ts k) (hl:lo'<=lo):zai ty lo' w bo ts k:=⟨Nat.le_trans hl h.low,h.rows⟩
theorem zjb (l:Lw) (a b c:Option Addr) (ca cb cc:Nat) (w:World) (hl:qp w l a b c) (hf:l.Few) :
 Calls Tryz.prog 8 #[.agg (l.cells a b c ca cb cc)] w fun e w'=>∃ lo a' b' c',e = .returned (.agg (l.cells (some ⟨a',0,none⟩) (some ⟨b',0,none⟩) (some ⟨c',0,none⟩) l.ss.length l.ms.length l.ts.length))/\w.heap.size<=lo/\zoq lo w' l a' b' c'/\Below w.heap.size w w':=by
 have HL:Hid (qp w l a b c):=hl
 have HF:Hid l.Few:=hf
 clear hl hf
 unfold Lw.cells
 go_enter Tryz.func8,Tryz.ntmps8
 go_wp2_with fail
 have k0:=zoF w (.cells #[.slice a l.ss.length ca,.slice b l.ms.length cb,.slice c l.ts.length cc] 26) (.cells #[.slice none 0 0,.slice none 0 0,.slice none 0 0] 43) (.cells #[.slice none 0 0,.slice none 0 0,.slice none 0 0] 43)
 have hB0:=below3' w (.cells #[.slice a l.ss.length ca,.slice b l.ms.length cb,.slice c l.ts.length cc] 26) (.cells #[.slice none 0 0,.slice none 0 0,.slice none 0 0] 43) (.cells #[.slice none 0 0,.slice none 0 0,.slice none 0 0] 43)
 obtain ⟨W0,hW0⟩:∃ W0,W0=((w.alloc (.cells #[.slice a l.ss.length ca,.slice b l.ms.length cb,.slice c l.ts.length cc] 26)).alloc (.cells #[.slice none 0 0,.slice none 0 0,.slice none 0 0] 43)).alloc (.cells #[.slice none 0 0,.slice none 0 0,.slice none 0 0] 43):=⟨_,rfl⟩
 have hz0:w.heap.size+1+1 < W0.heap.size:=by rw [hW0];simp
 rw [<- hW0] at k0 hB0 ⊢
 clear hW0
 have HLO:Hid (w.heap.size+1+1 < W0.heap.size):=hz0
 refine (zf7 _ _ l.ss _ (HL.out.ss.mono hB0) HF.out.ss.1 HF.out.ss.2).mono ?_
 rintro e w1 ⟨rfl,hown,hb⟩
 obtain ⟨a',ha'⟩:∃ a',a'=W0.heap.size:=⟨_,rfl⟩
 have HO1:Hid (jX W0.heap.size w1 a' l.ss l.ss.length):=by rw [ha'];exact hown
 have hX1:=(hb.block _ (by omega)).trans k0.1
 have hR1:=(hb.block _ (by omega)).trans k0.2.1
 have hO1:=(hb.block _ hz0).trans k0.2.2
 have HZ1:Hid (W0.heap.size<=w1.heap.size):=hb.size
 have HB1:Hid (Below w.heap.size w w1):=hB0.trans (hb.mono hB0.size)
 rw [<- ha']
 clear hown hb k0 hB0 hz0 ha'
 have cO1:=fun j=>cell_of_block (o:=j) hO1
 have fO1:=fun j=>zn (o:=j) hO1
 have HX1':Hid ((w1.setCell ⟨w.heap.size+1+1,0,none⟩ (.slice (some ⟨a',0,none⟩) l.ss.length l.ss.length)).heap[w.heap.size]?=some (.cells #[.slice a l.ss.length ca,.slice b l.ms.length cb,.slice c l.ts.length cc] 26)):=(zN (by omega)).trans hX1
 have HR1':Hid ((w1.setCell ⟨w.heap.size+1+1,0,none⟩ (.slice (some ⟨a',0,none⟩) l.ss.length l.ss.length)).heap[w.heap.size+1]?=some (.cells #[.slice none 0 0,.slice none 0 0,.slice none 0 0] 43)):=(zN (by omega)).trans hR1
 have HO1':Hid ((w1.setCell ⟨w.heap.size+1+1,0,none⟩ (.slice (some ⟨a',0,none⟩) l.ss.length l.ss.length)).heap[w.heap.size+1+1]?=some (.cells #[.slice (some ⟨a',0,none⟩) l.ss.length l.ss.length,.slice none 0 0,.slice none 0 0] 43)):=zi hO1 _
 have HAB1:Hid (yS W0.heap.size w1 (w1.setCell ⟨w.heap.size+1+1,0,none⟩ (.slice (some ⟨a',0,none⟩) l.ss.length l.ss.length))):=yS.setCell HLO.out _
 have HBB1:Hid (Below w.heap.size w (w1.setCell ⟨w.heap.size+1+1,0,none⟩ (.slice (some ⟨a',0,none⟩) l.ss.length l.ss.length))):=HB1.out.setCell (by show w.heap.size<=w.heap.size+1+1;omega) _
 have HZZ1:Hid (W0.heap.size<=(w1.setCell ⟨w.heap.size+1+1,0,none⟩ (.slice (some ⟨a',0,none⟩) l.ss.length l.ss.length)).heap.size):=by unfold Hid;rw [World.size_setCell];exact HZ1.out
 clear hX1 hR1 hO1
 have cX1:=fun j=>cell_of_block (o:=j) HX1'.out
 have cR1:=fun j=>cell_of_block (o:=j) HR1'.out
 have fR1:=fun j=>zn (o:=j) HR1'.out
 have cOO1:=fun j=>cell_of_block (o:=j) HO1'.out
 go_wp2_with fail
 refine (zhq _ _ l.ms _ (HL.out.ms.mono HBB1.out) HF.out.ms).mono ?_
 rintro e w2 ⟨rfl,hown,hb⟩
 obtain ⟨b',hp'⟩:∃ b',b'=(w1.setCell ⟨w.heap.size+1+1,0,none⟩ (.slice (some ⟨a',0,none⟩) l.ss.length l.ss.length)).heap.size:=⟨_,rfl⟩
 have HN2:Hid (jy W0.heap.size w2 b' l.ms l.ms.length):=by rw [hp'];exact zj7 hown HZZ1.out
 have HAA2:Hid (yS W0.heap.size w1 w2):=HAB1.out.trans (yS.below hb)
 have hX2:=(hb.block _ (lt_of_some HX1'.out)).trans HX1'.out
 have hR2:=(hb.block _ (lt_of_some HR1'.out)).trans HR1'.out
 have hO2:=(hb.block _ (lt_of_some HO1'.out)).trans HO1'.out
 have HZ2:Hid (W0.heap.size<=w2.heap.size):=Nat.le_trans HZZ1.out hb.size
 have HB2:Hid (Below w.heap.size w w2):=HBB1.out.trans (hb.mono HBB1.out.size)
 rw [<- hp']
 clear hown hb hp' cX1 cR1 fR1 cOO1
 have cO2:=fun j=>cell_of_block (o:=j) hO2
 have fO2:=fun j=>zn (o:=j) hO2
 have HX2':Hid ((w2.setCell ⟨w.heap.size+1+1,1,none⟩ (.slice (some ⟨b',0,none⟩) l.ms.length l.ms.length)).heap[w.heap.size]?=some (.cells #[.slice a l.ss.length ca,.slice b l.ms.length cb,.slice c l.ts.length cc] 26)):=(zN (by omega)).trans hX2
 have HR2':Hid ((w2.setCell ⟨w.heap.size+1+1,1,none⟩ (.slice (some ⟨b',0,none⟩) l.ms.length l.ms.length)).heap[w.heap.size+1]?=some (.cells #[.slice none 0 0,.slice none 0 0,.slice none 0 0] 43)):=(zN (by omega)).trans hR2
 have HO2':Hid ((w2.setCell ⟨w.heap.size+1+1,1,none⟩ (.slice (some ⟨b',0,none⟩) l.ms.length l.ms.length)).heap[w.heap.size+1+1]?=some (.cells #[.slice (some ⟨a',0,none⟩) l.ss.length l.ss.length,.slice (some ⟨b',0,none⟩) l.ms.length l.ms.length,.slice none 0 0] 43)):=zi hO2 _
 have HAB2:Hid (yS W0.heap.size w2 (w2.setCell ⟨w.heap.size+1+1,1,none⟩ (.slice (some ⟨b',0,none⟩) l.ms.length l.ms.length))):=yS.setCell HLO.out _
 have HBB2:Hid (Below w.heap.size w (w2.setCell ⟨w.heap.size+1+1,1,none⟩ (.slice (some ⟨b',0,none⟩) l.ms.length l.ms.length))):=HB2.out.setCell (by show w.heap.size<=w.heap.size+1+1;omega) _
 have HZZ2:Hid (W0.heap.size<=(w2.setCell ⟨w.heap.size+1+1,1,none⟩ (.slice (some ⟨b',0,none⟩) l.ms.length l.ms.length)).heap.size):=by unfold Hid;rw [World.size_setCell];exact HZ2.out
 clear hX2 hR2 hO2
 have cX2:=fun j=>cell_of_block (o:=j) HX2'.out
 have cR2:=fun j=>cell_of_block (o:=j) HR2'.out
 have fR2:=fun j=>zn (o:=j) HR2'.out
 have cOO2:=fun j=>cell_of_block (o:=j) HO2'.out
 go_wp2_with fail
 refine (zg0 _ _ l.ts _ (HL.out.ts.mono HBB2.out) HF.out.ts).mono ?_
 rintro e w3 ⟨rfl,hown,hb⟩
 obtain ⟨c',hp'⟩:∃ c',c'=(w2.setCell ⟨w.heap.size+1+1,1,none⟩ (.slice (some ⟨b',0,none⟩) l.ms.length l.ms.length)).heap.size:=⟨_,rfl⟩
 have HN3:Hid (zai 119 W0.heap.size w3 c' l.ts l.ts.length):=by rw [hp'];exact zkh hown HZZ2.out
 have HAA3:Hid (yS W0.heap.size w2 w3):=HAB2.out.trans (yS.below hb)
 have hX3:=(hb.block _ (lt_of_some HX2'.out)).trans HX2'.out
 have hR3:=(hb.block _ (lt_of_some HR2'.out)).trans HR2'.out
 have hO3:=(hb.block _ (lt_of_some HO2'.out)).trans HO2'.out
 have HZ3:Hid (W0.heap.size<=w3.heap.size):=Nat.le_trans HZZ2.out hb.size
 have HB3:Hid (Below w.heap.size w w3):=HBB2.out.trans (hb.mono HBB2.out.size)
 rw [<- hp']
 clear hown hb hp' cX2 cR2 fR2 cOO2
 have cO3:=fun j=>cell_of_block (o:=j) hO3
 have fO3:=fun j=>zn (o:=j) hO3
 have HX3':Hid ((w3.setCell ⟨w.heap.size+1+1,2,none⟩ (.slice (some ⟨c',0,none⟩) l.ts.length l.ts.length)).heap[w.heap.size]?=some (.cells #[.slice a l.ss.length ca,.slice b l.ms.length cb,.slice c l.ts.length cc] 26)):=(zN (by omega)).trans hX3
 have HR3':Hid ((w3.setCell ⟨w.heap.size+1+1,2,none⟩ (.slice (some ⟨c',0,none⟩) l.ts.length l.ts.length)).heap[w.heap.size+1]?=some (.cells #[.slice none 0 0,.slice none 0 0,.slice none 0 0] 43)):=(zN (by omega)).trans hR3
 have HO3':Hid ((w3.setCell ⟨w.heap.size+1+1,2,none⟩ (.slice (some ⟨c',0,none⟩) l.ts.length l.ts.length)).heap[w.heap.size+1+1]?=some (.cells #[.slice (some ⟨a',0,none⟩) l.ss.length l.ss.length,.slice (some ⟨b',0,none⟩) l.ms.length l.ms.length,.slice (some ⟨c',0,none⟩) l.ts.length l.ts.length] 43)):=zi hO3 _
 have HAB3:Hid (yS W0.heap.size w3 (w3.setCell ⟨w.heap.size+1+1,2,none⟩ (.slice (some ⟨c',0,none⟩) l.ts.length l.ts.length))):=yS.setCell HLO.out _
 have HBB3:Hid (Below w.heap.size w (w3.setCell ⟨w.heap.size+1+1,2,none⟩ (.slice (some ⟨c',0,none⟩) l.ts.length l.ts.length))):=HB3.out.setCell (by show w.heap.size<=w.heap.size+1+1;omega) _
 have HZZ3:Hid (W0.heap.size<=(w3.setCell ⟨w.heap.size+1+1,2,none⟩ (.slice (some ⟨c',0,none⟩) l.ts.length l.ts.length)).heap.size):=by unfold Hid;rw [World.size_setCell];exact HZ3.out
 clear hX3 hR3 hO3
 have cX3:=fun j=>cell_of_block (o:=j) HX3'.out
 have cR3:=fun j=>cell_of_block (o:=j) HR3'.out
 have fR3:=fun j=>zn (o:=j) HR3'.out
 have cOO3:=fun j=>cell_of_block (o:=j) HO3'.out
 go_wp2_with fail
 refine bodyPost_ret (v:=.agg #[.slice (some ⟨a',0,none⟩) l.ss.length l.ss.length,.slice (some ⟨b',0,none⟩) l.ms.length l.ms.length,.slice (some ⟨c',0,none⟩) l.ts.length l.ts.length]) (by simp [results,Tryz.results8,go_sem,cR3]) rfl ⟨W0.heap.size,a',b',c',rfl,by have:=HLO.out;omega,?_,?_⟩
 ·have hlt1:w.heap.size+1 < W0.heap.size:=by have:=HLO.out;omega
  have hA3:∀ v0 v1 v2,yS W0.heap.size w3 ((((w3.setCell ⟨w.heap.size+1+1,2,none⟩ (.slice (some ⟨c',0,none⟩) l.ts.length l.ts.length)).setCell ⟨w.heap.size+1,0,none⟩ v0).setCell ⟨w.heap.size+1,1,none⟩ v1).setCell ⟨w.heap.size+1,2,none⟩ v2):=fun v0 v1 v2=>HAB3.out.trans (((yS.setCell (p:=⟨w.heap.size+1,0,none⟩) hlt1 v0).trans (yS.setCell (p:=⟨w.heap.size+1,1,none⟩) hlt1 v1)).trans (yS.setCell (p:=⟨w.heap.size+1,2,none⟩) hlt1 v2))
  exact ⟨HO1.out.above ((HAA2.out.trans HAA3.out).trans (hA3 _ _ _)),HN2.out.above (HAA3.out.trans (hA3 _ _ _)),HN3.out.above (hA3 _ _ _)⟩
 ·exact ((HBB3.out.setCell (Nat.le_succ _) _).setCell (Nat.le_succ _) _).setCell (Nat.le_succ _) _
theorem zcL (l:Lw) (a b c:Option Addr) (ca cb cc:Nat) (w:World) (hl:qp w l a b c) (hf:l.Few) :
 Calls Tryz.prog 8 #[.agg (l.cells a b c ca cb cc)] w fun e w'=>∃ a' b' c',e = .returned (.agg (l.cells a' b' c' l.ss.length l.ms.length l.ts.length))/\qp w' l a' b' c'/\Below w.heap.size w w':=by
 refine (zjb l a b c ca cb cc w hl hf).mono ?_
 rintro e w' ⟨lo,a',b',c',he,_,ho,hb⟩
 exact ⟨_,_,_,he,ho.at hl.small,hb⟩
structure Bk where
 now:Int
 tick:Int
 given:Int
 os:List Ob
 gs:List Gr
 ls:List Lg
 ps:List Pu
def Bk.cells (b:Bk) (a0 a1 a2 a3:Option Addr) (c0 c1 c2 c3:Nat):Array Value:=#[.int .i64 b.now,.int .i64 b.tick,.int .i64 b.given,.slice a0 b.os.length c0,.slice a1 b.gs.length c1,.slice a2 b.ls.length c2,.slice a3 b.ps.length c3]
structure qA (w:World) (b:Bk) (a0 a1 a2 a3:Option Addr):Prop where
 os:zbr w a0 b.os
 gs:zbb w a1 b.gs
 ls:zbL w a2 b.ls
 ps:zcF w a3 b.ps
theorem qA.mono {w w':World} {b:Bk} {a0 a1 a2 a3:Option Addr} (h:qA w b a0 a1 a2 a3) (hb:Below w.heap.size w w'):qA w' b a0 a1 a2 a3:=⟨h.os.mono hb,h.gs.mono hb,h.ls.mono hb,h.ps.mono hb⟩
def Bk.sz (b:Bk):Nat:=qE b.os+zbK b.gs+zce b.ls+zcC b.ps
structure Bk.Few (b:Bk):Prop where
 os:b.os.length<=1048576/\∀ i (h:i < b.os.length),b.os[i].vs.length<=1048576/\b.os[i].hs.length<=1048576
 gs:b.gs.length<=1048576/\∀ i (h:i < b.gs.length),b.gs[i].r.vs.length<=1048576
 ls:b.ls.length<=1048576
 ps:b.ps.length<=1048576
theorem Bk.few {b:Bk} (h:(b.sz:Int)<=1048576):b.Few:=by
 unfold Bk.sz at h
 refine ⟨zj5 (left:=1048576) (by omega) (by omega),zoB (left:=1048576) (by omega) (by omega),?_,?_⟩
 ·unfold zce at h;omega
 ·unfold zcC at h;omega
structure Bk.Small (b:Bk):Prop where
 os:zfi b.os
 lo:b.os.length<=maxLen
 gs:ziC b.gs
 lg:b.gs.length<=maxLen
 ls:∀ i (h:i < b.ls.length),b.ls[i].Small
 ll:b.ls.length<=maxLen
 ps:∀ i (h:i < b.ps.length),b.ps[i].Small
 lp:b.ps.length<=maxLen
theorem qA.small {w:World} {b:Bk} {a0 a1 a2 a3:Option Addr} (h:qA w b a0 a1 a2 a3):b.Small:=⟨h.os.smalls,h.os.len,h.gs.smalls,h.gs.len,h.ls.small,h.ls.len,h.ps.small,h.ps.len⟩
structure zn7 (lo:Nat) (w:World) (b:Bk) (g0 g1 g2 g3:Nat):Prop where
 os:zaf lo w g0 b.os b.os.length
 gs:j5 lo w g1 b.gs b.gs.length
 ls:j4 lo w g2 b.ls b.ls.length
 ps:j3 lo w g3 b.ps b.ps.length
theorem zn7.at {lo:Nat} {w:World} {b:Bk} {g0 g1 g2 g3:Nat} (h:zn7 lo w b g0 g1 g2 g3) (hs:b.Small):qA w b (some ⟨g0,0,none⟩) (some ⟨g1,0,none⟩) (some ⟨g2,0,none⟩) (some ⟨g3,0,none⟩):=⟨h.os.at hs.os hs.lo,h.gs.at hs.gs hs.lg,h.ls.at hs.ls hs.ll,h.ps.at hs.ps hs.lp⟩
theorem ziD (b:Bk) (a0 a1 a2 a3:Option Addr) (c0 c1 c2 c3:Nat) (left:Int) (w:World) (hl:qA w b a0 a1 a2 a3) (h0:0<=left) (h1:left<=1048576) :
 Calls Tryz.prog 5 #[.agg (b.cells a0 a1 a2 a3 c0 c1 c2 c3),.int .i64 left] w fun e w'=>e = .returned (.int .i64 (zL b.sz left))/\Below w.heap.size w w':=by
 have HL:Hid (qA w b a0 a1 a2 a3):=hl
 clear hl
 unfold Bk.cells
 go_enter Tryz.func5,Tryz.ntmps5
 go_wp2_with fail
 refine (zfg _ _ b.os _ _ (HL.out.os.mono ((Below.refl _ _).alloc (Nat.le_refl _) _)) h0 h1).mono ?_
 rintro e w1 ⟨rfl,hb⟩
 have hX1:=za (zl w #[.int .i64 b.now,.int .i64 b.tick,.int .i64 b.given,.slice a0 b.os.length c0,.slice a1 b.gs.length c1,.slice a2 b.ls.length c2,.slice a3 b.ps.length c3] 32) (by simp) hb
 have hz1:w.heap.size < w1.heap.size:=by have:=hb.size;simp at this;omega
 have hB1:Below w.heap.size w w1:=((Below.refl _ _).alloc (Nat.le_refl _) _).trans (hb.mono (by simp))
 clear hb
 by_cases q1:(qE b.os:Int)<=left
 rotate_left
 ·have HF:Hid (zL b.sz left=-1):=zD (by unfold Bk.sz;omega)
  rw [zD q1]
  go_wp2_with fail
  go_ret
  exact ⟨zm HF.out.symm,hB1⟩
 rw [zM q1]
 go_wp2_with fail
 refine (zgo _ _ b.gs _ _ (HL.out.gs.mono hB1) (by omega) (by omega)).mono ?_
 rintro e w2 ⟨rfl,hb⟩
 have hX2:=za hX1 hz1 hb
 have hz2:=Nat.lt_of_lt_of_le hz1 hb.size
 have hB2:=hB1.trans (hb.mono hB1.size)
 clear hb hX1 hz1 hB1
 by_cases q2:(zbK b.gs:Int)<=left - qE b.os
 rotate_left
 ·have HF:Hid (zL b.sz left=-1):=zD (by unfold Bk.sz;omega)
  rw [zD q2]
  go_wp2_with fail
  go_ret
  exact ⟨zm HF.out.symm,hB2⟩
 rw [zM q2]
 go_wp2_with fail
 refine (zfl _ _ b.ls _ _ (HL.out.ls.mono hB2) (by omega) (by omega)).mono ?_
 rintro e w3 ⟨rfl,hb⟩
 have hX3:=za hX2 hz2 hb
 have hz3:=Nat.lt_of_lt_of_le hz2 hb.size
 have hB3:=hB2.trans (hb.mono hB2.size)
 clear hb hX2 hz2 hB2
 by_cases q3:(zce b.ls:Int)<=left - qE b.os - zbK b.gs
 rotate_left
 ·have HF:Hid (zL b.sz left=-1):=zD (by unfold Bk.sz;omega)
  rw [zD q3]
  go_wp2_with fail
  go_ret
  exact ⟨zm HF.out.symm,hB3⟩
 rw [zM q3]
 go_wp2_with fail
 refine (zgw _ _ b.ps _ _ (HL.out.ps.mono hB3) (by omega) (by omega)).mono ?_
 rintro e w4 ⟨rfl,hb⟩
 have hX4:=za hX3 hz3 hb
 have hz4:=Nat.lt_of_lt_of_le hz3 hb.size
 have hB4:=hB3.trans (hb.mono hB3.size)
 clear hb hX3 hz3 hB3
 by_cases q4:(zcC b.ps:Int)<=left - qE b.os - zbK b.gs - zce b.ls
 rotate_left
 ·have HF:Hid (zL b.sz left=-1):=zD (by unfold Bk.sz;omega)
  rw [zD q4]
  go_wp2_with fail
  go_ret
  exact ⟨zm HF.out.symm,hB4⟩
 have HF:Hid (zL b.sz left=left - qE b.os - zbK b.gs - zce b.ls - zcC b.ps):=by
  unfold Hid;rw [zM (by unfold Bk.sz;omega)];unfold Bk.sz;omega
 rw [zM q4]
 go_wp2_with fail
 go_ret
 exact ⟨zm HF.out.symm,hB4⟩
theorem ziz (b:Bk) (a0 a1 a2 a3:Option Addr) (c0 c1 c2 c3:Nat) (a0' a1' a2' a3':Option Addr) (c0' c1' c2' c3':Nat) (w:World) (hl:qA w b a0 a1 a2 a3) (hl':qA w b a0' a1' a2' a3') :
 Calls Tryz.prog 13 #[.agg (b.cells a0 a1 a2 a3 c0 c1 c2 c3),.agg (b.cells a0' a1' a2' a3' c0' c1' c2' c3')] w fun e w'=>e = .returned (.bool true)/\Below w.heap.size w w':=by
 have HL:Hid (qA w b a0 a1 a2 a3/\qA w b a0' a1' a2' a3'):=⟨hl,hl'⟩
 clear hl hl'
 have n1:(b.now != b.now)=false:=by simp
 have n2:(b.tick != b.tick)=false:=by simp
 have n3:(b.given != b.given)=false:=by simp
 unfold Bk.cells
 go_enter Tryz.func13,Tryz.ntmps13
 go_wp2_with fail
 refine (zfy _ _ _ _ b.os _ (HL.out.1.os.mono (zC _ _ _)) (HL.out.2.os.mono (zC _ _ _))).mono ?_
 rintro e w1 ⟨rfl,hb⟩
 have hX1:=za (za (zl w _ _) (by simp) ((Below.refl _ _).alloc (Nat.le_refl _) _)) (by simp;omega) hb
 have hY1:=za (zl (w.alloc (.cells #[.int .i64 b.now,.int .i64 b.tick,.int .i64 b.given,.slice a0 b.os.length c0,.slice a1 b.gs.length c1,.slice a2 b.ls.length c2,.slice a3 b.ps.length c3] 50)) #[.int .i64 b.now,.int .i64 b.tick,.int .i64 b.given,.slice a0' b.os.length c0',.slice a1' b.gs.length c1',.slice a2' b.ls.length c2',.slice a3' b.ps.length c3'] 50) (by simp) hb
 have hz1:w.heap.size+1 < w1.heap.size:=by have:=hb.size;simp at this;omega
 have hB1:=(zC w _ _).trans (hb.mono (by simp;omega))
 rw [World.size_alloc] at hY1
 clear hb
 go_wp2_with fail
 refine (zfZ _ _ _ _ b.gs _ (HL.out.1.gs.mono hB1) (HL.out.2.gs.mono hB1)).mono ?_
 rintro e w2 ⟨rfl,hb⟩
 have hX2:=za hX1 (Nat.lt_of_succ_lt hz1) hb
 have hY2:=za hY1 hz1 hb
 have hz2:=Nat.lt_of_lt_of_le hz1 hb.size
 have hB2:=hB1.trans (hb.mono hB1.size)
 clear hb hX1 hY1 hz1 hB1
 go_wp2_with fail
 refine (zfo _ _ _ _ b.ls _ (HL.out.1.ls.mono hB2) (HL.out.2.ls.mono hB2)).mono ?_
 rintro e w3 ⟨rfl,hb⟩
 have hX3:=za hX2 (Nat.lt_of_succ_lt hz2) hb
 have hY3:=za hY2 hz2 hb
 have hz3:=Nat.lt_of_lt_of_le hz2 hb.size
 have hB3:=hB2.trans (hb.mono hB2.size)
 clear hb hX2 hY2 hz2 hB2
 go_wp2_with fail
 refine (zf3 _ _ _ _ b.ps _ (HL.out.1.ps.mono hB3) (HL.out.2.ps.mono hB3)).mono ?_
 rintro e w4 ⟨rfl,hb⟩
 have hX4:=za hX3 (Nat.lt_of_succ_lt hz3) hb
 have hY4:=za hY3 hz3 hb
 have hz4:=Nat.lt_of_lt_of_le hz3 hb.size
 have hB4:=hB3.trans (hb.mono hB3.size)
 clear hb hX3 hY3 hz3 hB3
 go_wp2_with fail
 go_ret
 exact ⟨rfl,hB4⟩
theorem jS (c:UInt8) (w:World) :
 Calls Tryz.prog 125 #[.int .u8 c.toNat] w fun e w'=>e = .returned (.bool (Gate.zJ c))/\w'=w:=by
 go_enter Tryz.func125,Tryz.ntmps125
 go_wp2
 all_goals
  go_ret
  refine ⟨ze ?_,rfl⟩
  rw [Bool.eq_iff_iff];simp [Gate.zJ];try omega
theorem zh (s:ByteArray) (w:World) (hs:s.size<=maxLen) :
 Calls Tryz.prog 86 #[.string s] w fun e w'=>e = .returned (.bool (Gate.zx s))/\w'=w:=by
 unfold maxLen at hs
 by_cases hb:1<=s.size/\s.size<=16
 ·obtain ⟨hb1,hb2⟩:=hb
  go_enter Tryz.func86,Tryz.ntmps86
  go_wp2_with (go_at_call 47;refine (zaT _ _ _ _ (by omega) (by omega)).mono ?_;rintro e w' ⟨rfl,rfl⟩)
  go_loop [3] (fun i=>∃ k:Nat,k<=s.size/\i = .int .i64 k/\(s.data.toList.take k).all Gate.zJ=true) (fun i=>s.size - (intOf i).toNat)
  case atStart=>exact ⟨0,Nat.zero_le _,rfl,rfl⟩
  case round =>
   obtain ⟨k,hk,rfl,hall⟩:=hrel
   by_cases hlt:k < s.size
   ·have HS:Hid ((s.data.toList.take (k+1)).all Gate.zJ=(true && Gate.zJ s[k])):=by rw [Gate.zaE _ s k hlt,hall];rfl
    have HN:=fun h=>Gate.zbJ Gate.zJ s k hlt h
    have HN':Hid (Gate.zJ s[k]=false->Gate.y5 s=false):=HN
    clear HN hall
    by_cases hc:Gate.zJ s[k]=true
    ·go_wp2_with (go_at_call 125;refine (jS _ _).mono ?_;rintro e w' ⟨rfl,rfl⟩)
     go_round
     case rel=>exact ⟨k+1,by omega,by go_num,by rw [HS.out,hc];rfl⟩
     case measure=>simp [intOf];omega
    ·have hc':Gate.zJ s[k]=false:=by simpa using hc
     clear hc
     go_wp2_with (go_at_call 125;refine (jS _ _).mono ?_;rintro e w' ⟨rfl,rfl⟩)
     go_ret
     refine ⟨ze ?_,rfl⟩
     simp [Gate.zx,HN'.out hc']
   ·have HA:Hid (Gate.y5 s=true):=by unfold Gate.y5 Hid;rw [<- Gate.zan s k (by omega)];exact hall
    clear hall
    go_wp2
    go_ret
    refine ⟨ze ?_,rfl⟩
    simp only [Gate.zx,HA.out];simp;omega
 ·go_enter Tryz.func86,Tryz.ntmps86
  go_wp2_with (go_at_call 47;refine (zcB _ _ _ _ (by omega)).mono ?_;rintro e w' ⟨rfl,rfl⟩)
  go_ret
  refine ⟨ze ?_,rfl⟩
  simp [Gate.zx];omega
theorem jP (s:ByteArray) (w:World) (hs:s.size<=maxLen) :
 Calls Tryz.prog 181 #[.string s] w fun e w'=>e = .returned (.bool (Gate.y5 s))/\w'=w:=by
 unfold maxLen at hs
 go_enter Tryz.func181,Tryz.ntmps181
 go_wp2
 go_loop [7] (fun i=>∃ k:Nat,k<=s.size/\i = .int .i64 k/\(s.data.toList.take k).all Gate.zJ=true) (fun i=>s.size - (intOf i).toNat)
 case atStart=>exact ⟨0,Nat.zero_le _,rfl,rfl⟩
 case round =>
  obtain ⟨k,hk,rfl,hall⟩:=hrel
  by_cases hlt:k < s.size
  ·have HS:Hid ((s.data.toList.take (k+1)).all Gate.zJ=(true && Gate.zJ s[k])):=by rw [Gate.zaE _ s k hlt,hall];rfl
   have HN:Hid (Gate.zJ s[k]=false->Gate.y5 s=false):=fun h=>Gate.zbJ Gate.zJ s k hlt h
   clear hall
   by_cases hd:48<=(s[k].toNat:Int)/\(s[k].toNat:Int)<=57
   ·have HC:Hid (Gate.zJ s[k]=true):=by simp [Gate.zJ,Hid];omega
    obtain ⟨hd1,hd2⟩:=hd
    go_wp2_with (go_at_call 202;refine (zgQ _ _ hd1 hd2).mono ?_;rintro e w' ⟨rfl,rfl⟩)
    go_round
    case rel=>exact ⟨k+1,by omega,by go_num,by rw [HS.out,HC.out];rfl⟩
    case measure=>simp [intOf];omega
   ·have HD:Hid (¬ (48<=(s[k].toNat:Int)/\(s[k].toNat:Int)<=57)):=hd
    clear hd
    by_cases h45:(s[k].toNat:Int)=45
    ·have HC:Hid (Gate.zJ s[k]=true):=by simp [Gate.zJ,Hid];omega
     have h45':((s[k].toNat:Int) != 45)=false:=by simp [h45]
     clear h45
     go_wp2_with (go_at_call 202;refine (zco _ _ HD.out).mono ?_;rintro e w' ⟨rfl,rfl⟩)
     go_round
     case rel=>exact ⟨k+1,by omega,by go_num,by rw [HS.out,HC.out];rfl⟩
     case measure=>simp [intOf];omega
    ·have h45':((s[k].toNat:Int) != 45)=true:=by simp [h45]
     by_cases h97:(s[k].toNat:Int) < 97
     ·have HC:Hid (Gate.zJ s[k]=false):=by have:=HD.out;simp [Gate.zJ,Hid];omega
      clear h45
      go_wp2_with (go_at_call 202;refine (zco _ _ HD.out).mono ?_;rintro e w' ⟨rfl,rfl⟩)
      go_ret
      exact ⟨ze (HN.out HC.out).symm,rfl⟩
     ·by_cases h122:122 < (s[k].toNat:Int)
      ·have HC:Hid (Gate.zJ s[k]=false):=by have:=HD.out;simp [Gate.zJ,Hid];omega
       clear h45
       go_wp2_with (go_at_call 202;refine (zco _ _ HD.out).mono ?_;rintro e w' ⟨rfl,rfl⟩)
       go_ret
       exact ⟨ze (HN.out HC.out).symm,rfl⟩
      ·have HC:Hid (Gate.zJ s[k]=true):=by simp [Gate.zJ,Hid];omega
       clear h45
       go_wp2_with (go_at_call 202;refine (zco _ _ HD.out).mono ?_;rintro e w' ⟨rfl,rfl⟩)
       go_round
       case rel=>exact ⟨k+1,by omega,by go_num,by rw [HS.out,HC.out];rfl⟩
       case measure=>simp [intOf];omega
  ·have HA:Hid (Gate.y5 s=true):=by unfold Gate.y5 Hid;rw [<- Gate.zan s k (by omega)];exact hall
   clear hall
   go_wp2
   go_ret
   exact ⟨ze HA.out.symm,rfl⟩
theorem zG (s:ByteArray) (w:World) (hs:s.size<=maxLen) :
 Calls Tryz.prog 134 #[.string s] w fun e w'=>e = .returned (.bool (Gate.zx s))/\w'=w:=by
 have hs':=hs
 unfold maxLen at hs'
 by_cases h0:s.size=0
 ·rw [Gate.zcM s h0]
  go_enter Tryz.func134,Tryz.ntmps134
  go_wp2
  go_ret
  exact ⟨rfl,rfl⟩
 ·have hne:s.toList.isEmpty=false:=by rw [Gate.zq];simp [h0]
  by_cases h16:s.size<=16
  ·have HF:Hid (Gate.zx s=Gate.y5 s):=by
    simp only [Hid,Gate.zx];rw [decide_eq_true (show 1<=s.size by omega),decide_eq_true h16];simp
   go_enter Tryz.func134,Tryz.ntmps134
   go_wp2_with (go_at_call 181;refine (jP _ _ hs).mono ?_;rintro e w' ⟨rfl,rfl⟩)
   go_ret
   exact ⟨ze HF.out.symm,rfl⟩
  ·go_enter Tryz.func134,Tryz.ntmps134
   go_wp2_with (go_at_call 181;refine (jP _ _ hs).mono ?_;rintro e w' ⟨rfl,rfl⟩)
   go_ret
   refine ⟨ze ?_,rfl⟩
   simp only [Gate.zx];rw [decide_eq_false h16];simp
end Go.Proofs.YtaickbhifenbjaaGreat
