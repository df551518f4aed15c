import Derived.Test.YtghnakljnhnenaaGreatM26
import Derived.Test.YtghnakljnhnenaaGreatM07
set_option maxHeartbeats 2000000
namespace Go.Proofs.YtghnakljnhnenaaGreat
open Go.RowKit
theorem lt_of_some {w:World} {b:Nat} {o:Obj} (h:w.heap[b]?=some o):b < w.heap.size:=(gES h).1
theorem zly {lo lo':Nat} {w:World} {bo:Nat} {ms:List Mnd} {k:Nat} (h:jg lo w bo ms k) (hl:lo'<=lo):jg lo' w bo ms k:=⟨Nat.le_trans hl h.low,h.rows⟩
theorem zlu {ty:TypeId} {lo lo':Nat} {w:World} {bo:Nat} {ts:List Tm} {k:Nat} (h:zab ty lo w bo ts k) (hl:lo'<=lo):zab ty lo' w bo ts k:=⟨Nat.le_trans hl h.low,h.rows⟩
theorem ze5 (l:Lw) (a b c:Option Addr) (ca cb cc:Nat) (w:World) (hl:y9 w l a b c) (hf:l.Few) :
 Calls Tryz.prog 7 #[.agg (l.cells a b c ca cb cc)] w fun e w'=>∃ lo a' b' c',e = .returned (.agg (l.cells (some ⟨a',0,none⟩) (some ⟨b',0,none⟩) (some ⟨c',0,none⟩) l.ss.length l.ms.length l.ts.length))/\w.heap.size<=lo/\zlS lo w' l a' b' c'/\Below w.heap.size w w':=by
 have HL:Hid (y9 w l a b c):=hl;have HF:Hid l.Few:=hf;clear hl hf;unfold Lw.cells;go_enter Tryz.func7,Tryz.ntmps7;go_wp2_with fail
 have k0:=zo9 w (.cells #[.slice a l.ss.length ca,.slice b l.ms.length cb,.slice c l.ts.length cc] 26) (.cells #[.slice none 0 0,.slice none 0 0,.slice none 0 0] 41) (.cells #[.slice none 0 0,.slice none 0 0,.slice none 0 0] 41);have hB0:=below3' w (.cells #[.slice a l.ss.length ca,.slice b l.ms.length cb,.slice c l.ts.length cc] 26) (.cells #[.slice none 0 0,.slice none 0 0,.slice none 0 0] 41) (.cells #[.slice none 0 0,.slice none 0 0,.slice none 0 0] 41);obtain ⟨W0,hW0⟩:∃ W0,W0=((w.alloc (.cells #[.slice a l.ss.length ca,.slice b l.ms.length cb,.slice c l.ts.length cc] 26)).alloc (.cells #[.slice none 0 0,.slice none 0 0,.slice none 0 0] 41)).alloc (.cells #[.slice none 0 0,.slice none 0 0,.slice none 0 0] 41):=⟨_,rfl⟩
 have hz0:w.heap.size+1+1 < W0.heap.size:=by rw [hW0];simp
 rw [<- hW0] at k0 hB0 ⊢;clear hW0;have HLO:Hid (w.heap.size+1+1 < W0.heap.size):=hz0;refine (zg5 _ _ l.ss _ (HL.out.ss.mono hB0) HF.out.ss.1 HF.out.ss.2).mono ?_;rintro e w1 ⟨rfl,hown,hb⟩;obtain ⟨a',ha'⟩:∃ a',a'=W0.heap.size:=⟨_,rfl⟩
 have HO1:Hid (jU W0.heap.size w1 a' l.ss l.ss.length):=by rw [ha'];exact hown
 have hX1:=(hb.block _ (by omega)).trans k0.1;have hR1:=(hb.block _ (by omega)).trans k0.2.1;have hO1:=(hb.block _ hz0).trans k0.2.2;have HZ1:Hid (W0.heap.size<=w1.heap.size):=hb.size;have HB1:Hid (Below w.heap.size w w1):=hB0.trans (hb.mono hB0.size);rw [<- ha'];clear hown hb k0 hB0 hz0 ha';have cO1:=fun j=>cell_of_block (o:=j) hO1
 have fO1:=fun j=>zi (o:=j) hO1
 have HX1':Hid ((w1.setCell ⟨w.heap.size+1+1,0,none⟩ (.slice (some ⟨a',0,none⟩) l.ss.length l.ss.length)).heap[w.heap.size]?=some (.cells #[.slice a l.ss.length ca,.slice b l.ms.length cb,.slice c l.ts.length cc] 26)):=(zM (by omega)).trans hX1;have HR1':Hid ((w1.setCell ⟨w.heap.size+1+1,0,none⟩ (.slice (some ⟨a',0,none⟩) l.ss.length l.ss.length)).heap[w.heap.size+1]?=some (.cells #[.slice none 0 0,.slice none 0 0,.slice none 0 0] 41)):=(zM (by omega)).trans hR1;have HO1':Hid ((w1.setCell ⟨w.heap.size+1+1,0,none⟩ (.slice (some ⟨a',0,none⟩) l.ss.length l.ss.length)).heap[w.heap.size+1+1]?=some (.cells #[.slice (some ⟨a',0,none⟩) l.ss.length l.ss.length,.slice none 0 0,.slice none 0 0] 41)):=zk hO1 _;have HAB1:Hid (yQ W0.heap.size w1 (w1.setCell ⟨w.heap.size+1+1,0,none⟩ (.slice (some ⟨a',0,none⟩) l.ss.length l.ss.length))):=yQ.setCell HLO.out _;have HBB1:Hid (Below w.heap.size w (w1.setCell ⟨w.heap.size+1+1,0,none⟩ (.slice (some ⟨a',0,none⟩) l.ss.length l.ss.length))):=HB1.out.setCell (by show w.heap.size<=w.heap.size+1+1;omega) _;have HZZ1:Hid (W0.heap.size<=(w1.setCell ⟨w.heap.size+1+1,0,none⟩ (.slice (some ⟨a',0,none⟩) l.ss.length l.ss.length)).heap.size):=by unfold Hid;rw [World.size_setCell];exact HZ1.out
 clear hX1 hR1 hO1;have cX1:=fun j=>cell_of_block (o:=j) HX1'.out
 have cR1:=fun j=>cell_of_block (o:=j) HR1'.out
 have fR1:=fun j=>zi (o:=j) HR1'.out
 have cOO1:=fun j=>cell_of_block (o:=j) HO1'.out
 go_wp2_with fail
 refine (zh0 _ _ l.ms _ (HL.out.ms.mono HBB1.out) HF.out.ms).mono ?_;rintro e w2 ⟨rfl,hown,hb⟩;obtain ⟨b',hp'⟩:∃ b',b'=(w1.setCell ⟨w.heap.size+1+1,0,none⟩ (.slice (some ⟨a',0,none⟩) l.ss.length l.ss.length)).heap.size:=⟨_,rfl⟩
 have HN2:Hid (jg W0.heap.size w2 b' l.ms l.ms.length):=by rw [hp'];exact zly hown HZZ1.out
 have HAA2:Hid (yQ W0.heap.size w1 w2):=HAB1.out.trans (yQ.below hb);have hX2:=(hb.block _ (lt_of_some HX1'.out)).trans HX1'.out;have hR2:=(hb.block _ (lt_of_some HR1'.out)).trans HR1'.out;have hO2:=(hb.block _ (lt_of_some HO1'.out)).trans HO1'.out;have HZ2:Hid (W0.heap.size<=w2.heap.size):=Nat.le_trans HZZ1.out hb.size;have HB2:Hid (Below w.heap.size w w2):=HBB1.out.trans (hb.mono HBB1.out.size);rw [<- hp'];clear hown hb hp' cX1 cR1 fR1 cOO1;have cO2:=fun j=>cell_of_block (o:=j) hO2
 have fO2:=fun j=>zi (o:=j) hO2
 have HX2':Hid ((w2.setCell ⟨w.heap.size+1+1,1,none⟩ (.slice (some ⟨b',0,none⟩) l.ms.length l.ms.length)).heap[w.heap.size]?=some (.cells #[.slice a l.ss.length ca,.slice b l.ms.length cb,.slice c l.ts.length cc] 26)):=(zM (by omega)).trans hX2;have HR2':Hid ((w2.setCell ⟨w.heap.size+1+1,1,none⟩ (.slice (some ⟨b',0,none⟩) l.ms.length l.ms.length)).heap[w.heap.size+1]?=some (.cells #[.slice none 0 0,.slice none 0 0,.slice none 0 0] 41)):=(zM (by omega)).trans hR2;have HO2':Hid ((w2.setCell ⟨w.heap.size+1+1,1,none⟩ (.slice (some ⟨b',0,none⟩) l.ms.length l.ms.length)).heap[w.heap.size+1+1]?=some (.cells #[.slice (some ⟨a',0,none⟩) l.ss.length l.ss.length,.slice (some ⟨b',0,none⟩) l.ms.length l.ms.length,.slice none 0 0] 41)):=zk hO2 _;have HAB2:Hid (yQ W0.heap.size w2 (w2.setCell ⟨w.heap.size+1+1,1,none⟩ (.slice (some ⟨b',0,none⟩) l.ms.length l.ms.length))):=yQ.setCell HLO.out _;have HBB2:Hid (Below w.heap.size w (w2.setCell ⟨w.heap.size+1+1,1,none⟩ (.slice (some ⟨b',0,none⟩) l.ms.length l.ms.length))):=HB2.out.setCell (by show w.heap.size<=w.heap.size+1+1;omega) _;have HZZ2:Hid (W0.heap.size<=(w2.setCell ⟨w.heap.size+1+1,1,none⟩ (.slice (some ⟨b',0,none⟩) l.ms.length l.ms.length)).heap.size):=by unfold Hid;rw [World.size_setCell];exact HZ2.out
 clear hX2 hR2 hO2;have cX2:=fun j=>cell_of_block (o:=j) HX2'.out
 have cR2:=fun j=>cell_of_block (o:=j) HR2'.out
 have fR2:=fun j=>zi (o:=j) HR2'.out
 have cOO2:=fun j=>cell_of_block (o:=j) HO2'.out
 go_wp2_with fail
 refine (zh5 _ _ l.ts _ (HL.out.ts.mono HBB2.out) HF.out.ts).mono ?_;rintro e w3 ⟨rfl,hown,hb⟩;obtain ⟨c',hp'⟩:∃ c',c'=(w2.setCell ⟨w.heap.size+1+1,1,none⟩ (.slice (some ⟨b',0,none⟩) l.ms.length l.ms.length)).heap.size:=⟨_,rfl⟩
 have HN3:Hid (zab 127 W0.heap.size w3 c' l.ts l.ts.length):=by rw [hp'];exact zlu hown HZZ2.out
 have HAA3:Hid (yQ W0.heap.size w2 w3):=HAB2.out.trans (yQ.below hb);have hX3:=(hb.block _ (lt_of_some HX2'.out)).trans HX2'.out;have hR3:=(hb.block _ (lt_of_some HR2'.out)).trans HR2'.out;have hO3:=(hb.block _ (lt_of_some HO2'.out)).trans HO2'.out;have HZ3:Hid (W0.heap.size<=w3.heap.size):=Nat.le_trans HZZ2.out hb.size;have HB3:Hid (Below w.heap.size w w3):=HBB2.out.trans (hb.mono HBB2.out.size);rw [<- hp'];clear hown hb hp' cX2 cR2 fR2 cOO2;have cO3:=fun j=>cell_of_block (o:=j) hO3
 have fO3:=fun j=>zi (o:=j) hO3
 have HX3':Hid ((w3.setCell ⟨w.heap.size+1+1,2,none⟩ (.slice (some ⟨c',0,none⟩) l.ts.length l.ts.length)).heap[w.heap.size]?=some (.cells #[.slice a l.ss.length ca,.slice b l.ms.length cb,.slice c l.ts.length cc] 26)):=(zM (by omega)).trans hX3;have HR3':Hid ((w3.setCell ⟨w.heap.size+1+1,2,none⟩ (.slice (some ⟨c',0,none⟩) l.ts.length l.ts.length)).heap[w.heap.size+1]?=some (.cells #[.slice none 0 0,.slice none 0 0,.slice none 0 0] 41)):=(zM (by omega)).trans hR3;have HO3':Hid ((w3.setCell ⟨w.heap.size+1+1,2,none⟩ (.slice (some ⟨c',0,none⟩) l.ts.length l.ts.length)).heap[w.heap.size+1+1]?=some (.cells #[.slice (some ⟨a',0,none⟩) l.ss.length l.ss.length,.slice (some ⟨b',0,none⟩) l.ms.length l.ms.length,.slice (some ⟨c',0,none⟩) l.ts.length l.ts.length] 41)):=zk hO3 _;have HAB3:Hid (yQ W0.heap.size w3 (w3.setCell ⟨w.heap.size+1+1,2,none⟩ (.slice (some ⟨c',0,none⟩) l.ts.length l.ts.length))):=yQ.setCell HLO.out _;have HBB3:Hid (Below w.heap.size w (w3.setCell ⟨w.heap.size+1+1,2,none⟩ (.slice (some ⟨c',0,none⟩) l.ts.length l.ts.length))):=HB3.out.setCell (by show w.heap.size<=w.heap.size+1+1;omega) _;have HZZ3:Hid (W0.heap.size<=(w3.setCell ⟨w.heap.size+1+1,2,none⟩ (.slice (some ⟨c',0,none⟩) l.ts.length l.ts.length)).heap.size):=by unfold Hid;rw [World.size_setCell];exact HZ3.out
 clear hX3 hR3 hO3;have cX3:=fun j=>cell_of_block (o:=j) HX3'.out
 have cR3:=fun j=>cell_of_block (o:=j) HR3'.out
 have fR3:=fun j=>zi (o:=j) HR3'.out
 have cOO3:=fun j=>cell_of_block (o:=j) HO3'.out
 go_wp2_with fail
 refine bodyPost_ret (v:=.agg #[.slice (some ⟨a',0,none⟩) l.ss.length l.ss.length,.slice (some ⟨b',0,none⟩) l.ms.length l.ms.length,.slice (some ⟨c',0,none⟩) l.ts.length l.ts.length]) (by simp [results,Tryz.results7,go_sem,cR3]) rfl ⟨W0.heap.size,a',b',c',rfl,by have:=HLO.out;omega,?_,?_⟩
 ·have hlt1:w.heap.size+1 < W0.heap.size:=by have:=HLO.out;omega
  have hA3:∀ v0 v1 v2,yQ W0.heap.size w3 ((((w3.setCell ⟨w.heap.size+1+1,2,none⟩ (.slice (some ⟨c',0,none⟩) l.ts.length l.ts.length)).setCell ⟨w.heap.size+1,0,none⟩ v0).setCell ⟨w.heap.size+1,1,none⟩ v1).setCell ⟨w.heap.size+1,2,none⟩ v2):=fun v0 v1 v2=>HAB3.out.trans (((yQ.setCell (p:=⟨w.heap.size+1,0,none⟩) hlt1 v0).trans (yQ.setCell (p:=⟨w.heap.size+1,1,none⟩) hlt1 v1)).trans (yQ.setCell (p:=⟨w.heap.size+1,2,none⟩) hlt1 v2))
  exact ⟨HO1.out.above ((HAA2.out.trans HAA3.out).trans (hA3 _ _ _)),HN2.out.above (HAA3.out.trans (hA3 _ _ _)),HN3.out.above (hA3 _ _ _)⟩
 ·exact ((HBB3.out.setCell (Nat.le_succ _) _).setCell (Nat.le_succ _) _).setCell (Nat.le_succ _) _
theorem zdi (l:Lw) (a b c:Option Addr) (ca cb cc:Nat) (w:World) (hl:y9 w l a b c) (hf:l.Few) :
 Calls Tryz.prog 7 #[.agg (l.cells a b c ca cb cc)] w fun e w'=>∃ a' b' c',e = .returned (.agg (l.cells a' b' c' l.ss.length l.ms.length l.ts.length))/\y9 w' l a' b' c'/\Below w.heap.size w w':=by
 refine (ze5 l a b c ca cb cc w hl hf).mono ?_;rintro e w' ⟨lo,a',b',c',he,_,ho,hb⟩;exact ⟨_,_,_,he,ho.at hl.small,hb⟩
structure Bk where
 now:Int
 tick:Int
 given:Int
 os:List Ob
 gs:List Gr
 ls:List Lg
 ps:List Pu
def Bk.cells (b:Bk) (a0 a1 a2 a3:Option Addr) (c0 c1 c2 c3:Nat):Array Value:=#[.int .i64 b.now,.int .i64 b.tick,.int .i64 b.given,.slice a0 b.os.length c0,.slice a1 b.gs.length c1,.slice a2 b.ls.length c2,.slice a3 b.ps.length c3]
structure y7 (w:World) (b:Bk) (a0 a1 a2 a3:Option Addr):Prop where
 os:zby w a0 b.os
 gs:zcl w a1 b.gs
 ls:zb8 w a2 b.ls
 ps:zc2 w a3 b.ps
theorem y7.mono {w w':World} {b:Bk} {a0 a1 a2 a3:Option Addr} (h:y7 w b a0 a1 a2 a3) (hb:Below w.heap.size w w'):y7 w' b a0 a1 a2 a3:=⟨h.os.mono hb,h.gs.mono hb,h.ls.mono hb,h.ps.mono hb⟩
def Bk.sz (b:Bk):Nat:=qF b.os+zcc b.gs+zcL b.ls+zc5 b.ps
structure Bk.Few (b:Bk):Prop where
 os:b.os.length<=1048576/\∀ i (h:i < b.os.length),b.os[i].vs.length<=1048576/\b.os[i].hs.length<=1048576
 gs:b.gs.length<=1048576/\∀ i (h:i < b.gs.length),b.gs[i].r.vs.length<=1048576
 ls:b.ls.length<=1048576
 ps:b.ps.length<=1048576
theorem Bk.few {b:Bk} (h:(b.sz:Int)<=1048576):b.Few:=by
 unfold Bk.sz at h;refine ⟨zlt (left:=1048576) (by omega) (by omega),zpZ (left:=1048576) (by omega) (by omega),?_,?_⟩
 ·unfold zcL at h;omega
 ·unfold zc5 at h;omega
structure Bk.Small (b:Bk):Prop where
 os:zfL b.os
 lo:b.os.length<=maxLen
 gs:ziS b.gs
 lg:b.gs.length<=maxLen
 ls:∀ i (h:i < b.ls.length),b.ls[i].Small
 ll:b.ls.length<=maxLen
 ps:∀ i (h:i < b.ps.length),b.ps[i].Small
 lp:b.ps.length<=maxLen
theorem y7.small {w:World} {b:Bk} {a0 a1 a2 a3:Option Addr} (h:y7 w b a0 a1 a2 a3):b.Small:=⟨h.os.smalls,h.os.len,h.gs.smalls,h.gs.len,h.ls.small,h.ls.len,h.ps.small,h.ps.len⟩
structure zmH (lo:Nat) (w:World) (b:Bk) (g0 g1 g2 g3:Nat):Prop where
 os:j6 lo w g0 b.os b.os.length
 gs:jX lo w g1 b.gs b.gs.length
 ls:jW lo w g2 b.ls b.ls.length
 ps:jV lo w g3 b.ps b.ps.length
theorem zmH.at {lo:Nat} {w:World} {b:Bk} {g0 g1 g2 g3:Nat} (h:zmH lo w b g0 g1 g2 g3) (hs:b.Small):y7 w b (some ⟨g0,0,none⟩) (some ⟨g1,0,none⟩) (some ⟨g2,0,none⟩) (some ⟨g3,0,none⟩):=⟨h.os.at hs.os hs.lo,h.gs.at hs.gs hs.lg,h.ls.at hs.ls hs.ll,h.ps.at hs.ps hs.lp⟩
theorem zjy (b:Bk) (a0 a1 a2 a3:Option Addr) (c0 c1 c2 c3:Nat) (left:Int) (w:World) (hl:y7 w b a0 a1 a2 a3) (h0:0<=left) (h1:left<=1048576) :
 Calls Tryz.prog 5 #[.agg (b.cells a0 a1 a2 a3 c0 c1 c2 c3),.int .i64 left] w fun e w'=>e = .returned (.int .i64 (zL b.sz left))/\Below w.heap.size w w':=by
 have HL:Hid (y7 w b a0 a1 a2 a3):=hl;clear hl;unfold Bk.cells;go_enter Tryz.func5,Tryz.ntmps5;go_wp2_with fail
 refine (zgu _ _ b.os _ _ (HL.out.os.mono (bAl _ _)) h0 h1).mono ?_;rintro e w1 ⟨rfl,hb⟩;have hX1:=za (zm w #[.int .i64 b.now,.int .i64 b.tick,.int .i64 b.given,.slice a0 b.os.length c0,.slice a1 b.gs.length c1,.slice a2 b.ls.length c2,.slice a3 b.ps.length c3] 32) (by simp) hb;have hz1:w.heap.size < w1.heap.size:=by have:=hb.size;simp at this;omega
 have hB1:Below w.heap.size w w1:=(bAl _ _).trans (hb.mono (by simp));clear hb
 by_cases q1:(qF b.os:Int)<=left
 rotate_left
 ·have HF:Hid (zL b.sz left=-1):=zC (by unfold Bk.sz;omega)
  rw [zC q1];go_wp2_with fail
  go_ret;exact ⟨zq HF.out.symm,hB1⟩
 rw [zN q1];go_wp2_with fail
 refine (zgZ _ _ b.gs _ _ (HL.out.gs.mono hB1) (by omega) (by omega)).mono ?_;rintro e w2 ⟨rfl,hb⟩;have hX2:=za hX1 hz1 hb;have hz2:=nLt hz1 hb.size;have hB2:=hB1.trans (hb.mono hB1.size);clear hb hX1 hz1 hB1
 by_cases q2:(zcc b.gs:Int)<=left - qF b.os
 rotate_left
 ·have HF:Hid (zL b.sz left=-1):=zC (by unfold Bk.sz;omega)
  rw [zC q2];go_wp2_with fail
  go_ret;exact ⟨zq HF.out.symm,hB2⟩
 rw [zN q2];go_wp2_with fail
 refine (zgh _ _ b.ls _ _ (HL.out.ls.mono hB2) (by omega) (by omega)).mono ?_;rintro e w3 ⟨rfl,hb⟩;have hX3:=za hX2 hz2 hb;have hz3:=nLt hz2 hb.size;have hB3:=hB2.trans (hb.mono hB2.size);clear hb hX2 hz2 hB2
 by_cases q3:(zcL b.ls:Int)<=left - qF b.os - zcc b.gs
 rotate_left
 ·have HF:Hid (zL b.sz left=-1):=zC (by unfold Bk.sz;omega)
  rw [zC q3];go_wp2_with fail
  go_ret;exact ⟨zq HF.out.symm,hB3⟩
 rw [zN q3];go_wp2_with fail
 refine (zhk _ _ b.ps _ _ (HL.out.ps.mono hB3) (by omega) (by omega)).mono ?_;rintro e w4 ⟨rfl,hb⟩;have hX4:=za hX3 hz3 hb;have hz4:=nLt hz3 hb.size;have hB4:=hB3.trans (hb.mono hB3.size);clear hb hX3 hz3 hB3
 by_cases q4:(zc5 b.ps:Int)<=left - qF b.os - zcc b.gs - zcL b.ls
 rotate_left
 ·have HF:Hid (zL b.sz left=-1):=zC (by unfold Bk.sz;omega)
  rw [zC q4];go_wp2_with fail
  go_ret;exact ⟨zq HF.out.symm,hB4⟩
 have HF:Hid (zL b.sz left=left - qF b.os - zcc b.gs - zcL b.ls - zc5 b.ps):=by
  unfold Hid;rw [zN (by unfold Bk.sz;omega)];unfold Bk.sz;omega
 rw [zN q4];go_wp2_with fail
 go_ret;exact ⟨zq HF.out.symm,hB4⟩
theorem ziM (b:Bk) (a0 a1 a2 a3:Option Addr) (c0 c1 c2 c3:Nat) (a0' a1' a2' a3':Option Addr) (c0' c1' c2' c3':Nat) (w:World) (hl:y7 w b a0 a1 a2 a3) (hl':y7 w b a0' a1' a2' a3') :
 Calls Tryz.prog 12 #[.agg (b.cells a0 a1 a2 a3 c0 c1 c2 c3),.agg (b.cells a0' a1' a2' a3' c0' c1' c2' c3')] w fun e w'=>e = .returned (.bool true)/\Below w.heap.size w w':=by
 have HL:Hid (y7 w b a0 a1 a2 a3/\y7 w b a0' a1' a2' a3'):=⟨hl,hl'⟩
 clear hl hl';have n1:(b.now != b.now)=false:=by simp
 have n2:(b.tick != b.tick)=false:=by simp
 have n3:(b.given != b.given)=false:=by simp
 unfold Bk.cells;go_enter Tryz.func12,Tryz.ntmps12;go_wp2_with fail
 refine (zgc _ _ _ _ b.os _ (HL.out.1.os.mono (zA _ _ _)) (HL.out.2.os.mono (zA _ _ _))).mono ?_;rintro e w1 ⟨rfl,hb⟩;have hX1:=za (za (zm w _ _) (by simp) (bAl _ _)) (by simp;omega) hb;have hY1:=za (zm (w.alloc (.cells #[.int .i64 b.now,.int .i64 b.tick,.int .i64 b.given,.slice a0 b.os.length c0,.slice a1 b.gs.length c1,.slice a2 b.ls.length c2,.slice a3 b.ps.length c3] 48)) #[.int .i64 b.now,.int .i64 b.tick,.int .i64 b.given,.slice a0' b.os.length c0',.slice a1' b.gs.length c1',.slice a2' b.ls.length c2',.slice a3' b.ps.length c3'] 48) (by simp) hb;have hz1:w.heap.size+1 < w1.heap.size:=by have:=hb.size;simp at this;omega
 have hB1:=(zA w _ _).trans (hb.mono (by simp;omega));rw [World.size_alloc] at hY1;clear hb;go_wp2_with fail
 refine (zgQ _ _ _ _ b.gs _ (HL.out.1.gs.mono hB1) (HL.out.2.gs.mono hB1)).mono ?_;rintro e w2 ⟨rfl,hb⟩;have hX2:=za hX1 (nSl hz1) hb;have hY2:=za hY1 hz1 hb;have hz2:=nLt hz1 hb.size;have hB2:=hB1.trans (hb.mono hB1.size);clear hb hX1 hY1 hz1 hB1;go_wp2_with fail
 refine (zfI _ _ _ _ b.ls _ (HL.out.1.ls.mono hB2) (HL.out.2.ls.mono hB2)).mono ?_;rintro e w3 ⟨rfl,hb⟩;have hX3:=za hX2 (nSl hz2) hb;have hY3:=za hY2 hz2 hb;have hz3:=nLt hz2 hb.size;have hB3:=hB2.trans (hb.mono hB2.size);clear hb hX2 hY2 hz2 hB2;go_wp2_with fail
 refine (zhf _ _ _ _ b.ps _ (HL.out.1.ps.mono hB3) (HL.out.2.ps.mono hB3)).mono ?_;rintro e w4 ⟨rfl,hb⟩;have hX4:=za hX3 (nSl hz3) hb;have hY4:=za hY3 hz3 hb;have hz4:=nLt hz3 hb.size;have hB4:=hB3.trans (hb.mono hB3.size);clear hb hX3 hY3 hz3 hB3;go_wp2_with fail
 go_ret;exact ⟨rfl,hB4⟩
end Go.Proofs.YtghnakljnhnenaaGreat
