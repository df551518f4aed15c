import Derived.Test.YtghnakljnhnenaaGreatM45
import Derived.Test.YtghnakljnhnenaaGreatM48
import Derived.Test.YtghnakljnhnenaaGreatChecked
import Derived.OpenShut
set_option maxHeartbeats 8000000
namespace Go.Proofs.YtghnakljnhnenaaGreat
open Go.RowKit
def zbF (k n:Nat):List Int:=(List.range n).map fun i=>((k+i:Nat):Int)
theorem zbf (k n:Nat):(zbF k n).length=n:=by simp [zbF]
theorem zhm (k n i:Nat) (h:i < (zbF k n).length):(zbF k n)[i]=((k+i:Nat):Int):=by simp [zbF]
theorem zcw {w:World} {lo:Nat} {v:Value} {xs:List Int} (h:w.ownsRow lo 3 1 v xs.length (ints xs)) (hl:xs.length<=maxLen):∃ a cap,v = .slice a xs.length cap/\qp w a xs:=by
 obtain ⟨a,cap,rfl⟩:=yV h;refine ⟨a,cap,rfl,hl,fun hne=>?_⟩;obtain ⟨_,⟨h0,h1⟩ | ⟨g,cp,cur,h0,h1⟩⟩:=id h
 ·exact absurd (List.length_eq_zero_iff.1 h1) hne
 ·cases h0
  refine ⟨g,0,rfl,(h.lt g rfl).2,fun i hi=>?_⟩;rw [Nat.zero_add,h.cellAt i (by omega)]
  simp [ints,hi]
theorem zj4 (k:Int) (a:Option Addr) (cap:Nat) (w:World) :
 Calls Tryz.prog 15 #[.slice a 0 cap,.int .i64 k] w fun e w'=>e = .returned (.int .i64 k)/\w'=w:=by
 go_enter Tryz.func15,Tryz.ntmps15;go_wp2_with fail
 go_loopw [1,5] (fun kv iv wr=>kv = .int .i64 k/\iv = .int .i64 0/\wr=w) (fun _ _ _=>0)
 case atStart=>exact ⟨rfl,rfl,rfl⟩
 case round =>
  obtain ⟨rfl,rfl,rfl⟩:=hrel;go_wp2_with fail
  go_ret;exact ⟨rfl,rfl⟩
theorem zlv (lo cap:Nat) (a:Option Addr) (n:Nat) (xs:List Value) (k:Nat) (w:World) (h:w.ownsRow lo 3 1 (.slice a n cap) n xs) (hi:∀ (j:Nat) (a':Option Addr) (m c:Nat),xs[j]? ≠ some (Value.slice a' m c)) (hn:n<=1048576) (hk:0 < k) (hk2:k < 1000000) (hlo:lo<=w.heap.size) :
 Calls Tryz.prog 15 #[.slice a n cap,.int .i64 k] w fun e w'=>e = .returned (.int .i64 ((k+n:Nat):Int))/\qp w' a (zbF k n)/\Below lo w w':=by
 obtain ⟨hlx,⟨h0,h1⟩ | ⟨g,cp,cur,h0,h2,h3,h4,h5,h6,h7⟩⟩:=id h
 ·cases h0
  refine (zj4 (k:Int) none 0 w).mono ?_;rintro e w' ⟨rfl,rfl⟩;exact ⟨by simp,⟨by rw [zbf];unfold maxLen;omega,fun hne=>absurd rfl hne⟩,bRf _ _⟩
 ·cases h0
  refine (zgt g n cap cur k w h3 (by omega) (fun i hin a' m c he=>hi i a' m c ?_) hk (by omega)).mono ?_
  ·rw [<- h7,List.getElem?_take_of_lt (by omega)]
   simpa using he
  ·rintro e w' ⟨rfl,hM,C',hC',hs',hc'⟩
   refine ⟨rfl,⟨by rw [zbf];unfold maxLen;omega,fun _=>⟨g,0,rfl,(gES hC').1,fun i hin=>?_⟩⟩,hM.below h2 hlo⟩;rw [zbf] at hin;rw [cell_of_block hC',Nat.zero_add,hc' i hin,zhm]
theorem zlM (xs:List Int) (j:Nat) (a:Option Addr) (m c:Nat):(ints xs)[j]? ≠ some (Value.slice a m c):=by
 unfold ints;rw [List.getElem?_map]
 cases xs[j]? <;> simp
structure zd7 (lo:Nat) (w:World) (v:Value) (xs:List Int):Prop where
 row:w.ownsRow lo 3 1 v xs.length (ints xs)
theorem zd7.mono {lo:Nat} {w w':World} {v:Value} {xs:List Int} (h:zd7 lo w v xs) (hb:Below w.heap.size w w'):zd7 lo w' v xs:=⟨yO h.row hb⟩
theorem zd7.marked {lo lo' hi':Nat} {w w':World} {v:Value} {xs:List Int} (h:zd7 lo w v xs) (hM:Marked lo' hi' w w') (hl:hi'<=lo):zd7 lo w' v xs:=by
 refine ⟨zao h.row fun g hg=>?_⟩;have h1:=h.row.lt g hg;exact hM.out g h1.2 (Or.inr (Nat.le_trans hl h1.1))
theorem zd7.ints {lo:Nat} {w:World} {a:Option Addr} {c:Nat} {xs:List Int} (h:zd7 lo w (.slice a xs.length c) xs) (hl:xs.length<=maxLen):qp w a xs:=by
 obtain ⟨a',c',e,hi⟩:=zcw h.row hl
 cases e
 exact hi
structure Grown (n:Nat) (w:World):Prop where
 size:n<=w.heap.size
theorem Grown.mono {n:Nat} {w w':World} (h:Grown n w) (hb:Below w.heap.size w w'):Grown n w':=⟨Nat.le_trans h.size hb.size⟩
structure Since (w0 w:World):Prop where
 below:Below w0.heap.size w0 w
theorem Since.mono {w0 w w':World} (h:Since w0 w) (hb:Below w.heap.size w w'):Since w0 w':=⟨h.below.trans (hb.mono h.below.size)⟩
theorem Since.low {w0 w w':World} {B:Nat} (h:Since w0 w) (hb:Below B w w') (hB:w0.heap.size<=B):Since w0 w':=⟨h.below.trans (hb.mono hB)⟩
theorem zgp (a:Option Addr) (cap:Nat) (n k:Nat) (w:World) (hw:qp w a (zbF k n)) (hk:0 < k) (hn:n<=1048576) (hk2:k < 1000000) :
 Calls Tryz.prog 16 #[.slice a n cap,.int .i64 k] w fun e w'=>e = .returned (.int .i64 ((k+n:Nat):Int))/\w'=w:=by
 have HW:Hid (qp w a (zbF k n)):=hw;clear hw;go_enter Tryz.func16,Tryz.ntmps16;go_wp2_with fail
 go_loopw [1,5] (fun kv iv wr=>∃ i:Nat,i<=n/\kv = .int .i64 ((k+i:Nat):Int)/\iv = .int .i64 i/\wr=w) (fun _ iv _=>n - (intOf iv).toNat)
 case atStart=>exact ⟨0,Nat.zero_le _,rfl,rfl,rfl⟩
 case round =>
  obtain ⟨i,hi,rfl,rfl,rfl⟩:=hrel
  by_cases hlt:i < n
  ·have hlt':i < (zbF k n).length:=by rw [zbf];exact hlt
   obtain ⟨b,off,rfl,hb,hc⟩:=HW.out.cells (by intro e;rw [e] at hlt';simp at hlt');have hltI:(i:Int) < (n:Int):=by omega
   have hci:=hc i hlt';rw [zhm] at hci;have hw1:wrap64 ((k+i:Nat)+1:Int)=((k+(i+1):Nat):Int):=by rw [yw _ ⟨by omega,by omega⟩];omega
   obtain ⟨kk,hkk⟩:∃ kk:Int,kk=((k+i:Nat):Int):=⟨_,rfl⟩
   rw [<- hkk] at hci hw1 ⊢;have hnn:(kk != kk)=false:=by simp
   clear hkk hc;go_wp2_with fail
   go_roundw
   case rel=>exact ⟨i+1,by omega,by first | rw [hw1] | rfl,by go_num,trivial⟩
   case measure=>exact zn hlt
  ·have e:i=n:=by omega
   subst e;go_wp2_with fail
   go_ret;exact ⟨rfl,rfl⟩
set_option maxRecDepth 20000 in
theorem zlh (l:Lw) (la lb lc:Option Addr) (lca lcb lcc:Nat) (b:Bk) (a0 a1 a2 a3:Option Addr) (c0 c1 c2 c3:Nat) (w:World) (hl:y9 w l la lb lc) (ho:y7 w b a0 a1 a2 a3) :
 Calls Tryz.prog 3 #[.agg (l.cells la lb lc lca lcb lcc),.agg (b.cells a0 a1 a2 a3 c0 c1 c2 c3)] w fun e w'=>e = .returned (.bool true)/\Below w.heap.size w w':=by
 have HL:Hid (y9 w l la lb lc):=hl;have HO:Hid (y7 w b a0 a1 a2 a3):=ho;have HSm:Hid (l.Small/\b.Small):=⟨hl.small,ho.small⟩
 clear hl ho;unfold Lw.cells Bk.cells;go_enter Tryz.func3,Tryz.ntmps3;go_wp2_with fail
 obtain ⟨hX0,hO0⟩:=qw w #[.slice la l.ss.length lca,.slice lb l.ms.length lcb,.slice lc l.ts.length lcc] #[.int .i64 b.now,.int .i64 b.tick,.int .i64 b.given,.slice a0 b.os.length c0,.slice a1 b.gs.length c1,.slice a2 b.ls.length c2,.slice a3 b.ps.length c3] 26 32;have hB0:=zA w (.cells #[.slice la l.ss.length lca,.slice lb l.ms.length lcb,.slice lc l.ts.length lcc] 26) (.cells #[.int .i64 b.now,.int .i64 b.tick,.int .i64 b.given,.slice a0 b.os.length c0,.slice a1 b.gs.length c1,.slice a2 b.ls.length c2,.slice a3 b.ps.length c3] 32);obtain ⟨W0,hW0⟩:∃ W0,W0=(w.alloc (.cells #[.slice la l.ss.length lca,.slice lb l.ms.length lcb,.slice lc l.ts.length lcc] 26)).alloc (.cells #[.int .i64 b.now,.int .i64 b.tick,.int .i64 b.given,.slice a0 b.os.length c0,.slice a1 b.gs.length c1,.slice a2 b.ls.length c2,.slice a3 b.ps.length c3] 32):=⟨_,rfl⟩
 have zX0:w.heap.size < W0.heap.size:=by rw [hW0];simp;omega
 have zO0:w.heap.size+1 < W0.heap.size:=by rw [hW0];simp
 rw [<- hW0] at hB0 hX0 hO0 ⊢;clear hW0;refine (zki l _ _ _ _ _ _ _ _ (HL.out.mono hB0) (by omega) (by omega)).mono ?_;rintro e w1 ⟨rfl,hb⟩;have hX1:=za hX0 zX0 hb;have zX1:=nLt zX0 hb.size;have hO1:=za hO0 zO0 hb;have zO1:=nLt zO0 hb.size;have hB1:=hB0.trans (hb.mono hB0.size);clear hb hX0 zX0 hO0 zO0 hB0
 by_cases hsz:(l.sz:Int)<=1048576
 rotate_left
 ·rw [zC (by omega)]
  go_wp2_with fail
  go_ret;exact ⟨rfl,hB1⟩
 have HF:Hid l.Few:=Lw.few hsz;have hneg:decide (1048576 - (l.sz:Int) < 0)=false:=by simp;omega
 rw [zN hsz];go_wp2_with fail
 refine (zjy b _ _ _ _ _ _ _ _ _ _ (HO.out.mono hB1) (by omega) (by omega)).mono ?_;rintro e w2 ⟨rfl,hb⟩;have hX2:=za hX1 zX1 hb;have zX2:=nLt zX1 hb.size;have hO2:=za hO1 zO1 hb;have zO2:=nLt zO1 hb.size;have hB2:=hB1.trans (hb.mono hB1.size);clear hb hX1 zX1 hO1 zO1 hB1
 by_cases hoz:(b.sz:Int)<=1048576 - (l.sz:Int)
 rotate_left
 ·rw [zC (by omega)]
  go_wp2_with fail
  go_ret;exact ⟨rfl,hB2⟩
 have HG:Hid b.Few:=Bk.few (by omega);have HZ:Hid (qF b.os<=1048576):=by unfold Bk.sz at hoz;show _<=_;omega
 have hneg2:decide (1048576 - (l.sz:Int) - (b.sz:Int) < 0)=false:=by simp;omega
 rw [zN hoz];have HN:Hid ((Gate.zaY l b).length<=1048576):=(Gate.zpD l b HG.out)
 have HNm:Hid ((Gate.zaY l b).length<=maxLen):=by have:=HN.out;unfold maxLen;show _<=_;omega
 obtain ⟨xs,hxs⟩:∃ xs,xs=Gate.zaY l b:=⟨_,rfl⟩
 have HXS:Hid (xs=Gate.zaY l b):=hxs;rw [<- hxs] at HN HNm;clear hxs;go_wp2_with fail
 have hX:=za hX2 zX2 (bRf w2.heap.size w2).drew;have zX:w.heap.size < w2.drew.heap.size:=zX2;have hO:=za hO2 zO2 (bRf w2.heap.size w2).drew;have zO:w.heap.size+1 < w2.drew.heap.size:=zO2;have hB:=hB2.drew;clear hX2 zX2 hO2 zO2 hB2
 go_region_held3 (fun w'=>(∀ j,w'.cell? ⟨w.heap.size,j,none⟩=(#[.slice la l.ss.length lca,.slice lb l.ms.length lcb,.slice lc l.ts.length lcc]:Array Value)[j]?)/\(∀ j,w'.cell? ⟨w.heap.size+1,j,none⟩=(#[.int .i64 b.now,.int .i64 b.tick,.int .i64 b.given,.slice a0 b.os.length c0,.slice a1 b.gs.length c1,.slice a2 b.ls.length c2,.slice a3 b.ps.length c3]:Array Value)[j]?)) (exact ⟨hX,hO⟩) (first
  | (go_at_call 7;refine (zdi l _ _ _ _ _ _ _ (by exact HL.out.mono hB) HF.out).mono ?_;rintro e w3 ⟨pa,pb,pc,rfl,hl30,hb⟩;unfold Lw.cells;have hl3:=hl30;have hX:=za hX zX hb;have hO:=za hO zO hb;have hB:=hB.trans (hb.mono hB.size);have zX:=nLt zX hb.size;have zO:=nLt zO hb.size;clear hb)
  | (go_at_call 8;refine (zjj b _ _ _ _ _ _ _ _ _ (by exact HO.out.mono hB) HG.out).mono ?_;rintro e w3 ⟨pd,pe,pf,pg,rfl,ho30,ho3h0,hb⟩;unfold Bk.cells;have ho3:=ho30;have ho3h:=ho3h0;have hX:=za hX zX hb;have hO:=za hO zO hb;have hl3:=hl3.mono hb;have hB:=hB.trans (hb.mono hB.size);have zX:=nLt zX hb.size;have zO:=nLt zO hb.size;clear hb)
  | (go_at_call 6;refine (zkg l _ _ _ _ _ _ b _ _ _ _ _ _ _ _ _ (by exact hl3) (by exact ho3) (by exact ho3h) HG.out HZ.out).mono ?_;rintro e w3 ⟨vw,rfl,hvw,hb⟩;rw [<- HXS.out] at hvw;obtain ⟨aw,cw,rfl,hiw⟩:=zcw hvw HNm.out;clear hvw;have kw:=hiw;clear hl3;clear ho3;clear ho3h;have hX:=za hX zX hb;have hO:=za hO zO hb;have hB:=hB.trans (hb.mono hB.size);have zX:=nLt zX hb.size;have zO:=nLt zO hb.size;clear hb))
 have hX3:=hX;have zX3:=zX;have hO3:=hO;have zO3:=zO;have kw3:=kw;have hB3:=hB;clear hX zX hO zO kw hB;have sc3:Since w3 w3:=⟨bRf _ _⟩
 have HA:Hid (Below w.heap.size w w3/\w.heap.size+1 < w3.heap.size):=⟨hB3,zO3⟩
 have HKW:Hid (qp w3 aw xs):=kw3;go_wp2_with fail
 refine (ze5 l _ _ _ _ _ _ _ (HL.out.mono hB3) HF.out).mono ?_;rintro e w4 ⟨lo1,x0,x1,x2,rfl,hlo1,hown,hb⟩;have kl4:=hown.at HSm.out.1;have fl4:=hown.form;have hX4:=za hX3 zX3 hb;have zX4:=nLt zX3 hb.size;have hO4:=za hO3 zO3 hb;have zO4:=nLt zO3 hb.size;have kw4:=kw3.mono hb;have sc4:=sc3.mono hb;have hB4:=hB3.trans (hb.mono hB3.size);clear hb hX3 zX3 hO3 zO3 kw3 sc3 hB3 hown;have HLo1:Hid (w3.heap.size<=lo1):=hlo1;clear hlo1;unfold Lw.cells;have HS34:Hid (w3.heap.size<=w4.heap.size):=sc4.below.size;go_wp2_with fail
 have hb:Below w4.heap.size w4 (w4.alloc (.cells #[.slice (some ⟨x0,0,none⟩) l.ss.length l.ss.length,.slice (some ⟨x1,0,none⟩) l.ms.length l.ms.length,.slice (some ⟨x2,0,none⟩) l.ts.length l.ts.length] 41)):=bAl _ _;have hN:=zm w4 #[.slice (some ⟨x0,0,none⟩) l.ss.length l.ss.length,.slice (some ⟨x1,0,none⟩) l.ms.length l.ms.length,.slice (some ⟨x2,0,none⟩) l.ts.length l.ts.length] 41;obtain ⟨w5,hN0⟩:∃ w5,w5=w4.alloc (.cells #[.slice (some ⟨x0,0,none⟩) l.ss.length l.ss.length,.slice (some ⟨x1,0,none⟩) l.ms.length l.ms.length,.slice (some ⟨x2,0,none⟩) l.ts.length l.ts.length] 41):=⟨_,rfl⟩
 have hNz:w4.heap.size < w5.heap.size:=by rw [hN0];simp
 rw [<- hN0] at hb hN ⊢;clear hN0;have hX5:=za hX4 zX4 hb;have zX5:=nLt zX4 hb.size;have hO5:=za hO4 zO4 hb;have zO5:=nLt zO4 hb.size;have kw5:=kw4.mono hb;have sc5:=sc4.mono hb;have kl5:=kl4.mono hb;have fl5:=fl4.mono hb;have hB5:=hB4.trans (hb.mono hB4.size);clear hb hX4 zX4 hO4 zO4 kw4 sc4 kl4 fl4 hB4;have hV5:=hN;have zV5:=hNz;clear hN hNz;have ord45:w4.heap.size < w5.heap.size:=zV5;have s55:Since w5 w5:=⟨bRf _ _⟩
 refine (zcN b _ _ _ _ _ _ _ _ _ (HO.out.mono hB5) HG.out).mono ?_;rintro e w6 ⟨lo2,y0,y1,y2,y3,rfl,hlo2,hown,hb⟩;have ko6:=hown.at HSm.out.2;have fb6:=hown.form;have hX6:=za hX5 zX5 hb;have zX6:=nLt zX5 hb.size;have hO6:=za hO5 zO5 hb;have zO6:=nLt zO5 hb.size;have hV6:=za hV5 zV5 hb;have zV6:=nLt zV5 hb.size;have kw6:=kw5.mono hb;have sc6:=sc5.mono hb;have kl6:=kl5.mono hb;have fl6:=fl5.mono hb;have s56:=s55.mono hb;have hB6:=hB5.trans (hb.mono hB5.size);clear hb hX5 zX5 hO5 zO5 hV5 zV5 kw5 sc5 kl5 fl5 s55 hB5 hown;have ord56:w5.heap.size<=w6.heap.size:=s56.below.size;clear s56;have HLo2:Hid (w5.heap.size<=lo2):=hlo2;clear hlo2;unfold Bk.cells;go_wp2_with fail
 have hb:Below w6.heap.size w6 (w6.alloc (.cells #[.int .i64 b.now,.int .i64 b.tick,.int .i64 b.given,.slice (some ⟨y0,0,none⟩) b.os.length b.os.length,.slice (some ⟨y1,0,none⟩) b.gs.length b.gs.length,.slice (some ⟨y2,0,none⟩) b.ls.length b.ls.length,.slice (some ⟨y3,0,none⟩) b.ps.length b.ps.length] 48)):=bAl _ _;have hN:=zm w6 #[.int .i64 b.now,.int .i64 b.tick,.int .i64 b.given,.slice (some ⟨y0,0,none⟩) b.os.length b.os.length,.slice (some ⟨y1,0,none⟩) b.gs.length b.gs.length,.slice (some ⟨y2,0,none⟩) b.ls.length b.ls.length,.slice (some ⟨y3,0,none⟩) b.ps.length b.ps.length] 48;obtain ⟨w7,hN0⟩:∃ w7,w7=w6.alloc (.cells #[.int .i64 b.now,.int .i64 b.tick,.int .i64 b.given,.slice (some ⟨y0,0,none⟩) b.os.length b.os.length,.slice (some ⟨y1,0,none⟩) b.gs.length b.gs.length,.slice (some ⟨y2,0,none⟩) b.ls.length b.ls.length,.slice (some ⟨y3,0,none⟩) b.ps.length b.ps.length] 48):=⟨_,rfl⟩
 have hNz:w6.heap.size < w7.heap.size:=by rw [hN0];simp
 rw [<- hN0] at hb hN ⊢;clear hN0;have hX7:=za hX6 zX6 hb;have zX7:=nLt zX6 hb.size;have hO7:=za hO6 zO6 hb;have zO7:=nLt zO6 hb.size;have hV7:=za hV6 zV6 hb;have zV7:=nLt zV6 hb.size;have kw7:=kw6.mono hb;have sc7:=sc6.mono hb;have kl7:=kl6.mono hb;have fl7:=fl6.mono hb;have ko7:=ko6.mono hb;have fb7:=fb6.mono hb;have hB7:=hB6.trans (hb.mono hB6.size);clear hb hX6 zX6 hO6 zO6 hV6 zV6 kw6 sc6 kl6 fl6 ko6 fb6 hB6;have hU7:=hN;have zU7:=hNz;clear hN hNz;have s77:Grown w7.heap.size w7:=⟨Nat.le_refl _⟩
 have HOrd:Hid (w.heap.size+1 < w3.heap.size/\w4.heap.size < w5.heap.size/\w5.heap.size<=lo2/\w5.heap.size<=w6.heap.size/\w6.heap.size < w7.heap.size/\w3.heap.size<=w4.heap.size/\w3.heap.size<=lo1):=⟨HA.out.2,ord45,HLo2.out,ord56,zU7,HS34.out,HLo1.out⟩
 clear ord45 ord56;refine (zfe l _ _ _ _ _ _ b _ _ _ _ _ _ _ _ _ kl7 ko7 HF.out HG.out HZ.out).mono ?_;rintro e w8 ⟨vg,rfl,hvg,hb⟩;have hX8:=za hX7 zX7 hb;have zX8:=nLt zX7 hb.size;have hO8:=za hO7 zO7 hb;have zO8:=nLt zO7 hb.size;have hV8:=za hV7 zV7 hb;have zV8:=nLt zV7 hb.size;have hU8:=za hU7 zU7 hb;have zU8:=nLt zU7 hb.size;have kw8:=kw7.mono hb;have sc8:=sc7.mono hb;have kl8:=kl7.mono hb;have fl8:=fl7.mono hb;have ko8:=ko7.mono hb;have fb8:=fb7.mono hb;have s78:=s77.mono hb;have hB8:=hB7.trans (hb.mono hB7.size);clear hb hX7 zX7 hO7 zO7 hV7 zV7 hU7 zU7 kw7 sc7 kl7 fl7 ko7 fb7 s77 hB7;rw [<- HXS.out] at hvg;obtain ⟨ag,cg,rfl,_⟩:=zcw hvg HNm.out;have kg8:zd7 w7.heap.size w8 (.slice ag xs.length cg) xs:=⟨hvg⟩
 clear hvg;go_wp2_with fail
 refine (zd1 _ _ _ _ xs _ (kg8.ints HNm.out) kw8).mono ?_;rintro e w8b ⟨rfl,hb⟩;have hX9:=za hX8 zX8 hb;have zX9:=nLt zX8 hb.size;have hO9:=za hO8 zO8 hb;have zO9:=nLt zO8 hb.size;have hV9:=za hV8 zV8 hb;have zV9:=nLt zV8 hb.size;have hU9:=za hU8 zU8 hb;have zU9:=nLt zU8 hb.size;have kw9:=kw8.mono hb;have sc9:=sc8.mono hb;have kl9:=kl8.mono hb;have fl9:=fl8.mono hb;have ko9:=ko8.mono hb;have fb9:=fb8.mono hb;have s79:=s78.mono hb;have kg9:=kg8.mono hb;have hB9:=hB8.trans (hb.mono hB8.size);clear hb hX8 zX8 hO8 zO8 hV8 zV8 hU8 zU8 kw8 sc8 kl8 fl8 ko8 fb8 s78 kg8 hB8;go_wp2_with fail
 have hX:=za hX9 zX9 (bRf w8b.heap.size w8b).drew;have zX:w.heap.size < w8b.drew.heap.size:=zX9;have hO:=za hO9 zO9 (bRf w8b.heap.size w8b).drew;have zO:w.heap.size+1 < w8b.drew.heap.size:=zO9;have hV:=za hV9 zV9 (bRf w8b.heap.size w8b).drew;have zV:w4.heap.size < w8b.drew.heap.size:=zV9;have hU:=za hU9 zU9 (bRf w8b.heap.size w8b).drew;have zU:w6.heap.size < w8b.drew.heap.size:=zU9;have kw:=kw9.mono (bRf w8b.heap.size w8b).drew;have sc:=sc9.mono (bRf w8b.heap.size w8b).drew;have kl:=kl9.mono (bRf w8b.heap.size w8b).drew;have fl:=fl9.mono (bRf w8b.heap.size w8b).drew;have ko:=ko9.mono (bRf w8b.heap.size w8b).drew;have fb:=fb9.mono (bRf w8b.heap.size w8b).drew;have s7:=s79.mono (bRf w8b.heap.size w8b).drew;have kg:=kg9.mono (bRf w8b.heap.size w8b).drew;have hB:=hB9.drew;clear hX9 zX9 hO9 zO9 hV9 zV9 hU9 zU9 kw9 sc9 kl9 fl9 ko9 fb9 s79 kg9 hB9
 go_region_held3 (fun w'=>(∀ j,w'.cell? ⟨w.heap.size,j,none⟩=(#[.slice la l.ss.length lca,.slice lb l.ms.length lcb,.slice lc l.ts.length lcc]:Array Value)[j]?)/\(∀ j,w'.cell? ⟨w.heap.size+1,j,none⟩=(#[.int .i64 b.now,.int .i64 b.tick,.int .i64 b.given,.slice a0 b.os.length c0,.slice a1 b.gs.length c1,.slice a2 b.ls.length c2,.slice a3 b.ps.length c3]:Array Value)[j]?)/\(∀ j,w'.cell? ⟨w4.heap.size,j,none⟩=(#[.slice (some ⟨x0,0,none⟩) l.ss.length l.ss.length,.slice (some ⟨x1,0,none⟩) l.ms.length l.ms.length,.slice (some ⟨x2,0,none⟩) l.ts.length l.ts.length]:Array Value)[j]?)/\(∀ j,w'.cell? ⟨w6.heap.size,j,none⟩=(#[.int .i64 b.now,.int .i64 b.tick,.int .i64 b.given,.slice (some ⟨y0,0,none⟩) b.os.length b.os.length,.slice (some ⟨y1,0,none⟩) b.gs.length b.gs.length,.slice (some ⟨y2,0,none⟩) b.ls.length b.ls.length,.slice (some ⟨y3,0,none⟩) b.ps.length b.ps.length]:Array Value)[j]?)) (exact ⟨hX,hO,hV,hU⟩) (first
  | (go_at_call 7;refine (zdi l _ _ _ _ _ _ _ (by exact HL.out.mono hB) HF.out).mono ?_;rintro e w9 ⟨qa,qb,qc,rfl,hl90,hb⟩;unfold Lw.cells;have hl9:=hl90;have hX:=za hX zX hb;have hO:=za hO zO hb;have hV:=za hV zV hb;have hU:=za hU zU hb;have kw:=kw.mono hb;have sc:=sc.mono hb;have kl:=kl.mono hb;have fl:=fl.mono hb;have ko:=ko.mono hb;have fb:=fb.mono hb;have s7:=s7.mono hb;have kg:=kg.mono hb;have hB:=hB.trans (hb.mono hB.size);have zX:=nLt zX hb.size;have zO:=nLt zO hb.size;have zV:=nLt zV hb.size;have zU:=nLt zU hb.size;clear hb)
  | (go_at_call 11;refine (zke l _ _ _ _ _ _ _ _ _ _ _ _ _ (by exact kl) (by exact hl9)).mono ?_;rintro e w9 ⟨rfl,hb⟩;clear hl9;have hX:=za hX zX hb;have hO:=za hO zO hb;have hV:=za hV zV hb;have hU:=za hU zU hb;have kw:=kw.mono hb;have sc:=sc.mono hb;have kl:=kl.mono hb;have fl:=fl.mono hb;have ko:=ko.mono hb;have fb:=fb.mono hb;have s7:=s7.mono hb;have kg:=kg.mono hb;have hB:=hB.trans (hb.mono hB.size);have zX:=nLt zX hb.size;have zO:=nLt zO hb.size;have zV:=nLt zV hb.size;have zU:=nLt zU hb.size;clear hb))
 have hX10:=hX;have zX10:=zX;have hO10:=hO;have zO10:=zO;have hV10:=hV;have zV10:=zV;have hU10:=hU;have zU10:=zU;have kw10:=kw;have sc10:=sc;have kl10:=kl;have fl10:=fl;have ko10:=ko;have fb10:=fb;have s710:=s7;have kg10:=kg;have hB10:=hB;clear hX zX hO zO hV zV hU zU kw sc kl fl ko fb s7 kg hB;go_wp2_with fail
 have hX:=za hX10 zX10 (bRf w9.heap.size w9).drew;have zX:w.heap.size < w9.drew.heap.size:=zX10;have hO:=za hO10 zO10 (bRf w9.heap.size w9).drew;have zO:w.heap.size+1 < w9.drew.heap.size:=zO10;have hV:=za hV10 zV10 (bRf w9.heap.size w9).drew;have zV:w4.heap.size < w9.drew.heap.size:=zV10;have hU:=za hU10 zU10 (bRf w9.heap.size w9).drew;have zU:w6.heap.size < w9.drew.heap.size:=zU10;have kw:=kw10.mono (bRf w9.heap.size w9).drew;have sc:=sc10.mono (bRf w9.heap.size w9).drew;have kl:=kl10.mono (bRf w9.heap.size w9).drew;have fl:=fl10.mono (bRf w9.heap.size w9).drew;have ko:=ko10.mono (bRf w9.heap.size w9).drew;have fb:=fb10.mono (bRf w9.heap.size w9).drew;have s7:=s710.mono (bRf w9.heap.size w9).drew;have kg:=kg10.mono (bRf w9.heap.size w9).drew;have hB:=hB10.drew;clear hX10 zX10 hO10 zO10 hV10 zV10 hU10 zU10 kw10 sc10 kl10 fl10 ko10 fb10 s710 kg10 hB10
 go_region_held3 (fun w'=>(∀ j,w'.cell? ⟨w.heap.size,j,none⟩=(#[.slice la l.ss.length lca,.slice lb l.ms.length lcb,.slice lc l.ts.length lcc]:Array Value)[j]?)/\(∀ j,w'.cell? ⟨w.heap.size+1,j,none⟩=(#[.int .i64 b.now,.int .i64 b.tick,.int .i64 b.given,.slice a0 b.os.length c0,.slice a1 b.gs.length c1,.slice a2 b.ls.length c2,.slice a3 b.ps.length c3]:Array Value)[j]?)/\(∀ j,w'.cell? ⟨w4.heap.size,j,none⟩=(#[.slice (some ⟨x0,0,none⟩) l.ss.length l.ss.length,.slice (some ⟨x1,0,none⟩) l.ms.length l.ms.length,.slice (some ⟨x2,0,none⟩) l.ts.length l.ts.length]:Array Value)[j]?)/\(∀ j,w'.cell? ⟨w6.heap.size,j,none⟩=(#[.int .i64 b.now,.int .i64 b.tick,.int .i64 b.given,.slice (some ⟨y0,0,none⟩) b.os.length b.os.length,.slice (some ⟨y1,0,none⟩) b.gs.length b.gs.length,.slice (some ⟨y2,0,none⟩) b.ls.length b.ls.length,.slice (some ⟨y3,0,none⟩) b.ps.length b.ps.length]:Array Value)[j]?)) (exact ⟨hX,hO,hV,hU⟩) (first
  | (go_at_call 8;refine (zeP b _ _ _ _ _ _ _ _ _ (by exact HO.out.mono hB) HG.out).mono ?_;rintro e wA ⟨qd,qe,qf,qg,rfl,hoA0,hb⟩;unfold Bk.cells;have hoA:=hoA0;have hX:=za hX zX hb;have hO:=za hO zO hb;have hV:=za hV zV hb;have hU:=za hU zU hb;have kw:=kw.mono hb;have sc:=sc.mono hb;have kl:=kl.mono hb;have fl:=fl.mono hb;have ko:=ko.mono hb;have fb:=fb.mono hb;have s7:=s7.mono hb;have kg:=kg.mono hb;have hB:=hB.trans (hb.mono hB.size);have zX:=nLt zX hb.size;have zO:=nLt zO hb.size;have zV:=nLt zV hb.size;have zU:=nLt zU hb.size;clear hb)
  | (go_at_call 12;refine (ziM b _ _ _ _ _ _ _ _ _ _ _ _ _ _ _ _ _ (by exact ko) (by exact hoA)).mono ?_;rintro e wA ⟨rfl,hb⟩;clear hoA;have hX:=za hX zX hb;have hO:=za hO zO hb;have hV:=za hV zV hb;have hU:=za hU zU hb;have kw:=kw.mono hb;have sc:=sc.mono hb;have kl:=kl.mono hb;have fl:=fl.mono hb;have ko:=ko.mono hb;have fb:=fb.mono hb;have s7:=s7.mono hb;have kg:=kg.mono hb;have hB:=hB.trans (hb.mono hB.size);have zX:=nLt zX hb.size;have zO:=nLt zO hb.size;have zV:=nLt zV hb.size;have zU:=nLt zU hb.size;clear hb))
 have hX11:=hX;have zX11:=zX;have hO11:=hO;have zO11:=zO;have hV11:=hV;have zV11:=zV;have hU11:=hU;have zU11:=zU;have kw11:=kw;have sc11:=sc;have kl11:=kl;have fl11:=fl;have ko11:=ko;have fb11:=fb;have s711:=s7;have kg11:=kg;have hB11:=hB;clear hX zX hO zO hV zV hU zU kw sc kl fl ko fb s7 kg hB;clear kw11;clear kl11;clear ko11;go_wp2_with fail
 refine (zgP l _ _ _ _ _ _ lo1 w4.heap.size 1 _ fl11 HF.out (Nat.le_of_lt zV11) (by omega) (by omega)).mono ?_;rintro e wB ⟨k1,rfl,hk1,hk1b,hM⟩;have HK1:Hid (0 < k1/\k1 < 3000000000000000000):=⟨hk1,hk1b⟩
 clear hk1 hk1b;have hX12:=hM.box hX11 zX11 (Or.inl (by have a:=HOrd.out;have b:=HLo1.out;omega));have zX12:=nLt zX11 hM.size;have hO12:=hM.box hO11 zO11 (Or.inl (by have a:=HOrd.out;have b:=HLo1.out;omega));have zO12:=nLt zO11 hM.size;have hV12:=hM.box hV11 zV11 (Or.inr (Nat.le_refl _));have zV12:=nLt zV11 hM.size;have hU12:=hM.box hU11 zU11 (Or.inr (by have a:=HOrd.out;omega));have zU12:=nLt zU11 hM.size;have hMb:=hM.below (B:=w3.heap.size) (by have a:=HOrd.out;have b:=HLo1.out;omega) (Nat.le_trans (by have a:=HOrd.out;omega) (Nat.le_of_lt zU11));have sc12:=sc11.low hMb (Nat.le_refl _);have kg12:=kg11.marked hM (by have a:=HOrd.out;omega);have s712:Grown w7.heap.size wB:=⟨Nat.le_trans s711.size hM.size⟩
 have hB12:=hB11.trans (hMb.mono (by have a:=HOrd.out;omega));have fb12:=fb11.kept (Kept.apart hM (Or.inl (by have a:=HOrd.out;omega)));clear hM hMb hX11 zX11 hO11 zO11 hV11 zV11 hU11 zU11 sc11 kg11 hB11 s711 fb11 fl11;go_wp2_with fail
 refine (zfN b _ _ _ _ _ _ _ _ lo2 w6.heap.size k1 _ fb12 HG.out (Nat.le_of_lt zU12) HK1.out.1 HK1.out.2).mono ?_;rintro e wC ⟨k2,rfl,hk2,hk2b,hM⟩;have hk2n:decide (k2 < 0)=false:=by simp;omega
 clear hk2 hk2b;have hX13:=hM.box hX12 zX12 (Or.inl (by have a:=HOrd.out;omega));have zX13:=nLt zX12 hM.size;have hO13:=hM.box hO12 zO12 (Or.inl (by have a:=HOrd.out;omega));have zO13:=nLt zO12 hM.size;have hV13:=hM.box hV12 zV12 (Or.inl (by have a:=HOrd.out;omega));have zV13:=nLt zV12 hM.size;have hU13:=hM.box hU12 zU12 (Or.inr (Nat.le_refl _));have zU13:=nLt zU12 hM.size;have hMb:=hM.below (B:=w3.heap.size) (by have a:=HOrd.out;have b:=HLo1.out;omega) (Nat.le_trans (by have a:=HOrd.out;omega) (Nat.le_of_lt zU12));have sc13:=sc12.low hMb (Nat.le_refl _);have kg13:=kg12.marked hM (by have a:=HOrd.out;omega);have s713:Grown w7.heap.size wC:=⟨Nat.le_trans s712.size hM.size⟩
 have hB13:=hB12.trans (hMb.mono (by have a:=HOrd.out;omega));clear hM hMb hX12 zX12 hO12 zO12 hV12 zV12 hU12 zU12 sc12 kg12 hB12 s712 fb12;go_wp2_with fail
 refine (zd1 _ _ _ _ xs _ (kg13.ints HNm.out) (HKW.out.mono sc13.below)).mono ?_;rintro e wD ⟨rfl,hb⟩;have hX14:=za hX13 zX13 hb;have zX14:=nLt zX13 hb.size;have hO14:=za hO13 zO13 hb;have zO14:=nLt zO13 hb.size;have hV14:=za hV13 zV13 hb;have zV14:=nLt zV13 hb.size;have hU14:=za hU13 zU13 hb;have zU14:=nLt zU13 hb.size;have sc14:=sc13.mono hb;have s714:=s713.mono hb;have kg14:=kg13.mono hb;have hB14:=hB13.trans (hb.mono hB13.size);clear hb hX13 zX13 hO13 zO13 hV13 zV13 hU13 zU13 sc13 s713 kg13 hB13;clear hk2n;go_wp2_with fail
 refine (zlv w7.heap.size _ ag xs.length (ints xs) 1 _ kg14.row (zlM xs) HN.out (by omega) (by omega) s714.size).mono ?_;rintro e wE ⟨rfl,hig,hMb⟩;have hX15:∀ o,wE.cell? ⟨w.heap.size,o,none⟩=(#[.slice la l.ss.length lca,.slice lb l.ms.length lcb,.slice lc l.ts.length lcc]:Array Value)[o]?:=fun o=>(hMb.cell (p:=⟨w.heap.size,o,none⟩) (by show w.heap.size < _;have a:=HOrd.out;have b:=HLo1.out;have c:=HS34.out;omega)).trans (hX14 o)
 have hO15:∀ o,wE.cell? ⟨w.heap.size+1,o,none⟩=(#[.int .i64 b.now,.int .i64 b.tick,.int .i64 b.given,.slice a0 b.os.length c0,.slice a1 b.gs.length c1,.slice a2 b.ls.length c2,.slice a3 b.ps.length c3]:Array Value)[o]?:=fun o=>(hMb.cell (p:=⟨w.heap.size+1,o,none⟩) (by show w.heap.size+1 < _;have a:=HOrd.out;have b:=HLo1.out;have c:=HS34.out;omega)).trans (hO14 o)
 have zX15:=nLt zX14 hMb.size;have zO15:=nLt zO14 hMb.size;have sc15:=sc14.low hMb (by have a:=HOrd.out;have c:=HS34.out;omega);have hB15:=hB14.trans (hMb.mono (by have a:=HOrd.out;have c:=HS34.out;omega));have km15:=hig;clear hMb hig hX14 zX14 hO14 zO14 hV14 zV14 hU14 zU14 sc14 kg14 hB14 s714;have hq0:decide (((1+xs.length:Nat):Int) < 0)=false:=by simp;omega
 have hqm:(((1+xs.length:Nat):Int) != ((1+xs.length:Nat):Int))=false:=by simp
 obtain ⟨mm,hmm⟩:∃ mm:Int,mm=((1+xs.length:Nat):Int):=⟨_,rfl⟩
 rw [<- hmm] at hq0 hqm ⊢;go_wp2_with fail
 refine (zgp ag _ xs.length 1 _ km15 (by omega) HN.out (by omega)).mono ?_;rintro e wF ⟨rfl,hwf⟩;rw [hwf,<- hmm];clear hwf wF;go_wp2_with fail
 have hX:=za hX15 zX15 (bRf wE.heap.size wE).drew;have zX:w.heap.size < wE.drew.heap.size:=zX15;have hO:=za hO15 zO15 (bRf wE.heap.size wE).drew;have zO:w.heap.size+1 < wE.drew.heap.size:=zO15;have sc:=sc15.mono (bRf wE.heap.size wE).drew;have km:=km15.mono (bRf wE.heap.size wE).drew;have hB:=hB15.drew;clear hX15 zX15 hO15 zO15 sc15 km15 hB15
 go_region_held3 (fun w'=>(∀ j,w'.cell? ⟨w.heap.size,j,none⟩=(#[.slice la l.ss.length lca,.slice lb l.ms.length lcb,.slice lc l.ts.length lcc]:Array Value)[j]?)/\(∀ j,w'.cell? ⟨w.heap.size+1,j,none⟩=(#[.int .i64 b.now,.int .i64 b.tick,.int .i64 b.given,.slice a0 b.os.length c0,.slice a1 b.gs.length c1,.slice a2 b.ls.length c2,.slice a3 b.ps.length c3]:Array Value)[j]?)) (exact ⟨hX,hO⟩) (first
  | (go_at_call 7;refine (zdi l _ _ _ _ _ _ _ (by exact HL.out.mono hB) HF.out).mono ?_;rintro e wG ⟨ra,rb,rc,rfl,hl30,hb⟩;unfold Lw.cells;have hl3:=hl30;have hX:=za hX zX hb;have hO:=za hO zO hb;have sc:=sc.mono hb;have km:=km.mono hb;have hB:=hB.trans (hb.mono hB.size);have zX:=nLt zX hb.size;have zO:=nLt zO hb.size;clear hb)
  | (go_at_call 8;refine (zeP b _ _ _ _ _ _ _ _ _ (by exact HO.out.mono hB) HG.out).mono ?_;rintro e wG ⟨rd,re,rf,rg,rfl,ho30,hb⟩;unfold Bk.cells;have ho3:=ho30;have hX:=za hX zX hb;have hO:=za hO zO hb;have sc:=sc.mono hb;have km:=km.mono hb;have hl3:=hl3.mono hb;have hB:=hB.trans (hb.mono hB.size);have zX:=nLt zX hb.size;have zO:=nLt zO hb.size;clear hb)
  | (go_at_call 9;refine (zfe l _ _ _ _ _ _ b _ _ _ _ _ _ _ _ _ (by exact hl3) (by exact ho3) HF.out HG.out HZ.out).mono ?_;rintro e wG ⟨vh,rfl,hvh,hb⟩;rw [<- HXS.out] at hvh;obtain ⟨ah,ch,rfl,hih⟩:=zcw hvh HNm.out;clear hvh;have kh:=hih;clear hl3;clear ho3;have hX:=za hX zX hb;have hO:=za hO zO hb;have sc:=sc.mono hb;have km:=km.mono hb;have hB:=hB.trans (hb.mono hB.size);have zX:=nLt zX hb.size;have zO:=nLt zO hb.size;clear hb))
 have hX16:=hX;have zX16:=zX;have hO16:=hO;have zO16:=zO;have sc16:=sc;have km16:=km;have kh16:=kh;have hB16:=hB;clear hX zX hO zO sc km kh hB;go_wp2_with fail
 refine (zd1 _ _ _ _ xs _ kh16 (HKW.out.mono sc16.below)).mono ?_;rintro e wH ⟨rfl,hb⟩;have hX17:=za hX16 zX16 hb;have zX17:=nLt zX16 hb.size;have hO17:=za hO16 zO16 hb;have zO17:=nLt zO16 hb.size;have sc17:=sc16.mono hb;have km17:=km16.mono hb;have kh17:=kh16.mono hb;have hB17:=hB16.trans (hb.mono hB16.size);clear hb hX16 zX16 hO16 zO16 sc16 km16 kh16 hB16;go_wp2_with fail
 refine (zgp ag _ xs.length 1 _ km17 (by omega) HN.out (by omega)).mono ?_;rintro e wI ⟨rfl,hwf⟩;rw [hwf,<- hmm];clear hwf wI;go_wp2_with fail
 go_ret;exact ⟨rfl,hB17⟩
end Go.Proofs.YtghnakljnhnenaaGreat
namespace Go.Proofs.YtghnakljnhnenaaGreat.LawGoing
open Go.ChangeShapes Go.WideShapes Go.ChangeAt Go.RowKit
theorem kInPlace:(Rows.fnExactGateGoingRow.inPlace == Tryz.pinned.checked.prog.inPlace 3)=true:=by kernel_rfl
theorem kUnfol:(Rows.fnExactGateGoingRow.unfollowed == Tryz.pinned.checked.prog.unfollowed 3)=true:=by kernel_rfl
end Go.Proofs.YtghnakljnhnenaaGreat.LawGoing
namespace Go.Proofs.YtghnakljnhnenaaGreat.LawGoing
open Go.ChangeShapes Go.WideShapes Go.ChangeAt Go.RowKit
theorem kRecur:(Rows.fnExactGateGoingRow.recurses == Tryz.pinned.checked.prog.recurses 3)=true:=by kernel_rfl
theorem kNamed:(Rows.fnExactGateGoingRow.named == Tryz.pinned.checked.prog.varsNamed 3)=true:=by kernel_rfl
end Go.Proofs.YtghnakljnhnenaaGreat.LawGoing
