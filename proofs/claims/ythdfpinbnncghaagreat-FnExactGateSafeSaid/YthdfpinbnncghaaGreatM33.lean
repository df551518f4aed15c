import Derived.Test.YthdfpinbnncghaaGreatM28
import Derived.Test.YthdfpinbnncghaaGreatM26
set_option maxHeartbeats 8000000
namespace Go.Proofs.YthdfpinbnncghaaGreat
open Go.RowKit
structure Dor where
 nm:BA
 up:Bool
 v:Bk
 ss:List Sl
def Dor.cells (d:Dor)(a0 a1 a2 a3 a4:OA)(c0 c1 c2 c3 c4:Nat):AV:=#[.s d.nm,.bool d.up,.i d.v.now,.i d.v.tick,.i d.v.given,.l a0 d.v.os.length c0,.l a1 d.v.gs.length c1,.l a2 d.v.ls.length c2,.l a3 d.v.ps.length c3,.l a4 d.ss.length c4]
structure zbX (H:Prop)(w:World)(d:Dor)(a0 a1 a2 a3 a4:OA):Prop where
 nm:d.nm.size<=maxLen
 v:jU w d.v a0 a1 a2 a3
 ss:zbU w a4 d.ss
 has:H->zcJ w a0 d.v.os
theorem zbX.mono {H:Prop}{w w':World}{d:Dor}{a0 a1 a2 a3 a4:OA}(h:zbX H w d a0 a1 a2 a3 a4)(hl:Bw w w'):zbX H w' d a0 a1 a2 a3 a4:=⟨h.nm,h.v.mono hl,h.ss.mono hl,fun x=>(h.has x).mono hl⟩
structure zox (H:Prop)(w:World)(b off:Nat)(d:Dor)(a0 a1 a2 a3 a4:OA)(c0 c1 c2 c3 c4:Nat):Prop where
 here:zbX H w d a0 a1 a2 a3 a4
 cell:∀j,j<10->w.cell? (aD b (off+j))=(d.cells a0 a1 a2 a3 a4 c0 c1 c2 c3 c4)[j]?
structure zay (H:Prop)(w:World)(a:OA)(ds:List Dor):Prop where
 len:ds.length<=maxLen
 rows:ds≠[]->∃b off,a=some (aD b off)/\b<w.heap.size/\∀i (h:i<ds.length),∃a0 a1 a2 a3 a4 c0 c1 c2 c3 c4,zox H w b (off+i*10) ds[i] a0 a1 a2 a3 a4 c0 c1 c2 c3 c4
theorem zox.mono {H:Prop}{w w':World}{b off:Nat}{d:Dor}{a0 a1 a2 a3 a4:OA}{c0 c1 c2 c3 c4:Nat}(h:zox H w b off d a0 a1 a2 a3 a4 c0 c1 c2 c3 c4)(hb:b<w.heap.size)(hl:Bw w w'):zox H w' b off d a0 a1 a2 a3 a4 c0 c1 c2 c3 c4:=
 ⟨h.here.mono hl,fun j hj=>(hl.cell (p:=(aD b (off+j))) hb).trans (h.cell j hj)⟩
theorem zay.mono {H:Prop}{w w':World}{a:OA}{ds:List Dor}(h:zay H w a ds)(hl:Bw w w'):zay H w' a ds:=
 ⟨h.len,fun hne=>by
  obtain⟨b,off,ha,hb,hr⟩:=h.rows hne;refine⟨b,off,ha,nLt hb hl.size,fun i hi=>?_⟩;obtain⟨a0,a1,a2,a3,a4,c0,c1,c2,c3,c4,hf⟩:=hr i hi;exact⟨a0,a1,a2,a3,a4,c0,c1,c2,c3,c4,hf.mono hb hl⟩⟩
theorem zay.load {H:Prop}{w w':World}{a:OA}{ds:List Dor}(h:zay H w a ds)(hl:Bw w w')(i:Nat)(hi:i<ds.length):∃b off a0 a1 a2 a3 a4 c0 c1 c2 c3 c4,a=some (aD b off)/\b<w.heap.size/\zbX H w' ds[i] a0 a1 a2 a3 a4/\w'.cell? (aD b (off+i*10))=some (.s ds[i].nm)/\w'.cell? (aD b (off+i*10+1))=some (.bool ds[i].up)/\w'.cell? (aD b (off+i*10+2))=some (.i ds[i].v.now)/\w'.cell? (aD b (off+i*10+3))=some (.i ds[i].v.tick)/\w'.cell? (aD b (off+i*10+4))=some (.i ds[i].v.given)/\w'.cell? (aD b (off+i*10+5))=some (.l a0 ds[i].v.os.length c0)/\w'.cell? (aD b (off+i*10+6))=some (.l a1 ds[i].v.gs.length c1)/\w'.cell? (aD b (off+i*10+7))=some (.l a2 ds[i].v.ls.length c2)/\w'.cell? (aD b (off+i*10+8))=some (.l a3 ds[i].v.ps.length c3)/\w'.cell? (aD b (off+i*10+9))=some (.l a4 ds[i].ss.length c4):=by
 obtain⟨b,off,ha,hb,hr⟩:=h.rows (by rintro rfl;simp at hi);obtain⟨a0,a1,a2,a3,a4,c0,c1,c2,c3,c4,hf0⟩:=hr i hi;have hf:=hf0.mono hb hl;exact⟨b,off,a0,a1,a2,a3,a4,c0,c1,c2,c3,c4,ha,hb,hf.here,hf.cell 0 (by omega),hf.cell 1 (by omega),hf.cell 2 (by omega),hf.cell 3 (by omega),hf.cell 4 (by omega),hf.cell 5 (by omega),hf.cell 6 (by omega),hf.cell 7 (by omega),hf.cell 8 (by omega),hf.cell 9 (by omega)⟩
theorem zay.range {H:Prop}{w w':World}{a:OA}{ds:List Dor}(h:zay H w a ds)(hl:Bw w w')(i:Nat)(hi:i<ds.length):∃b off a0 a1 a2 a3 a4 c0 c1 c2 c3 c4,a=some (aD b off)/\b<w.heap.size/\zbX H w' ds[i] a0 a1 a2 a3 a4/\w'.rangeAt b (off+i*10) (ds[i].cells a0 a1 a2 a3 a4 c0 c1 c2 c3 c4).toList:=by
 obtain⟨b,off,ha,hb,hr⟩:=h.rows (by rintro rfl;simp at hi);obtain⟨a0,a1,a2,a3,a4,c0,c1,c2,c3,c4,hf⟩:=hr i hi;exact⟨b,off,a0,a1,a2,a3,a4,c0,c1,c2,c3,c4,ha,hb,hf.here.mono hl,qX (zdU rfl hf.cell) hb hl⟩
def Dor.sz (d:Dor):Nat:=d.nm.size+d.v.sz+zdf d.ss
structure Dor.Few (d:Dor):Prop where
 v:d.v.Few
 z:qR d.v.os<=1048576
 ss:d.ss.length<=1048576/\∀i (h:i<d.ss.length),d.ss[i].Few
theorem Dor.few {d:Dor}(h:(d.sz:Int)<=1048576):d.Few:=by
 unfold Dor.sz at h;refine⟨Bk.few (by omega),?_,zse (left:=1048576) (by omega) (by omega)⟩;unfold Bk.sz at h;omega
def zb9 (ds:List Dor):Nat:=(ds.map Dor.sz).sum
def zbw (ds:List Dor):Nat:=ds.length+zb9 ds
theorem zrg {ds:List Dor}{left:Int}(h:(zbw ds:Int)<=left)(hl:left<=1048576):ds.length<=1048576/\∀i (h:i<ds.length),ds[i].Few:=by
 unfold zbw at h;refine⟨by omega,fun i hi=>?_⟩;have h1:ds[i].sz<=zb9 ds:=zfB Dor.sz ds i hi;exact Dor.few (by omega)
theorem zfa (H:Prop)(d:Dor)(a0 a1 a2 a3 a4:OA)(c0 c1 c2 c3 c4:Nat)(left:Int)(w:World)(ho:zbX H w d a0 a1 a2 a3 a4)(h0:0<=left)(h1:left<=1048576) :
 Calls Tryz.prog 55 #[.agg (d.cells a0 a1 a2 a3 a4 c0 c1 c2 c3 c4),.i left] w fun e w'=>e=.returned (.i (zD d.sz left))/\Bw w w':=by
 have k1:=ho.nm;have HX:Hid (jU w d.v a0 a1 a2 a3):=ho.v;have HW:Hid (zbU w a4 d.ss):=ho.ss;clear ho;unfold maxLen at k1;unfold Dor.cells
 by_cases p1:(d.nm.size:Int)<=left
 rotate_left
 ·have HF:Hid (zD d.sz left=-1):=zq (by unfold Dor.sz;omega)
  go_enter Tryz.func55,Tryz.ntmps55;go_wp2_with fail
  go_ret;exact⟨zk HF.o.symm,bAl _ _⟩
 go_enter Tryz.func55,Tryz.ntmps55;go_wp2_with fail
 have hX0:=zn w #[.s d.nm,.bool d.up,.i d.v.now,.i d.v.tick,.i d.v.given,.l a0 d.v.os.length c0,.l a1 d.v.gs.length c1,.l a2 d.v.ls.length c2,.l a3 d.v.ps.length c3,.l a4 d.ss.length c4] 126;have hB0:Bw w (w.alloc (.cells #[.s d.nm,.bool d.up,.i d.v.now,.i d.v.tick,.i d.v.given,.l a0 d.v.os.length c0,.l a1 d.v.gs.length c1,.l a2 d.v.ls.length c2,.l a3 d.v.ps.length c3,.l a4 d.ss.length c4] 126)):=bAl _ _;obtain⟨W0,hW0⟩:=xN (w.alloc (.cells #[.s d.nm,.bool d.up,.i d.v.now,.i d.v.tick,.i d.v.given,.l a0 d.v.os.length c0,.l a1 d.v.gs.length c1,.l a2 d.v.ls.length c2,.l a3 d.v.ps.length c3,.l a4 d.ss.length c4] 126));have hz0:w.heap.size<W0.heap.size:=by rw[hW0];simp
 rw[<- hW0]at hB0 hX0 ⊢;clear hW0;refine(zc1 d.v _ _ _ _ _ _ _ _ _ _ (HX.o.mono hB0) (by omega) (by omega)).mono ?_;rintro e w1⟨rfl,hb⟩;have hX1:=za hX0 hz0 hb;have hz1:=nLt hz0 hb.size;have hB1:=hB0.trans (hb.mono hB0.size);clear hb hX0 hz0 hB0
 by_cases p2:(d.v.sz:Int)<=left-d.nm.size
 rotate_left
 ·have HF:Hid (zD d.sz left=-1):=zq (by unfold Dor.sz;omega)
  rw[zq (by omega)];go_wp2_with fail
  go_ret;exact⟨zk HF.o.symm,hB1⟩
 rw[zF p2];go_wp2_with fail
 refine(ziQ _ _ d.ss _ _ (HW.o.mono hB1) (by omega) (by omega)).mono ?_;rintro e w2⟨rfl,hb⟩;have hB2:=hB1.trans (hb.mono hB1.size);clear hb hX1 hz1 hB1
 by_cases p3:(zdf d.ss:Int)<=left-d.nm.size-d.v.sz
 rotate_left
 ·have HF:Hid (zD d.sz left=-1):=zq (by unfold Dor.sz;omega)
  rw[zq (by omega)];go_wp2_with fail
  go_ret;exact⟨zk HF.o.symm,hB2⟩
 ·have HF:Hid (zD d.sz left=left-d.nm.size-d.v.sz-zdf d.ss):=by
   unfold Hid;rw[zF (by unfold Dor.sz;omega)];unfold Dor.sz;omega
  rw[zF p3];go_wp2_with fail
  go_ret;exact⟨zk HF.o.symm,hB2⟩
theorem zjs (H:Prop)(a:OA)(cap:Nat)(ms:List Dor)(left:Int)(w:World)(hw:zay H w a ms)(h0:0<=left)(h1:left<=1048576) :
 Calls Tryz.prog 22 #[.l a ms.length cap,.i left] w fun e w'=>e=.returned (.i (zD (zbw ms) left))/\Bw w w':=by
 have hl:=hw.len;unfold maxLen at hl
 by_cases hfit:(ms.length:Int)<=left
 ·go_enter Tryz.func22,Tryz.ntmps22
  go_wp2_with fail
  go_loopw [1,5] (fun l i wr=>∃k:Nat,k<=ms.length/\i=.i k/\0<=left-ms.length-zb9 (ms.take k)/\l=.i (left-ms.length-zb9 (ms.take k))/\Bw w wr) (fun _ i _=>ms.length-(intOf i).toNat)
  case atStart=>exact⟨0,Nat.zero_le _,rfl,by simp[zb9];omega,by simp[zb9],bRf _ _⟩
  case round=>
   obtain⟨k,hk,rfl,hpos,rfl,hB⟩:=hrel
   by_cases hlt:k<ms.length
   ·obtain⟨b,off,a0,a1,a2,a3,a4,c0,c1,c2,c3,c4,rfl,hb,hsl,d0,d1,d2,d3,d4,d5,d6,d7,d8,d9⟩:=hw.load hB k hlt
    have hbr:=nLt hb hB.size;have HS:Hid (zb9 (ms.take (k+1))=zb9 (ms.take k)+ms[k].sz):=zas Dor.sz ms k hlt;have hle:zb9 (ms.take (k+1))<=zb9 ms:=zbO Dor.sz ms (k+1);have HI:=hid hsl;clear hw hsl
    by_cases hneg:(ms[k].sz:Int)<=left-ms.length-zb9 (ms.take k)
    ·have HNG:Hid ((ms[k].sz:Int)<=left-ms.length-zb9 (ms.take k)):=hneg
     clear hle;go_wp2_with fail
     refine(zfa H ms[k] a0 a1 a2 a3 a4 c0 c1 c2 c3 c4 _ _ HI.o hpos (by omega)).mono ?_;rintro e w1⟨rfl,hb1⟩;rw[zF HNG.o];have hB1:=hB.trans (hb1.mono hB.size);clear hb1;go_wp2_with fail
     exact⟨⟨k+1,by omega,by go_num,by rw[HS.o];omega,by rw[HS.o];congr 1;omega,hB1⟩,by simp[intOf];omega⟩
    ·have HF:Hid (zD (zbw ms) left=-1):=zq (by have:=HS.o;unfold zbw;omega)
     have HNG:=hid hneg;clear hneg hle;go_wp2_with fail
     refine(zfa H ms[k] a0 a1 a2 a3 a4 c0 c1 c2 c3 c4 _ _ HI.o hpos (by omega)).mono ?_;rintro e w1⟨rfl,hb1⟩;rw[zq (by have:=HNG.o;omega)];have hB1:=hB.trans (hb1.mono hB.size);clear hb1;go_wp2_with fail
     go_ret;exact⟨zk HF.o.symm,hB1⟩
   ·have HF:Hid (zD (zbw ms) left=left-ms.length-zb9 (ms.take k)):=by
     rw[tOl (by omega)]at hpos ⊢;have e:zD (zbw ms) left=left-zbw ms:=zF (by unfold zbw;omega);unfold Hid;rw[e];unfold zbw;omega
    clear hw
    go_wp2
    go_ret;exact⟨zk HF.o.symm,hB⟩
 ·have HF:Hid (zD (zbw ms) left=-1):=zq (by unfold zbw;omega)
  clear hw;go_enter Tryz.func22,Tryz.ntmps22
  go_wp2
  go_ret;exact⟨zk HF.o.symm,bRf _ _⟩
theorem zj3 (H H':Prop)(d:Dor)(a0 a1 a2 a3 a4:OA)(c0 c1 c2 c3 c4:Nat)(b0 b1 b2 b3 b4:OA)(e0 e1 e2 e3 e4:Nat)(w:World)(ho:zbX H w d a0 a1 a2 a3 a4)(ho':zbX H' w d b0 b1 b2 b3 b4) :
 Calls Tryz.prog 86 #[.agg (d.cells a0 a1 a2 a3 a4 c0 c1 c2 c3 c4),.agg (d.cells b0 b1 b2 b3 b4 e0 e1 e2 e3 e4)] w fun e w'=>e=.returned (.bool true)/\Bw w w':=by
 have HA:Hid (zbX H w d a0 a1 a2 a3 a4/\zbX H' w d b0 b1 b2 b3 b4):=⟨ho,ho'⟩
 have hn1:(d.up != d.up)=false:=by simp
 clear ho ho';unfold Dor.cells;go_enter Tryz.func86,Tryz.ntmps86;go_wp2_with fail
 obtain⟨hX0,hY0⟩:=zci w #[.s d.nm,.bool d.up,.i d.v.now,.i d.v.tick,.i d.v.given,.l a0 d.v.os.length c0,.l a1 d.v.gs.length c1,.l a2 d.v.ls.length c2,.l a3 d.v.ps.length c3,.l a4 d.ss.length c4] #[.s d.nm,.bool d.up,.i d.v.now,.i d.v.tick,.i d.v.given,.l b0 d.v.os.length e0,.l b1 d.v.gs.length e1,.l b2 d.v.ls.length e2,.l b3 d.v.ps.length e3,.l b4 d.ss.length e4] 133 133;have hB0:=zx w (.cells #[.s d.nm,.bool d.up,.i d.v.now,.i d.v.tick,.i d.v.given,.l a0 d.v.os.length c0,.l a1 d.v.gs.length c1,.l a2 d.v.ls.length c2,.l a3 d.v.ps.length c3,.l a4 d.ss.length c4] 133) (.cells #[.s d.nm,.bool d.up,.i d.v.now,.i d.v.tick,.i d.v.given,.l b0 d.v.os.length e0,.l b1 d.v.gs.length e1,.l b2 d.v.ls.length e2,.l b3 d.v.ps.length e3,.l b4 d.ss.length e4] 133);obtain⟨W0,hW0⟩:=xN ((w.alloc (.cells #[.s d.nm,.bool d.up,.i d.v.now,.i d.v.tick,.i d.v.given,.l a0 d.v.os.length c0,.l a1 d.v.gs.length c1,.l a2 d.v.ls.length c2,.l a3 d.v.ps.length c3,.l a4 d.ss.length c4] 133)).alloc (.cells #[.s d.nm,.bool d.up,.i d.v.now,.i d.v.tick,.i d.v.given,.l b0 d.v.os.length e0,.l b1 d.v.gs.length e1,.l b2 d.v.ls.length e2,.l b3 d.v.ps.length e3,.l b4 d.ss.length e4] 133));have hz0:w.heap.size+1<W0.heap.size:=by rw[hW0];simp
 rw[<- hW0]at hB0 hX0 hY0 ⊢;clear hW0;refine(zdl d.v _ _ _ _ _ _ _ _ _ _ _ _ _ _ _ _ _ (HA.o.1.v.mono hB0) (HA.o.2.v.mono hB0)).mono ?_;rintro e w1⟨rfl,hb⟩;have hX1:=za hX0 (nSl hz0) hb;have hY1:=za hY0 hz0 hb;have hz1:=nLt hz0 hb.size;have hB1:=hB0.trans (hb.mono hB0.size);clear hb hX0 hY0 hz0 hB0;go_wp2_with fail
 refine(zje _ _ _ _ d.ss _ (HA.o.1.ss.mono hB1) (HA.o.2.ss.mono hB1)).mono ?_;rintro e w2⟨rfl,hb⟩;have hX2:=za hX1 (nSl hz1) hb;have hY2:=za hY1 hz1 hb;have hz2:=nLt hz1 hb.size;have hB2:=hB1.trans (hb.mono hB1.size);clear hb hX1 hY1 hz1 hB1;go_wp2_with fail
 go_ret;exact⟨rfl,hB2⟩
theorem ziW (H H':Prop)(a a':OA)(cap cap':Nat)(ms:List Dor)(w:World)(hw:zay H w a ms)(hw':zay H' w a' ms) :
 Calls Tryz.prog 47 #[.l a ms.length cap,.l a' ms.length cap'] w fun e w'=>e=.returned (.bool true)/\Bw w w':=by
 have hl:=hw.len;unfold maxLen at hl;have hnn:((ms.length:Int) != ms.length)=false:=by simp
 go_enter Tryz.func47,Tryz.ntmps47;go_wp2_with fail
 go_loopw [5] (fun i wr=>∃k:Nat,k<=ms.length/\i=.i k/\Bw w wr) (fun i _=>ms.length-(intOf i).toNat)
 case atStart=>exact⟨0,Nat.zero_le _,rfl,bRf _ _⟩
 case round=>
  obtain⟨k,hk,rfl,hB⟩:=hrel
  by_cases hlt:k<ms.length
  ·obtain⟨b,off,a0,a1,a2,a3,a4,c0,c1,c2,c3,c4,rfl,hb,hs,hr⟩:=hw.range hB.drew k hlt
   obtain⟨b',off',a0',a1',a2',a3',a4',c0',c1',c2',c3',c4',rfl,hb',hs',hr'⟩:=hw'.range hB.drew k hlt;have hltI:(k:Int)<(ms.length:Int):=by omega
   have HS:=ji hs hs';have HQ:=ji hr hr';have hB1:=hB.drew;have hb1:=nLt hb hB1.size;have hb2:=nLt hb' hB1.size;clear hw hw' hs hs' hr hr';go_wp2_with fail
   refine wp_region_held_drew (S:=fun w'=>w'.rangeAt b (off+k*10) (ms[k].cells a0 a1 a2 a3 a4 c0 c1 c2 c3 c4).toList/\w'.rangeAt b' (off'+k*10) (ms[k].cells a0' a1' a2' a3' a4' c0' c1' c2' c3' c4').toList) (by kernel_rfl) HQ.o (fun H_=>?_);refine tG 0 ?_;refine tG 1 ?_;refine tG 2 ?_;refine mH 3 rfl H_ (fun _ h=>h.1) Tryz.underlying133 rfl (by kernel_rfl) ?_;refine tG 4 ?_;refine tG 5 ?_;refine tG 6 ?_;refine mH 7 rfl H_ (fun _ h=>h.2) Tryz.underlying133 rfl (by kernel_rfl) ?_;refine cH 8 rfl fun K hK=>?_
   go_simp
   refine(zj3 H H' ms[k] a0 a1 a2 a3 a4 c0 c1 c2 c3 c4 a0' a1' a2' a3' a4' c0' c1' c2' c3' c4' _ HS.o.1 HS.o.2).mono ?_;rintro e w1⟨rfl,hbb⟩;have hB2:=hB1.trans (hbb.mono hB1.size)
   (try go_wp2_with fail)
   refine hK.out _ _ ?_ (fun H_=>?_)
   ·exact⟨qX HQ.o.1 hb1 hbb,qX HQ.o.2 hb2 hbb⟩
   clear hK K
   (try simp only[Act.put,sA,s0,sS])
   refine tG 9 ?_;refine wpAnyH_done (by kernel_rfl) ?_ _;go_wp2_with fail
   exact⟨⟨k+1,by omega,by go_num,hB2⟩,by simp[intOf];omega⟩
  ·clear hw hw'
   go_wp2_with fail
   go_ret;exact⟨rfl,hB⟩
section
variable {P:Program} {ops:Array Oper} {Q:Exit->Act->World->Prop}
theorem tL {oi:Oper}{rest:List Oper}{v:Value}{a a':Act}{w:World}(h:wpList P ops Q rest a' w)(hg:oi.guard=none:=by rfl)
 (hy:(execOp a.eval oi).run P w=.ok (.value v) w:=by(go_simp;try with_reducible rfl)) (ha:a.put oi.dst v=a':=by((try simp only[Act.put,sA,s0,sS]);rfl)):wpList P ops Q (oi :: rest) a w:=
 wpList_plain hg fun K hK=>by
  unfold Oper.wp;rw[hy];exact hK _ _ (ha ▸ h)
theorem cL {oi:Oper}{rest:List Oper}{a:Act}{w:World}(h:∀K:Act->World->Prop,Shut (∀a w,wpList P ops Q rest a w->K a w)->Oper.wp P oi a w K Q)(hg:oi.guard=none:=by rfl):wpList P ops Q (oi :: rest) a w:=
 wpList_plain hg fun K hK=>h K hK
end
theorem zeH {t:TypeId}{b:Nat}:∀(vs:List Value) (o:Nat) (w:World) (C:AV),w.heap[b]?=some (.cells C t)->o+vs.length<=C.size->∃C',(w.setCells b o vs).heap[b]?=some (.cells C' t)/\C'.size=C.size/\(∀j,j<vs.length->C'[o+j]?=vs[j]?)/\∀x,(x<o \/ o+vs.length<=x)->C'[x]?=C[x]?
 | [],_,_,C,h,_=>⟨C,h,rfl,fun j hj=>by simp at hj,fun _ _=>rfl⟩
 | v :: r,o,w,C,h,hs=>by
  simp only[List.length_cons]at hs;obtain⟨C',h1,h2,h3,h4⟩:=zeH r (o+1) (w.setCell (aD b o) v) _ (zh h v) (by simp;omega);refine⟨C',h1,h2.trans (by simp),fun j hj=>?_,fun x hx=>?_⟩
  ·cases j with
   | zero=>
    rw[h4 _ (by omega),Nat.add_zero,Array.getElem?_setIfInBounds,if_pos rfl,if_pos (by omega)]
    rfl
   | succ j=>
    rw[show o+(j+1)=o+1+j by omega,h3 j (by simpa using hj)]
    rfl
  ·simp only[List.length_cons]at hx
   rw[h4 x (by omega),Array.getElem?_setIfInBounds,if_neg (by omega)]
theorem zbK {b lo:Nat}(hb:b<lo):∀(vs:List Value) (o:Nat) (w:World),yw lo w (w.setCells b o vs)
 | [],_,_=>yw.refl _ _
 | v :: r,o,_=>(yw.setCell (p:=(aD b o)) hb v).trans (zbK hb r (o+1) _)
theorem zbY {B b:Nat}{a:World}(hb:B<=b):∀(vs:List Value) (o:Nat) (w:World),Below B a w->Below B a (w.setCells b o vs)
 | [],_,_,h=>h
 | v :: r,o,_,h=>zbY hb r (o+1) _ (h.setCell hb v)
theorem zfu {t:TypeId}{b:Nat}{w:World}{C X:AV}(h:w.heap[b]?=some (.cells C t))(hs:C.size=X.size):(w.setCells b 0 X.toList).heap[b]?=some (.cells X t):=by
 obtain⟨C',h1,h2,h3,_⟩:=zeH X.toList 0 w C h (by simp;omega)
 have e:C'=X:=by
  apply Array.ext (h2.trans hs)
  intro i hi hi';have h5:=h3 i (by simpa using hi');rw[Nat.zero_add]at h5;have h6:C'[i]?=X[i]?:=by simpa using h5
  rw[Array.getElem?_eq_getElem hi,Array.getElem?_eq_getElem hi']at h6;exact Option.some.inj h6
 rw[h1,e]
theorem zg8 {w:World}{b o n:Nat}{C:AV}{t:TypeId}(h:w.heap[b]?=some (.cells C t))(hs:o+n<=C.size):w.there b o n:=fun j hj=>
 ⟨by rw[cell_of_block h,Array.getElem?_eq_getElem (by omega)];rfl,zl h⟩
theorem zj0 {w:World}{b:Nat}{C:AV}{t:TypeId}(h:w.heap[b]?=some (.cells C t)):w.rangeAt b 0 C.toList:=fun j v hv=>by rw[cell_of_block h,Nat.zero_add];simpa using hv
def Rws (t n bo L k:Nat)(I:Nat->World->AV->Prop)(w:World):Prop:=
 ∃C,w.heap[bo]?=some (.cells C t)/\C.size=L*n/\∀i,i<L->i<k->∃cs:AV,cs.size=n/\zcV (bo+1) w (fun w=>I i w cs)/\∀j,j<n->C[i*n+j]?=cs[j]?
theorem Rws.above {t n bo L k:Nat}{I:Nat->World->AV->Prop}{w w':World}(h:Rws t n bo L k I w)(ha:yw bo w w'):Rws t n bo L k I w':=by
 obtain⟨C,hC,hs,hr⟩:=h;refine⟨C,zcV.block ha (Nat.le_refl _) hC,hs,fun i hi hk=>?_⟩;obtain⟨cs,h1,h2,h3⟩:=hr i hi hk;exact⟨cs,h1,h2.above (ha.mono (Nat.le_succ _)),h3⟩
theorem Rws.later {t n bo L k:Nat}{I:Nat->World->AV->Prop}{w w':World}(h:Rws t n bo L k I w)(hb:Bw w w'):Rws t n bo L k I w':=h.above (yw.below hb)
theorem Rws.lt {t n bo L k:Nat}{I:Nat->World->AV->Prop}{w:World}(h:Rws t n bo L k I w):bo<w.heap.size:=by
 obtain⟨C,hC,_⟩:=h;exact(gES hC).1
theorem Rws.free {t n bo L k:Nat}{I:Nat->World->AV->Prop}{w:World}(h:Rws t n bo L k I w)(o:Nat):w.frozen? (aD bo o)=false:=by
 obtain⟨C,hC,_⟩:=h;exact zl hC
theorem Rws.there {t n bo L k:Nat}{I:Nat->World->AV->Prop}{w:World}(h:Rws t n bo L k I w)(o:Nat)(ho:o<L*n):∃v,w.cell? (aD bo o)=some v:=by
 obtain⟨C,hC,hs,_⟩:=h;exact⟨C[o]'(by omega),by rw[cell_of_block hC];exact Array.getElem?_eq_getElem (by omega)⟩
theorem Rws.room {t n bo L k:Nat}{I:Nat->World->AV->Prop}{w:World}(h:Rws t n bo L k I w)(hk:k<L):w.there bo (k*n) n:=fun j hj=>by
 have hle:(k+1)*n<=L*n:=Nat.mul_le_mul_right n hk;have e1:(k+1)*n=k*n+n:=Nat.succ_mul k n;obtain⟨v,hv⟩:=h.there (k*n+j) (by omega);exact⟨by rw[hv];rfl,h.free _⟩
theorem Rws.put {t n bo L k:Nat}{I:Nat->World->AV->Prop}{w:World}(h:Rws t n bo L k I w)(hk:k<L)(cs:AV)(hn:cs.size=n)(hI:zcV (bo+1) w (fun w=>I k w cs)):Rws t n bo L (k+1) I (w.setCells bo (k*n) cs.toList):=by
 obtain⟨C,hC,hs,hr⟩:=h;have hle:(k+1)*n<=L*n:=Nat.mul_le_mul_right n hk;have e1:(k+1)*n=k*n+n:=Nat.succ_mul k n;have el:cs.toList.length=n:=by simpa using hn
 obtain⟨C',h1,h2,h3,h4⟩:=zeH cs.toList (k*n) w C hC (by omega);refine⟨C',h1,h2.trans hs,fun i hi hik=>?_⟩
 rcases Nat.lt_or_ge i k with hlt|hge
 ·obtain⟨ds,g1,g2,g3⟩:=hr i hi hlt
  refine⟨ds,g1,g2.above (zbK (Nat.lt_succ_self _) _ _ _),fun j hj=>?_⟩;have e2:(i+1)*n<=k*n:=Nat.mul_le_mul_right n hlt;have e3:(i+1)*n=i*n+n:=Nat.succ_mul i n;rw[h4 _ (by omega)];exact g3 j hj
 ·have e:i=k:=by omega
  subst e;refine⟨cs,hn,hI.above (zbK (Nat.lt_succ_self _) _ _ _),fun j hj=>?_⟩;rw[h3 j (by omega)]
  simp
theorem Rws.zsw {t n bo L:Nat}{I:Nat->World->AV->Prop}{w:World}(h:Rws t n bo L L I w):zcV bo w (fun w=>bo<w.heap.size/\∀i,i<L->∃cs:AV,cs.size=n/\I i w cs/\∀j,j<n->w.cell? (aD bo (0+i*n+j))=cs[j]?):=by
 intro w' ha;obtain⟨C,hC,hs,hr⟩:=h.above ha;refine⟨(gES hC).1,fun i hi=>?_⟩;obtain⟨cs,h1,h2,h3⟩:=hr i hi hi;exact⟨cs,h1,h2.now,fun j hj=>by rw[cell_of_block hC,Nat.zero_add];exact h3 j hj⟩
theorem zsu (w:World)(b:Nat)(v0 v1 v2 v3 v4 v5 v6:Value):(((((((w.setCell (aD b 2) v0).setCell (aD b 3) v1).setCell (aD b 4) v2).setCell (aD b 5) v3).setCell (aD b 6) v4).setCell (aD b 7) v5).setCell (aD b 8) v6)=w.setCells b 2 [v0,v1,v2,v3,v4,v5,v6]:=rfl
theorem zsn (w:World)(b:Nat)(v0 v1 v2 v3 v4 v5 v6:Value):(((((((w.setCell (aD b 0) v0).setCell (aD b 1) v1).setCell (aD b 2) v2).setCell (aD b 3) v3).setCell (aD b 4) v4).setCell (aD b 5) v5).setCell (aD b 6) v6)=w.setCells b 0 [v0,v1,v2,v3,v4,v5,v6]:=rfl
end Go.Proofs.YthdfpinbnncghaaGreat
