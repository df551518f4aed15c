import Derived.Test.YtjnpjkigofldlaaGreatM21
import Derived.Test.YtjnpjkigofldlaaGreatM17
import Derived.Test.YtjnpjkigofldlaaGreatM18
import Derived.Shelf.Lay
import Derived.Shelf.LaySoft
import Derived.Shelf.LaysM
import Derived.Shelf.Small.Strs
import Derived.Test.YtjnpjkigofldlaaGreatM20
set_option maxRecDepth 20000
set_option maxHeartbeats 8000000
namespace Go.Proofs.YtjnpjkigofldlaaGreat
open Go.RowKit
structure Bk where
 now:Int
 tick:Int
 given:Int
 os:List Ob
 gs:List Gr
 ls:List Lg
 ps:List Pu
abbrev bC (b:Bk)(a0 a1 a2 a3:OA)(c0 c1 c2 c3:Nat):AV:=#[.i b.now,.i b.tick,.i b.given,.l a0 b.os.length c0,.l a1 b.gs.length c1,.l a2 b.ls.length c2,.l a3 b.ps.length c3]
abbrev bZ:AV:=#[.i 0,.i 0,.i 0,.l none 0 0,.l none 0 0,.l none 0 0,.l none 0 0]
def Bk.cells (b:Bk)(a0 a1 a2 a3:OA)(c0 c1 c2 c3:Nat):AV:=#[.i b.now,.i b.tick,.i b.given,.l a0 b.os.length c0,.l a1 b.gs.length c1,.l a2 b.ls.length c2,.l a3 b.ps.length c3]
structure qj (w:World)(b:Bk)(a0 a1 a2 a3:OA):Prop where
 os:zby w a0 b.os
 gs:zcs w a1 b.gs
 ls:zbU w a2 b.ls
 ps:zcp w a3 b.ps
theorem qj.mono {w w':World}{b:Bk}{a0 a1 a2 a3:OA}(h:qj w b a0 a1 a2 a3)(hb:Bw w w'):qj w' b a0 a1 a2 a3:=⟨h.os.mono hb,h.gs.mono hb,h.ls.mono hb,h.ps.mono hb⟩
def Bk.sz (b:Bk):Nat:=qK b.os+zcn b.gs+zda b.ls+zdB b.ps
structure Bk.Few (b:Bk):Prop where
 os:b.os.length<=1048576/\∀i (h:i<b.os.length),b.os[i].vs.length<=1048576/\b.os[i].hs.length<=1048576
 gs:b.gs.length<=1048576/\∀i (h:i<b.gs.length),b.gs[i].r.vs.length<=1048576
 ls:b.ls.length<=1048576
 ps:b.ps.length<=1048576
theorem Bk.few {b:Bk}(h:(b.sz:Int)<=1048576):b.Few:=by
 unfold Bk.sz at h;refine⟨znJ (left:=1048576) (by omega) (by omega),ztX (left:=1048576) (by omega) (by omega),?_,?_⟩
 ·unfold zda at h;omega
 ·unfold zdB at h;omega
structure Bk.Small (b:Bk):Prop where
 os:zbJ b.os
 lo:b.os.length<=maxLen
 gs:zhK b.gs
 lg:b.gs.length<=maxLen
 ls:∀i (h:i<b.ls.length),b.ls[i].Small
 ll:b.ls.length<=maxLen
 ps:∀i (h:i<b.ps.length),b.ps[i].Small
 lp:b.ps.length<=maxLen
theorem qj.small {w:World}{b:Bk}{a0 a1 a2 a3:OA}(h:qj w b a0 a1 a2 a3):b.Small:=⟨h.os.smalls,h.os.len,h.gs.smalls,h.gs.len,h.ls.small,h.ls.len,h.ps.small,h.ps.len⟩
structure zoC (lo:Nat)(w:World)(b:Bk)(g0 g1 g2 g3:Nat):Prop where
 os:zaf lo w g0 b.os b.os.length
 gs:j6 lo w g1 b.gs b.gs.length
 ls:j4 lo w g2 b.ls b.ls.length
 ps:jZ lo w g3 b.ps b.ps.length
theorem zoC.at {lo:Nat}{w:World}{b:Bk}{g0 g1 g2 g3:Nat}(h:zoC lo w b g0 g1 g2 g3)(hs:b.Small):qj w b (some (aD g0 0)) (some (aD g1 0)) (some (aD g2 0)) (some (aD g3 0)):=⟨h.os.at hs.os hs.lo,h.gs.at hs.gs hs.lg,h.ls.at hs.ls hs.ll,h.ps.at hs.ps hs.lp⟩
theorem zkv (b:Bk)(a0 a1 a2 a3:OA)(c0 c1 c2 c3:Nat)(left:Int)(w:World)(hl:qj w b a0 a1 a2 a3)(h0:0<=left)(h1:left<=1048576) :
 Calls Tryz.prog 5 #[.agg (b.cells a0 a1 a2 a3 c0 c1 c2 c3),.i left] w fun e w'=>e=.returned (.i (zJ b.sz left))/\Bw w w':=by
 have HL:Hid (qj w b a0 a1 a2 a3):=hl;clear hl;unfold Bk.cells;go_in;go_wp2_with fail
 refine(zhq _ _ b.os _ _ (HL.o.os.mono (bAl _ _)) h0 h1).mono ?_;rintro e w1⟨rfl,hb⟩;have hX1:=za (zI w (bC b a0 a1 a2 a3 c0 c1 c2 c3) 32) (by simp) hb;have hz1:w.heap.size<w1.heap.size:=by have:=hb.size;simp at this;omega
 have hB1:Bw w w1:=(bAl _ _).trans (hb.mono (by simp));clear hb
 by_cases q1:(qK b.os:Int)<=left
 rotate_left
 ·have HF:Hid (zJ b.sz left=-1):=zy (by unfold Bk.sz;omega)
  rw[zy q1];go_wp2
  go_ret;exact⟨zm HF.o.symm,hB1⟩
 rw[zN q1];go_wp2_with fail
 refine(zh9 _ _ b.gs _ _ (HL.o.gs.mono hB1) (by omega) (by omega)).mono ?_;rintro e w2⟨rfl,hb⟩;have hX2:=za hX1 hz1 hb;have hz2:=nLt hz1 hb.size;have hB2:=hB1.trans (hb.mono hB1.size);clear hb hX1 hz1 hB1
 by_cases q2:(zcn b.gs:Int)<=left-qK b.os
 rotate_left
 ·have HF:Hid (zJ b.sz left=-1):=zy (by unfold Bk.sz;omega)
  rw[zy q2];go_wp2
  go_ret;exact⟨zm HF.o.symm,hB2⟩
 rw[zN q2];go_wp2_with fail
 refine(zhc _ _ b.ls _ _ (HL.o.ls.mono hB2) (by omega) (by omega)).mono ?_;rintro e w3⟨rfl,hb⟩;have hX3:=za hX2 hz2 hb;have hz3:=nLt hz2 hb.size;have hB3:=hB2.trans (hb.mono hB2.size);clear hb hX2 hz2 hB2
 by_cases q3:(zda b.ls:Int)<=left-qK b.os-zcn b.gs
 rotate_left
 ·have HF:Hid (zJ b.sz left=-1):=zy (by unfold Bk.sz;omega)
  rw[zy q3];go_wp2
  go_ret;exact⟨zm HF.o.symm,hB3⟩
 rw[zN q3];go_wp2_with fail
 refine(zio _ _ b.ps _ _ (HL.o.ps.mono hB3) (by omega) (by omega)).mono ?_;rintro e w4⟨rfl,hb⟩;have hX4:=za hX3 hz3 hb;have hz4:=nLt hz3 hb.size;have hB4:=hB3.trans (hb.mono hB3.size);clear hb hX3 hz3 hB3
 by_cases q4:(zdB b.ps:Int)<=left-qK b.os-zcn b.gs-zda b.ls
 rotate_left
 ·have HF:Hid (zJ b.sz left=-1):=zy (by unfold Bk.sz;omega)
  rw[zy q4];go_wp2
  go_ret;exact⟨zm HF.o.symm,hB4⟩
 have HF:Hid (zJ b.sz left=left-qK b.os-zcn b.gs-zda b.ls-zdB b.ps):=by
  unfold Hid;rw[zN (by unfold Bk.sz;omega)];unfold Bk.sz;omega
 rw[zN q4];go_wp2
 go_ret;exact⟨zm HF.o.symm,hB4⟩
theorem zbN (b:Bk)(a0 a1 a2 a3:OA)(c0 c1 c2 c3:Nat)(a0' a1' a2' a3':OA)(c0' c1' c2' c3':Nat)(w:World)(hl:qj w b a0 a1 a2 a3)(hl':qj w b a0' a1' a2' a3') :
 Calls Tryz.prog 10 #[.agg (b.cells a0 a1 a2 a3 c0 c1 c2 c3),.agg (b.cells a0' a1' a2' a3' c0' c1' c2' c3')] w fun e w'=>e=.returned (.bool true)/\Bw w w':=by
 have HL:Hid (qj w b a0 a1 a2 a3/\qj w b a0' a1' a2' a3'):=⟨hl,hl'⟩
 clear hl hl';have n1:(b.now != b.now)=false:=by simp
 have n2:(b.tick != b.tick)=false:=by simp
 have n3:(b.given != b.given)=false:=by simp
 unfold Bk.cells;go_in;go_wp2_with fail
 refine(zhy _ _ _ _ b.os _ (HL.o.1.os.mono (zo _ _ _)) (HL.o.2.os.mono (zo _ _ _))).mono ?_;rintro e w1⟨rfl,hb⟩;have hX1:=za (za (zI w _ _) (by simp) (bAl _ _)) (by simp;omega) hb;have hY1:=za (zI (w.alloc (.cells (bC b a0 a1 a2 a3 c0 c1 c2 c3) 40)) (bC b a0' a1' a2' a3' c0' c1' c2' c3') 40) (by simp) hb;have hz1:w.heap.size+1<w1.heap.size:=by have:=hb.size;simp at this;omega
 have hB1:=(zo w _ _).trans (hb.mono (by simp;omega));rw[World.size_alloc]at hY1;clear hb;go_wp2_with fail
 refine(zii _ _ _ _ b.gs _ (HL.o.1.gs.mono hB1) (HL.o.2.gs.mono hB1)).mono ?_;rintro e w2⟨rfl,hb⟩;have hX2:=za hX1 (nSl hz1) hb;have hY2:=za hY1 hz1 hb;have hz2:=nLt hz1 hb.size;have hB2:=hB1.trans (hb.mono hB1.size);clear hb hX1 hY1 hz1 hB1;go_wp2_with fail
 refine(zhC _ _ _ _ b.ls _ (HL.o.1.ls.mono hB2) (HL.o.2.ls.mono hB2)).mono ?_;rintro e w3⟨rfl,hb⟩;have hX3:=za hX2 (nSl hz2) hb;have hY3:=za hY2 hz2 hb;have hz3:=nLt hz2 hb.size;have hB3:=hB2.trans (hb.mono hB2.size);clear hb hX2 hY2 hz2 hB2;go_wp2_with fail
 refine(ziI _ _ _ _ b.ps _ (HL.o.1.ps.mono hB3) (HL.o.2.ps.mono hB3)).mono ?_;rintro e w4⟨rfl,hb⟩;have hX4:=za hX3 (nSl hz3) hb;have hY4:=za hY3 hz3 hb;have hz4:=nLt hz3 hb.size;have hB4:=hB3.trans (hb.mono hB3.size);clear hb hX3 hY3 hz3 hB3;go_wp2
 go_ret;exact⟨rfl,hB4⟩
end Go.Proofs.YtjnpjkigofldlaaGreat
namespace Go.Proofs
open Go.Shelf
shelf_lay Lays.n106 Nm 106 at Tryz as YtjnpjkigofldlaaGreat.lays106
end Go.Proofs
namespace Go.Proofs.YtjnpjkigofldlaaGreat
open Go.RowKit
variable {b bo hi lo:Nat}{W w w':World}{ms:List Mnd}
def key (a b:BA):Int:=Lib.compareBytes a.data.toList b.data.toList
theorem zps:∀a b:List UInt8,Lib.compareBytes a b=-1 \/ Lib.compareBytes a b=0 \/ Lib.compareBytes a b=1
 | [],[]=>by simp[Lib.compareBytes]
 | [],_ :: _=>by simp[Lib.compareBytes]
 | _ :: _,[]=>by simp[Lib.compareBytes]
 | a :: xs,b :: ys=>by
  simp only[Lib.compareBytes]
  split
  ·simp
  ·split
   ·simp
   ·exact zps xs ys
theorem zpt:∀a b:List UInt8,Op.bytesLess a b=decide (Lib.compareBytes a b=-1)
 | [],[]=>by simp[Lib.compareBytes,Op.bytesLess]
 | [],_ :: _=>by simp[Lib.compareBytes,Op.bytesLess]
 | _ :: _,[]=>by simp[Lib.compareBytes,Op.bytesLess]
 | a :: xs,b :: ys=>by
  simp only[Lib.compareBytes,Op.bytesLess];rw[zpt xs ys]
  by_cases h:a<b
  ·simp[h]
  ·by_cases h':b<a
   ·have hne:¬a=b:=fun e=>by subst e;exact h h'
    simp[h,h',hne]
   ·have he:a=b:=by
     have h1:¬a.toNat<b.toNat:=h;have h2:¬b.toNat<a.toNat:=h';exact UInt8.toNat_inj.1 (by omega)
    simp[he]
theorem zoA:∀a b:List UInt8,Lib.compareBytes b a=- Lib.compareBytes a b
 | [],[]=>by simp[Lib.compareBytes]
 | [],_ :: _=>by simp[Lib.compareBytes]
 | _ :: _,[]=>by simp[Lib.compareBytes]
 | a :: xs,b :: ys=>by
  simp only[Lib.compareBytes]
  by_cases h:a<b
  ·have h':¬b<a:=fun h2=>absurd (UInt8.lt_trans h h2) (UInt8.lt_irrefl _)
   simp[h,h']
  ·by_cases h':b<a
   ·simp[h,h']
   ·simp[h,h',zoA xs ys]
theorem zto (a b:BA):key b a=- key a b:=zoA _ _
theorem zpX (a b:BA):key a b=-1 \/ key a b=0 \/ key a b=1:=zps _ _
theorem zku (a b:BA):less a b=decide (key a b=-1):=by
 unfold less key;rw[<- zpt,ByteArray.toList_eq,ByteArray.toList_eq]
theorem zpC:∀a b:List UInt8,Lib.compareBytes a b=0↔a=b
 | [],[]=>by simp[Lib.compareBytes]
 | [],_ :: _=>by simp[Lib.compareBytes]
 | _ :: _,[]=>by simp[Lib.compareBytes]
 | a :: xs,b :: ys=>by
  simp only[Lib.compareBytes]
  by_cases h:a<b
  ·have hne:¬a=b:=fun e=>by subst e;exact UInt8.lt_irrefl _ h
   simp[h,hne]
  ·by_cases h':b<a
   ·have hne:¬a=b:=fun e=>by subst e;exact UInt8.lt_irrefl _ h'
    simp[h,h',hne]
   ·have he:a=b:=by
     have h1:¬a.toNat<b.toNat:=h;have h2:¬b.toNat<a.toNat:=h';exact UInt8.toNat_inj.1 (by omega)
    simp[he,zpC xs ys]
theorem zbO (a b:BA):key a b=0↔a=b:=by
 unfold key;rw[zpC]
 constructor
 ·intro h
  cases a;cases b
  simp only at h
  rw[Array.toList_inj.1 h]
 ·rintro rfl;rfl
def zdw (vs:List Int):Int:=(vs.find? (fun v=>decide (¬v=0))).getD 0
theorem znf (a b:Int):zdw [a,b]=if a=0 then b else a:=by
 unfold zdw
 by_cases h:a=0
 ·by_cases h2:b=0 <;> simp[h,h2]
 ·simp[h]
theorem zph (a b c:Int):zdw [a,b,c]=if a=0 then (if b=0 then c else b) else a:=by
 unfold zdw
 by_cases h:a=0
 ·by_cases h2:b=0
  ·by_cases h3:c=0 <;> simp[h,h2,h3]
  ·simp[h,h2]
 ·simp[h]
def key2 (a b c d:BA):Int:=if key a c=0 then key b d else key a c
def zbG (a b:Ob):Int:=key2 a.kd a.nm b.kd b.nm
def qz (a b:Lg):Int:=key2 a.tm a.rs b.tm b.rs
def zan (a b:Pu):Int:=if key a.dr b.dr=0 then key2 a.tm a.rs b.tm b.rs else key a.dr b.dr
theorem zfk (a b:BA)(w:World):Calls Tryz.prog 224 #[.s a,.s b] w fun e w'=>e=.returned (.i (key a b))/\w'=w:=
 Any.strings_Compare lays106 a b w
theorem zm7 (a:OA)(cap:Nat)(vs:List Int)(w:World)(hw:yZ w a vs)(hl:vs.length<=100) :
 Calls Tryz.prog 223 #[.l a vs.length cap] w fun e w'=>e=.returned (.i (zdw vs))/\w'=w:=by
 go_in;go_wp2
 go_loopw [8] (fun i wr=>∃k:Nat,k<=vs.length/\i=.i k/\Hid (∀v∈vs.take k,v=0)/\wr=w) (fun i _=>vs.length-(intOf i).toNat)
 case atStart=>exact⟨0,Nat.zero_le _,rfl,fun v hv=>by simp at hv,rfl⟩
 case round=>
  obtain⟨k,hk,rfl,hz,rfl⟩:=hrel
  by_cases hlt:k<vs.length
  ·obtain⟨b,off,rfl,hb,hck⟩:=hw.load (bRf _ _) k hlt
   have hltI:(k:Int)<(vs.length:Int):=by omega
   clear hw
   by_cases h0:vs[k]=0
   ·have e0:(vs[k] != 0)=false:=by simpa using h0
    have HZ:Hid (∀v∈vs.take (k+1),v=0):=by
     intro v hv;rw[tSe hlt,List.mem_append,List.mem_singleton]at hv
     rcases hv with hv|hv
     ·exact hz.out v hv
     ·rw[hv];exact h0
    clear h0;go_wp2
    exact⟨⟨k+1,by omega,by go_num,HZ.o,trivial⟩,by simp[intOf];omega⟩
   ·have e0:(vs[k] != 0)=true:=by simpa using h0
    have HF:Hid (zdw vs=vs[k]):=by
     unfold Hid zdw;have e:vs=vs.take k++vs[k] :: vs.drop (k+1):=by rw[<- List.drop_eq_getElem_cons hlt,List.take_append_drop]
     have hn:(vs.take k).find? (fun v=>decide (¬v=0))=none:=by
      rw[List.find?_eq_none];intro v hv;simp[hz.out v hv]
     have:vs.find? (fun v=>decide (¬v=0))=some vs[k]:=by
      rw[List.find?_eq_some_iff_append];refine⟨by simpa using h0,vs.take k,vs.drop (k+1),e,fun v hv=>by simp[hz.out v hv]⟩
     rw[this];rfl
    clear h0;go_wp2
    go_ret;exact⟨zm HF.o.symm,rfl⟩
  ·have HF:Hid (zdw vs=0):=by
    unfold Hid zdw;have h:=hz.out;rw[tOl (by omega)]at h
    have:vs.find? (fun v=>decide (¬v=0))=none:=by
     rw[List.find?_eq_none];intro v hv;simp[h v hv]
    rw[this];rfl
   clear hw;go_wp2
   go_ret;exact⟨zm HF.o.symm,rfl⟩
theorem znm (W:World)(k1 k2:Int):Calls Tryz.prog 223 #[.l (some (aD W.heap.size 0)) 2 2] (W.alloc (.cells #[.i k1,.i k2] 3)).drew fun e w'=>e=.returned (.i (zdw [k1,k2]))/\w'=(W.alloc (.cells #[.i k1,.i k2] 3)).drew:=
 zm7 (some (aD W.heap.size 0)) 2 [k1,k2] _ ((ziC (alloc_at _ _) (by simp[maxLen])).mono (bRf _ _).drew) (by simp)
theorem zp8 (W:World)(k1 k2 k3:Int):Calls Tryz.prog 223 #[.l (some (aD W.heap.size 0)) 3 3] (W.alloc (.cells #[.i k1,.i k2,.i k3] 3)).drew fun e w'=>e=.returned (.i (zdw [k1,k2,k3]))/\w'=(W.alloc (.cells #[.i k1,.i k2,.i k3] 3)).drew:=
 zm7 (some (aD W.heap.size 0)) 3 [k1,k2,k3] _ ((ziC (alloc_at _ _) (by simp[maxLen])).mono (bRf _ _).drew) (by simp)
theorem zjL (o p:Ob)(a0 a1 b0 b1:OA)(c0 c1 d0 d1:Nat)(w:World) :
 Calls Tryz.prog 182 #[.agg (o.row a0 a1 c0 c1),.agg (p.row b0 b1 d0 d1)] w fun e w'=>e=.returned (.i (zbG o p))/\Bw w w':=by
 have HR:Hid (zdw [key o.kd p.kd,key o.nm p.nm]=zbG o p):=by unfold Hid;rw[znf];rfl
 unfold Ob.row;go_in;go_wp2_with fail
 obtain⟨hX0,hY0⟩:=qB w (oC o a0 a1 c0 c1) (oC p b0 b1 d0 d1) 116 116;have HB0:Hid (Bw w ((w.alloc (.cells (oC o a0 a1 c0 c1) 116)).alloc (.cells (oC p b0 b1 d0 d1) 116))):=zo w _ _;obtain⟨W0,hW0⟩:=xN ((w.alloc (.cells (oC o a0 a1 c0 c1) 116)).alloc (.cells (oC p b0 b1 d0 d1) 116));have hz0:w.heap.size+1<W0.heap.size:=by rw[hW0];simp
 rw[<- hW0]at HB0 hX0 hY0 ⊢;clear hW0;have hS:(∀j,W0.drew.cell? (aD w.heap.size j)=(oC o a0 a1 c0 c1)[j]?)/\(∀j,W0.drew.cell? (aD (w.heap.size+1) j)=(oC p b0 b1 d0 d1)[j]?):=⟨hX0,hY0⟩
 have hSa:∀ob,(∀j,(W0.alloc ob).drew.cell? (aD w.heap.size j)=(oC o a0 a1 c0 c1)[j]?)/\(∀j,(W0.alloc ob).drew.cell? (aD (w.heap.size+1) j)=(oC p b0 b1 d0 d1)[j]?):=fun ob=>⟨za (b:=w.heap.size) (wk:=W0) hX0 (nSl hz0) ((bAl _ _).drew),za (b:=w.heap.size+1) (wk:=W0) hY0 hz0 ((bAl _ _).drew)⟩
 clear hX0 hY0
 go_region_held3 (fun w'=>(∀j,w'.cell? (aD w.heap.size j)=(oC o a0 a1 c0 c1)[j]?)/\(∀j,w'.cell? (aD (w.heap.size+1) j)=(oC p b0 b1 d0 d1)[j]?)) (first|exact hS|exact hSa _) (first
  | (go_at_call 224;refine(zfk _ _ _).mono ?_;rintro e w3⟨rfl,rfl⟩)
  | (go_at_call 223;refine(znm _ _ _).mono ?_;rintro e w3⟨rfl,rfl⟩))
 go_wp2
 go_ret;exact⟨zm HR.o,(HB0.o.alloc HB0.o.size _).drew⟩
theorem zcC (o p:Lg)(w:World) :
 Calls Tryz.prog 189 #[.agg o.cells,.agg p.cells] w fun e w'=>e=.returned (.i (qz o p))/\Bw w w':=by
 have HR:Hid (zdw [key o.tm p.tm,key o.rs p.rs]=qz o p):=by unfold Hid;rw[znf];rfl
 unfold Lg.cells;go_in;go_wp2_with fail
 obtain⟨hX0,hY0⟩:=qB w #[.s o.tm,.s o.rs,.i o.mo,.i o.fr] #[.s p.tm,.s p.rs,.i p.mo,.i p.fr] 138 138;have HB0:Hid (Bw w ((w.alloc (.cells #[.s o.tm,.s o.rs,.i o.mo,.i o.fr] 138)).alloc (.cells #[.s p.tm,.s p.rs,.i p.mo,.i p.fr] 138))):=zo w _ _;obtain⟨W0,hW0⟩:=xN ((w.alloc (.cells #[.s o.tm,.s o.rs,.i o.mo,.i o.fr] 138)).alloc (.cells #[.s p.tm,.s p.rs,.i p.mo,.i p.fr] 138));have hz0:w.heap.size+1<W0.heap.size:=by rw[hW0];simp
 rw[<- hW0]at HB0 hX0 hY0 ⊢;clear hW0;have hS:(∀j,W0.drew.cell? (aD w.heap.size j)=(#[.s o.tm,.s o.rs,.i o.mo,.i o.fr]:AV)[j]?)/\(∀j,W0.drew.cell? (aD (w.heap.size+1) j)=(#[.s p.tm,.s p.rs,.i p.mo,.i p.fr]:AV)[j]?):=⟨hX0,hY0⟩
 have hSa:∀ob,(∀j,(W0.alloc ob).drew.cell? (aD w.heap.size j)=(#[.s o.tm,.s o.rs,.i o.mo,.i o.fr]:AV)[j]?)/\(∀j,(W0.alloc ob).drew.cell? (aD (w.heap.size+1) j)=(#[.s p.tm,.s p.rs,.i p.mo,.i p.fr]:AV)[j]?):=fun ob=>⟨za (b:=w.heap.size) (wk:=W0) hX0 (nSl hz0) ((bAl _ _).drew),za (b:=w.heap.size+1) (wk:=W0) hY0 hz0 ((bAl _ _).drew)⟩
 clear hX0 hY0
 go_region_held3 (fun w'=>(∀j,w'.cell? (aD w.heap.size j)=(#[.s o.tm,.s o.rs,.i o.mo,.i o.fr]:AV)[j]?)/\(∀j,w'.cell? (aD (w.heap.size+1) j)=(#[.s p.tm,.s p.rs,.i p.mo,.i p.fr]:AV)[j]?)) (first|exact hS|exact hSa _) (first
  | (go_at_call 224;refine(zfk _ _ _).mono ?_;rintro e w3⟨rfl,rfl⟩)
  | (go_at_call 223;refine(znm _ _ _).mono ?_;rintro e w3⟨rfl,rfl⟩))
 go_wp2
 go_ret;exact⟨zm HR.o,(HB0.o.alloc HB0.o.size _).drew⟩
theorem zkZ (o p:Pu)(w:World) :
 Calls Tryz.prog 192 #[.agg o.cells,.agg p.cells] w fun e w'=>e=.returned (.i (zan o p))/\Bw w w':=by
 have HR:Hid (zdw [key o.dr p.dr,key o.tm p.tm,key o.rs p.rs]=zan o p):=by unfold Hid;rw[zph];rfl
 unfold Pu.cells;go_in;go_wp2_with fail
 obtain⟨hX0,hY0⟩:=qB w #[.s o.dr,.s o.tm,.s o.rs,.i o.am,.i o.un] #[.s p.dr,.s p.tm,.s p.rs,.i p.am,.i p.un] 140 140;have HB0:Hid (Bw w ((w.alloc (.cells #[.s o.dr,.s o.tm,.s o.rs,.i o.am,.i o.un] 140)).alloc (.cells #[.s p.dr,.s p.tm,.s p.rs,.i p.am,.i p.un] 140))):=zo w _ _;obtain⟨W0,hW0⟩:=xN ((w.alloc (.cells #[.s o.dr,.s o.tm,.s o.rs,.i o.am,.i o.un] 140)).alloc (.cells #[.s p.dr,.s p.tm,.s p.rs,.i p.am,.i p.un] 140));have hz0:w.heap.size+1<W0.heap.size:=by rw[hW0];simp
 rw[<- hW0]at HB0 hX0 hY0 ⊢;clear hW0;have hS:(∀j,W0.drew.cell? (aD w.heap.size j)=(#[.s o.dr,.s o.tm,.s o.rs,.i o.am,.i o.un]:AV)[j]?)/\(∀j,W0.drew.cell? (aD (w.heap.size+1) j)=(#[.s p.dr,.s p.tm,.s p.rs,.i p.am,.i p.un]:AV)[j]?):=⟨hX0,hY0⟩
 have hSa:∀ob,(∀j,(W0.alloc ob).drew.cell? (aD w.heap.size j)=(#[.s o.dr,.s o.tm,.s o.rs,.i o.am,.i o.un]:AV)[j]?)/\(∀j,(W0.alloc ob).drew.cell? (aD (w.heap.size+1) j)=(#[.s p.dr,.s p.tm,.s p.rs,.i p.am,.i p.un]:AV)[j]?):=fun ob=>⟨za (b:=w.heap.size) (wk:=W0) hX0 (nSl hz0) ((bAl _ _).drew),za (b:=w.heap.size+1) (wk:=W0) hY0 hz0 ((bAl _ _).drew)⟩
 clear hX0 hY0
 go_region_held3 (fun w'=>(∀j,w'.cell? (aD w.heap.size j)=(#[.s o.dr,.s o.tm,.s o.rs,.i o.am,.i o.un]:AV)[j]?)/\(∀j,w'.cell? (aD (w.heap.size+1) j)=(#[.s p.dr,.s p.tm,.s p.rs,.i p.am,.i p.un]:AV)[j]?)) (first|exact hS|exact hSa _) (first
  | (go_at_call 224;refine(zfk _ _ _).mono ?_;rintro e w3⟨rfl,rfl⟩)
  | (go_at_call 223;refine(zp8 _ _ _ _).mono ?_;rintro e w3⟨rfl,rfl⟩))
 go_wp2
 go_ret;exact⟨zm HR.o,(HB0.o.alloc HB0.o.size _).drew⟩
structure zaN (lo hi:Nat)(w:World)(bo:Nat)(ms:List Lg):Prop where
 low:lo<=bo
 high:bo<hi
 rows:∃C,w.heap[bo]?=some (.cells C 138)/\C.size=ms.length*4/\∀i,i<ms.length->(∀j,j<4->zaZ C (i*4+j))
theorem zaN.mono {ms:List Lg}(h:zaN lo hi w b ms)(hM:Marked lo hi w w'):zaN lo hi w' b ms:=by
 obtain⟨C,hC,hs,hn⟩:=h.rows;obtain⟨C',hC',hs',hk⟩:=hM.inn b C _ h.low h.high hC;refine⟨h.low,h.high,C',hC',by omega,fun i hi=>?_⟩;have h0:=hn i hi;exact fun j hj a m c he=>h0 j hj a m c ((hk _ a m c).1 he)
theorem j4.form {ms:List Lg}(h:j4 lo w bo ms ms.length):zaN lo w.heap.size w bo ms:=by
 obtain⟨C,hC,hsz,hr⟩:=h.rows;refine⟨h.low,(gES hC).1,C,hC,hsz,fun i hi j hj a n c he=>?_⟩;rw[hr i hi hi j hj]at he
 rcases j with _|_|_|_|j <;> first|omega|(simp[Lg.cells]at he)
theorem zaN.ready {ms:List Lg}(h:zaN lo hi w bo ms)(hM:Marked lo hi w W)(i:Nat)(hi':i<ms.length) :
 (∀j,j<4->∃v,W.cell? (aD bo (i*4+j))=some v)/\(∀o,W.frozen? (aD bo o)=false):=by
 have h':=h.mono hM;obtain⟨C,hC,hs,hn⟩:=h'.rows;exact⟨fun j hj=>⟨C[i*4+j]'(by omega),by rw[cell_of_block hC];exact Array.getElem?_eq_getElem (by omega)⟩,fun o=>zf hC⟩
theorem zaN.put {ms:List Lg}(h:zaN lo hi w bo ms)(hM:Marked lo hi w W)(i j:Nat)(hi':i<ms.length)(hj:j<4)(v:Value)(hv:∀a n c,v≠Value.slice a n c):Marked lo hi w (W.setCell (aD bo (i*4+j)) v):=by
 obtain⟨C,hC,hs,hn⟩:=h.rows;exact hM.put h.low h.high hC (hn i hi' j hj) v hv
theorem zf4 (lo hi bo cap:Nat)(ms:List Lg)(k:Int)(w:World)(h:zaN lo hi w bo ms)(hl:ms.length<=1048576)(hk:0<k)(hk2:k<5000000000000000000) :
 Calls Tryz.prog 49 #[.l (some (aD bo 0)) ms.length cap,.i k] w fun e w'=>∃k',e=.returned (.i k')/\k<=k'/\k'<=k+ms.length*4/\Marked lo hi w w':=by
 have HF:Hid (zaN lo hi w bo ms):=h;have HL:Hid (ms.length<=1048576):=hl;have HK:Hid (0<k/\k<5000000000000000000):=⟨hk,hk2⟩
 clear h hl hk hk2;go_in;go_wp2
 go_loopw [1,5] (fun kv iv wr=>∃(i:Nat) (kk:Int),i<=ms.length/\kv=.i kk/\iv=.i i/\k<=kk/\kk<=k+i*4/\Marked lo hi w wr) (fun _ iv _=>ms.length-(intOf iv).toNat)
 case atStart=>exact⟨0,k,Nat.zero_le _,rfl,rfl,Int.le_refl _,by simp,Marked.refl _ _ _⟩
 case round=>
  obtain⟨i,kk,hile,rfl,rfl,h1,h2,hM⟩:=hrel
  by_cases hlt:i<ms.length
  ·have hltI:(i:Int)<(ms.length:Int):=by omega
   have HB:Hid (0<kk/\kk<7000000000000000000/\kk<=k+i*4/\k<=kk):=by have a:=HK.o;have b:=HL.o;exact⟨by omega,by omega,h2,h1⟩
   have HM:=hid hM;clear h1 h2 hM;go_wp2_with fail
   refine(zP _ _ (by have a0:=HB.o;omega) (by have a0:=HB.o;omega)).mono ?_;rintro e wm1⟨s1,rfl,hb⟩;have HM1:Hid (Marked lo hi w wm1):=(HM.o).trans (Marked.of_below hb);clear hb;obtain⟨hex,hfz1⟩:=HF.o.ready (HM1.o) i hlt;obtain⟨v1,hv1⟩:=hex 0 (by omega);rw[Nat.add_zero]at hv1;clear hex;have HP1_0:Hid (Marked lo hi w (wm1.setCell (aD bo (i*4)) (.s s1))):=HF.o.put (HM1.o) i 0 hlt (by omega)  (.s s1) (fun _ _ _ h=>by cases h);have hw1:wrap64 (kk+1)=kk+1:=zx _ ⟨by have a0:=HB.o;omega,by have a0:=HB.o;omega⟩;go_wp2_with fail
   clear hfz1 hv1;refine(zP _ _ (by have a0:=HB.o;omega) (by have a0:=HB.o;omega)).mono ?_;rintro e wm2⟨s2,rfl,hb⟩;have HM2:Hid (Marked lo hi w wm2):=(HP1_0.o).trans (Marked.of_below hb);clear hb;obtain⟨hex,hfz2⟩:=HF.o.ready (HM2.o) i hlt;obtain⟨v2,hv2⟩:=hex 1 (by omega);clear hex;have HP2_1:Hid (Marked lo hi w (wm2.setCell (aD bo (i*4+1)) (.s s2))):=HF.o.put (HM2.o) i 1 hlt (by omega)  (.s s2) (fun _ _ _ h=>by cases h);have hw2:wrap64 (kk+1+1)=kk+1+1:=zx _ ⟨by have a0:=HB.o;omega,by have a0:=HB.o;omega⟩;obtain⟨hex,hfz3⟩:=HF.o.ready (HP2_1.o) i hlt;obtain⟨v3,hv3⟩:=hex 2 (by omega);clear hex;have HP2_2:Hid (Marked lo hi w ((wm2.setCell (aD bo (i*4+1)) (.s s2)).setCell (aD bo (i*4+2)) (.i (kk+1+1)))):=HF.o.put (HP2_1.o) i 2 hlt (by omega)  (.i (kk+1+1)) (fun _ _ _ h=>by cases h);have hw3:wrap64 (kk+1+1+1)=kk+1+1+1:=zx _ ⟨by have a0:=HB.o;omega,by have a0:=HB.o;omega⟩;obtain⟨hex,hfz4⟩:=HF.o.ready (HP2_2.o) i hlt;obtain⟨v4,hv4⟩:=hex 3 (by omega);clear hex;have HP2_3:Hid (Marked lo hi w (((wm2.setCell (aD bo (i*4+1)) (.s s2)).setCell (aD bo (i*4+2)) (.i (kk+1+1))).setCell (aD bo (i*4+3)) (.i (kk+1+1+1)))):=HF.o.put (HP2_2.o) i 3 hlt (by omega)  (.i (kk+1+1+1)) (fun _ _ _ h=>by cases h);have hw4:wrap64 (kk+1+1+1+1)=kk+1+1+1+1:=zx _ ⟨by have a0:=HB.o;omega,by have a0:=HB.o;omega⟩;go_wp2
   go_roundw
   case rel=>exact⟨i+1,kk+1+1+1+1,by omega,by first|rfl|rw[hw4],by rw[wrap_one (by have:=HL.o;omega)],by have a0:=HB.o;omega,by have a0:=HB.o;omega,HP2_3.o⟩
   case measure=>exact yO hlt (by have:=HL.o;omega)
  ·have e:i=ms.length:=by omega
   subst e;go_wp2
   go_ret;exact⟨kk,rfl,h1,h2,hM⟩
structure zaL (lo hi:Nat)(w:World)(bo:Nat)(ms:List Pu):Prop where
 low:lo<=bo
 high:bo<hi
 rows:∃C,w.heap[bo]?=some (.cells C 140)/\C.size=ms.length*5/\∀i,i<ms.length->(∀j,j<5->zaZ C (i*5+j))
theorem zaL.mono {ms:List Pu}(h:zaL lo hi w b ms)(hM:Marked lo hi w w'):zaL lo hi w' b ms:=by
 obtain⟨C,hC,hs,hn⟩:=h.rows;obtain⟨C',hC',hs',hk⟩:=hM.inn b C _ h.low h.high hC;refine⟨h.low,h.high,C',hC',by omega,fun i hi=>?_⟩;have h0:=hn i hi;exact fun j hj a m c he=>h0 j hj a m c ((hk _ a m c).1 he)
theorem jZ.form {ms:List Pu}(h:jZ lo w bo ms ms.length):zaL lo w.heap.size w bo ms:=by
 obtain⟨C,hC,hsz,hr⟩:=h.rows;refine⟨h.low,(gES hC).1,C,hC,hsz,fun i hi j hj a n c he=>?_⟩;rw[hr i hi hi j hj]at he
 rcases j with _|_|_|_|_|j <;> first|omega|(simp[Pu.cells]at he)
theorem zaL.ready {ms:List Pu}(h:zaL lo hi w bo ms)(hM:Marked lo hi w W)(i:Nat)(hi':i<ms.length) :
 (∀j,j<5->∃v,W.cell? (aD bo (i*5+j))=some v)/\(∀o,W.frozen? (aD bo o)=false):=by
 have h':=h.mono hM;obtain⟨C,hC,hs,hn⟩:=h'.rows;exact⟨fun j hj=>⟨C[i*5+j]'(by omega),by rw[cell_of_block hC];exact Array.getElem?_eq_getElem (by omega)⟩,fun o=>zf hC⟩
theorem zaL.put {ms:List Pu}(h:zaL lo hi w bo ms)(hM:Marked lo hi w W)(i j:Nat)(hi':i<ms.length)(hj:j<5)(v:Value)(hv:∀a n c,v≠Value.slice a n c):Marked lo hi w (W.setCell (aD bo (i*5+j)) v):=by
 obtain⟨C,hC,hs,hn⟩:=h.rows;exact hM.put h.low h.high hC (hn i hi' j hj) v hv
theorem zgM (lo hi bo cap:Nat)(ms:List Pu)(k:Int)(w:World)(h:zaL lo hi w bo ms)(hl:ms.length<=1048576)(hk:0<k)(hk2:k<5000000000000000000) :
 Calls Tryz.prog 50 #[.l (some (aD bo 0)) ms.length cap,.i k] w fun e w'=>∃k',e=.returned (.i k')/\k<=k'/\k'<=k+ms.length*5/\Marked lo hi w w':=by
 have HF:Hid (zaL lo hi w bo ms):=h;have HL:Hid (ms.length<=1048576):=hl;have HK:Hid (0<k/\k<5000000000000000000):=⟨hk,hk2⟩
 clear h hl hk hk2;go_in;go_wp2
 go_loopw [1,5] (fun kv iv wr=>∃(i:Nat) (kk:Int),i<=ms.length/\kv=.i kk/\iv=.i i/\k<=kk/\kk<=k+i*5/\Marked lo hi w wr) (fun _ iv _=>ms.length-(intOf iv).toNat)
 case atStart=>exact⟨0,k,Nat.zero_le _,rfl,rfl,Int.le_refl _,by simp,Marked.refl _ _ _⟩
 case round=>
  obtain⟨i,kk,hile,rfl,rfl,h1,h2,hM⟩:=hrel
  by_cases hlt:i<ms.length
  ·have hltI:(i:Int)<(ms.length:Int):=by omega
   have HB:Hid (0<kk/\kk<7000000000000000000/\kk<=k+i*5/\k<=kk):=by have a:=HK.o;have b:=HL.o;exact⟨by omega,by omega,h2,h1⟩
   have HM:=hid hM;clear h1 h2 hM;go_wp2_with fail
   refine(zP _ _ (by have a0:=HB.o;omega) (by have a0:=HB.o;omega)).mono ?_;rintro e wm1⟨s1,rfl,hb⟩;have HM1:Hid (Marked lo hi w wm1):=(HM.o).trans (Marked.of_below hb);clear hb;obtain⟨hex,hfz1⟩:=HF.o.ready (HM1.o) i hlt;obtain⟨v1,hv1⟩:=hex 0 (by omega);rw[Nat.add_zero]at hv1;clear hex;have HP1_0:Hid (Marked lo hi w (wm1.setCell (aD bo (i*5)) (.s s1))):=HF.o.put (HM1.o) i 0 hlt (by omega)  (.s s1) (fun _ _ _ h=>by cases h);have hw1:wrap64 (kk+1)=kk+1:=zx _ ⟨by have a0:=HB.o;omega,by have a0:=HB.o;omega⟩;go_wp2_with fail
   clear hfz1 hv1;refine(zP _ _ (by have a0:=HB.o;omega) (by have a0:=HB.o;omega)).mono ?_;rintro e wm2⟨s2,rfl,hb⟩;have HM2:Hid (Marked lo hi w wm2):=(HP1_0.o).trans (Marked.of_below hb);clear hb;obtain⟨hex,hfz2⟩:=HF.o.ready (HM2.o) i hlt;obtain⟨v2,hv2⟩:=hex 1 (by omega);clear hex;have HP2_1:Hid (Marked lo hi w (wm2.setCell (aD bo (i*5+1)) (.s s2))):=HF.o.put (HM2.o) i 1 hlt (by omega)  (.s s2) (fun _ _ _ h=>by cases h);have hw2:wrap64 (kk+1+1)=kk+1+1:=zx _ ⟨by have a0:=HB.o;omega,by have a0:=HB.o;omega⟩;go_wp2_with fail
   clear hfz2 hv2;refine(zP _ _ (by have a0:=HB.o;omega) (by have a0:=HB.o;omega)).mono ?_;rintro e wm3⟨s3,rfl,hb⟩;have HM3:Hid (Marked lo hi w wm3):=(HP2_1.o).trans (Marked.of_below hb);clear hb;obtain⟨hex,hfz3⟩:=HF.o.ready (HM3.o) i hlt;obtain⟨v3,hv3⟩:=hex 2 (by omega);clear hex;have HP3_2:Hid (Marked lo hi w (wm3.setCell (aD bo (i*5+2)) (.s s3))):=HF.o.put (HM3.o) i 2 hlt (by omega)  (.s s3) (fun _ _ _ h=>by cases h);have hw3:wrap64 (kk+1+1+1)=kk+1+1+1:=zx _ ⟨by have a0:=HB.o;omega,by have a0:=HB.o;omega⟩;obtain⟨hex,hfz4⟩:=HF.o.ready (HP3_2.o) i hlt;obtain⟨v4,hv4⟩:=hex 3 (by omega);clear hex;have HP3_3:Hid (Marked lo hi w ((wm3.setCell (aD bo (i*5+2)) (.s s3)).setCell (aD bo (i*5+3)) (.i (kk+1+1+1)))):=HF.o.put (HP3_2.o) i 3 hlt (by omega)  (.i (kk+1+1+1)) (fun _ _ _ h=>by cases h);have hw4:wrap64 (kk+1+1+1+1)=kk+1+1+1+1:=zx _ ⟨by have a0:=HB.o;omega,by have a0:=HB.o;omega⟩;obtain⟨hex,hfz5⟩:=HF.o.ready (HP3_3.o) i hlt;obtain⟨v5,hv5⟩:=hex 4 (by omega);clear hex;have HP3_4:Hid (Marked lo hi w (((wm3.setCell (aD bo (i*5+2)) (.s s3)).setCell (aD bo (i*5+3)) (.i (kk+1+1+1))).setCell (aD bo (i*5+4)) (.i (kk+1+1+1+1)))):=HF.o.put (HP3_3.o) i 4 hlt (by omega)  (.i (kk+1+1+1+1)) (fun _ _ _ h=>by cases h);have hw5:wrap64 (kk+1+1+1+1+1)=kk+1+1+1+1+1:=zx _ ⟨by have a0:=HB.o;omega,by have a0:=HB.o;omega⟩;go_wp2
   go_roundw
   case rel=>exact⟨i+1,kk+1+1+1+1+1,by omega,by first|rfl|rw[hw5],by rw[wrap_one (by have:=HL.o;omega)],by have a0:=HB.o;omega,by have a0:=HB.o;omega,HP3_4.o⟩
   case measure=>exact yO hlt (by have:=HL.o;omega)
  ·have e:i=ms.length:=by omega
   subst e;go_wp2
   go_ret;exact⟨kk,rfl,h1,h2,hM⟩
structure zac (lo hi:Nat)(w:World)(bo:Nat)(ms:List Gr):Prop where
 low:lo<=bo
 high:bo<hi
 rows:∃C,w.heap[bo]?=some (.cells C 126)/\C.size=ms.length*7/\∀i (h:i<ms.length),(∀j,j<7->j≠3->zaZ C (i*7+j))/\(∃bk cap,za4 lo hi w bk ms[i].r.vs.length/\C[i*7+3]?=some (.l (some (aD bk 0)) ms[i].r.vs.length cap))
theorem zac.mono {ms:List Gr}(h:zac lo hi w b ms)(hM:Marked lo hi w w'):zac lo hi w' b ms:=by
 obtain⟨C,hC,hs,hn⟩:=h.rows;obtain⟨C',hC',hs',hk⟩:=hM.inn b C _ h.low h.high hC;refine⟨h.low,h.high,C',hC',by omega,fun i hi=>?_⟩;obtain⟨h0,⟨bk3,cap3,f3,g3⟩⟩:=hn i hi;exact⟨fun j hj n3 a m c he=>h0 j hj n3 a m c ((hk _ a m c).1 he),bk3,cap3,f3.mono hM,(hk _ _ _ _).2 g3⟩
theorem zlJ (ws:List Int)(j:Nat):zaZ (zb3 ws) j:=by
 intro a n c h
 simp[zb3]at h
theorem j6.form {ms:List Gr}(h:j6 lo w bo ms ms.length):zac lo w.heap.size w bo ms:=by
 obtain⟨C,hC,hsz,hr⟩:=h.rows;refine⟨h.low,(gES hC).1,C,hC,hsz,fun i hi=>?_⟩;obtain⟨g0,hl0,hn0,hg0,hc⟩:=hr i hi hi;refine⟨fun j hj n3 a n c he=>?_,g0,_,⟨hl0,(gES hg0).1,_,hg0,by simp[zb3],fun j _=>zlJ _ j⟩,hc 3 (by omega)⟩;rw[hc j hj]at he
 rcases j with _|_|_|_|_|_|_|j <;> first|omega|(simp[Gr.cells]at he)
theorem zac.ready {ms:List Gr}(h:zac lo hi w bo ms)(hM:Marked lo hi w W)(i:Nat)(hi':i<ms.length) :
 (∀j,j<7->∃v,W.cell? (aD bo (i*7+j))=some v)/\(∀o,W.frozen? (aD bo o)=false):=by
 have h':=h.mono hM;obtain⟨C,hC,hs,hn⟩:=h'.rows;exact⟨fun j hj=>⟨C[i*7+j]'(by omega),by rw[cell_of_block hC];exact Array.getElem?_eq_getElem (by omega)⟩,fun o=>zf hC⟩
theorem zac.put {ms:List Gr}(h:zac lo hi w bo ms)(hM:Marked lo hi w W)(i j:Nat)(hi':i<ms.length)(hj:j<7)(n3:j≠3)(v:Value)(hv:∀a n c,v≠Value.slice a n c):Marked lo hi w (W.setCell (aD bo (i*7+j)) v):=by
 obtain⟨C,hC,hs,hn⟩:=h.rows;exact hM.put h.low h.high hC ((hn i hi').1 j hj n3) v hv
theorem zac.zsS {ms:List Gr}(h:zac lo hi w bo ms)(i:Nat)(hi':i<ms.length) :
 ∃bk cap,za4 lo hi w bk ms[i].r.vs.length/\∀W,Marked lo hi w W->W.cell? (aD bo (i*7+3))=some (.l (some (aD bk 0)) ms[i].r.vs.length cap):=by
 obtain⟨C,hC,hs,hn⟩:=h.rows;obtain⟨bk,cap,h1,h2⟩:=(hn i hi').2;refine⟨bk,cap,h1,fun W hM=>?_⟩;obtain⟨C',hC',_,hk⟩:=hM.inn bo C _ h.low h.high hC;rw[cell_of_block hC'];exact(hk _ _ _ _).2 h2
theorem zgO (lo hi bo cap:Nat)(ms:List Gr)(k:Int)(w:World)(h:zac lo hi w bo ms)(hl:ms.length<=1048576)(hls:∀i (h:i<ms.length),ms[i].r.vs.length<=1048576)(hk:0<k)(hk2:k<5000000000000000000) :
 Calls Tryz.prog 48 #[.l (some (aD bo 0)) ms.length cap,.i k] w fun e w'=>∃k',e=.returned (.i k')/\k<=k'/\k'<=k+ms.length*1048583/\Marked lo hi w w':=by
 have HF:Hid (zac lo hi w bo ms):=h;have HL:Hid (ms.length<=1048576/\∀i (h:i<ms.length),ms[i].r.vs.length<=1048576):=⟨hl,hls⟩
 have HK:Hid (0<k/\k<5000000000000000000):=⟨hk,hk2⟩
 clear h hl hk hk2 hls;go_in;go_wp2
 go_loopw [1,5] (fun kv iv wr=>∃(i:Nat) (kk:Int),i<=ms.length/\kv=.i kk/\iv=.i i/\k<=kk/\kk<=k+i*1048583/\Marked lo hi w wr) (fun _ iv _=>ms.length-(intOf iv).toNat)
 case atStart=>exact⟨0,k,Nat.zero_le _,rfl,rfl,Int.le_refl _,by simp,Marked.refl _ _ _⟩
 case round=>
  obtain⟨i,kk,hile,rfl,rfl,h1,h2,hM⟩:=hrel
  by_cases hlt:i<ms.length
  ·have hltI:(i:Int)<(ms.length:Int):=by omega
   have HB:Hid (0<kk/\kk<7000000000000000000/\kk<=k+i*1048583/\k<=kk):=by have a:=HK.o;have b:=HL.o.1;exact⟨by omega,by omega,h2,h1⟩
   have HM:Hid (Marked lo hi w wr):=hM;clear h1 h2 hM;obtain⟨bk3,bc3,hT,hsl⟩:=HF.o.zsS i hlt;have HT3:Hid (za4 lo hi w bk3 ms[i].r.vs.length/\∀W,Marked lo hi w W->W.cell? (aD bo (i*7+3))=some (.l (some (aD bk3 0)) ms[i].r.vs.length bc3)):=⟨hT,hsl⟩
   clear hT hsl;obtain⟨hex,hfz1⟩:=HF.o.ready (HM.o) i hlt;obtain⟨v1,hv1⟩:=hex 0 (by omega);rw[Nat.add_zero]at hv1;clear hex;have HP0_0:Hid (Marked lo hi w (wr.setCell (aD bo (i*7)) (.i (kk)))):=HF.o.put (HM.o) i 0 hlt (by omega) (by omega) (.i (kk)) (fun _ _ _ h=>by cases h);have hw1:wrap64 (kk+1)=kk+1:=zx _ ⟨by have a0:=HB.o;omega,by have a0:=HB.o;omega⟩;go_wp2_with fail
   clear hfz1 hv1;refine(zP _ _ (by have a0:=HB.o;omega) (by have a0:=HB.o;omega)).mono ?_;rintro e wm1⟨s1,rfl,hb⟩;have HM1:Hid (Marked lo hi w wm1):=(HP0_0.o).trans (Marked.of_below hb);clear hb;obtain⟨hex,hfz2⟩:=HF.o.ready (HM1.o) i hlt;obtain⟨v2,hv2⟩:=hex 1 (by omega);clear hex;have HP1_1:Hid (Marked lo hi w (wm1.setCell (aD bo (i*7+1)) (.s s1))):=HF.o.put (HM1.o) i 1 hlt (by omega) (by omega) (.s s1) (fun _ _ _ h=>by cases h);have hw2:wrap64 (kk+1+1)=kk+1+1:=zx _ ⟨by have a0:=HB.o;omega,by have a0:=HB.o;omega⟩;go_wp2_with fail
   clear hfz2 hv2;refine(zP _ _ (by have a0:=HB.o;omega) (by have a0:=HB.o;omega)).mono ?_;rintro e wm2⟨s2,rfl,hb⟩;have HM2:Hid (Marked lo hi w wm2):=(HP1_1.o).trans (Marked.of_below hb);clear hb;obtain⟨hex,hfz3⟩:=HF.o.ready (HM2.o) i hlt;obtain⟨v3,hv3⟩:=hex 2 (by omega);clear hex;have HP2_2:Hid (Marked lo hi w (wm2.setCell (aD bo (i*7+2)) (.s s2))):=HF.o.put (HM2.o) i 2 hlt (by omega) (by omega) (.s s2) (fun _ _ _ h=>by cases h);have hw3:wrap64 (kk+1+1+1)=kk+1+1+1:=zx _ ⟨by have a0:=HB.o;omega,by have a0:=HB.o;omega⟩;have hsl3:=HT3.o.2 _ (HP2_2.o);go_wp2_with fail
   clear hfz3 hv3 hsl3;refine(zlO lo hi bk3 _ bc3 _ _ (HT3.o.1.mono (HP2_2.o)) ((HL.o.2 i hlt)) (by have a0:=HB.o;omega) (by have a0:=HB.o;omega)).mono ?_;rintro e wm3⟨k3,rfl,hke,hMn⟩;have HM3:Hid (Marked lo hi w wm3):=(HP2_2.o).trans hMn;have HK3:Hid (k3=kk+1+1+1+ms[i].r.vs.length/\ms[i].r.vs.length<=1048576):=⟨by omega,(HL.o.2 i hlt)⟩
   clear hMn hke;go_wp2_with fail
   refine(zP _ _ (by have a0:=HB.o;have a1:=HK3.o;omega) (by have a0:=HB.o;have a1:=HK3.o;omega)).mono ?_;rintro e wm4⟨s4,rfl,hb⟩;have HM4:Hid (Marked lo hi w wm4):=(HM3.o).trans (Marked.of_below hb);clear hb;obtain⟨hex,hfz4⟩:=HF.o.ready (HM4.o) i hlt;obtain⟨v4,hv4⟩:=hex 4 (by omega);clear hex;have HP4_4:Hid (Marked lo hi w (wm4.setCell (aD bo (i*7+4)) (.s s4))):=HF.o.put (HM4.o) i 4 hlt (by omega) (by omega) (.s s4) (fun _ _ _ h=>by cases h);have hw4:wrap64 (k3+1)=k3+1:=zx _ ⟨by have a0:=HB.o;have a1:=HK3.o;omega,by have a0:=HB.o;have a1:=HK3.o;omega⟩;go_wp2_with fail
   clear hfz4 hv4;refine(zP _ _ (by have a0:=HB.o;have a1:=HK3.o;omega) (by have a0:=HB.o;have a1:=HK3.o;omega)).mono ?_;rintro e wm5⟨s5,rfl,hb⟩;have HM5:Hid (Marked lo hi w wm5):=(HP4_4.o).trans (Marked.of_below hb);clear hb;obtain⟨hex,hfz5⟩:=HF.o.ready (HM5.o) i hlt;obtain⟨v5,hv5⟩:=hex 5 (by omega);clear hex;have HP5_5:Hid (Marked lo hi w (wm5.setCell (aD bo (i*7+5)) (.s s5))):=HF.o.put (HM5.o) i 5 hlt (by omega) (by omega) (.s s5) (fun _ _ _ h=>by cases h);have hw5:wrap64 (k3+1+1)=k3+1+1:=zx _ ⟨by have a0:=HB.o;have a1:=HK3.o;omega,by have a0:=HB.o;have a1:=HK3.o;omega⟩;go_wp2_with fail
   clear hfz5 hv5;refine(zP _ _ (by have a0:=HB.o;have a1:=HK3.o;omega) (by have a0:=HB.o;have a1:=HK3.o;omega)).mono ?_;rintro e wm6⟨s6,rfl,hb⟩;have HM6:Hid (Marked lo hi w wm6):=(HP5_5.o).trans (Marked.of_below hb);clear hb;obtain⟨hex,hfz6⟩:=HF.o.ready (HM6.o) i hlt;obtain⟨v6,hv6⟩:=hex 6 (by omega);clear hex;have HP6_6:Hid (Marked lo hi w (wm6.setCell (aD bo (i*7+6)) (.s s6))):=HF.o.put (HM6.o) i 6 hlt (by omega) (by omega) (.s s6) (fun _ _ _ h=>by cases h);have hw6:wrap64 (k3+1+1+1)=k3+1+1+1:=zx _ ⟨by have a0:=HB.o;have a1:=HK3.o;omega,by have a0:=HB.o;have a1:=HK3.o;omega⟩;go_wp2
   go_roundw
   case rel=>exact⟨i+1,k3+1+1+1,by omega,by first|rfl|rw[hw6],by rw[wrap_one (by have:=HL.o.1;omega)],by have a0:=HB.o;have a1:=HK3.o;omega,by have a0:=HB.o;have a1:=HK3.o;omega,HP6_6.o⟩
   case measure=>exact yO hlt (by have:=HL.o.1;omega)
  ·have e:i=ms.length:=by omega
   subst e;go_wp2
   go_ret;exact⟨kk,rfl,h1,h2,hM⟩
structure jW (lo hi:Nat)(w:World)(bo:Nat)(ms:List Mnd):Prop where
 low:lo<=bo
 high:bo<hi
 rows:∃C,w.heap[bo]?=some (.cells C 132)/\C.size=ms.length*6/\∀j,j<ms.length*6->zaZ C j
theorem jW.mono (h:jW lo hi w b ms)(hM:Marked lo hi w w'):jW lo hi w' b ms:=by
 obtain⟨C,hC,hs,hn⟩:=h.rows;obtain⟨C',hC',hs',hk⟩:=hM.inn b C _ h.low h.high hC;exact⟨h.low,h.high,C',hC',by omega,fun j hj a m c he=>hn j hj a m c ((hk j a m c).1 he)⟩
theorem q8.form (h:q8 lo w bo ms ms.length):jW lo w.heap.size w bo ms:=by
 obtain⟨C,hC,hsz,hr⟩:=h.rows;refine⟨h.low,(gES hC).1,C,hC,hsz,fun j hj a n c he=>?_⟩;have hi:j / 6<ms.length:=by omega
 have e:j=j / 6*6+j % 6:=by omega
 rw[e,hr (j / 6) hi hi (j % 6) (by omega)]at he;have h6:j % 6<6:=by omega
 revert he
 generalize j % 6=q at h6
 intro he
 rcases q with _|_|_|_|_|_|q <;> first|omega|(simp[Mnd.cells]at he)
theorem jW.ready (h:jW lo hi w bo ms)(hM:Marked lo hi w W)(i:Nat)(hi':i<ms.length) :
 (∀j,j<6->∃v,W.cell? (aD bo (i*6+j))=some v)/\(∀o,W.frozen? (aD bo o)=false):=by
 have h':=h.mono hM;obtain⟨C,hC,hs,hn⟩:=h'.rows;exact⟨fun j hj=>⟨C[i*6+j]'(by omega),by rw[cell_of_block hC];exact Array.getElem?_eq_getElem (by omega)⟩,fun o=>zf hC⟩
theorem jW.put (h:jW lo hi w bo ms)(hM:Marked lo hi w W)(i j:Nat)(hi':i<ms.length)(hj:j<6)(v:Value)(hv:∀a n c,v≠Value.slice a n c):Marked lo hi w (W.setCell (aD bo (i*6+j)) v):=by
 obtain⟨C,hC,hs,hn⟩:=h.rows;exact hM.put h.low h.high hC (hn (i*6+j) (by omega)) v hv
theorem zhe (lo hi bo cap:Nat)(ms:List Mnd)(k:Int)(w:World)(h:jW lo hi w bo ms)(hl:ms.length<=1048576)(hk:0<k)(hk2:k<6000000000000000000) :
 Calls Tryz.prog 45 #[.l (some (aD bo 0)) ms.length cap,.i k] w fun e w'=>∃k',e=.returned (.i k')/\k<=k'/\k'<=k+ms.length*6/\Marked lo hi w w':=by
 have HF:Hid (jW lo hi w bo ms):=h;have HL:Hid (ms.length<=1048576):=hl;have HK:Hid (0<k/\k<6000000000000000000):=⟨hk,hk2⟩
 clear h hl hk hk2;go_in;go_wp2
 go_loopw [1,5] (fun kv iv wr=>∃(i:Nat) (kk:Int),i<=ms.length/\kv=.i kk/\iv=.i i/\k<=kk/\kk<=k+i*6/\Marked lo hi w wr) (fun _ iv _=>ms.length-(intOf iv).toNat)
 case atStart=>exact⟨0,k,Nat.zero_le _,rfl,rfl,Int.le_refl _,by simp,Marked.refl _ _ _⟩
 case round=>
  obtain⟨i,kk,hile,rfl,rfl,h1,h2,hM⟩:=hrel
  by_cases hlt:i<ms.length
  ·have hltI:(i:Int)<(ms.length:Int):=by omega
   have HB:Hid (0<kk/\kk<7000000000000000000/\kk<=k+i*6/\k<=kk):=by have a:=HK.o;have b:=HL.o;exact⟨by omega,by omega,h2,h1⟩
   have HM:Hid (Marked lo hi w wr):=hM;clear h1 h2 hM;have hw1:wrap64 (kk+1)=kk+1:=by have:=HB.o;exact zx _ ⟨by omega,by omega⟩
   have hw2:wrap64 (kk+1+1)=kk+1+1:=by have:=HB.o;exact zx _ ⟨by omega,by omega⟩
   have hw3:wrap64 (kk+1+1+1)=kk+1+1+1:=by have:=HB.o;exact zx _ ⟨by omega,by omega⟩
   have hw4:wrap64 (kk+1+1+1+1)=kk+1+1+1+1:=by have:=HB.o;exact zx _ ⟨by omega,by omega⟩
   have hw5:wrap64 (kk+1+1+1+1+1)=kk+1+1+1+1+1:=by have:=HB.o;exact zx _ ⟨by omega,by omega⟩
   have hw6:wrap64 (kk+1+1+1+1+1+1)=kk+1+1+1+1+1+1:=by have:=HB.o;exact zx _ ⟨by omega,by omega⟩
   go_wp2_with fail
   refine(zP _ _ (by have:=HB.o;omega) (by have:=HB.o;omega)).mono ?_;rintro e wm0⟨s0,rfl,hb⟩;have HM0:Hid (Marked lo hi w wm0):=HM.o.trans (Marked.of_below hb);clear hb;obtain⟨hex,hfz⟩:=HF.o.ready HM0.o i hlt;obtain⟨v0,hv0⟩:=hex 0 (by omega);rw[Nat.add_zero]at hv0;have HP0:Hid (Marked lo hi w (wm0.setCell (aD bo (i*6)) (.s s0))):=HF.o.put HM0.o i 0 hlt (by omega) (.s s0) (fun _ _ _ h=>by cases h);clear hex;go_wp2_with fail
   clear hv0 hfz;refine(zP _ _ (by have:=HB.o;omega) (by have:=HB.o;omega)).mono ?_;rintro e wm1⟨s1,rfl,hb⟩;have HM1:Hid (Marked lo hi w wm1):=HP0.o.trans (Marked.of_below hb);clear hb;obtain⟨hex,hfz⟩:=HF.o.ready HM1.o i hlt;obtain⟨v1,hv1⟩:=hex 1 (by omega);have HP1:Hid (Marked lo hi w (wm1.setCell (aD bo (i*6+1)) (.s s1))):=HF.o.put HM1.o i 1 hlt (by omega) (.s s1) (fun _ _ _ h=>by cases h);clear hex;go_wp2_with fail
   clear hv1 hfz;refine(zP _ _ (by have:=HB.o;omega) (by have:=HB.o;omega)).mono ?_;rintro e wm2⟨s2,rfl,hb⟩;have HM2:Hid (Marked lo hi w wm2):=HP1.o.trans (Marked.of_below hb);clear hb;obtain⟨hex,hfz⟩:=HF.o.ready HM2.o i hlt;obtain⟨v2,hv2⟩:=hex 2 (by omega);have HP2:Hid (Marked lo hi w (wm2.setCell (aD bo (i*6+2)) (.s s2))):=HF.o.put HM2.o i 2 hlt (by omega) (.s s2) (fun _ _ _ h=>by cases h);clear hex;go_wp2_with fail
   clear hv2 hfz;refine(zP _ _ (by have:=HB.o;omega) (by have:=HB.o;omega)).mono ?_;rintro e wm3⟨s3,rfl,hb⟩;have HM3:Hid (Marked lo hi w wm3):=HP2.o.trans (Marked.of_below hb);clear hb;obtain⟨hex,hfz⟩:=HF.o.ready HM3.o i hlt;obtain⟨v3,hv3⟩:=hex 3 (by omega);have HP3:Hid (Marked lo hi w (wm3.setCell (aD bo (i*6+3)) (.s s3))):=HF.o.put HM3.o i 3 hlt (by omega) (.s s3) (fun _ _ _ h=>by cases h);clear hex;go_wp2_with fail
   clear hv3 hfz;refine(zP _ _ (by have:=HB.o;omega) (by have:=HB.o;omega)).mono ?_;rintro e wm4⟨s4,rfl,hb⟩;have HM4:Hid (Marked lo hi w wm4):=HP3.o.trans (Marked.of_below hb);clear hb;obtain⟨hex,hfz⟩:=HF.o.ready HM4.o i hlt;obtain⟨v4,hv4⟩:=hex 4 (by omega);have HP4:Hid (Marked lo hi w (wm4.setCell (aD bo (i*6+4)) (.s s4))):=HF.o.put HM4.o i 4 hlt (by omega) (.s s4) (fun _ _ _ h=>by cases h);clear hex;go_wp2_with fail
   clear hv4 hfz;refine(zP _ _ (by have:=HB.o;omega) (by have:=HB.o;omega)).mono ?_;rintro e wm5⟨s5,rfl,hb⟩;have HM5:Hid (Marked lo hi w wm5):=HP4.o.trans (Marked.of_below hb);clear hb;obtain⟨hex,hfz⟩:=HF.o.ready HM5.o i hlt;obtain⟨v5,hv5⟩:=hex 5 (by omega);have HP5:Hid (Marked lo hi w (wm5.setCell (aD bo (i*6+5)) (.s s5))):=HF.o.put HM5.o i 5 hlt (by omega) (.s s5) (fun _ _ _ h=>by cases h);clear hex;go_wp2
   go_roundw
   case rel=>exact⟨i+1,kk+1+1+1+1+1+1,by omega,by rw[hw6],by rw[wrap_one (by have:=HL.o;omega)],by have a:=HB.o;omega,by have a:=HB.o;omega,HP5.o⟩
   case measure=>exact yO hlt (by have:=HL.o;omega)
  ·have e:i=ms.length:=by omega
   subst e;go_wp2
   go_ret;exact⟨kk,rfl,h1,h2,hM⟩
end Go.Proofs.YtjnpjkigofldlaaGreat
namespace Go.Proofs.YtjnpjkigofldlaaGreat
open Go.ChangeShapes Go.WideShapes Go.ChangeAt Go.RowKit
variable {fuel:Nat}{cs:List Value}
theorem Tryz.zi9:Tryz.prog.cellsOf 108=4:=by kernel_rfl
theorem Tryz.zlx:Tryz.prog.cellsOf 111=5:=by kernel_rfl
theorem Tryz.zlA:Tryz.prog.cellsOf 105=7:=by kernel_rfl
theorem Tryz.zsw:Tryz.prog.cellsOf 32=7:=by kernel_rfl
theorem Tryz.zoo:Tryz.prog.cellsOf 27=1:=by kernel_rfl
theorem Tryz.zpz:Tryz.prog.cellsOf 28=1:=by kernel_rfl
theorem Tryz.zol:Tryz.prog.cellsOf 29=1:=by kernel_rfl
theorem Tryz.zoY:Tryz.prog.cellsOf 30=1:=by kernel_rfl
section
variable {H:Type} {enc:TypeId × Value->H} {w:World} {base:Nat} {spare:Nat->Bool} {held:Bool}
theorem zrp {P:Program}{t:TypeId}{fs:Array Field}{x:DataW H × List MemPlace}(ht:P.underlying t=some (.struct fs))(h:DataW.trod enc P w base spare held fuel t cs=some x)
 (i tf off n:Nat) (hf:(fs[i]?).map (fun f=>(f.type,f.offset))=some (tf,off)) (hn:P.cellsOf tf=n):∃m y,DataW.trod enc P w base spare held m tf ((cs.drop off).take n)=some y:=by
 obtain⟨f,hf1,hf2⟩:=Option.map_eq_some_iff.1 hf;simp only[Prod.mk.injEq]at hf2;obtain⟨rfl,rfl⟩:=hf2;subst hn;exact zkf ht h i f hf1
theorem zp5 {x:DataW H × List MemPlace}(h:DataW.trod enc Tryz.prog w base spare held fuel 108 cs=some x) :
 ∃m:Lg,cs=m.cells.toList/\m.Small:=by
 have hlen:cs.length=4:=by
  obtain⟨_,_,_,_,hl,_,_⟩:=DataW.trod_struct Tryz.underlying108 h;rw[hl];exact Tryz.zi9
 match cs,hlen with
 | [c0,c1,c2,c3],_=>
  have hf:=zai Tryz.underlying108 h;obtain⟨_,_,f0⟩:=hf 0 9 0 c0 rfl Tryz.zW rfl;obtain⟨_,_,f1⟩:=hf 1 9 1 c1 rfl Tryz.zW rfl;obtain⟨_,_,f2⟩:=hf 2 3 2 c2 rfl Tryz.jT rfl;obtain⟨_,_,f3⟩:=hf 3 3 3 c3 rfl Tryz.jT rfl;obtain⟨x0,e0,_,s0⟩:=DataW.trod_string Tryz.underlying9 f0;obtain⟨x1,e1,_,s1⟩:=DataW.trod_string Tryz.underlying9 f1;obtain⟨x2,e2,_,_⟩:=DataW.trod_int Tryz.underlying3 f2;obtain⟨x3,e3,_,_⟩:=DataW.trod_int Tryz.underlying3 f3;simp only[List.cons.injEq,and_true]at e0 e1 e2 e3;subst e0 e1 e2 e3;exact⟨⟨x0,x1,x2,x3⟩,rfl,s0,s1⟩
theorem zoc {x:DataW H × List MemPlace}(h:DataW.trod enc Tryz.prog w base spare held fuel 29 cs=some x) :
 ∃a cap ms,cs=[.l a (List.length ms) cap]/\zbU w a ms:=by
 obtain⟨a,len,cap,rfl,hm,hr⟩:=za0 Tryz.underlying29 Tryz.zi9 (by omega) h
 rcases Nat.eq_zero_or_pos len with h0|hp
 ·subst h0
  exact⟨a,cap,[],rfl,⟨by simp[maxLen],fun i h=>absurd h (by simp),fun h=>absurd rfl h⟩⟩
 ·obtain⟨b,off,rfl,hb,hrow⟩:=hr hp
  have hf:∀i,i<len->∃m:Lg,m.Small/\∀j,j<4->w.cell? (aD b (off+i*4+j))=m.cells[j]?:=by
   intro i hi;obtain⟨es,n,y,hel,hcell,hy⟩:=hrow i hi;obtain⟨m,rfl,hs⟩:=zp5 hy;exact⟨m,hs,fun j hj=>by rw[hcell j hj];simp⟩
  obtain⟨ms,hl,hms⟩:=zck len hf;exact⟨_,cap,ms,by rw[hl],⟨by omega,fun i hi=>(hms i hi).1,fun _=>⟨b,off,rfl,hb,fun i hi=>(hms i hi).2⟩⟩⟩
theorem zrc {x:DataW H × List MemPlace}(h:DataW.trod enc Tryz.prog w base spare held fuel 111 cs=some x) :
 ∃m:Pu,cs=m.cells.toList/\m.Small:=by
 have hlen:cs.length=5:=by
  obtain⟨_,_,_,_,hl,_,_⟩:=DataW.trod_struct Tryz.underlying111 h;rw[hl];exact Tryz.zlx
 match cs,hlen with
 | [c0,c1,c2,c3,c4],_=>
  have hf:=zai Tryz.underlying111 h;obtain⟨_,_,f0⟩:=hf 0 9 0 c0 rfl Tryz.zW rfl;obtain⟨_,_,f1⟩:=hf 1 9 1 c1 rfl Tryz.zW rfl;obtain⟨_,_,f2⟩:=hf 2 9 2 c2 rfl Tryz.zW rfl;obtain⟨_,_,f3⟩:=hf 3 3 3 c3 rfl Tryz.jT rfl;obtain⟨_,_,f4⟩:=hf 4 3 4 c4 rfl Tryz.jT rfl;obtain⟨x0,e0,_,s0⟩:=DataW.trod_string Tryz.underlying9 f0;obtain⟨x1,e1,_,s1⟩:=DataW.trod_string Tryz.underlying9 f1;obtain⟨x2,e2,_,s2⟩:=DataW.trod_string Tryz.underlying9 f2;obtain⟨x3,e3,_,_⟩:=DataW.trod_int Tryz.underlying3 f3;obtain⟨x4,e4,_,_⟩:=DataW.trod_int Tryz.underlying3 f4;simp only[List.cons.injEq,and_true]at e0 e1 e2 e3 e4;subst e0 e1 e2 e3 e4;exact⟨⟨x0,x1,x2,x3,x4⟩,rfl,s0,s1,s2⟩
theorem zpj {x:DataW H × List MemPlace}(h:DataW.trod enc Tryz.prog w base spare held fuel 30 cs=some x) :
 ∃a cap ms,cs=[.l a (List.length ms) cap]/\zcp w a ms:=by
 obtain⟨a,len,cap,rfl,hm,hr⟩:=za0 Tryz.underlying30 Tryz.zlx (by omega) h
 rcases Nat.eq_zero_or_pos len with h0|hp
 ·subst h0
  exact⟨a,cap,[],rfl,⟨by simp[maxLen],fun i h=>absurd h (by simp),fun h=>absurd rfl h⟩⟩
 ·obtain⟨b,off,rfl,hb,hrow⟩:=hr hp
  have hf:∀i,i<len->∃m:Pu,m.Small/\∀j,j<5->w.cell? (aD b (off+i*5+j))=m.cells[j]?:=by
   intro i hi;obtain⟨es,n,y,hel,hcell,hy⟩:=hrow i hi;obtain⟨m,rfl,hs⟩:=zrc hy;exact⟨m,hs,fun j hj=>by rw[hcell j hj];simp⟩
  obtain⟨ms,hl,hms⟩:=zck len hf;exact⟨_,cap,ms,by rw[hl],⟨by omega,fun i hi=>(hms i hi).1,fun _=>⟨b,off,rfl,hb,fun i hi=>(hms i hi).2⟩⟩⟩
theorem zom {x:DataW H × List MemPlace}(h:DataW.trod enc Tryz.prog w base spare held fuel 27 cs=some x) :
 ∃a cap ms,cs=[.l a (List.length ms) cap]/\zby w a ms:=by
 obtain⟨a,len,cap,rfl,hm,hr⟩:=za0 Tryz.underlying27 Tryz.ziV (by omega) h
 rcases Nat.eq_zero_or_pos len with h0|hp
 ·subst h0
  exact⟨a,cap,[],rfl,⟨by simp[maxLen],fun h=>absurd rfl h⟩⟩
 ·obtain⟨b,off,rfl,hb,hrow⟩:=hr hp
  have hf:∀i,i<len->∃o:Ob,∃a0 a1 c0 c1,zsi w b (off+i*7) o a0 a1 c0 c1:=by
   intro i hi;obtain⟨es,n,y,hel,hcell,hy⟩:=hrow i hi;obtain⟨o,a0,a1,c0,c1,rfl,hs⟩:=zp1 hy;exact⟨o,a0,a1,c0,c1,hs.small,hs.vals,hs.holds,fun j hj=>by rw[hcell j hj];simp[Ob.row]⟩
  obtain⟨ms,hl,hms⟩:=zck len hf;exact⟨_,cap,ms,by rw[hl],⟨by omega,fun _=>⟨b,off,rfl,hb,hms⟩⟩⟩
theorem zqk {x:DataW H × List MemPlace}(h:DataW.trod enc Tryz.prog w base spare held fuel 105 cs=some x) :
 ∃(g:Gr) (a:OA) (cap:Nat),cs=(g.cells a cap).toList/\g.Small/\yZ w a g.r.vs:=by
 have hlen:cs.length=7:=by
  obtain⟨_,_,_,_,hl,_,_⟩:=DataW.trod_struct Tryz.underlying105 h;rw[hl];exact Tryz.zlA
 match cs,hlen with
 | [c0,c1,c2,c3,c4,c5,c6],_=>
  have hf:=zai Tryz.underlying105 h;obtain⟨_,_,f0⟩:=hf 0 3 0 c0 rfl Tryz.jT rfl;obtain⟨_,_,f1⟩:=hf 1 9 1 c1 rfl Tryz.zW rfl;obtain⟨_,_,f2⟩:=hf 2 9 2 c2 rfl Tryz.zW rfl;obtain⟨_,_,f3⟩:=zrp Tryz.underlying105 h 3 103 3 4 rfl Tryz.zm3;obtain⟨x0,e0,_,_⟩:=DataW.trod_int Tryz.underlying3 f0;obtain⟨x1,e1,_,s1⟩:=DataW.trod_string Tryz.underlying9 f1;obtain⟨x2,e2,_,s2⟩:=DataW.trod_string Tryz.underlying9 f2;obtain⟨r,a,cap,e3,hs,hI⟩:=zsa f3;simp only[List.cons.injEq,and_true]at e0 e1 e2;subst e0 e1 e2;have e3':[c3,c4,c5,c6]=(r.cells a cap).toList:=e3;unfold Rl.cells at e3';simp only[List.cons.injEq,and_true]at e3';obtain⟨e3,e4,e5,e6⟩:=e3';subst e3 e4 e5 e6;exact⟨⟨x0,x1,x2,r⟩,a,cap,rfl,⟨s1,s2,hs⟩,hI⟩
theorem zo1 {x:DataW H × List MemPlace}(h:DataW.trod enc Tryz.prog w base spare held fuel 28 cs=some x) :
 ∃a cap ms,cs=[.l a (List.length ms) cap]/\zcs w a ms:=by
 obtain⟨a,len,cap,rfl,hm,hr⟩:=za0 Tryz.underlying28 Tryz.zlA (by omega) h
 rcases Nat.eq_zero_or_pos len with h0|hp
 ·subst h0
  exact⟨a,cap,[],rfl,⟨by simp[maxLen],fun h=>absurd rfl h⟩⟩
 ·obtain⟨b,off,rfl,hb,hrow⟩:=hr hp
  have hf:∀i,i<len->∃g:Gr,∃a0 c0,zte w b (off+i*7) g a0 c0:=by
   intro i hi;obtain⟨es,n,y,hel,hcell,hy⟩:=hrow i hi;obtain⟨g,a0,c0,rfl,hs,hI⟩:=zqk hy;exact⟨g,a0,c0,hs,hI,fun j hj=>by rw[hcell j hj];simp⟩
  obtain⟨ms,hl,hms⟩:=zck len hf;exact⟨_,cap,ms,by rw[hl],⟨by omega,fun _=>⟨b,off,rfl,hb,hms⟩⟩⟩
theorem zsI {x:DataW H × List MemPlace}(h:DataW.trod enc Tryz.prog w base spare held fuel 32 cs=some x) :
 ∃(b:Bk) (a0 a1 a2 a3:OA) (k0 k1 k2 k3:Nat),cs=(b.cells a0 a1 a2 a3 k0 k1 k2 k3).toList/\qj w b a0 a1 a2 a3:=by
 have hlen:cs.length=7:=by
  obtain⟨_,_,_,_,hl,_,_⟩:=DataW.trod_struct Tryz.underlying32 h;rw[hl];exact Tryz.zsw
 match cs,hlen with
 | [c0,c1,c2,c3,c4,c5,c6],_=>
  have hf:=zai Tryz.underlying32 h;obtain⟨_,_,f0⟩:=hf 0 3 0 c0 rfl Tryz.jT rfl;obtain⟨_,_,f1⟩:=hf 1 3 1 c1 rfl Tryz.jT rfl;obtain⟨_,_,f2⟩:=hf 2 3 2 c2 rfl Tryz.jT rfl;obtain⟨_,_,f3⟩:=hf 3 27 3 c3 rfl Tryz.zoo rfl;obtain⟨_,_,f4⟩:=hf 4 28 4 c4 rfl Tryz.zpz rfl;obtain⟨_,_,f5⟩:=hf 5 29 5 c5 rfl Tryz.zol rfl;obtain⟨_,_,f6⟩:=hf 6 30 6 c6 rfl Tryz.zoY rfl;obtain⟨x0,e0,_,_⟩:=DataW.trod_int Tryz.underlying3 f0;obtain⟨x1,e1,_,_⟩:=DataW.trod_int Tryz.underlying3 f1;obtain⟨x2,e2,_,_⟩:=DataW.trod_int Tryz.underlying3 f2;obtain⟨a0,k0,os,e3,hO⟩:=zom f3;obtain⟨a1,k1,gs,e4,hG⟩:=zo1 f4;obtain⟨a2,k2,ls,e5,hL⟩:=zoc f5;obtain⟨a3,k3,ps,e6,hP⟩:=zpj f6;simp only[List.cons.injEq,and_true]at e0 e1 e2 e3 e4 e5 e6;subst e0 e1 e2 e3 e4 e5 e6;exact⟨⟨x0,x1,x2,os,gs,ls,ps⟩,a0,a1,a2,a3,k0,k1,k2,k3,rfl,⟨hO,hG,hL,hP⟩⟩
end
end Go.Proofs.YtjnpjkigofldlaaGreat
