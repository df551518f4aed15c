import Derived.Test.YtcgpjfcocmcodaaGreatM23
import Derived.Laws.EntriesVeiled
import Derived.Test.YtcgpjfcocmcodaaGreatM24
set_option maxHeartbeats 4000000
namespace Go.Proofs.YtcgpjfcocmcodaaGreat
open Go.RowKit
def znD (w:World)(a:OA)(n:Nat):Prop:=0<n->∃g,a=some (aD g 0)/\g<w.heap.size/\∀q,q<n->w.cell? (aD g q)=some (.i (q:Int))
set_option maxRecDepth 20000 in
theorem zqb (s:Shp)(ms:List Mnd)(w0:World)(ma fa ia:OA)(mcap fcap icap bm bs:Nat)(w:World)(hm:qL w0 ma ms)(hf:yg w0 fa s.fs)(hl:ms.length<=1048576)(hn:s.fs.length<=6)
 (hrd:∀q,q<s.fs.length->∀x∈yA s ms q,0<=x/\x<s.fs.length) (hB:Bw w0 w) (hbm:bm<w.heap.size) (hbs:bs<w.heap.size) (hcm:w.cell? (aD bm 0)=some (.l ma ms.length mcap)) (hcs:∀j,w.cell? (aD bs j)=(#[.s s.kd,.l fa s.fs.length fcap]:AV)[j]?)
 (hit:znD w ia s.fs.length) :
 Calls Tryz.prog 205 #[.l ia s.fs.length icap,.func (.func 206) #[] #[.pointer (some (aD bm 0)),.pointer (some (aD bs 0))]] w
  fun e w'=>∃v,e=.returned (.tuple #[v,.bool (zI (zm s ms) s.fs.length).1])/\Bw w0 w'/\((zI (zm s ms) s.fs.length).1=true->w'.ownsRow w.heap.size 3 1 v (zI (zm s ms) s.fs.length).2.row.length (zeP (zI (zm s ms) s.fs.length).2.row)):=by
 have hmk:∀w:World,(Instr.makeMap 266 none).run Tryz.prog w=.ok (.map (some w.heap.size)) (w.alloc (.map #[] 0)):=fun w=>by kernel_rfl
 go_enter Tryz.func205,Tryz.ntmps205;go_wp2_with fail
 have hb2:Bw w ((w.alloc (.map #[] 0)).alloc (.cells #[(.func (.func 206) #[] #[.pointer (some (aD bm 0)),.pointer (some (aD bs 0))]),.map (some w.heap.size),.l none 0 0] 268)):=zw _ _ _;have hs0:=hB.size;obtain⟨c,hceq⟩:=xN ((⟨s,ms,w0,ma,fa,mcap,fcap,bm,bs,w.heap.size+1,w.heap.size,w.heap.size+2⟩:WalkC))
 have hc:c.Ok:=by
  subst hceq;exact⟨hm,hf,hl,hn,hrd,by show w0.heap.size<=w.heap.size+1;omega,hs0,by show w.heap.size+1<w.heap.size+2;omega,by show w.heap.size<w.heap.size+2;omega,by show bm<w.heap.size+2;omega,by show bs<w.heap.size+2;omega,by show w.heap.size+1≠w.heap.size;omega,by show bm≠w.heap.size+1;omega,by show bm≠w.heap.size;omega,by show bs≠w.heap.size+1;omega,by show bs≠w.heap.size;omega⟩
 have hW:zan c ((w.alloc (.map #[] 0)).alloc (.cells #[(.func (.func 206) #[] #[.pointer (some (aD bm 0)),.pointer (some (aD bs 0))]),.map (some w.heap.size),.l none 0 0] 268)) jJ (.l none 0 0):=by
  subst hceq;refine⟨hB.trans (hb2.mono hs0),(hb2.cell (p:=(aD bm 0)) hbm).trans hcm,za hcs hbs hb2,by show w.heap.size+2<=_;simp,(zQ _ _ _).2,World.ownsRow_nil _ _ _ _,⟨#[],0,(zQ _ _ _).1,fun x hx=>by simp at hx,fun k v hk=>?_,fun i j x y hx=>by simp at hx⟩⟩;unfold zf3 jJ at hk
  simp at hk
 have HC:Hid (c.Ok/\c.s=s/\c.ms=ms/\c.w0=w0/\c.p=w.heap.size+1/\c.mr=w.heap.size/\c.lo=w.heap.size+2):=⟨hc,by rw[hceq],by rw[hceq],by rw[hceq],by rw[hceq],by rw[hceq],by rw[hceq]⟩
 have HW:=hid hW;have HRD:Hid (∀p,p<s.fs.length->∀q∈zm s ms p,q<s.fs.length):=by have h:=hc.rd;rw[hceq]at h;exact h
 have HIT:=hid hit;have HN:=hid hn
 have HOP:Hid (∀T,open' s.fs.length T<=s.fs.length):=by
  intro T;unfold open';exact Nat.le_trans (List.length_filter_le _ _) (by simp)
 have HW2:Hid (∃W,W=((w.alloc (.map #[] 0)).alloc (.cells #[(.func (.func 206) #[] #[.pointer (some (aD bm 0)),.pointer (some (aD bs 0))]),.map (some w.heap.size),.l none 0 0] 268))):=⟨_,rfl⟩
 clear hW hc hceq hmk hB hcm hcs hrd hit hs0
 go_loopw [14] (fun iv wr=>∃(j:Nat) (v:Value),j<=s.fs.length/\iv=.i j/\(zu (down (zm s ms) (s.fs.length+1)) ((List.range s.fs.length).take j) jJ).1=true/\zan c wr (zu (down (zm s ms) (s.fs.length+1)) ((List.range s.fs.length).take j) jJ).2 v/\Moves c (.l none 0 0) ((w.alloc (.map #[] 0)).alloc (.cells #[(.func (.func 206) #[] #[.pointer (some (aD bm 0)),.pointer (some (aD bs 0))]),.map (some w.heap.size),.l none 0 0] 268)) v wr) (fun iv _=>s.fs.length-(intOf iv).toNat)
 case atStart=>exact⟨0,_,Nat.zero_le _,rfl,rfl,HW.o,Moves.refl _ _ _⟩
 case round=>
  obtain⟨j,v,hj,rfl,hD,hWr,hMr⟩:=hrel;have HWr:=ql hWr hMr;have HD:=hid hD;clear hWr hMr hD
  by_cases hjl:j<s.fs.length
  ·have HTK:Hid ((List.range s.fs.length).take (j+1)=(List.range s.fs.length).take j++[j]):=by
    unfold Hid;rw[tSe (by simpa using hjl)]
    simp
   obtain⟨g,rfl,hgl,hgc⟩:=HIT.o (by omega)
   have hcell:wr.cell? (aD g j)=some (.i (j:Int)):=by
    rw[zhS (HWr.o.2.out g (by have:=hb2.size;omega) (by rw[HC.o.2.2.2.2.1];omega) (by rw[HC.o.2.2.2.2.2.1];omega) (by simp[Value.ownBlock]))];exact(hb2.cell (p:=(aD g j)) hgl).trans (hgc j hjl)
   have hjI:(j:Int)<(s.fs.length:Int):=by omega
   have HSX:Hid ((zu (down (zm s ms) (s.fs.length+1)) ((List.range s.fs.length).take j) jJ).2.row.length+open' s.fs.length (zu (down (zm s ms) (s.fs.length+1)) ((List.range s.fs.length).take j) jJ).2<=6):=by
    have h1:=zfL HRD.o (s.fs.length+1) _ jJ (fun a ha=>List.mem_range.1 (List.mem_of_mem_take ha)) HD.o;have h2:=HOP.o jJ;have h3:jJ.row.length=0:=rfl;have h4:=HN.o
    show _<=_
    omega
   have HDA:Hid (Calls Tryz.prog 221 #[.pointer (some (aD (w.heap.size+1) 0)),.i (j:Int)] wr fun e w'=>∃v',e=.returned (.bool (down (zm s ms) (s.fs.length+1) j (zu (down (zm s ms) (s.fs.length+1)) ((List.range s.fs.length).take j) jJ).2).1)/\Bw w0 w'/\((down (zm s ms) (s.fs.length+1) j (zu (down (zm s ms) (s.fs.length+1)) ((List.range s.fs.length).take j) jJ).2).1=true->zan c w' (down (zm s ms) (s.fs.length+1) j (zu (down (zm s ms) (s.fs.length+1)) ((List.range s.fs.length).take j) jJ).2).2 v'/\Moves c v wr v' w')):=by
    have h:=zrg c HC.o.1 (s.fs.length+1) j (zu (down (zm s ms) (s.fs.length+1)) ((List.range s.fs.length).take j) jJ).2 v wr (by rw[HC.o.2.1];exact hjl) (by rw[HC.o.2.1];have:=HOP.o (zu (down (zm s ms) (s.fs.length+1)) ((List.range s.fs.length).take j) jJ).2;omega) (by rw[HC.o.2.1];exact HSX.o) HWr.o.1;rw[HC.o.2.1,HC.o.2.2.1,HC.o.2.2.2.1,HC.o.2.2.2.2.1]at h;exact h
   go_wp2_with fail
   refine HDA.o.mono ?_;rintro e w3⟨v3,rfl,hb3,hyes⟩
   by_cases hd:(down (zm s ms) (s.fs.length+1) j (zu (down (zm s ms) (s.fs.length+1)) ((List.range s.fs.length).take j) jJ).2).1=true
   ·have HS:Hid ((zu (down (zm s ms) (s.fs.length+1)) ((List.range s.fs.length).take (j+1)) jJ)=down (zm s ms) (s.fs.length+1) j (zu (down (zm s ms) (s.fs.length+1)) ((List.range s.fs.length).take j) jJ).2):=by unfold Hid;rw[HTK.o,za6,if_pos HD.o]
    have HY:=hid (hyes hd);have HDD:=hid hd;rw[hd];clear hyes hb3 hd hcell hgc HDA;go_wp2_with fail
    exact⟨⟨j+1,v3,by omega,by go_num,by rw[HS.o];exact HDD.o,by rw[HS.o];exact HY.o.1,HWr.o.2.trans HY.o.2⟩,zq hjl⟩
   ·have hdf:(down (zm s ms) (s.fs.length+1) j (zu (down (zm s ms) (s.fs.length+1)) ((List.range s.fs.length).take j) jJ).2).1=false:=by simpa using hd
    have HF:Hid ((zI (zm s ms) s.fs.length).1=false):=by
     have h1:(zu (down (zm s ms) (s.fs.length+1)) ((List.range s.fs.length).take (j+1)) jJ).1=false:=by rw[HTK.o,za6,if_pos HD.o];exact hdf
     have h2:=zcY (down (zm s ms) (s.fs.length+1)) ((List.range s.fs.length).take (j+1)) ((List.range s.fs.length).drop (j+1)) jJ h1;rw[List.take_append_drop]at h2;exact h2
    have HB3:Hid (Bw w0 w3):=hb3;rw[hdf];clear hyes hb3 hd hdf hcell hgc HDA;go_wp2_with fail
    go_ret2
    exact⟨_,by rw[HF.o];rfl,HB3.o,fun h=>by rw[HF.o]at h;cases h⟩
  ·have e:j=s.fs.length:=by omega
   have hall:(List.range s.fs.length).take j=List.range s.fs.length:=tOl (by simp;omega);rw[hall]at HWr HD;have HY:Hid ((zI (zm s ms) s.fs.length).1=true):=HD.o;have HWW:Hid (zan c wr (zI (zm s ms) s.fs.length).2 v):=HWr.o.1;have hpc:∀k,wr.cell? (aD (w.heap.size+1) k)=(#[c.fn,.map (some c.mr),v]:AV)[k]?:=by have h:=zbs HWW.o.cells;rw[HC.o.2.2.2.2.1]at h;exact h
   obtain⟨va,vcap,hve⟩:=qD HWW.o.row;subst hve;subst e;clear HWr HD hall;go_wp2_with fail
   go_ret2
   refine⟨_,by rw[HY.o];rfl,by have h:=HWW.o.base;rw[HC.o.2.2.2.1]at h;exact h,fun _=>?_⟩;have h:=HWW.o.row;rw[HC.o.2.2.2.2.2.2]at h;exact zdi h (by omega)
def zao (f:Fld)(v:BA):BA:=if v.toList.isEmpty=true then f.df else v
def zaj (fs:List Fld)(vs:List BA):List BA:=List.zipWith zao fs vs
def jh (fs:List Fld)(vs:List BA)(k:Nat):List BA:=(zaj fs vs).take k++vs.drop k
theorem qO {fs:List Fld}{vs:List BA}(h:vs.length=fs.length):(zaj fs vs).length=vs.length:=by simp[zaj];omega
theorem zau {fs:List Fld}{vs:List BA}(h:vs.length=fs.length)(k:Nat):(jh fs vs k).length=vs.length:=by
 simp[jh,qO h];omega
theorem zio (fs:List Fld)(vs:List BA):jh fs vs 0=vs:=by simp[jh]
theorem zki {fs:List Fld}{vs:List BA}(h:vs.length=fs.length):jh fs vs fs.length=zaj fs vs:=by
 unfold jh;rw[tOl (by rw[qO h];omega),List.drop_of_length_le (by omega),List.append_nil]
theorem zfv {fs:List Fld}{vs:List BA}(h:vs.length=fs.length)(k:Nat)(hk:k<fs.length):(jh fs vs k)[k]?=vs[k]?:=by
 unfold jh;rw[List.getElem?_append_right (by simp;omega)]
 simp[qO h,Nat.min_eq_left (show k<=vs.length by omega)]
theorem zdk {fs:List Fld}{vs:List BA}(h:vs.length=fs.length)(k:Nat)(hk:k<fs.length):jh fs vs (k+1)=(jh fs vs k).set k (zao fs[k] (vs[k]'(by omega))):=by
 have hl:=qO h;have hv:(zaj fs vs)[k]'(by omega)=zao fs[k] (vs[k]'(by omega)):=by simp[zaj]
 unfold jh;rw[List.set_append_right _ _ (by simp;omega)];have e:k-((zaj fs vs).take k).length=0:=by simp;omega
 rw[e,List.drop_eq_getElem_cons (show k<vs.length by omega),List.set_cons_zero,tSe (by omega),hv]
 simp
theorem zn.set {lo:Nat}{w:World}{g:Nat}{ws:List BA}(h:zn lo w (some (aD g 0)) ws)(k:Nat)(s:BA):zn lo (w.setCell (aD g k) (.s s)) (some (aD g 0)) (ws.set k s):=by
 rcases h with⟨h0,_⟩|⟨b,C,h0,hg,hh,hc⟩
 ·cases h0
 ·cases h0
  refine Or.inr ⟨g,_,rfl,hg,zi hh _,fun i hi=>?_⟩;have hi':i<ws.length:=by rw[List.length_set]at hi;exact hi
  by_cases e:i=k
  ·subst e
   have hsz:i<C.size:=by
    rcases Nat.lt_or_ge i C.size with h1|h1
    ·exact h1
    ·have:=hc i hi';rw[Array.getElem?_eq_none h1]at this;cases this
   rw[Array.getElem?_setIfInBounds_self_of_lt hsz,List.getElem_set_self]
  ·rw[Array.getElem?_setIfInBounds_ne (fun h=>e h.symm),hc i hi',List.getElem_set_ne (fun h=>e h.symm)]
def zeT (w:World)(b:Nat)(v0 v1 v2 v3 v4 v5 v6:Value):World:=((((((w.setCell (aD b 0) v0).setCell (aD b 1) v1).setCell (aD b 2) v2).setCell (aD b 3) v3).setCell (aD b 4) v4).setCell (aD b 5) v5).setCell (aD b 6) v6
theorem jO {lo:Nat}{w:World}{a:OA}{ws:List BA}(h:zn lo w a ws)(b:Nat)(hb:b<lo)(v0 v1 v2 v3 v4 v5 v6:Value):zn lo (zeT w b v0 v1 v2 v3 v4 v5 v6) a ws:=
 ((((((h.setCell _ hb _).setCell _ hb _).setCell _ hb _).setCell _ hb _).setCell _ hb _).setCell _ hb _).setCell _ hb _
theorem jq {B:Nat}{w0 w:World}(h:Below B w0 w)(b:Nat)(hb:B<=b)(v0 v1 v2 v3 v4 v5 v6:Value):Below B w0 (zeT w b v0 v1 v2 v3 v4 v5 v6):=
 ((((((h.setCell (p:=(aD b 0)) hb _).setCell (p:=(aD b 1)) hb _).setCell (p:=(aD b 2)) hb _).setCell (p:=(aD b 3)) hb _).setCell (p:=(aD b 4)) hb _).setCell (p:=(aD b 5)) hb _).setCell (p:=(aD b 6)) hb _
def zmc (c p:Int):Value:=if c=0 then .nilIface else .iface 279 (.agg #[.i c,.i p])
theorem ziW (w:World):Calls Tryz.prog 233 #[.bool true] w fun e w'=>e=.returned .nilIface/\w'=w:=by
 go_enter Tryz.func233,Tryz.ntmps233
 go_wp2
 go_ret;exact⟨rfl,rfl⟩
theorem zjr (w:World):Calls Tryz.prog 233 #[.bool false] w fun e w'=>e=.returned (.iface 279 (.agg #[.i 1,.i 0]))/\w'=w:=by
 go_enter Tryz.func233,Tryz.ntmps233
 go_wp2
 go_ret;exact⟨rfl,rfl⟩
def jK (b:Bool):Value:=if b then .nilIface else .iface 279 (.agg #[.i 1,.i 0])
theorem jo (b:Bool)(w:World):Calls Tryz.prog 233 #[.bool b] w fun e w'=>e=.returned (jK b)/\w'=w:=by
 cases b
 ·exact zjr w
 ·exact ziW w
theorem zde {a b:Bool}(h:a=b):Ending.returned (jK a)=.returned (jK b):=by rw[h]
theorem ze5 (a0:OA)(cap0:Nat)(ss:List Shp)(o:Ob)(a a':OA)(cap cap':Nat)(w:World)(ho:jU w o a a') :
 Calls Tryz.prog 222 #[.l a0 ss.length cap0,.agg #[.s o.kd,.s o.nm,.s o.tm,.l a o.vs.length cap,.bool o.en,.l a' o.hs.length cap',.i o.vr]] w fun e w'=>e=.returned (jK (qI o))/\Bw w w':=by
 have h1:=ho.small.nm;have h2:=ho.small.tm
 by_cases hn:zx o.nm=true
 ·have HN:Hid (zx o.nm=true):=hn
  clear hn ho;go_enter Tryz.func222,Tryz.ntmps222;go_wp2_with fail
  refine(zf HN.o (zH _ _ h1)).mono ?_;rintro e w1⟨rfl,rfl⟩;go_wp2_with fail
  refine(zH _ _ h2).mono ?_;rintro e w1⟨rfl,rfl⟩;go_wp2_with fail
  refine(jo _ _).mono ?_;rintro e w1⟨rfl,rfl⟩;go_wp2_with fail
  go_ret;exact⟨zde (by unfold qI;rw[HN.o];rfl),bAl _ _⟩
 ·have HN:Hid (zx o.nm=false):=by simpa[Hid] using hn
  clear hn ho;go_enter Tryz.func222,Tryz.ntmps222;go_wp2_with fail
  refine(zf HN.o (zH _ _ h1)).mono ?_;rintro e w1⟨rfl,rfl⟩;go_wp2_with fail
  refine(jo _ _).mono ?_;rintro e w1⟨rfl,rfl⟩;go_wp2_with fail
  go_ret;exact⟨zde (a:=false) (b:=qI o) (by unfold qI;rw[HN.o];rfl),bAl _ _⟩
theorem zfq (a0:OA)(cap0:Nat)(ss:List Shp)(o:Ob)(a a':OA)(cap cap':Nat)(w:World)(ho:jU w o a a') :
 Calls Tryz.prog 223 #[.l a0 ss.length cap0,.agg #[.s o.kd,.s o.nm,.s o.tm,.l a o.vs.length cap,.bool o.en,.l a' o.hs.length cap',.i o.vr]] w fun e w'=>e=.returned (jK (qV o))/\Bw w w':=by
 have hl:=ho.holds.len;unfold maxLen at hl
 by_cases h3:o.hs.length<=3
 ·go_enter Tryz.func223,Tryz.ntmps223
  go_wp2_with fail
  refine(zjN _ _ _ _ (ho.holds.mono (bAl _ _))).mono ?_;rintro e w1⟨rfl,rfl⟩;go_wp2_with fail
  refine(jo _ _).mono ?_;rintro e w1⟨rfl,rfl⟩;go_wp2_with fail
  go_ret;exact⟨zde (by unfold qV;rw[decide_eq_true h3];rfl),bAl _ _⟩
 ·go_enter Tryz.func223,Tryz.ntmps223
  go_wp2_with fail
  refine(jo _ _).mono ?_;rintro e w1⟨rfl,rfl⟩;go_wp2_with fail
  go_ret;exact⟨zde (a:=false) (b:=qV o) (by unfold qV;rw[decide_eq_false (show ¬o.hs.length<=3 by omega)];rfl),bAl _ _⟩
theorem zdP (a0:OA)(cap0:Nat)(ss:List Shp)(o:Ob)(a a':OA)(cap cap':Nat)(w:World) :
 Calls Tryz.prog 224 #[.l a0 ss.length cap0,.agg #[.s o.kd,.s o.nm,.s o.tm,.l a o.vs.length cap,.bool o.en,.l a' o.hs.length cap',.i o.vr]] w fun e w'=>e=.returned (jK (qy o))/\Bw w w':=by
 by_cases h0:0<=o.vr
 ·have HV:Hid (qy o=decide (o.vr<=1000000)):=by unfold Hid qy;rw[decide_eq_true h0];rfl
  go_enter Tryz.func224,Tryz.ntmps224
  go_wp2_with (go_at_call 233;refine(jo _ _).mono ?_;rintro e w1⟨rfl,rfl⟩)
  go_ret;exact⟨zde HV.o.symm,bAl _ _⟩
 ·have HV:Hid (qy o=false):=by unfold Hid qy;rw[decide_eq_false h0];rfl
  go_enter Tryz.func224,Tryz.ntmps224
  go_wp2_with (go_at_call 233;refine(jo _ _).mono ?_;rintro e w1⟨rfl,rfl⟩)
  go_ret;exact⟨zde HV.o.symm,bAl _ _⟩
theorem zeZ (a0:OA)(cap0:Nat)(ss:List Shp)(o:Ob)(a a':OA)(cap cap':Nat)(w:World)(hw:yT w a0 ss)(_ho:jU w o a a') :
 Calls Tryz.prog 225 #[.l a0 ss.length cap0,.agg #[.s o.kd,.s o.nm,.s o.tm,.l a o.vs.length cap,.bool o.en,.l a' o.hs.length cap',.i o.vr]] w fun e w'=>e=.returned (jK (zB ss o))/\Bw w w':=by
 by_cases hk:zJ ss o.kd=true
 all_goals
  first
   | (have HK:Hid (zJ ss o.kd=true):=hk)
   | (have HK:Hid (zJ ss o.kd=false):=by simpa[Hid] using hk)
  clear hk;go_enter Tryz.func225,Tryz.ntmps225;go_wp2_with fail
  refine(qJ _ _ _ _ _ (hw.mono (bAl _ _))).mono ?_;rintro e w1⟨fa,fcap,rfl,_,hb1⟩;rw[HK.o];have hX1:=za (zl w _ _) (by simp) hb1;have hz1:w.heap.size<w1.heap.size:=by have:=hb1.size;simp at this;omega
  have hB1:Bw w w1:=(bAl _ _).trans (hb1.mono (by simp));clear hb1
  go_wp2_with (go_at_call 233;refine(jo _ _).mono ?_;rintro e w2⟨rfl,rfl⟩)
  go_ret
 ·refine⟨zde ?_,hB1.alloc (by omega) _⟩
  unfold zB;rw[HK.o];rw[Bool.eq_iff_iff];simp;omega
 ·refine⟨zde (a:=false) (b:=zB ss o) ?_,hB1.alloc (by omega) _⟩
  unfold zB;rw[HK.o];rfl
def zaZ {α:Type}(key:α->α->Int)(ms:List α)(k:Nat):Prop:=∀i (h:i+1<ms.length),i+1<k->key ms[i] ms[i+1]<0
def rising {α:Type}(key:α->α->Int)(ms:List α):Prop:=∀i (h:i+1<ms.length),key ms[i] ms[i+1]<0
noncomputable def zbR {α:Type}(key:α->α->Int)(ms:List α):Bool:=@decide (rising key ms) (Classical.propDecidable _)
theorem zef {α:Type}{key:α->α->Int}{ms:List α}{m:Nat}(h:zaZ key ms (m+1))(hl:m+1<ms.length)(hk:key ms[m] ms[m+1]<0):zaZ key ms (m+1+1):=by
 intro i hi hik
 rcases Nat.lt_or_ge i m with hlt|hge
 ·exact h i hi (by omega)
 ·have e:i=m:=by omega
  subst e;exact hk
theorem zgG {α:Type}{key:α->α->Int}{ms:List α}{m:Nat}(hl:m+1<ms.length)(hk:¬key ms[m] ms[m+1]<0):zbR key ms=false:=by
 unfold zbR;simp only[decide_eq_false_iff_not];exact fun h=>hk (h m hl)
theorem zgx {α:Type}{key:α->α->Int}{ms:List α}{m:Nat}(h:zaZ key ms (m+1))(hl:ms.length<=m+1):zbR key ms=true:=by
 unfold zbR;simp only[decide_eq_true_eq];exact fun i hi=>h i hi (by omega)
theorem znk {α:Type}(key:α->α->Int)(ms:List α):zbR key ms=true↔rising key ms:=by
 unfold zbR;simp only[decide_eq_true_eq]
def zeb (a b:Int):Int:=if a<b then -1 else if b<a then 1 else 0
def zcu (a b:Gr):Int:=zeb a.no b.no
theorem zhb {n m:Nat}(h:m+1<n):n+1-(intOf (Value.int IntKind.i64 ((m:Int)+1+1))).toNat<n+1-(intOf (Value.int IntKind.i64 ((m:Int)+1))).toNat:=by
 show n+1-((m:Int)+1+1).toNat<n+1-((m:Int)+1).toNat
 omega
theorem zqn (x:Int)(w:World):Calls Tryz.prog 230 #[.i x] w fun e w'=>e=.returned (.bool false)/\w'=w:=by
 have h:(x != x)=false:=by simp
 go_enter Tryz.func230,Tryz.ntmps230;go_wp2_with fail
 go_ret;exact⟨rfl,rfl⟩
theorem zko (x y:Int)(w:World):Calls Tryz.prog 213 #[.i x,.i y] w fun e w'=>e=.returned (.i (zeb x y))/\w'=w:=by
 have HN:=hid zqn
 by_cases h1:x<y
 ·have HF:Hid (zeb x y=-1):=by unfold Hid zeb;rw[if_pos h1]
  go_enter Tryz.func213,Tryz.ntmps213
  go_wp2_with (go_at_call 230;refine(HN.o _ _).mono ?_;rintro e w2⟨rfl,rfl⟩)
  go_ret;exact⟨zo HF.o.symm,rfl⟩
 ·by_cases h2:y<x
  ·have HF:Hid (zeb x y=1):=by unfold Hid zeb;rw[if_neg h1,if_pos h2]
   go_enter Tryz.func213,Tryz.ntmps213
   go_wp2_with (go_at_call 230;refine(HN.o _ _).mono ?_;rintro e w2⟨rfl,rfl⟩)
   go_ret;exact⟨zo HF.o.symm,rfl⟩
  ·have HF:Hid (zeb x y=0):=by unfold Hid zeb;rw[if_neg h1,if_neg h2]
   go_enter Tryz.func213,Tryz.ntmps213
   go_wp2_with (go_at_call 230;refine(HN.o _ _).mono ?_;rintro e w2⟨rfl,rfl⟩)
   go_ret;exact⟨zo HF.o.symm,rfl⟩
theorem zjX (g h:Gr)(a b:OA)(c d:Nat)(w:World) :
 Calls Tryz.prog 177 #[.agg (g.cells a c),.agg (h.cells b d)] w fun e w'=>e=.returned (.i (zcu g h))/\Bw w w':=by
 unfold Gr.cells;go_enter Tryz.func177,Tryz.ntmps177
 go_wp2_with (go_at_call 213;refine(zko _ _ _).mono ?_;rintro e w2⟨rfl,rfl⟩)
 go_ret;exact⟨rfl,zw _ _ _⟩
theorem ziZ (a:OA)(cap:Nat)(ms:List Ob)(w:World)(hw:zbG w a ms) :
 Calls Tryz.prog 171 #[.l a ms.length cap,.func (.func 172) #[] #[]] w fun e w'=>e=.returned (.bool (zbR zcg ms))/\Bw w w':=by
 have hl:=hw.len;unfold maxLen at hl;have HW:=hid hw;clear hw;go_enter Tryz.func171,Tryz.ntmps171;go_wp2_with fail
 go_loopw [5] (fun iv wr=>∃m:Nat,iv=.i ((m:Int)+1)/\m<=ms.length/\Hid (zaZ zcg ms (m+1)/\Bw w wr)) (fun iv _=>ms.length+1-(intOf iv).toNat)
 case atStart=>exact⟨0,rfl,Nat.zero_le _,fun i h h'=>by omega,bRf _ _⟩
 case round=>
  obtain⟨m,rfl,hml,HQ⟩:=hrel
  by_cases hlt:m+1<ms.length
  ·have hm:m<ms.length:=by omega
   obtain⟨b,off,p0,p1,p2,p3,rfl,hb,_,_,_,d0,d1,d2,d3,d4,d5,d6⟩:=HW.o.load HQ.o.2 m hm;obtain⟨b2,off2,q0,q1,q2,q3,ha2,hbq,_,_,_,e0,e1,e2,e3,e4,e5,e6⟩:=HW.o.load HQ.o.2 (m+1) hlt
   obtain⟨rfl,rfl⟩:b=b2/\off=off2:=by
    have h:=ha2
    simpa using h
   have hb':=nLt hb HQ.o.2.size;have hltI:(m:Int)+1<(ms.length:Int):=by omega
   have h0m:(0:Int)<=(m:Int):=by omega
   have h01:(0:Int)<=(m:Int)+1:=by omega
   have hsub:IntKind.i64.wrap ((m:Int)+1-1)=(m:Int):=by rw[IntKind.wrap_i64];omega
   have hsub2:IntKind.i64.wrap (m:Int)=(m:Int):=by rw[IntKind.wrap_i64];omega
   have hsub3:wrap64 (m:Int)=(m:Int):=by unfold wrap64;omega
   have htn:((m:Int)+1).toNat=m+1:=by omega
   have hlmI:(m:Int)<(ms.length:Int):=by omega
   have HBr:=hid HQ.o.2;have hS:wr.drew.cell? (aD b (off+m*7))=some (.s ms[m].kd)/\wr.drew.cell? (aD b (off+m*7+1))=some (.s ms[m].nm)/\wr.drew.cell? (aD b (off+m*7+2))=some (.s ms[m].tm)/\wr.drew.cell? (aD b (off+m*7+3))=some (.l p0 ms[m].vs.length p2)/\wr.drew.cell? (aD b (off+m*7+4))=some (.bool ms[m].en)/\wr.drew.cell? (aD b (off+m*7+5))=some (.l p1 ms[m].hs.length p3)/\wr.drew.cell? (aD b (off+m*7+6))=some (.i ms[m].vr)/\wr.drew.cell? (aD b (off+(m+1)*7))=some (.s ms[m+1].kd)/\wr.drew.cell? (aD b (off+(m+1)*7+1))=some (.s ms[m+1].nm)/\wr.drew.cell? (aD b (off+(m+1)*7+2))=some (.s ms[m+1].tm)/\wr.drew.cell? (aD b (off+(m+1)*7+3))=some (.l q0 ms[m+1].vs.length q2)/\wr.drew.cell? (aD b (off+(m+1)*7+4))=some (.bool ms[m+1].en)/\wr.drew.cell? (aD b (off+(m+1)*7+5))=some (.l q1 ms[m+1].hs.length q3)/\wr.drew.cell? (aD b (off+(m+1)*7+6))=some (.i ms[m+1].vr):=⟨d0,d1,d2,d3,d4,d5,d6,e0,e1,e2,e3,e4,e5,e6⟩
   clear d0 d1 d2 d3 d4 d5 d6 e0 e1 e2 e3 e4 e5 e6;have HM:=hid HQ.o.1;clear HQ;go_wp2_with fail
   go_region_held3 (fun w'=>w'.cell? (aD b (off+m*7))=some (.s ms[m].kd)/\w'.cell? (aD b (off+m*7+1))=some (.s ms[m].nm)/\w'.cell? (aD b (off+m*7+2))=some (.s ms[m].tm)/\w'.cell? (aD b (off+m*7+3))=some (.l p0 ms[m].vs.length p2)/\w'.cell? (aD b (off+m*7+4))=some (.bool ms[m].en)/\w'.cell? (aD b (off+m*7+5))=some (.l p1 ms[m].hs.length p3)/\w'.cell? (aD b (off+m*7+6))=some (.i ms[m].vr)/\w'.cell? (aD b (off+(m+1)*7))=some (.s ms[m+1].kd)/\w'.cell? (aD b (off+(m+1)*7+1))=some (.s ms[m+1].nm)/\w'.cell? (aD b (off+(m+1)*7+2))=some (.s ms[m+1].tm)/\w'.cell? (aD b (off+(m+1)*7+3))=some (.l q0 ms[m+1].vs.length q2)/\w'.cell? (aD b (off+(m+1)*7+4))=some (.bool ms[m+1].en)/\w'.cell? (aD b (off+(m+1)*7+5))=some (.l q1 ms[m+1].hs.length q3)/\w'.cell? (aD b (off+(m+1)*7+6))=some (.i ms[m+1].vr)) (exact hS) (first|(go_at_call 172;refine(zi6 ms[m] ms[m+1] p0 p1 q0 q1 p2 p3 q2 q3 _).mono ?_;rintro e w2⟨rfl,hb2⟩;have hS:=(⟨(hb2.cell (p:=(aD b _)) hb').trans hS.1,(hb2.cell (p:=(aD b _)) hb').trans hS.2.1,(hb2.cell (p:=(aD b _)) hb').trans hS.2.2.1,(hb2.cell (p:=(aD b _)) hb').trans hS.2.2.2.1,(hb2.cell (p:=(aD b _)) hb').trans hS.2.2.2.2.1,(hb2.cell (p:=(aD b _)) hb').trans hS.2.2.2.2.2.1,(hb2.cell (p:=(aD b _)) hb').trans hS.2.2.2.2.2.2.1,(hb2.cell (p:=(aD b _)) hb').trans hS.2.2.2.2.2.2.2.1,(hb2.cell (p:=(aD b _)) hb').trans hS.2.2.2.2.2.2.2.2.1,(hb2.cell (p:=(aD b _)) hb').trans hS.2.2.2.2.2.2.2.2.2.1,(hb2.cell (p:=(aD b _)) hb').trans hS.2.2.2.2.2.2.2.2.2.2.1,(hb2.cell (p:=(aD b _)) hb').trans hS.2.2.2.2.2.2.2.2.2.2.2.1,(hb2.cell (p:=(aD b _)) hb').trans hS.2.2.2.2.2.2.2.2.2.2.2.2.1,(hb2.cell (p:=(aD b _)) hb').trans hS.2.2.2.2.2.2.2.2.2.2.2.2.2⟩:_/\_/\_/\_/\_/\_/\_/\_/\_/\_/\_/\_/\_/\_);have hB2:=HBr.o.drew.trans (hb2.mono HBr.o.drew.size);clear hb2))
   by_cases hk:zcg ms[m] ms[m+1]<0
   ·have HA:=hid (zef HM.o hlt hk)
    have hd:decide (0<=zcg ms[m] ms[m+1])=false:=by simp;omega
    rw[hd];clear hk hd;go_wp2_with fail
    exact⟨⟨m+1,by go_num,by omega,HA.o,hB2⟩,zhb (by omega)⟩
   ·have HA:=hid (zgG hlt hk)
    have hd:decide (0<=zcg ms[m] ms[m+1])=true:=by simp;omega
    rw[hd];clear hk hd;go_wp2_with fail
    go_ret;exact⟨ze HA.o.symm,hB2⟩
  ·have HA:Hid (zbR zcg ms=true):=zgx HQ.o.1 (by omega)
   have HB:=hid HQ.o.2;clear HQ;go_wp2_with fail
   go_ret;exact⟨ze HA.o.symm,HB.o⟩
theorem zix (a:OA)(cap:Nat)(ms:List Gr)(w:World)(hw:zcj w a ms) :
 Calls Tryz.prog 176 #[.l a ms.length cap,.func (.func 177) #[] #[]] w fun e w'=>e=.returned (.bool (zbR zcu ms))/\Bw w w':=by
 have hl:=hw.len;unfold maxLen at hl;have HW:=hid hw;clear hw;go_enter Tryz.func176,Tryz.ntmps176;go_wp2_with fail
 go_loopw [5] (fun iv wr=>∃m:Nat,iv=.i ((m:Int)+1)/\m<=ms.length/\Hid (zaZ zcu ms (m+1)/\Bw w wr)) (fun iv _=>ms.length+1-(intOf iv).toNat)
 case atStart=>exact⟨0,rfl,Nat.zero_le _,fun i h h'=>by omega,bRf _ _⟩
 case round=>
  obtain⟨m,rfl,hml,HQ⟩:=hrel
  by_cases hlt:m+1<ms.length
  ·have hm:m<ms.length:=by omega
   obtain⟨b,off,p0,p1,rfl,hb,_,_,d0,d1,d2,d3,d4,d5,d6⟩:=HW.o.load HQ.o.2 m hm;obtain⟨b2,off2,q0,q1,ha2,hbq,_,_,e0,e1,e2,e3,e4,e5,e6⟩:=HW.o.load HQ.o.2 (m+1) hlt
   obtain⟨rfl,rfl⟩:b=b2/\off=off2:=by
    have h:=ha2
    simpa using h
   have hb':=nLt hb HQ.o.2.size;have hltI:(m:Int)+1<(ms.length:Int):=by omega
   have h0m:(0:Int)<=(m:Int):=by omega
   have h01:(0:Int)<=(m:Int)+1:=by omega
   have hsub:IntKind.i64.wrap ((m:Int)+1-1)=(m:Int):=by rw[IntKind.wrap_i64];omega
   have hsub2:IntKind.i64.wrap (m:Int)=(m:Int):=by rw[IntKind.wrap_i64];omega
   have hsub3:wrap64 (m:Int)=(m:Int):=by unfold wrap64;omega
   have htn:((m:Int)+1).toNat=m+1:=by omega
   have hlmI:(m:Int)<(ms.length:Int):=by omega
   have HBr:=hid HQ.o.2;have hS:wr.drew.cell? (aD b (off+m*7))=some (.i ms[m].no)/\wr.drew.cell? (aD b (off+m*7+1))=some (.s ms[m].to)/\wr.drew.cell? (aD b (off+m*7+2))=some (.s ms[m].gb)/\wr.drew.cell? (aD b (off+m*7+3))=some (.l p0 ms[m].r.vs.length p1)/\wr.drew.cell? (aD b (off+m*7+4))=some (.s ms[m].r.kd)/\wr.drew.cell? (aD b (off+m*7+5))=some (.s ms[m].r.tm)/\wr.drew.cell? (aD b (off+m*7+6))=some (.s ms[m].r.px)/\wr.drew.cell? (aD b (off+(m+1)*7))=some (.i ms[m+1].no)/\wr.drew.cell? (aD b (off+(m+1)*7+1))=some (.s ms[m+1].to)/\wr.drew.cell? (aD b (off+(m+1)*7+2))=some (.s ms[m+1].gb)/\wr.drew.cell? (aD b (off+(m+1)*7+3))=some (.l q0 ms[m+1].r.vs.length q1)/\wr.drew.cell? (aD b (off+(m+1)*7+4))=some (.s ms[m+1].r.kd)/\wr.drew.cell? (aD b (off+(m+1)*7+5))=some (.s ms[m+1].r.tm)/\wr.drew.cell? (aD b (off+(m+1)*7+6))=some (.s ms[m+1].r.px):=⟨d0,d1,d2,d3,d4,d5,d6,e0,e1,e2,e3,e4,e5,e6⟩
   clear d0 d1 d2 d3 d4 d5 d6 e0 e1 e2 e3 e4 e5 e6;have HM:=hid HQ.o.1;clear HQ;go_wp2_with fail
   go_region_held3 (fun w'=>w'.cell? (aD b (off+m*7))=some (.i ms[m].no)/\w'.cell? (aD b (off+m*7+1))=some (.s ms[m].to)/\w'.cell? (aD b (off+m*7+2))=some (.s ms[m].gb)/\w'.cell? (aD b (off+m*7+3))=some (.l p0 ms[m].r.vs.length p1)/\w'.cell? (aD b (off+m*7+4))=some (.s ms[m].r.kd)/\w'.cell? (aD b (off+m*7+5))=some (.s ms[m].r.tm)/\w'.cell? (aD b (off+m*7+6))=some (.s ms[m].r.px)/\w'.cell? (aD b (off+(m+1)*7))=some (.i ms[m+1].no)/\w'.cell? (aD b (off+(m+1)*7+1))=some (.s ms[m+1].to)/\w'.cell? (aD b (off+(m+1)*7+2))=some (.s ms[m+1].gb)/\w'.cell? (aD b (off+(m+1)*7+3))=some (.l q0 ms[m+1].r.vs.length q1)/\w'.cell? (aD b (off+(m+1)*7+4))=some (.s ms[m+1].r.kd)/\w'.cell? (aD b (off+(m+1)*7+5))=some (.s ms[m+1].r.tm)/\w'.cell? (aD b (off+(m+1)*7+6))=some (.s ms[m+1].r.px)) (exact hS) (first|(go_at_call 177;refine(zjX ms[m] ms[m+1] p0 q0 p1 q1 _).mono ?_;rintro e w2⟨rfl,hb2⟩;have hS:=(⟨(hb2.cell (p:=(aD b _)) hb').trans hS.1,(hb2.cell (p:=(aD b _)) hb').trans hS.2.1,(hb2.cell (p:=(aD b _)) hb').trans hS.2.2.1,(hb2.cell (p:=(aD b _)) hb').trans hS.2.2.2.1,(hb2.cell (p:=(aD b _)) hb').trans hS.2.2.2.2.1,(hb2.cell (p:=(aD b _)) hb').trans hS.2.2.2.2.2.1,(hb2.cell (p:=(aD b _)) hb').trans hS.2.2.2.2.2.2.1,(hb2.cell (p:=(aD b _)) hb').trans hS.2.2.2.2.2.2.2.1,(hb2.cell (p:=(aD b _)) hb').trans hS.2.2.2.2.2.2.2.2.1,(hb2.cell (p:=(aD b _)) hb').trans hS.2.2.2.2.2.2.2.2.2.1,(hb2.cell (p:=(aD b _)) hb').trans hS.2.2.2.2.2.2.2.2.2.2.1,(hb2.cell (p:=(aD b _)) hb').trans hS.2.2.2.2.2.2.2.2.2.2.2.1,(hb2.cell (p:=(aD b _)) hb').trans hS.2.2.2.2.2.2.2.2.2.2.2.2.1,(hb2.cell (p:=(aD b _)) hb').trans hS.2.2.2.2.2.2.2.2.2.2.2.2.2⟩:_/\_/\_/\_/\_/\_/\_/\_/\_/\_/\_/\_/\_/\_);have hB2:=HBr.o.drew.trans (hb2.mono HBr.o.drew.size);clear hb2))
   by_cases hk:zcu ms[m] ms[m+1]<0
   ·have HA:=hid (zef HM.o hlt hk)
    have hd:decide (0<=zcu ms[m] ms[m+1])=false:=by simp;omega
    rw[hd];clear hk hd;go_wp2_with fail
    exact⟨⟨m+1,by go_num,by omega,HA.o,hB2⟩,zhb (by omega)⟩
   ·have HA:=hid (zgG hlt hk)
    have hd:decide (0<=zcu ms[m] ms[m+1])=true:=by simp;omega
    rw[hd];clear hk hd;go_wp2_with fail
    go_ret;exact⟨ze HA.o.symm,hB2⟩
  ·have HA:Hid (zbR zcu ms=true):=zgx HQ.o.1 (by omega)
   have HB:=hid HQ.o.2;clear HQ;go_wp2_with fail
   go_ret;exact⟨ze HA.o.symm,HB.o⟩
theorem zjb (a:OA)(cap:Nat)(ms:List Lg)(w:World)(hw:zbn w a ms) :
 Calls Tryz.prog 179 #[.l a ms.length cap,.func (.func 144) #[] #[]] w fun e w'=>e=.returned (.bool (zbR y9 ms))/\Bw w w':=by
 have hl:=hw.len;unfold maxLen at hl;have HW:=hid hw;clear hw;go_enter Tryz.func179,Tryz.ntmps179;go_wp2_with fail
 go_loopw [5] (fun iv wr=>∃m:Nat,iv=.i ((m:Int)+1)/\m<=ms.length/\Hid (zaZ y9 ms (m+1)/\Bw w wr)) (fun iv _=>ms.length+1-(intOf iv).toNat)
 case atStart=>exact⟨0,rfl,Nat.zero_le _,fun i h h'=>by omega,bRf _ _⟩
 case round=>
  obtain⟨m,rfl,hml,HQ⟩:=hrel
  by_cases hlt:m+1<ms.length
  ·have hm:m<ms.length:=by omega
   obtain⟨b,off,rfl,hb,d0,d1,d2,d3⟩:=HW.o.load HQ.o.2 m hm;obtain⟨b2,off2,ha2,hbq,e0,e1,e2,e3⟩:=HW.o.load HQ.o.2 (m+1) hlt
   obtain⟨rfl,rfl⟩:b=b2/\off=off2:=by
    have h:=ha2
    simpa using h
   have hb':=nLt hb HQ.o.2.size;have hltI:(m:Int)+1<(ms.length:Int):=by omega
   have h0m:(0:Int)<=(m:Int):=by omega
   have h01:(0:Int)<=(m:Int)+1:=by omega
   have hsub:IntKind.i64.wrap ((m:Int)+1-1)=(m:Int):=by rw[IntKind.wrap_i64];omega
   have hsub2:IntKind.i64.wrap (m:Int)=(m:Int):=by rw[IntKind.wrap_i64];omega
   have hsub3:wrap64 (m:Int)=(m:Int):=by unfold wrap64;omega
   have htn:((m:Int)+1).toNat=m+1:=by omega
   have hlmI:(m:Int)<(ms.length:Int):=by omega
   have HBr:=hid HQ.o.2;have hS:wr.drew.cell? (aD b (off+m*4))=some (.s ms[m].tm)/\wr.drew.cell? (aD b (off+m*4+1))=some (.s ms[m].rs)/\wr.drew.cell? (aD b (off+m*4+2))=some (.i ms[m].mo)/\wr.drew.cell? (aD b (off+m*4+3))=some (.i ms[m].fr)/\wr.drew.cell? (aD b (off+(m+1)*4))=some (.s ms[m+1].tm)/\wr.drew.cell? (aD b (off+(m+1)*4+1))=some (.s ms[m+1].rs)/\wr.drew.cell? (aD b (off+(m+1)*4+2))=some (.i ms[m+1].mo)/\wr.drew.cell? (aD b (off+(m+1)*4+3))=some (.i ms[m+1].fr):=⟨d0,d1,d2,d3,e0,e1,e2,e3⟩
   clear d0 d1 d2 d3 e0 e1 e2 e3;have HM:=hid HQ.o.1;clear HQ;go_wp2_with fail
   go_region_held3 (fun w'=>w'.cell? (aD b (off+m*4))=some (.s ms[m].tm)/\w'.cell? (aD b (off+m*4+1))=some (.s ms[m].rs)/\w'.cell? (aD b (off+m*4+2))=some (.i ms[m].mo)/\w'.cell? (aD b (off+m*4+3))=some (.i ms[m].fr)/\w'.cell? (aD b (off+(m+1)*4))=some (.s ms[m+1].tm)/\w'.cell? (aD b (off+(m+1)*4+1))=some (.s ms[m+1].rs)/\w'.cell? (aD b (off+(m+1)*4+2))=some (.i ms[m+1].mo)/\w'.cell? (aD b (off+(m+1)*4+3))=some (.i ms[m+1].fr)) (exact hS) (first|(go_at_call 144;refine(zct ms[m] ms[m+1] _).mono ?_;rintro e w2⟨rfl,hb2⟩;have hS:=(⟨(hb2.cell (p:=(aD b _)) hb').trans hS.1,(hb2.cell (p:=(aD b _)) hb').trans hS.2.1,(hb2.cell (p:=(aD b _)) hb').trans hS.2.2.1,(hb2.cell (p:=(aD b _)) hb').trans hS.2.2.2.1,(hb2.cell (p:=(aD b _)) hb').trans hS.2.2.2.2.1,(hb2.cell (p:=(aD b _)) hb').trans hS.2.2.2.2.2.1,(hb2.cell (p:=(aD b _)) hb').trans hS.2.2.2.2.2.2.1,(hb2.cell (p:=(aD b _)) hb').trans hS.2.2.2.2.2.2.2⟩:_/\_/\_/\_/\_/\_/\_/\_);have hB2:=HBr.o.drew.trans (hb2.mono HBr.o.drew.size);clear hb2))
   by_cases hk:y9 ms[m] ms[m+1]<0
   ·have HA:=hid (zef HM.o hlt hk)
    have hd:decide (0<=y9 ms[m] ms[m+1])=false:=by simp;omega
    rw[hd];clear hk hd;go_wp2_with fail
    exact⟨⟨m+1,by go_num,by omega,HA.o,hB2⟩,zhb (by omega)⟩
   ·have HA:=hid (zgG hlt hk)
    have hd:decide (0<=y9 ms[m] ms[m+1])=true:=by simp;omega
    rw[hd];clear hk hd;go_wp2_with fail
    go_ret;exact⟨ze HA.o.symm,hB2⟩
  ·have HA:Hid (zbR y9 ms=true):=zgx HQ.o.1 (by omega)
   have HB:=hid HQ.o.2;clear HQ;go_wp2_with fail
   go_ret;exact⟨ze HA.o.symm,HB.o⟩
theorem ziD (a:OA)(cap:Nat)(ms:List Pu)(w:World)(hw:zce w a ms) :
 Calls Tryz.prog 181 #[.l a ms.length cap,.func (.func 182) #[] #[]] w fun e w'=>e=.returned (.bool (zbR zar ms))/\Bw w w':=by
 have hl:=hw.len;unfold maxLen at hl;have HW:=hid hw;clear hw;go_enter Tryz.func181,Tryz.ntmps181;go_wp2_with fail
 go_loopw [5] (fun iv wr=>∃m:Nat,iv=.i ((m:Int)+1)/\m<=ms.length/\Hid (zaZ zar ms (m+1)/\Bw w wr)) (fun iv _=>ms.length+1-(intOf iv).toNat)
 case atStart=>exact⟨0,rfl,Nat.zero_le _,fun i h h'=>by omega,bRf _ _⟩
 case round=>
  obtain⟨m,rfl,hml,HQ⟩:=hrel
  by_cases hlt:m+1<ms.length
  ·have hm:m<ms.length:=by omega
   obtain⟨b,off,rfl,hb,d0,d1,d2,d3,d4⟩:=HW.o.load HQ.o.2 m hm;obtain⟨b2,off2,ha2,hbq,e0,e1,e2,e3,e4⟩:=HW.o.load HQ.o.2 (m+1) hlt
   obtain⟨rfl,rfl⟩:b=b2/\off=off2:=by
    have h:=ha2
    simpa using h
   have hb':=nLt hb HQ.o.2.size;have hltI:(m:Int)+1<(ms.length:Int):=by omega
   have h0m:(0:Int)<=(m:Int):=by omega
   have h01:(0:Int)<=(m:Int)+1:=by omega
   have hsub:IntKind.i64.wrap ((m:Int)+1-1)=(m:Int):=by rw[IntKind.wrap_i64];omega
   have hsub2:IntKind.i64.wrap (m:Int)=(m:Int):=by rw[IntKind.wrap_i64];omega
   have hsub3:wrap64 (m:Int)=(m:Int):=by unfold wrap64;omega
   have htn:((m:Int)+1).toNat=m+1:=by omega
   have hlmI:(m:Int)<(ms.length:Int):=by omega
   have HBr:=hid HQ.o.2;have hS:wr.drew.cell? (aD b (off+m*5))=some (.s ms[m].dr)/\wr.drew.cell? (aD b (off+m*5+1))=some (.s ms[m].tm)/\wr.drew.cell? (aD b (off+m*5+2))=some (.s ms[m].rs)/\wr.drew.cell? (aD b (off+m*5+3))=some (.i ms[m].am)/\wr.drew.cell? (aD b (off+m*5+4))=some (.i ms[m].un)/\wr.drew.cell? (aD b (off+(m+1)*5))=some (.s ms[m+1].dr)/\wr.drew.cell? (aD b (off+(m+1)*5+1))=some (.s ms[m+1].tm)/\wr.drew.cell? (aD b (off+(m+1)*5+2))=some (.s ms[m+1].rs)/\wr.drew.cell? (aD b (off+(m+1)*5+3))=some (.i ms[m+1].am)/\wr.drew.cell? (aD b (off+(m+1)*5+4))=some (.i ms[m+1].un):=⟨d0,d1,d2,d3,d4,e0,e1,e2,e3,e4⟩
   clear d0 d1 d2 d3 d4 e0 e1 e2 e3 e4;have HM:=hid HQ.o.1;clear HQ;go_wp2_with fail
   go_region_held3 (fun w'=>w'.cell? (aD b (off+m*5))=some (.s ms[m].dr)/\w'.cell? (aD b (off+m*5+1))=some (.s ms[m].tm)/\w'.cell? (aD b (off+m*5+2))=some (.s ms[m].rs)/\w'.cell? (aD b (off+m*5+3))=some (.i ms[m].am)/\w'.cell? (aD b (off+m*5+4))=some (.i ms[m].un)/\w'.cell? (aD b (off+(m+1)*5))=some (.s ms[m+1].dr)/\w'.cell? (aD b (off+(m+1)*5+1))=some (.s ms[m+1].tm)/\w'.cell? (aD b (off+(m+1)*5+2))=some (.s ms[m+1].rs)/\w'.cell? (aD b (off+(m+1)*5+3))=some (.i ms[m+1].am)/\w'.cell? (aD b (off+(m+1)*5+4))=some (.i ms[m+1].un)) (exact hS) (first|(go_at_call 182;refine(zkx ms[m] ms[m+1] _).mono ?_;rintro e w2⟨rfl,hb2⟩;have hS:=(⟨(hb2.cell (p:=(aD b _)) hb').trans hS.1,(hb2.cell (p:=(aD b _)) hb').trans hS.2.1,(hb2.cell (p:=(aD b _)) hb').trans hS.2.2.1,(hb2.cell (p:=(aD b _)) hb').trans hS.2.2.2.1,(hb2.cell (p:=(aD b _)) hb').trans hS.2.2.2.2.1,(hb2.cell (p:=(aD b _)) hb').trans hS.2.2.2.2.2.1,(hb2.cell (p:=(aD b _)) hb').trans hS.2.2.2.2.2.2.1,(hb2.cell (p:=(aD b _)) hb').trans hS.2.2.2.2.2.2.2.1,(hb2.cell (p:=(aD b _)) hb').trans hS.2.2.2.2.2.2.2.2.1,(hb2.cell (p:=(aD b _)) hb').trans hS.2.2.2.2.2.2.2.2.2⟩:_/\_/\_/\_/\_/\_/\_/\_/\_/\_);have hB2:=HBr.o.drew.trans (hb2.mono HBr.o.drew.size);clear hb2))
   by_cases hk:zar ms[m] ms[m+1]<0
   ·have HA:=hid (zef HM.o hlt hk)
    have hd:decide (0<=zar ms[m] ms[m+1])=false:=by simp;omega
    rw[hd];clear hk hd;go_wp2_with fail
    exact⟨⟨m+1,by go_num,by omega,HA.o,hB2⟩,zhb (by omega)⟩
   ·have HA:=hid (zgG hlt hk)
    have hd:decide (0<=zar ms[m] ms[m+1])=true:=by simp;omega
    rw[hd];clear hk hd;go_wp2_with fail
    go_ret;exact⟨ze HA.o.symm,hB2⟩
  ·have HA:Hid (zbR zar ms=true):=zgx HQ.o.1 (by omega)
   have HB:=hid HQ.o.2;clear HQ;go_wp2_with fail
   go_ret;exact⟨ze HA.o.symm,HB.o⟩
theorem jy.ready {lo hi bo:Nat}{w W:World}{fs:List Fld}(h:jy lo hi w bo fs)(hM:Marked lo hi w W)(i:Nat)(hi':i<fs.length) :
 (∀j,j<11->∃v,W.cell? (aD bo (i*11+j))=some v)/\(∀o,W.frozen? (aD bo o)=false):=by
 have h':=h.mono hM;obtain⟨C,hC,hs,hn⟩:=h'.rows;exact⟨fun j hj=>⟨C[i*11+j]'(by omega),by rw[cell_of_block hC];exact Array.getElem?_eq_getElem (by omega)⟩,fun o=>zh hC⟩
theorem jy.words {lo hi bo:Nat}{w:World}{fs:List Fld}(h:jy lo hi w bo fs)(i:Nat)(hi':i<fs.length) :
 ∃bk cap,jH lo hi w bk fs[i].ws.length/\∀W,Marked lo hi w W->W.cell? (aD bo (i*11+4))=some (.l (some (aD bk 0)) fs[i].ws.length cap):=by
 obtain⟨C,hC,hs,hn⟩:=h.rows;obtain⟨bk,cap,h1,h2,_⟩:=hn i hi';refine⟨bk,cap,h1,fun W hM=>?_⟩;obtain⟨C',hC',_,hk⟩:=hM.inn bo C _ h.low h.high hC;rw[cell_of_block hC'];exact(hk _ _ _ _).2 h2
theorem jy.put {lo hi bo:Nat}{w W:World}{fs:List Fld}(h:jy lo hi w bo fs)(hM:Marked lo hi w W)(i j:Nat)(hi':i<fs.length)(hj:j<11)(hj4:j≠4)(v:Value)(hv:∀a n c,v≠Value.slice a n c):Marked lo hi w (W.setCell (aD bo (i*11+j)) v):=by
 obtain⟨C,hC,_,hn⟩:=h.rows;obtain⟨_,_,_,_,h3⟩:=hn i hi';exact hM.put h.low h.high hC (h3 j hj hj4) v hv
set_option maxRecDepth 20000 in
theorem zge (lo hi bo cap:Nat)(fs:List Fld)(k:Int)(w:World)(h:jy lo hi w bo fs)(hl:fs.length<=1048576)(hls:∀i (h:i<fs.length),fs[i].ws.length<=1048576)(hk:0<k)(hk2:k<4000000000000000000) :
 Calls Tryz.prog 108 #[.l (some (aD bo 0)) fs.length cap,.i k] w fun e w'=>∃k',e=.returned (.i k')/\k<=k'/\k'<=k+fs.length*1048586/\Marked lo hi w w':=by
 have HF:=hid h;have HL:=ql hl hls;have HK:=ql hk hk2;clear h hl hls hk hk2;go_enter Tryz.func108,Tryz.ntmps108;go_wp2_with fail
 go_loopw [1,5] (fun kv iv wr=>∃(i:Nat) (kk:Int),i<=fs.length/\kv=.i kk/\iv=.i i/\k<=kk/\kk<=k+i*1048586/\Marked lo hi w wr) (fun _ iv _=>fs.length-(intOf iv).toNat)
 case atStart=>exact⟨0,k,Nat.zero_le _,rfl,rfl,Int.le_refl _,by simp,Marked.refl _ _ _⟩
 case round=>
  obtain⟨i,kk,hile,rfl,rfl,h1,h2,hM⟩:=hrel
  by_cases hlt:i<fs.length
  ·have hltI:(i:Int)<(fs.length:Int):=by omega
   have HB:Hid (0<kk/\kk<7000000000000000000/\kk<=k+i*1048586/\k<=kk):=by have a:=HK.o;have b:=HL.o.1;exact⟨by omega,by omega,h2,h1⟩
   have HM:=hid hM;clear h1 h2 hM;obtain⟨bk,bcap,hT,hsl⟩:=HF.o.words i hlt;have HT:=ql hT hsl;clear hT hsl;go_wp2_with fail
   refine(zN _ _ HB.o.1 (by have:=HB.o;omega)).mono ?_;rintro e w1⟨s1,rfl,hb1⟩;have HM1:=hid (HM.o.trans (Marked.of_below hb1));clear hb1;have hsl:=HT.o.2 _ HM1.o;obtain⟨hex,hfz⟩:=HF.o.ready HM1.o i hlt;obtain⟨v0,hv0⟩:=hex 0 (by omega);obtain⟨v1,hv1⟩:=hex 1 (by omega);obtain⟨v2,hv2⟩:=hex 2 (by omega);obtain⟨v3,hv3⟩:=hex 3 (by omega);rw[Nat.add_zero]at hv0;have hwkk1:wrap64 (kk+1)=kk+1:=by have:=HB.o;exact zA _ ⟨by omega,by omega⟩
   have hwkk2:wrap64 (kk+1+1)=kk+1+1:=by have:=HB.o;exact zA _ ⟨by omega,by omega⟩
   have hwkk3:wrap64 (kk+1+1+1)=kk+1+1+1:=by have:=HB.o;exact zA _ ⟨by omega,by omega⟩
   have hwkk4:wrap64 (kk+1+1+1+1)=kk+1+1+1+1:=by have:=HB.o;exact zA _ ⟨by omega,by omega⟩
   clear hex;go_wp2_with fail
   have HMW:=HF.o.put (HF.o.put (HF.o.put (HF.o.put HM1.o i 0 hlt (by omega) (by omega) (.s s1) (fun _ _ _ h=>by cases h)) i 1 hlt (by omega) (by omega) (.i (kk+1)) (fun _ _ _ h=>by cases h)) i 2 hlt (by omega) (by omega) (.i (kk+1+1)) (fun _ _ _ h=>by cases h)) i 3 hlt (by omega) (by omega) (.i (kk+1+1+1)) (fun _ _ _ h=>by cases h);refine(zbY lo hi bk _ bcap _ _ (HT.o.1.mono HMW) (HL.o.2 i hlt) (by have:=HB.o;omega) (by have:=HB.o;omega)).mono ?_;rintro e w2⟨k2,rfl,hk2,hM2⟩;have HM2:=hid (HMW.trans hM2);have HB2:Hid (kk<k2/\k2<=kk+4+1048576/\0<k2):=by have a:=HL.o.2 i hlt;have b:=HB.o;exact⟨by omega,by omega,by omega⟩
   clear HMW hM2 hk2 hv0 hv1 hv2 hv3 hfz hsl;go_wp2_with fail
   refine(zN _ _ HB2.o.2.2 (by have:=HB.o;have:=HB2.o;omega)).mono ?_;rintro e w3⟨s3,rfl,hb3⟩;have HM3:=hid (HM2.o.trans (Marked.of_below hb3));clear hb3;obtain⟨hex,hfz⟩:=HF.o.ready HM3.o i hlt;obtain⟨v5,hv5⟩:=hex 5 (by omega);obtain⟨v6,hv6⟩:=hex 6 (by omega);obtain⟨v7,hv7⟩:=hex 7 (by omega);obtain⟨v8,hv8⟩:=hex 8 (by omega);have hwk21:wrap64 (k2+1)=k2+1:=by have:=HB.o;have:=HB2.o;exact zA _ ⟨by omega,by omega⟩
   have hwk22:wrap64 (k2+1+1)=k2+1+1:=by have:=HB.o;have:=HB2.o;exact zA _ ⟨by omega,by omega⟩
   have hwk23:wrap64 (k2+1+1+1)=k2+1+1+1:=by have:=HB.o;have:=HB2.o;exact zA _ ⟨by omega,by omega⟩
   have hwk24:wrap64 (k2+1+1+1+1)=k2+1+1+1+1:=by have:=HB.o;have:=HB2.o;exact zA _ ⟨by omega,by omega⟩
   have hwk25:wrap64 (k2+1+1+1+1+1)=k2+1+1+1+1+1:=by have:=HB.o;have:=HB2.o;exact zA _ ⟨by omega,by omega⟩
   have hwk26:wrap64 (k2+1+1+1+1+1+1)=k2+1+1+1+1+1+1:=by have:=HB.o;have:=HB2.o;exact zA _ ⟨by omega,by omega⟩
   clear hex;go_wp2_with fail
   have HMW:=HF.o.put (HF.o.put (HF.o.put (HF.o.put HM3.o i 5 hlt (by omega) (by omega) (.s s3) (fun _ _ _ h=>by cases h)) i 6 hlt (by omega) (by omega) (.i (k2+1)) (fun _ _ _ h=>by cases h)) i 7 hlt (by omega) (by omega) (.bool ((k2+1+1).tmod 3 == 0)) (fun _ _ _ h=>by cases h)) i 8 hlt (by omega) (by omega) (.bool ((k2+1+1+1).tmod 3 == 0)) (fun _ _ _ h=>by cases h);refine(zN _ _ (by have:=HB2.o;omega) (by have:=HB.o;have:=HB2.o;omega)).mono ?_;rintro e w4⟨s4,rfl,hb4⟩;have HM4:=hid (HMW.trans (Marked.of_below hb4));clear HMW hb4 hv5 hv6 hv7 hv8 hfz;obtain⟨hex,hfz⟩:=HF.o.ready HM4.o i hlt;obtain⟨v9,hv9⟩:=hex 9 (by omega);clear hex;go_wp2_with fail
   have HMW:=HF.o.put HM4.o i 9 hlt (by omega) (by omega) (.s s4) (fun _ _ _ h=>by cases h);refine(zN _ _ (by have:=HB2.o;omega) (by have:=HB.o;have:=HB2.o;omega)).mono ?_;rintro e w5⟨s5,rfl,hb5⟩;have HM5:=hid (HMW.trans (Marked.of_below hb5));clear HMW hb5 hv9 hfz;obtain⟨hex,hfz⟩:=HF.o.ready HM5.o i hlt;obtain⟨v10,hv10⟩:=hex 10 (by omega);clear hex;go_wp2_with fail
   go_roundw
   case rel=>exact⟨i+1,k2+1+1+1+1+1+1,by omega,by rw[hwk26],by rw[wrap_one (by have:=HL.o.1;omega)],by have a:=HB.o;have b:=HB2.o;omega,by have a:=HB.o;have b:=HB2.o;omega,HF.o.put HM5.o i 10 hlt (by omega) (by omega) (.s s5) (fun _ _ _ h=>by cases h)⟩
   case measure=>exact yR hlt (by have:=HL.o.1;omega)
  ·have e:i=fs.length:=by omega
   subst e;go_wp2_with fail
   go_ret;exact⟨kk,rfl,h1,h2,hM⟩
theorem jM.ready {lo hi bo:Nat}{w W:World}{ss:List Shp}(h:jM lo hi w bo ss)(hM:Marked lo hi w W)(i:Nat)(hi':i<ss.length) :
 (∀j,j<2->∃v,W.cell? (aD bo (i*2+j))=some v)/\(∀o,W.frozen? (aD bo o)=false):=by
 have h':=h.mono hM;obtain⟨C,hC,hs,hn⟩:=h'.rows;exact⟨fun j hj=>⟨C[i*2+j]'(by omega),by rw[cell_of_block hC];exact Array.getElem?_eq_getElem (by omega)⟩,fun o=>zh hC⟩
theorem jM.zdS {lo hi bo:Nat}{w:World}{ss:List Shp}(h:jM lo hi w bo ss)(i:Nat)(hi':i<ss.length) :
 ∃bf cap,jy lo hi w bf ss[i].fs/\∀W,Marked lo hi w W->W.cell? (aD bo (i*2+1))=some (.l (some (aD bf 0)) ss[i].fs.length cap):=by
 obtain⟨C,hC,hs,hn⟩:=h.rows;obtain⟨bk,cap,h1,h2,_⟩:=hn i hi';refine⟨bk,cap,h1,fun W hM=>?_⟩;obtain⟨C',hC',_,hk⟩:=hM.inn bo C _ h.low h.high hC;rw[cell_of_block hC'];exact(hk _ _ _ _).2 h2
theorem jM.put {lo hi bo:Nat}{w W:World}{ss:List Shp}(h:jM lo hi w bo ss)(hM:Marked lo hi w W)(i:Nat)(hi':i<ss.length)(v:Value)(hv:∀a n c,v≠Value.slice a n c):Marked lo hi w (W.setCell (aD bo (i*2)) v):=by
 obtain⟨C,hC,_,hn⟩:=h.rows;obtain⟨_,_,_,_,h3⟩:=hn i hi';exact hM.put h.low h.high hC h3 v hv
theorem zf5 (lo hi bo cap:Nat)(ss:List Shp)(k:Int)(w:World)(h:jM lo hi w bo ss)(hl:ss.length<=1048576)(hls:∀i (h:i<ss.length),ss[i].fs.length<=1048576/\∀j (h':j<ss[i].fs.length),ss[i].fs[j].ws.length<=1048576)(hk:0<k)(hk2:k<1000000000000000000) :
 Calls Tryz.prog 51 #[.l (some (aD bo 0)) ss.length cap,.i k] w fun e w'=>∃k',e=.returned (.i k')/\k<=k'/\k'<=k+ss.length*1099522113537/\Marked lo hi w w':=by
 have HF:=hid h;have HL:=ql hl hls;have HK:=ql hk hk2;clear h hl hls hk hk2;go_enter Tryz.func51,Tryz.ntmps51;go_wp2_with fail
 go_loopw [1,5] (fun kv iv wr=>∃(i:Nat) (kk:Int),i<=ss.length/\kv=.i kk/\iv=.i i/\k<=kk/\kk<=k+i*1099522113537/\Marked lo hi w wr) (fun _ iv _=>ss.length-(intOf iv).toNat)
 case atStart=>exact⟨0,k,Nat.zero_le _,rfl,rfl,Int.le_refl _,by simp,Marked.refl _ _ _⟩
 case round=>
  obtain⟨i,kk,hile,rfl,rfl,h1,h2,hM⟩:=hrel
  by_cases hlt:i<ss.length
  ·have hltI:(i:Int)<(ss.length:Int):=by omega
   have HB:Hid (0<kk/\kk<3000000000000000000/\kk<=k+i*1099522113537/\k<=kk):=by have a:=HK.o;have b:=HL.o.1;exact⟨by omega,by omega,h2,h1⟩
   have HM:=hid hM;clear h1 h2 hM;obtain⟨bf,bcap,hT,hsl⟩:=HF.o.zdS i hlt;have HT:=ql hT hsl;clear hT hsl;go_wp2_with fail
   refine(zN _ _ HB.o.1 (by have:=HB.o;omega)).mono ?_;rintro e w1⟨s1,rfl,hb1⟩;have HM1:=hid (HM.o.trans (Marked.of_below hb1));clear hb1;have hsl:=HT.o.2 _ HM1.o;obtain⟨hex,hfz⟩:=HF.o.ready HM1.o i hlt;obtain⟨v0,hv0⟩:=hex 0 (by omega);rw[Nat.add_zero]at hv0;have hw1:wrap64 (kk+1)=kk+1:=by have:=HB.o;exact zA _ ⟨by omega,by omega⟩
   clear hex;go_wp2_with fail
   have HMW:=HF.o.put HM1.o i hlt (.s s1) (fun _ _ _ h=>by cases h);refine(zge lo hi bf bcap _ _ _ (HT.o.1.mono HMW) (HL.o.2 i hlt).1 (HL.o.2 i hlt).2 (by have:=HB.o;omega) (by have:=HB.o;omega)).mono ?_;rintro e w2⟨k2,rfl,h3,h4,hM2⟩;have HM2:=hid (HMW.trans hM2);have HB2:Hid (kk<k2/\k2<=kk+1099522113537):=by have a:=(HL.o.2 i hlt).1;exact⟨by omega,by omega⟩
   clear HMW hM2 h3 h4 hv0 hfz hsl;go_wp2_with fail
   go_roundw
   case rel=>exact⟨i+1,k2,by omega,rfl,by rw[wrap_one (by have:=HL.o.1;omega)],by have a:=HB.o;have b:=HB2.o;omega,by have a:=HB.o;have b:=HB2.o;omega,HM2.o⟩
   case measure=>exact yR hlt (by have:=HL.o.1;omega)
  ·have e:i=ss.length:=by omega
   subst e;go_wp2_with fail
   go_ret;exact⟨kk,rfl,h1,h2,hM⟩
end Go.Proofs.YtcgpjfcocmcodaaGreat
