import Derived.Test.YtedangodjiolaaaGreatM26
import Derived.Laws.EntriesVeiled
import Derived.Test.YtedangodjiolaaaGreatM27
set_option maxHeartbeats 4000000
namespace Go.Proofs.YtedangodjiolaaaGreat
open Go.RowKit
def znv (w:World)(a:OA)(n:Nat):Prop:=0<n->∃g,a=some (aD g 0)/\g<w.heap.size/\∀q,q<n->w.cell? (aD g q)=some (.i (q:Int))
set_option maxRecDepth 20000 in
theorem zpm (s:Shp)(ms:List Mnd)(w0:World)(ma fa ia:OA)(mcap fcap icap bm bs:Nat)(w:World)(hm:qM w0 ma ms)(hf:yh w0 fa s.fs)(hl:ms.length<=1048576)(hn:s.fs.length<=6)
 (hrd:∀q,q<s.fs.length->∀x∈yC s ms q,0<=x/\x<s.fs.length) (hB:Bw w0 w) (hbm:bm<w.heap.size) (hbs:bs<w.heap.size) (hcm:w.cell? (aD bm 0)=some (.l ma ms.length mcap)) (hcs:∀j,w.cell? (aD bs j)=(#[.s s.kd,.l fa s.fs.length fcap]:AV)[j]?)
 (hit:znv w ia s.fs.length) :
 Calls Tryz.prog 199 #[.l ia s.fs.length icap,.func (.func 200) #[] #[.pointer (some (aD bm 0)),.pointer (some (aD bs 0))]] w
  fun e w'=>∃v,e=.returned (.tuple #[v,.bool (zM (zo s ms) s.fs.length).1])/\Bw w0 w'/\((zM (zo s ms) s.fs.length).1=true->w'.ownsRow w.heap.size 3 1 v (zM (zo s ms) s.fs.length).2.row.length (zeE (zM (zo s ms) s.fs.length).2.row)):=by
 have hmk:∀w:World,(Instr.makeMap 312 none).run Tryz.prog w=.ok (.map (some w.heap.size)) (w.alloc (.map #[] 0)):=fun w=>by kernel_rfl
 go_enter Tryz.func199,Tryz.ntmps199;go_wp2_with fail
 have hb2:Bw w ((w.alloc (.map #[] 0)).alloc (.cells #[(.func (.func 200) #[] #[.pointer (some (aD bm 0)),.pointer (some (aD bs 0))]),.map (some w.heap.size),.l none 0 0] 314)):=zx _ _ _;have hs0:=hB.size;obtain⟨c,hceq⟩:=xN ((⟨s,ms,w0,ma,fa,mcap,fcap,bm,bs,w.heap.size+1,w.heap.size,w.heap.size+2⟩:WalkC))
 have hc:c.Ok:=by
  subst hceq;exact⟨hm,hf,hl,hn,hrd,by show w0.heap.size<=w.heap.size+1;omega,hs0,by show w.heap.size+1<w.heap.size+2;omega,by show w.heap.size<w.heap.size+2;omega,by show bm<w.heap.size+2;omega,by show bs<w.heap.size+2;omega,by show w.heap.size+1≠w.heap.size;omega,by show bm≠w.heap.size+1;omega,by show bm≠w.heap.size;omega,by show bs≠w.heap.size+1;omega,by show bs≠w.heap.size;omega⟩
 have hW:zau c ((w.alloc (.map #[] 0)).alloc (.cells #[(.func (.func 200) #[] #[.pointer (some (aD bm 0)),.pointer (some (aD bs 0))]),.map (some w.heap.size),.l none 0 0] 314)) jP (.l none 0 0):=by
  subst hceq;refine⟨hB.trans (hb2.mono hs0),(hb2.cell (p:=(aD bm 0)) hbm).trans hcm,za hcs hbs hb2,by show w.heap.size+2<=_;simp,(yj _ _ _).2,World.ownsRow_nil _ _ _ _,⟨#[],0,(yj _ _ _).1,fun x hx=>by simp at hx,fun k v hk=>?_,fun i j x y hx=>by simp at hx⟩⟩;unfold zfP jP at hk
  simp at hk
 have HC:Hid (c.Ok/\c.s=s/\c.ms=ms/\c.w0=w0/\c.p=w.heap.size+1/\c.mr=w.heap.size/\c.lo=w.heap.size+2):=⟨hc,by rw[hceq],by rw[hceq],by rw[hceq],by rw[hceq],by rw[hceq],by rw[hceq]⟩
 have HW:=hid hW;have HRD:Hid (∀p,p<s.fs.length->∀q∈zo s ms p,q<s.fs.length):=by have h:=hc.rd;rw[hceq]at h;exact h
 have HIT:=hid hit;have HN:=hid hn
 have HOP:Hid (∀T,open' s.fs.length T<=s.fs.length):=by
  intro T;unfold open';exact Nat.le_trans (List.length_filter_le _ _) (by simp)
 have HW2:Hid (∃W,W=((w.alloc (.map #[] 0)).alloc (.cells #[(.func (.func 200) #[] #[.pointer (some (aD bm 0)),.pointer (some (aD bs 0))]),.map (some w.heap.size),.l none 0 0] 314))):=⟨_,rfl⟩
 clear hW hc hceq hmk hB hcm hcs hrd hit hs0
 go_loopw [14] (fun iv wr=>∃(j:Nat) (v:Value),j<=s.fs.length/\iv=.i j/\(zw (down (zo s ms) (s.fs.length+1)) ((List.range s.fs.length).take j) jP).1=true/\zau c wr (zw (down (zo s ms) (s.fs.length+1)) ((List.range s.fs.length).take j) jP).2 v/\Moves c (.l none 0 0) ((w.alloc (.map #[] 0)).alloc (.cells #[(.func (.func 200) #[] #[.pointer (some (aD bm 0)),.pointer (some (aD bs 0))]),.map (some w.heap.size),.l none 0 0] 314)) v wr) (fun iv _=>s.fs.length-(intOf iv).toNat)
 case atStart=>exact⟨0,_,Nat.zero_le _,rfl,rfl,HW.o,Moves.refl _ _ _⟩
 case round=>
  obtain⟨j,v,hj,rfl,hD,hWr,hMr⟩:=hrel;have HWr:=ji hWr hMr;have HD:=hid hD;clear hWr hMr hD
  by_cases hjl:j<s.fs.length
  ·have HTK:Hid ((List.range s.fs.length).take (j+1)=(List.range s.fs.length).take j++[j]):=by
    unfold Hid;rw[tSe (by simpa using hjl)]
    simp
   obtain⟨g,rfl,hgl,hgc⟩:=HIT.o (by omega)
   have hcell:wr.cell? (aD g j)=some (.i (j:Int)):=by
    rw[zhk (HWr.o.2.out g (by have:=hb2.size;omega) (by rw[HC.o.2.2.2.2.1];omega) (by rw[HC.o.2.2.2.2.2.1];omega) (by simp[Value.ownBlock]))];exact(hb2.cell (p:=(aD g j)) hgl).trans (hgc j hjl)
   have hjI:(j:Int)<(s.fs.length:Int):=by omega
   have HSX:Hid ((zw (down (zo s ms) (s.fs.length+1)) ((List.range s.fs.length).take j) jP).2.row.length+open' s.fs.length (zw (down (zo s ms) (s.fs.length+1)) ((List.range s.fs.length).take j) jP).2<=6):=by
    have h1:=zfF HRD.o (s.fs.length+1) _ jP (fun a ha=>List.mem_range.1 (List.mem_of_mem_take ha)) HD.o;have h2:=HOP.o jP;have h3:jP.row.length=0:=rfl;have h4:=HN.o
    show _<=_
    omega
   have HDA:Hid (Calls Tryz.prog 229 #[.pointer (some (aD (w.heap.size+1) 0)),.i (j:Int)] wr fun e w'=>∃v',e=.returned (.bool (down (zo s ms) (s.fs.length+1) j (zw (down (zo s ms) (s.fs.length+1)) ((List.range s.fs.length).take j) jP).2).1)/\Bw w0 w'/\((down (zo s ms) (s.fs.length+1) j (zw (down (zo s ms) (s.fs.length+1)) ((List.range s.fs.length).take j) jP).2).1=true->zau c w' (down (zo s ms) (s.fs.length+1) j (zw (down (zo s ms) (s.fs.length+1)) ((List.range s.fs.length).take j) jP).2).2 v'/\Moves c v wr v' w')):=by
    have h:=zqD c HC.o.1 (s.fs.length+1) j (zw (down (zo s ms) (s.fs.length+1)) ((List.range s.fs.length).take j) jP).2 v wr (by rw[HC.o.2.1];exact hjl) (by rw[HC.o.2.1];have:=HOP.o (zw (down (zo s ms) (s.fs.length+1)) ((List.range s.fs.length).take j) jP).2;omega) (by rw[HC.o.2.1];exact HSX.o) HWr.o.1;rw[HC.o.2.1,HC.o.2.2.1,HC.o.2.2.2.1,HC.o.2.2.2.2.1]at h;exact h
   go_wp2_with fail
   refine HDA.o.mono ?_;rintro e w3⟨v3,rfl,hb3,hyes⟩
   by_cases hd:(down (zo s ms) (s.fs.length+1) j (zw (down (zo s ms) (s.fs.length+1)) ((List.range s.fs.length).take j) jP).2).1=true
   ·have HS:Hid ((zw (down (zo s ms) (s.fs.length+1)) ((List.range s.fs.length).take (j+1)) jP)=down (zo s ms) (s.fs.length+1) j (zw (down (zo s ms) (s.fs.length+1)) ((List.range s.fs.length).take j) jP).2):=by unfold Hid;rw[HTK.o,zbf,if_pos HD.o]
    have HY:=hid (hyes hd);have HDD:=hid hd;rw[hd];clear hyes hb3 hd hcell hgc HDA;go_wp2_with fail
    exact⟨⟨j+1,v3,by omega,by go_num,by rw[HS.o];exact HDD.o,by rw[HS.o];exact HY.o.1,HWr.o.2.trans HY.o.2⟩,zy hjl⟩
   ·have hdf:(down (zo s ms) (s.fs.length+1) j (zw (down (zo s ms) (s.fs.length+1)) ((List.range s.fs.length).take j) jP).2).1=false:=by simpa using hd
    have HF:Hid ((zM (zo s ms) s.fs.length).1=false):=by
     have h1:(zw (down (zo s ms) (s.fs.length+1)) ((List.range s.fs.length).take (j+1)) jP).1=false:=by rw[HTK.o,zbf,if_pos HD.o];exact hdf
     have h2:=zcL (down (zo s ms) (s.fs.length+1)) ((List.range s.fs.length).take (j+1)) ((List.range s.fs.length).drop (j+1)) jP h1;rw[List.take_append_drop]at h2;exact h2
    have HB3:Hid (Bw w0 w3):=hb3;rw[hdf];clear hyes hb3 hd hdf hcell hgc HDA;go_wp2_with fail
    go_ret2
    exact⟨_,by rw[HF.o];rfl,HB3.o,fun h=>by rw[HF.o]at h;cases h⟩
  ·have e:j=s.fs.length:=by omega
   have hall:(List.range s.fs.length).take j=List.range s.fs.length:=tOl (by simp;omega);rw[hall]at HWr HD;have HY:Hid ((zM (zo s ms) s.fs.length).1=true):=HD.o;have HWW:Hid (zau c wr (zM (zo s ms) s.fs.length).2 v):=HWr.o.1;have hpc:∀k,wr.cell? (aD (w.heap.size+1) k)=(#[c.fn,.map (some c.mr),v]:AV)[k]?:=by have h:=zbw HWW.o.cells;rw[HC.o.2.2.2.2.1]at h;exact h
   obtain⟨va,vcap,hve⟩:=qG HWW.o.row;subst hve;subst e;clear HWr HD hall;go_wp2_with fail
   go_ret2
   refine⟨_,by rw[HY.o];rfl,by have h:=HWW.o.base;rw[HC.o.2.2.2.1]at h;exact h,fun _=>?_⟩;have h:=HWW.o.row;rw[HC.o.2.2.2.2.2.2]at h;exact zdi h (by omega)
def zay (f:Fld)(v:BA):BA:=if v.toList.isEmpty=true then f.df else v
def zam (fs:List Fld)(vs:List BA):List BA:=List.zipWith zay fs vs
def jr (fs:List Fld)(vs:List BA)(k:Nat):List BA:=(zam fs vs).take k++vs.drop k
theorem qQ {fs:List Fld}{vs:List BA}(h:vs.length=fs.length):(zam fs vs).length=vs.length:=by simp[zam];omega
theorem zaE {fs:List Fld}{vs:List BA}(h:vs.length=fs.length)(k:Nat):(jr fs vs k).length=vs.length:=by
 simp[jr,qQ h];omega
theorem zhB (fs:List Fld)(vs:List BA):jr fs vs 0=vs:=by simp[jr]
theorem zjf {fs:List Fld}{vs:List BA}(h:vs.length=fs.length):jr fs vs fs.length=zam fs vs:=by
 unfold jr;rw[tOl (by rw[qQ h];omega),List.drop_of_length_le (by omega),List.append_nil]
theorem zfm {fs:List Fld}{vs:List BA}(h:vs.length=fs.length)(k:Nat)(hk:k<fs.length):(jr fs vs k)[k]?=vs[k]?:=by
 unfold jr;rw[List.getElem?_append_right (by simp;omega)]
 simp[qQ h,Nat.min_eq_left (show k<=vs.length by omega)]
theorem zde {fs:List Fld}{vs:List BA}(h:vs.length=fs.length)(k:Nat)(hk:k<fs.length):jr fs vs (k+1)=(jr fs vs k).set k (zay fs[k] (vs[k]'(by omega))):=by
 have hl:=qQ h;have hv:(zam fs vs)[k]'(by omega)=zay fs[k] (vs[k]'(by omega)):=by simp[zam]
 unfold jr;rw[List.set_append_right _ _ (by simp;omega)];have e:k-((zam fs vs).take k).length=0:=by simp;omega
 rw[e,List.drop_eq_getElem_cons (show k<vs.length by omega),List.set_cons_zero,tSe (by omega),hv]
 simp
theorem zA.set {lo:Nat}{w:World}{g:Nat}{ws:List BA}(h:zA lo w (some (aD g 0)) ws)(k:Nat)(s:BA):zA lo (w.setCell (aD g k) (.s s)) (some (aD g 0)) (ws.set k s):=by
 rcases h with⟨h0,_⟩|⟨b,C,h0,hg,hh,hc⟩
 ·cases h0
 ·cases h0
  refine Or.inr ⟨g,_,rfl,hg,zi hh _,fun i hi=>?_⟩;have hi':i<ws.length:=by rw[List.length_set]at hi;exact hi
  by_cases e:i=k
  ·subst e
   have hsz:i<C.size:=by
    rcases Nat.lt_or_ge i C.size with h1|h1
    ·exact h1
    ·have:=hc i hi';rw[Array.getElem?_eq_none h1]at this;cases this
   rw[Array.getElem?_setIfInBounds_self_of_lt hsz,List.getElem_set_self]
  ·rw[Array.getElem?_setIfInBounds_ne (fun h=>e h.symm),hc i hi',List.getElem_set_ne (fun h=>e h.symm)]
def zri (w:World)(b:Nat)(v0 v1 v2 v3 v4 v5 v6:Value):World:=((((((w.setCell (aD b 0) v0).setCell (aD b 1) v1).setCell (aD b 2) v2).setCell (aD b 3) v3).setCell (aD b 4) v4).setCell (aD b 5) v5).setCell (aD b 6) v6
theorem jN {lo:Nat}{w:World}{a:OA}{ws:List BA}(h:zA lo w a ws)(b:Nat)(hb:b<lo)(v0 v1 v2 v3 v4 v5 v6:Value):zA lo (zri w b v0 v1 v2 v3 v4 v5 v6) a ws:=
 ((((((h.setCell _ hb _).setCell _ hb _).setCell _ hb _).setCell _ hb _).setCell _ hb _).setCell _ hb _).setCell _ hb _
theorem zaO {B:Nat}{w0 w:World}(h:Below B w0 w)(b:Nat)(hb:B<=b)(v0 v1 v2 v3 v4 v5 v6:Value):Below B w0 (zri w b v0 v1 v2 v3 v4 v5 v6):=
 ((((((h.setCell (p:=(aD b 0)) hb _).setCell (p:=(aD b 1)) hb _).setCell (p:=(aD b 2)) hb _).setCell (p:=(aD b 3)) hb _).setCell (p:=(aD b 4)) hb _).setCell (p:=(aD b 5)) hb _).setCell (p:=(aD b 6)) hb _
def zmb (c p:Int):Value:=if c=0 then .nilIface else .iface 333 (.agg #[.i c,.i p])
theorem zh2 (w:World):Calls Tryz.prog 243 #[.bool true] w fun e w'=>e=.returned .nilIface/\w'=w:=by
 go_enter Tryz.func243,Tryz.ntmps243
 go_wp2
 go_ret;exact⟨rfl,rfl⟩
theorem zjb (w:World):Calls Tryz.prog 243 #[.bool false] w fun e w'=>e=.returned (.iface 333 (.agg #[.i 1,.i 0]))/\w'=w:=by
 go_enter Tryz.func243,Tryz.ntmps243
 go_wp2
 go_ret;exact⟨rfl,rfl⟩
def jT (b:Bool):Value:=if b then .nilIface else .iface 333 (.agg #[.i 1,.i 0])
theorem jD (b:Bool)(w:World):Calls Tryz.prog 243 #[.bool b] w fun e w'=>e=.returned (jT b)/\w'=w:=by
 cases b
 ·exact zjb w
 ·exact zh2 w
theorem zc4 {a b:Bool}(h:a=b):Ending.returned (jT a)=.returned (jT b):=by rw[h]
theorem ze6 (a0:OA)(cap0:Nat)(ss:List Shp)(o:Ob)(a a':OA)(cap cap':Nat)(w:World)(ho:j3 w o a a') :
 Calls Tryz.prog 230 #[.l a0 ss.length cap0,.agg #[.s o.kd,.s o.nm,.s o.tm,.l a o.vs.length cap,.bool o.en,.l a' o.hs.length cap',.i o.vr]] w fun e w'=>e=.returned (jT (qK o))/\Bw w w':=by
 have h1:=ho.small.nm;have h2:=ho.small.tm
 by_cases hn:zk o.nm=true
 ·have HN:Hid (zk o.nm=true):=hn
  clear hn ho;go_enter Tryz.func230,Tryz.ntmps230;go_wp2_with fail
  refine(zf HN.o (zu _ _ h1)).mono ?_;rintro e w1⟨rfl,rfl⟩;go_wp2_with fail
  refine(zu _ _ h2).mono ?_;rintro e w1⟨rfl,rfl⟩;go_wp2_with fail
  refine(jD _ _).mono ?_;rintro e w1⟨rfl,rfl⟩;go_wp2_with fail
  go_ret;exact⟨zc4 (by unfold qK;rw[HN.o];rfl),bAl _ _⟩
 ·have HN:Hid (zk o.nm=false):=by simpa[Hid] using hn
  clear hn ho;go_enter Tryz.func230,Tryz.ntmps230;go_wp2_with fail
  refine(zf HN.o (zu _ _ h1)).mono ?_;rintro e w1⟨rfl,rfl⟩;go_wp2_with fail
  refine(jD _ _).mono ?_;rintro e w1⟨rfl,rfl⟩;go_wp2_with fail
  go_ret;exact⟨zc4 (a:=false) (b:=qK o) (by unfold qK;rw[HN.o];rfl),bAl _ _⟩
theorem zeY (a0:OA)(cap0:Nat)(ss:List Shp)(o:Ob)(a a':OA)(cap cap':Nat)(w:World)(ho:j3 w o a a') :
 Calls Tryz.prog 231 #[.l a0 ss.length cap0,.agg #[.s o.kd,.s o.nm,.s o.tm,.l a o.vs.length cap,.bool o.en,.l a' o.hs.length cap',.i o.vr]] w fun e w'=>e=.returned (jT (qZ o))/\Bw w w':=by
 have hl:=ho.holds.len;unfold maxLen at hl
 by_cases h3:o.hs.length<=3
 ·go_enter Tryz.func231,Tryz.ntmps231
  go_wp2_with fail
  refine(zd9 _ _ _ _ (ho.holds.mono (bAl _ _))).mono ?_;rintro e w1⟨rfl,rfl⟩;go_wp2_with fail
  refine(jD _ _).mono ?_;rintro e w1⟨rfl,rfl⟩;go_wp2_with fail
  go_ret;exact⟨zc4 (by unfold qZ;rw[decide_eq_true h3];rfl),bAl _ _⟩
 ·go_enter Tryz.func231,Tryz.ntmps231
  go_wp2_with fail
  refine(jD _ _).mono ?_;rintro e w1⟨rfl,rfl⟩;go_wp2_with fail
  go_ret;exact⟨zc4 (a:=false) (b:=qZ o) (by unfold qZ;rw[decide_eq_false (show ¬o.hs.length<=3 by omega)];rfl),bAl _ _⟩
theorem zdR (a0:OA)(cap0:Nat)(ss:List Shp)(o:Ob)(a a':OA)(cap cap':Nat)(w:World) :
 Calls Tryz.prog 232 #[.l a0 ss.length cap0,.agg #[.s o.kd,.s o.nm,.s o.tm,.l a o.vs.length cap,.bool o.en,.l a' o.hs.length cap',.i o.vr]] w fun e w'=>e=.returned (jT (qz o))/\Bw w w':=by
 by_cases h0:0<=o.vr
 ·have HV:Hid (qz o=decide (o.vr<=1000000)):=by unfold Hid qz;rw[decide_eq_true h0];rfl
  go_enter Tryz.func232,Tryz.ntmps232
  go_wp2_with (go_at_call 243;refine(jD _ _).mono ?_;rintro e w1⟨rfl,rfl⟩)
  go_ret;exact⟨zc4 HV.o.symm,bAl _ _⟩
 ·have HV:Hid (qz o=false):=by unfold Hid qz;rw[decide_eq_false h0];rfl
  go_enter Tryz.func232,Tryz.ntmps232
  go_wp2_with (go_at_call 243;refine(jD _ _).mono ?_;rintro e w1⟨rfl,rfl⟩)
  go_ret;exact⟨zc4 HV.o.symm,bAl _ _⟩
theorem zeP (a0:OA)(cap0:Nat)(ss:List Shp)(o:Ob)(a a':OA)(cap cap':Nat)(w:World)(hw:yM w a0 ss)(_ho:j3 w o a a') :
 Calls Tryz.prog 233 #[.l a0 ss.length cap0,.agg #[.s o.kd,.s o.nm,.s o.tm,.l a o.vs.length cap,.bool o.en,.l a' o.hs.length cap',.i o.vr]] w fun e w'=>e=.returned (jT (zG ss o))/\Bw w w':=by
 by_cases hk:zC ss o.kd=true
 all_goals
  first
   | (have HK:Hid (zC ss o.kd=true):=hk)
   | (have HK:Hid (zC ss o.kd=false):=by simpa[Hid] using hk)
  clear hk;go_enter Tryz.func233,Tryz.ntmps233;go_wp2_with fail
  refine(ql _ _ _ _ _ (hw.mono (bAl _ _))).mono ?_;rintro e w1⟨fa,fcap,rfl,_,hb1⟩;rw[HK.o];have hX1:=za (zn w _ _) (by simp) hb1;have hz1:w.heap.size<w1.heap.size:=by have:=hb1.size;simp at this;omega
  have hB1:Bw w w1:=(bAl _ _).trans (hb1.mono (by simp));clear hb1
  go_wp2_with (go_at_call 243;refine(jD _ _).mono ?_;rintro e w2⟨rfl,rfl⟩)
  go_ret
 ·refine⟨zc4 ?_,hB1.alloc (by omega) _⟩
  unfold zG;rw[HK.o];rw[Bool.eq_iff_iff];simp;omega
 ·refine⟨zc4 (a:=false) (b:=zG ss o) ?_,hB1.alloc (by omega) _⟩
  unfold zG;rw[HK.o];rfl
def jY {α:Type}(key:α->α->Int)(ms:List α)(k:Nat):Prop:=∀i (h:i+1<ms.length),i+1<k->key ms[i] ms[i+1]<0
def rising {α:Type}(key:α->α->Int)(ms:List α):Prop:=∀i (h:i+1<ms.length),key ms[i] ms[i+1]<0
noncomputable def zaS {α:Type}(key:α->α->Int)(ms:List α):Bool:=@decide (rising key ms) (Classical.propDecidable _)
theorem zbW {α:Type}{key:α->α->Int}{ms:List α}{m:Nat}(h:jY key ms (m+1))(hl:m+1<ms.length)(hk:key ms[m] ms[m+1]<0):jY key ms (m+1+1):=by
 intro i hi hik
 rcases Nat.lt_or_ge i m with hlt|hge
 ·exact h i hi (by omega)
 ·have e:i=m:=by omega
  subst e;exact hk
theorem zec {α:Type}{key:α->α->Int}{ms:List α}{m:Nat}(hl:m+1<ms.length)(hk:¬key ms[m] ms[m+1]<0):zaS key ms=false:=by
 unfold zaS;simp only[decide_eq_false_iff_not];exact fun h=>hk (h m hl)
theorem ze0 {α:Type}{key:α->α->Int}{ms:List α}{m:Nat}(h:jY key ms (m+1))(hl:ms.length<=m+1):zaS key ms=true:=by
 unfold zaS;simp only[decide_eq_true_eq];exact fun i hi=>h i hi (by omega)
theorem zjs {α:Type}(key:α->α->Int)(ms:List α):zaS key ms=true↔rising key ms:=by
 unfold zaS;simp only[decide_eq_true_eq]
def zei (a b:Int):Int:=if a<b then -1 else if b<a then 1 else 0
def zct (a b:Gr):Int:=zei a.no b.no
theorem zeN {n m:Nat}(h:m+1<n):n+1-(intOf (Value.int IntKind.i64 ((m:Int)+1+1))).toNat<n+1-(intOf (Value.int IntKind.i64 ((m:Int)+1))).toNat:=by
 show n+1-((m:Int)+1+1).toNat<n+1-((m:Int)+1).toNat
 omega
theorem zpn (x:Int)(w:World):Calls Tryz.prog 238 #[.i x] w fun e w'=>e=.returned (.bool false)/\w'=w:=by
 have h:(x != x)=false:=by simp
 go_enter Tryz.func238,Tryz.ntmps238;go_wp2_with fail
 go_ret;exact⟨rfl,rfl⟩
theorem zjz (x y:Int)(w:World):Calls Tryz.prog 211 #[.i x,.i y] w fun e w'=>e=.returned (.i (zei x y))/\w'=w:=by
 have HN:=hid zpn
 by_cases h1:x<y
 ·have HF:Hid (zei x y=-1):=by unfold Hid zei;rw[if_pos h1]
  go_enter Tryz.func211,Tryz.ntmps211
  go_wp2_with (go_at_call 238;refine(HN.o _ _).mono ?_;rintro e w2⟨rfl,rfl⟩)
  go_ret;exact⟨zl HF.o.symm,rfl⟩
 ·by_cases h2:y<x
  ·have HF:Hid (zei x y=1):=by unfold Hid zei;rw[if_neg h1,if_pos h2]
   go_enter Tryz.func211,Tryz.ntmps211
   go_wp2_with (go_at_call 238;refine(HN.o _ _).mono ?_;rintro e w2⟨rfl,rfl⟩)
   go_ret;exact⟨zl HF.o.symm,rfl⟩
  ·have HF:Hid (zei x y=0):=by unfold Hid zei;rw[if_neg h1,if_neg h2]
   go_enter Tryz.func211,Tryz.ntmps211
   go_wp2_with (go_at_call 238;refine(HN.o _ _).mono ?_;rintro e w2⟨rfl,rfl⟩)
   go_ret;exact⟨zl HF.o.symm,rfl⟩
theorem zke (g h:Gr)(a b:OA)(c d:Nat)(w:World) :
 Calls Tryz.prog 155 #[.agg (g.cells a c),.agg (h.cells b d)] w fun e w'=>e=.returned (.i (zct g h))/\Bw w w':=by
 unfold Gr.cells;go_enter Tryz.func155,Tryz.ntmps155
 go_wp2_with (go_at_call 211;refine(zjz _ _ _).mono ?_;rintro e w2⟨rfl,rfl⟩)
 go_ret;exact⟨rfl,zx _ _ _⟩
theorem zim (a:OA)(cap:Nat)(ms:List Ob)(w:World)(hw:zcb w a ms) :
 Calls Tryz.prog 149 #[.l a ms.length cap,.func (.func 150) #[] #[]] w fun e w'=>e=.returned (.bool (zaS zcf ms))/\Bw w w':=by
 have hl:=hw.len;unfold maxLen at hl;have HW:=hid hw;clear hw;go_enter Tryz.func149,Tryz.ntmps149;go_wp2_with fail
 go_loopw [5] (fun iv wr=>∃m:Nat,iv=.i ((m:Int)+1)/\m<=ms.length/\Hid (jY zcf ms (m+1)/\Bw w wr)) (fun iv _=>ms.length+1-(intOf iv).toNat)
 case atStart=>exact⟨0,rfl,Nat.zero_le _,fun i h h'=>by omega,bRf _ _⟩
 case round=>
  obtain⟨m,rfl,hml,HQ⟩:=hrel
  by_cases hlt:m+1<ms.length
  ·have hm:m<ms.length:=by omega
   obtain⟨b,off,p0,p1,p2,p3,rfl,hb,_,_,_,d0,d1,d2,d3,d4,d5,d6⟩:=HW.o.load HQ.o.2 m hm;obtain⟨b2,off2,q0,q1,q2,q3,ha2,hbq,_,_,_,e0,e1,e2,e3,e4,e5,e6⟩:=HW.o.load HQ.o.2 (m+1) hlt
   obtain⟨rfl,rfl⟩:b=b2/\off=off2:=by
    have h:=ha2
    simpa using h
   have hb':=nLt hb HQ.o.2.size;have hltI:(m:Int)+1<(ms.length:Int):=by omega
   have h0m:(0:Int)<=(m:Int):=by omega
   have h01:(0:Int)<=(m:Int)+1:=by omega
   have hsub:IntKind.i64.wrap ((m:Int)+1-1)=(m:Int):=by rw[IntKind.wrap_i64];omega
   have hsub2:IntKind.i64.wrap (m:Int)=(m:Int):=by rw[IntKind.wrap_i64];omega
   have hsub3:wrap64 (m:Int)=(m:Int):=by unfold wrap64;omega
   have htn:((m:Int)+1).toNat=m+1:=by omega
   have hlmI:(m:Int)<(ms.length:Int):=by omega
   have HBr:=hid HQ.o.2;have hS:wr.drew.cell? (aD b (off+m*7))=some (.s ms[m].kd)/\wr.drew.cell? (aD b (off+m*7+1))=some (.s ms[m].nm)/\wr.drew.cell? (aD b (off+m*7+2))=some (.s ms[m].tm)/\wr.drew.cell? (aD b (off+m*7+3))=some (.l p0 ms[m].vs.length p2)/\wr.drew.cell? (aD b (off+m*7+4))=some (.bool ms[m].en)/\wr.drew.cell? (aD b (off+m*7+5))=some (.l p1 ms[m].hs.length p3)/\wr.drew.cell? (aD b (off+m*7+6))=some (.i ms[m].vr)/\wr.drew.cell? (aD b (off+(m+1)*7))=some (.s ms[m+1].kd)/\wr.drew.cell? (aD b (off+(m+1)*7+1))=some (.s ms[m+1].nm)/\wr.drew.cell? (aD b (off+(m+1)*7+2))=some (.s ms[m+1].tm)/\wr.drew.cell? (aD b (off+(m+1)*7+3))=some (.l q0 ms[m+1].vs.length q2)/\wr.drew.cell? (aD b (off+(m+1)*7+4))=some (.bool ms[m+1].en)/\wr.drew.cell? (aD b (off+(m+1)*7+5))=some (.l q1 ms[m+1].hs.length q3)/\wr.drew.cell? (aD b (off+(m+1)*7+6))=some (.i ms[m+1].vr):=⟨d0,d1,d2,d3,d4,d5,d6,e0,e1,e2,e3,e4,e5,e6⟩
   clear d0 d1 d2 d3 d4 d5 d6 e0 e1 e2 e3 e4 e5 e6;have HM:=hid HQ.o.1;clear HQ;go_wp2_with fail
   go_region_held3 (fun w'=>w'.cell? (aD b (off+m*7))=some (.s ms[m].kd)/\w'.cell? (aD b (off+m*7+1))=some (.s ms[m].nm)/\w'.cell? (aD b (off+m*7+2))=some (.s ms[m].tm)/\w'.cell? (aD b (off+m*7+3))=some (.l p0 ms[m].vs.length p2)/\w'.cell? (aD b (off+m*7+4))=some (.bool ms[m].en)/\w'.cell? (aD b (off+m*7+5))=some (.l p1 ms[m].hs.length p3)/\w'.cell? (aD b (off+m*7+6))=some (.i ms[m].vr)/\w'.cell? (aD b (off+(m+1)*7))=some (.s ms[m+1].kd)/\w'.cell? (aD b (off+(m+1)*7+1))=some (.s ms[m+1].nm)/\w'.cell? (aD b (off+(m+1)*7+2))=some (.s ms[m+1].tm)/\w'.cell? (aD b (off+(m+1)*7+3))=some (.l q0 ms[m+1].vs.length q2)/\w'.cell? (aD b (off+(m+1)*7+4))=some (.bool ms[m+1].en)/\w'.cell? (aD b (off+(m+1)*7+5))=some (.l q1 ms[m+1].hs.length q3)/\w'.cell? (aD b (off+(m+1)*7+6))=some (.i ms[m+1].vr)) (exact hS) (first|(go_at_call 150;refine(ziS ms[m] ms[m+1] p0 p1 q0 q1 p2 p3 q2 q3 _).mono ?_;rintro e w2⟨rfl,hb2⟩;have hS:=(⟨(hb2.cell (p:=(aD b _)) hb').trans hS.1,(hb2.cell (p:=(aD b _)) hb').trans hS.2.1,(hb2.cell (p:=(aD b _)) hb').trans hS.2.2.1,(hb2.cell (p:=(aD b _)) hb').trans hS.2.2.2.1,(hb2.cell (p:=(aD b _)) hb').trans hS.2.2.2.2.1,(hb2.cell (p:=(aD b _)) hb').trans hS.2.2.2.2.2.1,(hb2.cell (p:=(aD b _)) hb').trans hS.2.2.2.2.2.2.1,(hb2.cell (p:=(aD b _)) hb').trans hS.2.2.2.2.2.2.2.1,(hb2.cell (p:=(aD b _)) hb').trans hS.2.2.2.2.2.2.2.2.1,(hb2.cell (p:=(aD b _)) hb').trans hS.2.2.2.2.2.2.2.2.2.1,(hb2.cell (p:=(aD b _)) hb').trans hS.2.2.2.2.2.2.2.2.2.2.1,(hb2.cell (p:=(aD b _)) hb').trans hS.2.2.2.2.2.2.2.2.2.2.2.1,(hb2.cell (p:=(aD b _)) hb').trans hS.2.2.2.2.2.2.2.2.2.2.2.2.1,(hb2.cell (p:=(aD b _)) hb').trans hS.2.2.2.2.2.2.2.2.2.2.2.2.2⟩:_/\_/\_/\_/\_/\_/\_/\_/\_/\_/\_/\_/\_/\_);have hB2:=HBr.o.drew.trans (hb2.mono HBr.o.drew.size);clear hb2))
   by_cases hk:zcf ms[m] ms[m+1]<0
   ·have HA:=hid (zbW HM.o hlt hk)
    have hd:decide (0<=zcf ms[m] ms[m+1])=false:=by simp;omega
    rw[hd];clear hk hd;go_wp2_with fail
    exact⟨⟨m+1,by go_num,by omega,HA.o,hB2⟩,zeN (by omega)⟩
   ·have HA:=hid (zec hlt hk)
    have hd:decide (0<=zcf ms[m] ms[m+1])=true:=by simp;omega
    rw[hd];clear hk hd;go_wp2_with fail
    go_ret;exact⟨ze HA.o.symm,hB2⟩
  ·have HA:Hid (zaS zcf ms=true):=ze0 HQ.o.1 (by omega)
   have HB:=hid HQ.o.2;clear HQ;go_wp2_with fail
   go_ret;exact⟨ze HA.o.symm,HB.o⟩
theorem ziA (a:OA)(cap:Nat)(ms:List Gr)(w:World)(hw:zcU w a ms) :
 Calls Tryz.prog 154 #[.l a ms.length cap,.func (.func 155) #[] #[]] w fun e w'=>e=.returned (.bool (zaS zct ms))/\Bw w w':=by
 have hl:=hw.len;unfold maxLen at hl;have HW:=hid hw;clear hw;go_enter Tryz.func154,Tryz.ntmps154;go_wp2_with fail
 go_loopw [5] (fun iv wr=>∃m:Nat,iv=.i ((m:Int)+1)/\m<=ms.length/\Hid (jY zct ms (m+1)/\Bw w wr)) (fun iv _=>ms.length+1-(intOf iv).toNat)
 case atStart=>exact⟨0,rfl,Nat.zero_le _,fun i h h'=>by omega,bRf _ _⟩
 case round=>
  obtain⟨m,rfl,hml,HQ⟩:=hrel
  by_cases hlt:m+1<ms.length
  ·have hm:m<ms.length:=by omega
   obtain⟨b,off,p0,p1,rfl,hb,_,_,d0,d1,d2,d3,d4,d5,d6⟩:=HW.o.load HQ.o.2 m hm;obtain⟨b2,off2,q0,q1,ha2,hbq,_,_,e0,e1,e2,e3,e4,e5,e6⟩:=HW.o.load HQ.o.2 (m+1) hlt
   obtain⟨rfl,rfl⟩:b=b2/\off=off2:=by
    have h:=ha2
    simpa using h
   have hb':=nLt hb HQ.o.2.size;have hltI:(m:Int)+1<(ms.length:Int):=by omega
   have h0m:(0:Int)<=(m:Int):=by omega
   have h01:(0:Int)<=(m:Int)+1:=by omega
   have hsub:IntKind.i64.wrap ((m:Int)+1-1)=(m:Int):=by rw[IntKind.wrap_i64];omega
   have hsub2:IntKind.i64.wrap (m:Int)=(m:Int):=by rw[IntKind.wrap_i64];omega
   have hsub3:wrap64 (m:Int)=(m:Int):=by unfold wrap64;omega
   have htn:((m:Int)+1).toNat=m+1:=by omega
   have hlmI:(m:Int)<(ms.length:Int):=by omega
   have HBr:=hid HQ.o.2;have hS:wr.drew.cell? (aD b (off+m*7))=some (.i ms[m].no)/\wr.drew.cell? (aD b (off+m*7+1))=some (.s ms[m].to)/\wr.drew.cell? (aD b (off+m*7+2))=some (.s ms[m].gb)/\wr.drew.cell? (aD b (off+m*7+3))=some (.l p0 ms[m].r.vs.length p1)/\wr.drew.cell? (aD b (off+m*7+4))=some (.s ms[m].r.kd)/\wr.drew.cell? (aD b (off+m*7+5))=some (.s ms[m].r.tm)/\wr.drew.cell? (aD b (off+m*7+6))=some (.s ms[m].r.px)/\wr.drew.cell? (aD b (off+(m+1)*7))=some (.i ms[m+1].no)/\wr.drew.cell? (aD b (off+(m+1)*7+1))=some (.s ms[m+1].to)/\wr.drew.cell? (aD b (off+(m+1)*7+2))=some (.s ms[m+1].gb)/\wr.drew.cell? (aD b (off+(m+1)*7+3))=some (.l q0 ms[m+1].r.vs.length q1)/\wr.drew.cell? (aD b (off+(m+1)*7+4))=some (.s ms[m+1].r.kd)/\wr.drew.cell? (aD b (off+(m+1)*7+5))=some (.s ms[m+1].r.tm)/\wr.drew.cell? (aD b (off+(m+1)*7+6))=some (.s ms[m+1].r.px):=⟨d0,d1,d2,d3,d4,d5,d6,e0,e1,e2,e3,e4,e5,e6⟩
   clear d0 d1 d2 d3 d4 d5 d6 e0 e1 e2 e3 e4 e5 e6;have HM:=hid HQ.o.1;clear HQ;go_wp2_with fail
   go_region_held3 (fun w'=>w'.cell? (aD b (off+m*7))=some (.i ms[m].no)/\w'.cell? (aD b (off+m*7+1))=some (.s ms[m].to)/\w'.cell? (aD b (off+m*7+2))=some (.s ms[m].gb)/\w'.cell? (aD b (off+m*7+3))=some (.l p0 ms[m].r.vs.length p1)/\w'.cell? (aD b (off+m*7+4))=some (.s ms[m].r.kd)/\w'.cell? (aD b (off+m*7+5))=some (.s ms[m].r.tm)/\w'.cell? (aD b (off+m*7+6))=some (.s ms[m].r.px)/\w'.cell? (aD b (off+(m+1)*7))=some (.i ms[m+1].no)/\w'.cell? (aD b (off+(m+1)*7+1))=some (.s ms[m+1].to)/\w'.cell? (aD b (off+(m+1)*7+2))=some (.s ms[m+1].gb)/\w'.cell? (aD b (off+(m+1)*7+3))=some (.l q0 ms[m+1].r.vs.length q1)/\w'.cell? (aD b (off+(m+1)*7+4))=some (.s ms[m+1].r.kd)/\w'.cell? (aD b (off+(m+1)*7+5))=some (.s ms[m+1].r.tm)/\w'.cell? (aD b (off+(m+1)*7+6))=some (.s ms[m+1].r.px)) (exact hS) (first|(go_at_call 155;refine(zke ms[m] ms[m+1] p0 q0 p1 q1 _).mono ?_;rintro e w2⟨rfl,hb2⟩;have hS:=(⟨(hb2.cell (p:=(aD b _)) hb').trans hS.1,(hb2.cell (p:=(aD b _)) hb').trans hS.2.1,(hb2.cell (p:=(aD b _)) hb').trans hS.2.2.1,(hb2.cell (p:=(aD b _)) hb').trans hS.2.2.2.1,(hb2.cell (p:=(aD b _)) hb').trans hS.2.2.2.2.1,(hb2.cell (p:=(aD b _)) hb').trans hS.2.2.2.2.2.1,(hb2.cell (p:=(aD b _)) hb').trans hS.2.2.2.2.2.2.1,(hb2.cell (p:=(aD b _)) hb').trans hS.2.2.2.2.2.2.2.1,(hb2.cell (p:=(aD b _)) hb').trans hS.2.2.2.2.2.2.2.2.1,(hb2.cell (p:=(aD b _)) hb').trans hS.2.2.2.2.2.2.2.2.2.1,(hb2.cell (p:=(aD b _)) hb').trans hS.2.2.2.2.2.2.2.2.2.2.1,(hb2.cell (p:=(aD b _)) hb').trans hS.2.2.2.2.2.2.2.2.2.2.2.1,(hb2.cell (p:=(aD b _)) hb').trans hS.2.2.2.2.2.2.2.2.2.2.2.2.1,(hb2.cell (p:=(aD b _)) hb').trans hS.2.2.2.2.2.2.2.2.2.2.2.2.2⟩:_/\_/\_/\_/\_/\_/\_/\_/\_/\_/\_/\_/\_/\_);have hB2:=HBr.o.drew.trans (hb2.mono HBr.o.drew.size);clear hb2))
   by_cases hk:zct ms[m] ms[m+1]<0
   ·have HA:=hid (zbW HM.o hlt hk)
    have hd:decide (0<=zct ms[m] ms[m+1])=false:=by simp;omega
    rw[hd];clear hk hd;go_wp2_with fail
    exact⟨⟨m+1,by go_num,by omega,HA.o,hB2⟩,zeN (by omega)⟩
   ·have HA:=hid (zec hlt hk)
    have hd:decide (0<=zct ms[m] ms[m+1])=true:=by simp;omega
    rw[hd];clear hk hd;go_wp2_with fail
    go_ret;exact⟨ze HA.o.symm,hB2⟩
  ·have HA:Hid (zaS zct ms=true):=ze0 HQ.o.1 (by omega)
   have HB:=hid HQ.o.2;clear HQ;go_wp2_with fail
   go_ret;exact⟨ze HA.o.symm,HB.o⟩
theorem zh7 (a:OA)(cap:Nat)(ms:List Lg)(w:World)(hw:zcJ w a ms) :
 Calls Tryz.prog 157 #[.l a ms.length cap,.func (.func 158) #[] #[]] w fun e w'=>e=.returned (.bool (zaS qO ms))/\Bw w w':=by
 have hl:=hw.len;unfold maxLen at hl;have HW:=hid hw;clear hw;go_enter Tryz.func157,Tryz.ntmps157;go_wp2_with fail
 go_loopw [5] (fun iv wr=>∃m:Nat,iv=.i ((m:Int)+1)/\m<=ms.length/\Hid (jY qO ms (m+1)/\Bw w wr)) (fun iv _=>ms.length+1-(intOf iv).toNat)
 case atStart=>exact⟨0,rfl,Nat.zero_le _,fun i h h'=>by omega,bRf _ _⟩
 case round=>
  obtain⟨m,rfl,hml,HQ⟩:=hrel
  by_cases hlt:m+1<ms.length
  ·have hm:m<ms.length:=by omega
   obtain⟨b,off,rfl,hb,d0,d1,d2,d3⟩:=HW.o.load HQ.o.2 m hm;obtain⟨b2,off2,ha2,hbq,e0,e1,e2,e3⟩:=HW.o.load HQ.o.2 (m+1) hlt
   obtain⟨rfl,rfl⟩:b=b2/\off=off2:=by
    have h:=ha2
    simpa using h
   have hb':=nLt hb HQ.o.2.size;have hltI:(m:Int)+1<(ms.length:Int):=by omega
   have h0m:(0:Int)<=(m:Int):=by omega
   have h01:(0:Int)<=(m:Int)+1:=by omega
   have hsub:IntKind.i64.wrap ((m:Int)+1-1)=(m:Int):=by rw[IntKind.wrap_i64];omega
   have hsub2:IntKind.i64.wrap (m:Int)=(m:Int):=by rw[IntKind.wrap_i64];omega
   have hsub3:wrap64 (m:Int)=(m:Int):=by unfold wrap64;omega
   have htn:((m:Int)+1).toNat=m+1:=by omega
   have hlmI:(m:Int)<(ms.length:Int):=by omega
   have HBr:=hid HQ.o.2;have hS:wr.drew.cell? (aD b (off+m*4))=some (.s ms[m].tm)/\wr.drew.cell? (aD b (off+m*4+1))=some (.s ms[m].rs)/\wr.drew.cell? (aD b (off+m*4+2))=some (.i ms[m].mo)/\wr.drew.cell? (aD b (off+m*4+3))=some (.i ms[m].fr)/\wr.drew.cell? (aD b (off+(m+1)*4))=some (.s ms[m+1].tm)/\wr.drew.cell? (aD b (off+(m+1)*4+1))=some (.s ms[m+1].rs)/\wr.drew.cell? (aD b (off+(m+1)*4+2))=some (.i ms[m+1].mo)/\wr.drew.cell? (aD b (off+(m+1)*4+3))=some (.i ms[m+1].fr):=⟨d0,d1,d2,d3,e0,e1,e2,e3⟩
   clear d0 d1 d2 d3 e0 e1 e2 e3;have HM:=hid HQ.o.1;clear HQ;go_wp2_with fail
   go_region_held3 (fun w'=>w'.cell? (aD b (off+m*4))=some (.s ms[m].tm)/\w'.cell? (aD b (off+m*4+1))=some (.s ms[m].rs)/\w'.cell? (aD b (off+m*4+2))=some (.i ms[m].mo)/\w'.cell? (aD b (off+m*4+3))=some (.i ms[m].fr)/\w'.cell? (aD b (off+(m+1)*4))=some (.s ms[m+1].tm)/\w'.cell? (aD b (off+(m+1)*4+1))=some (.s ms[m+1].rs)/\w'.cell? (aD b (off+(m+1)*4+2))=some (.i ms[m+1].mo)/\w'.cell? (aD b (off+(m+1)*4+3))=some (.i ms[m+1].fr)) (exact hS) (first|(go_at_call 158;refine(zcp ms[m] ms[m+1] _).mono ?_;rintro e w2⟨rfl,hb2⟩;have hS:=(⟨(hb2.cell (p:=(aD b _)) hb').trans hS.1,(hb2.cell (p:=(aD b _)) hb').trans hS.2.1,(hb2.cell (p:=(aD b _)) hb').trans hS.2.2.1,(hb2.cell (p:=(aD b _)) hb').trans hS.2.2.2.1,(hb2.cell (p:=(aD b _)) hb').trans hS.2.2.2.2.1,(hb2.cell (p:=(aD b _)) hb').trans hS.2.2.2.2.2.1,(hb2.cell (p:=(aD b _)) hb').trans hS.2.2.2.2.2.2.1,(hb2.cell (p:=(aD b _)) hb').trans hS.2.2.2.2.2.2.2⟩:_/\_/\_/\_/\_/\_/\_/\_);have hB2:=HBr.o.drew.trans (hb2.mono HBr.o.drew.size);clear hb2))
   by_cases hk:qO ms[m] ms[m+1]<0
   ·have HA:=hid (zbW HM.o hlt hk)
    have hd:decide (0<=qO ms[m] ms[m+1])=false:=by simp;omega
    rw[hd];clear hk hd;go_wp2_with fail
    exact⟨⟨m+1,by go_num,by omega,HA.o,hB2⟩,zeN (by omega)⟩
   ·have HA:=hid (zec hlt hk)
    have hd:decide (0<=qO ms[m] ms[m+1])=true:=by simp;omega
    rw[hd];clear hk hd;go_wp2_with fail
    go_ret;exact⟨ze HA.o.symm,hB2⟩
  ·have HA:Hid (zaS qO ms=true):=ze0 HQ.o.1 (by omega)
   have HB:=hid HQ.o.2;clear HQ;go_wp2_with fail
   go_ret;exact⟨ze HA.o.symm,HB.o⟩
theorem zh0 (a:OA)(cap:Nat)(ms:List Pu)(w:World)(hw:zdG w a ms) :
 Calls Tryz.prog 160 #[.l a ms.length cap,.func (.func 161) #[] #[]] w fun e w'=>e=.returned (.bool (zaS zaA ms))/\Bw w w':=by
 have hl:=hw.len;unfold maxLen at hl;have HW:=hid hw;clear hw;go_enter Tryz.func160,Tryz.ntmps160;go_wp2_with fail
 go_loopw [5] (fun iv wr=>∃m:Nat,iv=.i ((m:Int)+1)/\m<=ms.length/\Hid (jY zaA ms (m+1)/\Bw w wr)) (fun iv _=>ms.length+1-(intOf iv).toNat)
 case atStart=>exact⟨0,rfl,Nat.zero_le _,fun i h h'=>by omega,bRf _ _⟩
 case round=>
  obtain⟨m,rfl,hml,HQ⟩:=hrel
  by_cases hlt:m+1<ms.length
  ·have hm:m<ms.length:=by omega
   obtain⟨b,off,rfl,hb,d0,d1,d2,d3,d4⟩:=HW.o.load HQ.o.2 m hm;obtain⟨b2,off2,ha2,hbq,e0,e1,e2,e3,e4⟩:=HW.o.load HQ.o.2 (m+1) hlt
   obtain⟨rfl,rfl⟩:b=b2/\off=off2:=by
    have h:=ha2
    simpa using h
   have hb':=nLt hb HQ.o.2.size;have hltI:(m:Int)+1<(ms.length:Int):=by omega
   have h0m:(0:Int)<=(m:Int):=by omega
   have h01:(0:Int)<=(m:Int)+1:=by omega
   have hsub:IntKind.i64.wrap ((m:Int)+1-1)=(m:Int):=by rw[IntKind.wrap_i64];omega
   have hsub2:IntKind.i64.wrap (m:Int)=(m:Int):=by rw[IntKind.wrap_i64];omega
   have hsub3:wrap64 (m:Int)=(m:Int):=by unfold wrap64;omega
   have htn:((m:Int)+1).toNat=m+1:=by omega
   have hlmI:(m:Int)<(ms.length:Int):=by omega
   have HBr:=hid HQ.o.2;have hS:wr.drew.cell? (aD b (off+m*5))=some (.s ms[m].dr)/\wr.drew.cell? (aD b (off+m*5+1))=some (.s ms[m].tm)/\wr.drew.cell? (aD b (off+m*5+2))=some (.s ms[m].rs)/\wr.drew.cell? (aD b (off+m*5+3))=some (.i ms[m].am)/\wr.drew.cell? (aD b (off+m*5+4))=some (.i ms[m].un)/\wr.drew.cell? (aD b (off+(m+1)*5))=some (.s ms[m+1].dr)/\wr.drew.cell? (aD b (off+(m+1)*5+1))=some (.s ms[m+1].tm)/\wr.drew.cell? (aD b (off+(m+1)*5+2))=some (.s ms[m+1].rs)/\wr.drew.cell? (aD b (off+(m+1)*5+3))=some (.i ms[m+1].am)/\wr.drew.cell? (aD b (off+(m+1)*5+4))=some (.i ms[m+1].un):=⟨d0,d1,d2,d3,d4,e0,e1,e2,e3,e4⟩
   clear d0 d1 d2 d3 d4 e0 e1 e2 e3 e4;have HM:=hid HQ.o.1;clear HQ;go_wp2_with fail
   go_region_held3 (fun w'=>w'.cell? (aD b (off+m*5))=some (.s ms[m].dr)/\w'.cell? (aD b (off+m*5+1))=some (.s ms[m].tm)/\w'.cell? (aD b (off+m*5+2))=some (.s ms[m].rs)/\w'.cell? (aD b (off+m*5+3))=some (.i ms[m].am)/\w'.cell? (aD b (off+m*5+4))=some (.i ms[m].un)/\w'.cell? (aD b (off+(m+1)*5))=some (.s ms[m+1].dr)/\w'.cell? (aD b (off+(m+1)*5+1))=some (.s ms[m+1].tm)/\w'.cell? (aD b (off+(m+1)*5+2))=some (.s ms[m+1].rs)/\w'.cell? (aD b (off+(m+1)*5+3))=some (.i ms[m+1].am)/\w'.cell? (aD b (off+(m+1)*5+4))=some (.i ms[m+1].un)) (exact hS) (first|(go_at_call 161;refine(zj7 ms[m] ms[m+1] _).mono ?_;rintro e w2⟨rfl,hb2⟩;have hS:=(⟨(hb2.cell (p:=(aD b _)) hb').trans hS.1,(hb2.cell (p:=(aD b _)) hb').trans hS.2.1,(hb2.cell (p:=(aD b _)) hb').trans hS.2.2.1,(hb2.cell (p:=(aD b _)) hb').trans hS.2.2.2.1,(hb2.cell (p:=(aD b _)) hb').trans hS.2.2.2.2.1,(hb2.cell (p:=(aD b _)) hb').trans hS.2.2.2.2.2.1,(hb2.cell (p:=(aD b _)) hb').trans hS.2.2.2.2.2.2.1,(hb2.cell (p:=(aD b _)) hb').trans hS.2.2.2.2.2.2.2.1,(hb2.cell (p:=(aD b _)) hb').trans hS.2.2.2.2.2.2.2.2.1,(hb2.cell (p:=(aD b _)) hb').trans hS.2.2.2.2.2.2.2.2.2⟩:_/\_/\_/\_/\_/\_/\_/\_/\_/\_);have hB2:=HBr.o.drew.trans (hb2.mono HBr.o.drew.size);clear hb2))
   by_cases hk:zaA ms[m] ms[m+1]<0
   ·have HA:=hid (zbW HM.o hlt hk)
    have hd:decide (0<=zaA ms[m] ms[m+1])=false:=by simp;omega
    rw[hd];clear hk hd;go_wp2_with fail
    exact⟨⟨m+1,by go_num,by omega,HA.o,hB2⟩,zeN (by omega)⟩
   ·have HA:=hid (zec hlt hk)
    have hd:decide (0<=zaA ms[m] ms[m+1])=true:=by simp;omega
    rw[hd];clear hk hd;go_wp2_with fail
    go_ret;exact⟨ze HA.o.symm,hB2⟩
  ·have HA:Hid (zaS zaA ms=true):=ze0 HQ.o.1 (by omega)
   have HB:=hid HQ.o.2;clear HQ;go_wp2_with fail
   go_ret;exact⟨ze HA.o.symm,HB.o⟩
theorem zgL (l:Lw)(la lb lc:OA)(lca lcb lcc:Nat)(b:Bk)(a0 a1 a2 a3:OA)(c0 c1 c2 c3:Nat)(team res:BA)(w:World)(hl:yF w l la lb lc)(hb:zak w b a0 a1 a2 a3)(hz:q8 b.os<=1048576) :
 Calls Tryz.prog 87 #[.agg (l.cells la lb lc lca lcb lcc),.agg (b.cells a0 a1 a2 a3 c0 c1 c2 c3),.s team,.s res] w fun e w'=>e=.returned (.i (used l b.os team res))/\Bw w w':=by
 have HL:Hid (yF w l la lb lc):=hl;have HK:Hid (zak w b a0 a1 a2 a3):=hb;have HZ:Hid (q8 b.os<=1048576/\b.os.length<=1048576):=⟨hz,by unfold q8 at hz;omega⟩
 clear hl hb hz;unfold Lw.cells Bk.cells;go_enter Tryz.func87,Tryz.ntmps87;go_wp2_with fail
 obtain⟨hX0,hY0⟩:=q9 w #[.l la l.ss.length lca,.l lb l.ms.length lcb,.l lc l.ts.length lcc] (bC b a0 a1 a2 a3 c0 c1 c2 c3) 43 50;have HB0:Hid (Bw w ((w.alloc (.cells #[.l la l.ss.length lca,.l lb l.ms.length lcb,.l lc l.ts.length lcc] 43)).alloc (.cells (bC b a0 a1 a2 a3 c0 c1 c2 c3) 50))):=zx w _ _;obtain⟨W0,hW0⟩:=xN ((w.alloc (.cells #[.l la l.ss.length lca,.l lb l.ms.length lcb,.l lc l.ts.length lcc] 43)).alloc (.cells (bC b a0 a1 a2 a3 c0 c1 c2 c3) 50));have hz0:w.heap.size+1<W0.heap.size:=by rw[hW0];simp
 rw[<- hW0]at HB0 hX0 hY0 ⊢;clear hW0
 go_loopw [9,10] (fun nv iv wr=>∃(k:Nat) (s:Int),k<=b.os.length/\iv=.i k/\nv=.i s/\Hid (s=zaL l b.os team res k/\Bw W0 wr)) (fun _ iv _=>b.os.length-(intOf iv).toNat)
 case atStart=>exact⟨0,0,Nat.zero_le _,rfl,rfl,by simp[zaL],bRf _ _⟩
 case round=>
  obtain⟨k,s,hk,rfl,rfl,HQ⟩:=hrel
  have hsb:0<=s/\s<=20000000000000:=by
   have h1:=HQ.o.1;have h2:=zb8 l b.os team res k hk;have h3:=HZ.o;have h4:zbd (b.os.take k)<=zbd b.os:=zbD Ob.sz b.os k;unfold q8 at h3;omega
  have hX:=za hX0 (nSl hz0) HQ.o.2;have hY:=za hY0 hz0 HQ.o.2;have hz:=nLt hz0 HQ.o.2.size;have hzX:=nSl hz;have hkn:k<=1048576:=by have:=HZ.o.2;omega
  by_cases hlt:k<b.os.length
  ·obtain⟨ob,off,v0,v1,q0,q1,rfl,hob,hsm,hl0,hl1,d0,d1,d2,d3,d4,d5,d6⟩:=HK.o.os.load (HB0.o.trans (HQ.o.2.mono HB0.o.size)) k hlt
   have hob':=nLt hob (HB0.o.trans (HQ.o.2.mono HB0.o.size)).size;have hltI:(k:Int)<(b.os.length:Int):=by omega
   have HSt:Hid (zaL l b.os team res (k+1)=zaL l b.os team res k+zbQ l team res b.os[k]):=zfL l b.os team res k hlt;have HOo:Hid (j3 wr b.os[k] v0 v1):=⟨hsm,hl0,hl1⟩
   have HOl:Hid (b.os[k].vs.length<=1048576):=by
    have h3:=HZ.o.1
    have:=(zlE (left:=1048576) (ms:=b.os) (by omega) (by omega)).2 k hlt
    exact this.1
   have hwb:=zf0 l.ss b.os[k] res HOl.o;have HBr:Hid (Bw w wr):=HB0.o.trans (HQ.o.2.mono HB0.o.size);clear hsm hl0 hl1;go_wp2_with fail
   have HS:Hid ((∀j,wr.cell? (aD w.heap.size j)=(#[.l la l.ss.length lca,.l lb l.ms.length lcb,.l lc l.ts.length lcc]:AV)[j]?)/\(∀j,wr.cell? (aD (w.heap.size+1) j)=((bC b (some (aD ob off)) a1 a2 a3 c0 c1 c2 c3):AV)[j]?)/\wr.cell? (aD ob (off+k*7))=some (.s b.os[k].kd)/\wr.cell? (aD ob (off+k*7+1))=some (.s b.os[k].nm)/\wr.cell? (aD ob (off+k*7+2))=some (.s b.os[k].tm)/\wr.cell? (aD ob (off+k*7+3))=some (.l v0 b.os[k].vs.length q0)/\wr.cell? (aD ob (off+k*7+4))=some (.bool b.os[k].en)/\wr.cell? (aD ob (off+k*7+5))=some (.l v1 b.os[k].hs.length q1)/\wr.cell? (aD ob (off+k*7+6))=some (.i b.os[k].vr)):=⟨hX,hY,d0,d1,d2,d3,d4,d5,d6⟩
   have hS:(∀j,wr.drew.cell? (aD w.heap.size j)=(#[.l la l.ss.length lca,.l lb l.ms.length lcb,.l lc l.ts.length lcc]:AV)[j]?)/\(∀j,wr.drew.cell? (aD (w.heap.size+1) j)=((bC b (some (aD ob off)) a1 a2 a3 c0 c1 c2 c3):AV)[j]?)/\wr.drew.cell? (aD ob (off+k*7))=some (.s b.os[k].kd)/\wr.drew.cell? (aD ob (off+k*7+1))=some (.s b.os[k].nm)/\wr.drew.cell? (aD ob (off+k*7+2))=some (.s b.os[k].tm)/\wr.drew.cell? (aD ob (off+k*7+3))=some (.l v0 b.os[k].vs.length q0)/\wr.drew.cell? (aD ob (off+k*7+4))=some (.bool b.os[k].en)/\wr.drew.cell? (aD ob (off+k*7+5))=some (.l v1 b.os[k].hs.length q1)/\wr.drew.cell? (aD ob (off+k*7+6))=some (.i b.os[k].vr):=HS.o;clear hX hY d0 d1 d2 d3 d4 d5 d6
   go_region_held3 (fun w'=>(∀j,w'.cell? (aD w.heap.size j)=(#[.l la l.ss.length lca,.l lb l.ms.length lcb,.l lc l.ts.length lcc]:AV)[j]?)/\(∀j,w'.cell? (aD (w.heap.size+1) j)=(#[.i b.now,.i b.tick,.i b.given,.l (some (aD ob off)) b.os.length c0,.l a1 b.gs.length c1,.l a2 b.ls.length c2,.l a3 b.ps.length c3]:AV)[j]?)/\w'.cell? (aD ob (off+k*7))=some (.s b.os[k].kd)/\w'.cell? (aD ob (off+k*7+1))=some (.s b.os[k].nm)/\w'.cell? (aD ob (off+k*7+2))=some (.s b.os[k].tm)/\w'.cell? (aD ob (off+k*7+3))=some (.l v0 b.os[k].vs.length q0)/\w'.cell? (aD ob (off+k*7+4))=some (.bool b.os[k].en)/\w'.cell? (aD ob (off+k*7+5))=some (.l v1 b.os[k].hs.length q1)/\w'.cell? (aD ob (off+k*7+6))=some (.i b.os[k].vr)) (exact hS) (first|(go_at_call 131;refine(zk2 _ _ l.ts b.os[k].tm team _ (by exact HL.o.ts.mono HBr.o.drew)).mono ?_;rintro e w1⟨rfl,rfl⟩))
   obtain⟨w2,hw2⟩:=xN (wr.drew);have hB2:Bw W0 w2:=by rw[hw2];exact HQ.o.2.drew
   have HBr2:Hid (Bw w w2):=by unfold Hid;rw[hw2];exact HBr.o.drew
   have HO2:Hid (j3 w2 b.os[k] v0 v1):=by unfold Hid;rw[hw2];exact HOo.o.mono (bRf _ _).drew
   have hS2:(∀j,w2.cell? (aD w.heap.size j)=(#[.l la l.ss.length lca,.l lb l.ms.length lcb,.l lc l.ts.length lcc]:AV)[j]?)/\(∀j,w2.cell? (aD (w.heap.size+1) j)=((bC b (some (aD ob off)) a1 a2 a3 c0 c1 c2 c3):AV)[j]?)/\w2.cell? (aD ob (off+k*7))=some (.s b.os[k].kd)/\w2.cell? (aD ob (off+k*7+1))=some (.s b.os[k].nm)/\w2.cell? (aD ob (off+k*7+2))=some (.s b.os[k].tm)/\w2.cell? (aD ob (off+k*7+3))=some (.l v0 b.os[k].vs.length q0)/\w2.cell? (aD ob (off+k*7+4))=some (.bool b.os[k].en)/\w2.cell? (aD ob (off+k*7+5))=some (.l v1 b.os[k].hs.length q1)/\w2.cell? (aD ob (off+k*7+6))=some (.i b.os[k].vr):=by rw[hw2];exact hS
   have hz2:w.heap.size+1<w2.heap.size:=by rw[hw2];exact hz
   have hzX2:=nSl hz2;have hob2:ob<w2.heap.size:=by rw[hw2];exact hob'
   have HB2:Hid (Bw W0 w2):=hB2;rw[<- hw2];clear hw2 hS HS hB2 hz hzX hob'
   by_cases hu:under l.ts 4 b.os[k].tm team=true
   ·have HU:Hid (zbQ l team res b.os[k]=qV l.ss b.os[k] res):=by unfold Hid zbQ;rw[if_pos hu]
    rw[hu];clear hu;have hS:(∀j,w2.drew.cell? (aD w.heap.size j)=(#[.l la l.ss.length lca,.l lb l.ms.length lcb,.l lc l.ts.length lcc]:AV)[j]?)/\(∀j,w2.drew.cell? (aD (w.heap.size+1) j)=((bC b (some (aD ob off)) a1 a2 a3 c0 c1 c2 c3):AV)[j]?)/\w2.drew.cell? (aD ob (off+k*7))=some (.s b.os[k].kd)/\w2.drew.cell? (aD ob (off+k*7+1))=some (.s b.os[k].nm)/\w2.drew.cell? (aD ob (off+k*7+2))=some (.s b.os[k].tm)/\w2.drew.cell? (aD ob (off+k*7+3))=some (.l v0 b.os[k].vs.length q0)/\w2.drew.cell? (aD ob (off+k*7+4))=some (.bool b.os[k].en)/\w2.drew.cell? (aD ob (off+k*7+5))=some (.l v1 b.os[k].hs.length q1)/\w2.drew.cell? (aD ob (off+k*7+6))=some (.i b.os[k].vr):=hS2;clear hS2;go_wp2_with fail
    go_region_held3 (fun w'=>(∀j,w'.cell? (aD w.heap.size j)=(#[.l la l.ss.length lca,.l lb l.ms.length lcb,.l lc l.ts.length lcc]:AV)[j]?)/\(∀j,w'.cell? (aD (w.heap.size+1) j)=(#[.i b.now,.i b.tick,.i b.given,.l (some (aD ob off)) b.os.length c0,.l a1 b.gs.length c1,.l a2 b.ls.length c2,.l a3 b.ps.length c3]:AV)[j]?)/\w'.cell? (aD ob (off+k*7))=some (.s b.os[k].kd)/\w'.cell? (aD ob (off+k*7+1))=some (.s b.os[k].nm)/\w'.cell? (aD ob (off+k*7+2))=some (.s b.os[k].tm)/\w'.cell? (aD ob (off+k*7+3))=some (.l v0 b.os[k].vs.length q0)/\w'.cell? (aD ob (off+k*7+4))=some (.bool b.os[k].en)/\w'.cell? (aD ob (off+k*7+5))=some (.l v1 b.os[k].hs.length q1)/\w'.cell? (aD ob (off+k*7+6))=some (.i b.os[k].vr)) (exact hS) (first|(go_at_call 132;refine(zi2 l _ _ _ _ _ _ b.os[k] _ _ _ _ res _ (by exact HL.o.mono HBr2.o.drew) (by exact HO2.o.mono (bRf _ _).drew) HOl.o).mono ?_;rintro e w3⟨rfl,hb3⟩;have hS:=(⟨za hS.1 hzX2 hb3,za hS.2.1 hz2 hb3,(hb3.cell (p:=(aD ob _)) hob2).trans hS.2.2.1,(hb3.cell (p:=(aD ob _)) hob2).trans hS.2.2.2.1,(hb3.cell (p:=(aD ob _)) hob2).trans hS.2.2.2.2.1,(hb3.cell (p:=(aD ob _)) hob2).trans hS.2.2.2.2.2.1,(hb3.cell (p:=(aD ob _)) hob2).trans hS.2.2.2.2.2.2.1,(hb3.cell (p:=(aD ob _)) hob2).trans hS.2.2.2.2.2.2.2.1,(hb3.cell (p:=(aD ob _)) hob2).trans hS.2.2.2.2.2.2.2.2⟩:_/\_/\_/\_/\_/\_/\_/\_/\_);have hB3:=HB2.o.drew.trans (hb3.mono HB2.o.drew.size);clear hb3))
    go_wp2_with fail
    refine⟨⟨k+1,s+qV l.ss b.os[k] res,by omega,by go_num,?_,by rw[HSt.o,HU.o,HQ.o.1],hB3⟩,zy hlt⟩
    have hw:IntKind.i64.wrap (s+qV l.ss b.os[k] res)=s+qV l.ss b.os[k] res:=by
     rw[IntKind.wrap_i64];omega
    rw[hw]
   ·have hu':under l.ts 4 b.os[k].tm team=false:=by simpa using hu
    have HU:Hid (zbQ l team res b.os[k]=0):=by unfold Hid zbQ;rw[if_neg hu]
    rw[hu'];clear hu hu';go_wp2_with fail
    exact⟨⟨k+1,s,by omega,by go_num,rfl,by rw[HSt.o,HU.o,HQ.o.1];omega,HB2.o⟩,zy hlt⟩
  ·have e:k=b.os.length:=by omega
   subst e;have HE:Hid (used l b.os team res=s):=by unfold Hid used;rw[HQ.o.1]
   clear hlt hk;go_wp2_with fail
   go_ret;exact⟨zl HE.o.symm,HB0.o.trans (HQ.o.2.mono HB0.o.size)⟩
end Go.Proofs.YtedangodjiolaaaGreat
