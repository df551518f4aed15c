import Derived.Test.YthdfpinbnncghaaGreatM26
import Derived.Laws.EntriesVeiled
import Derived.Test.YthdfpinbnncghaaGreatM27
set_option maxHeartbeats 4000000
namespace Go.Proofs.YthdfpinbnncghaaGreat
open Go.RowKit
def znP (w:World)(a:OA)(n:Nat):Prop:=0<n->∃g,a=some (aD g 0)/\g<w.heap.size/\∀q,q<n->w.cell? (aD g q)=some (.i (q:Int))
set_option maxRecDepth 20000 in
theorem zqL (s:Shp)(ms:List Mnd)(w0:World)(ma fa ia:OA)(mcap fcap icap bm bs:Nat)(w:World)(hm:qZ w0 ma ms)(hf:yj w0 fa s.fs)(hl:ms.length<=1048576)(hn:s.fs.length<=6)
 (hrd:∀q,q<s.fs.length->∀x∈yE s ms q,0<=x/\x<s.fs.length) (hB:Bw w0 w) (hbm:bm<w.heap.size) (hbs:bs<w.heap.size) (hcm:w.cell? (aD bm 0)=some (.l ma ms.length mcap)) (hcs:∀j,w.cell? (aD bs j)=(#[.s s.kd,.l fa s.fs.length fcap]:AV)[j]?)
 (hit:znP w ia s.fs.length) :
 Calls Tryz.prog 209 #[.l ia s.fs.length icap,.func (.func 210) #[] #[.pointer (some (aD bm 0)),.pointer (some (aD bs 0))]] w
  fun e w'=>∃v,e=.returned (.tuple #[v,.bool (zL (zo s ms) s.fs.length).1])/\Bw w0 w'/\((zL (zo s ms) s.fs.length).1=true->w'.ownsRow w.heap.size 3 1 v (zL (zo s ms) s.fs.length).2.row.length (zeT (zL (zo s ms) s.fs.length).2.row)):=by
 have hmk:∀w:World,(Instr.makeMap 323 none).run Tryz.prog w=.ok (.map (some w.heap.size)) (w.alloc (.map #[] 0)):=fun w=>by kernel_rfl
 go_enter Tryz.func209,Tryz.ntmps209;go_wp2_with fail
 have hb2:Bw w ((w.alloc (.map #[] 0)).alloc (.cells #[(.func (.func 210) #[] #[.pointer (some (aD bm 0)),.pointer (some (aD bs 0))]),.map (some w.heap.size),.l none 0 0] 325)):=zx _ _ _;have hs0:=hB.size;obtain⟨c,hceq⟩:=xN ((⟨s,ms,w0,ma,fa,mcap,fcap,bm,bs,w.heap.size+1,w.heap.size,w.heap.size+2⟩:WalkC))
 have hc:c.Ok:=by
  subst hceq;exact⟨hm,hf,hl,hn,hrd,by show w0.heap.size<=w.heap.size+1;omega,hs0,by show w.heap.size+1<w.heap.size+2;omega,by show w.heap.size<w.heap.size+2;omega,by show bm<w.heap.size+2;omega,by show bs<w.heap.size+2;omega,by show w.heap.size+1≠w.heap.size;omega,by show bm≠w.heap.size+1;omega,by show bm≠w.heap.size;omega,by show bs≠w.heap.size+1;omega,by show bs≠w.heap.size;omega⟩
 have hW:zaw c ((w.alloc (.map #[] 0)).alloc (.cells #[(.func (.func 210) #[] #[.pointer (some (aD bm 0)),.pointer (some (aD bs 0))]),.map (some w.heap.size),.l none 0 0] 325)) j4 (.l none 0 0):=by
  subst hceq;refine⟨hB.trans (hb2.mono hs0),(hb2.cell (p:=(aD bm 0)) hbm).trans hcm,za hcs hbs hb2,by show w.heap.size+2<=_;simp,(yt _ _ _).2,World.ownsRow_nil _ _ _ _,⟨#[],0,(yt _ _ _).1,fun x hx=>by simp at hx,fun k v hk=>?_,fun i j x y hx=>by simp at hx⟩⟩;unfold zf2 j4 at hk
  simp at hk
 have HC:Hid (c.Ok/\c.s=s/\c.ms=ms/\c.w0=w0/\c.p=w.heap.size+1/\c.mr=w.heap.size/\c.lo=w.heap.size+2):=⟨hc,by rw[hceq],by rw[hceq],by rw[hceq],by rw[hceq],by rw[hceq],by rw[hceq]⟩
 have HW:=hid hW;have HRD:Hid (∀p,p<s.fs.length->∀q∈zo s ms p,q<s.fs.length):=by have h:=hc.rd;rw[hceq]at h;exact h
 have HIT:=hid hit;have HN:=hid hn
 have HOP:Hid (∀T,open' s.fs.length T<=s.fs.length):=by
  intro T;unfold open';exact Nat.le_trans (List.length_filter_le _ _) (by simp)
 have HW2:Hid (∃W,W=((w.alloc (.map #[] 0)).alloc (.cells #[(.func (.func 210) #[] #[.pointer (some (aD bm 0)),.pointer (some (aD bs 0))]),.map (some w.heap.size),.l none 0 0] 325))):=⟨_,rfl⟩
 clear hW hc hceq hmk hB hcm hcs hrd hit hs0
 go_loopw [14] (fun iv wr=>∃(j:Nat) (v:Value),j<=s.fs.length/\iv=.i j/\(zu (down (zo s ms) (s.fs.length+1)) ((List.range s.fs.length).take j) j4).1=true/\zaw c wr (zu (down (zo s ms) (s.fs.length+1)) ((List.range s.fs.length).take j) j4).2 v/\Moves c (.l none 0 0) ((w.alloc (.map #[] 0)).alloc (.cells #[(.func (.func 210) #[] #[.pointer (some (aD bm 0)),.pointer (some (aD bs 0))]),.map (some w.heap.size),.l none 0 0] 325)) v wr) (fun iv _=>s.fs.length-(intOf iv).toNat)
 case atStart=>exact⟨0,_,Nat.zero_le _,rfl,rfl,HW.o,Moves.refl _ _ _⟩
 case round=>
  obtain⟨j,v,hj,rfl,hD,hWr,hMr⟩:=hrel;have HWr:=ji hWr hMr;have HD:=hid hD;clear hWr hMr hD
  by_cases hjl:j<s.fs.length
  ·have HTK:Hid ((List.range s.fs.length).take (j+1)=(List.range s.fs.length).take j++[j]):=by
    unfold Hid;rw[tSe (by simpa using hjl)]
    simp
   obtain⟨g,rfl,hgl,hgc⟩:=HIT.o (by omega)
   have hcell:wr.cell? (aD g j)=some (.i (j:Int)):=by
    rw[zh0 (HWr.o.2.out g (by have:=hb2.size;omega) (by rw[HC.o.2.2.2.2.1];omega) (by rw[HC.o.2.2.2.2.2.1];omega) (by simp[Value.ownBlock]))];exact(hb2.cell (p:=(aD g j)) hgl).trans (hgc j hjl)
   have hjI:(j:Int)<(s.fs.length:Int):=by omega
   have HSX:Hid ((zu (down (zo s ms) (s.fs.length+1)) ((List.range s.fs.length).take j) j4).2.row.length+open' s.fs.length (zu (down (zo s ms) (s.fs.length+1)) ((List.range s.fs.length).take j) j4).2<=6):=by
    have h1:=zfV HRD.o (s.fs.length+1) _ j4 (fun a ha=>List.mem_range.1 (List.mem_of_mem_take ha)) HD.o;have h2:=HOP.o j4;have h3:j4.row.length=0:=rfl;have h4:=HN.o
    show _<=_
    omega
   have HDA:Hid (Calls Tryz.prog 240 #[.pointer (some (aD (w.heap.size+1) 0)),.i (j:Int)] wr fun e w'=>∃v',e=.returned (.bool (down (zo s ms) (s.fs.length+1) j (zu (down (zo s ms) (s.fs.length+1)) ((List.range s.fs.length).take j) j4).2).1)/\Bw w0 w'/\((down (zo s ms) (s.fs.length+1) j (zu (down (zo s ms) (s.fs.length+1)) ((List.range s.fs.length).take j) j4).2).1=true->zaw c w' (down (zo s ms) (s.fs.length+1) j (zu (down (zo s ms) (s.fs.length+1)) ((List.range s.fs.length).take j) j4).2).2 v'/\Moves c v wr v' w')):=by
    have h:=zrv c HC.o.1 (s.fs.length+1) j (zu (down (zo s ms) (s.fs.length+1)) ((List.range s.fs.length).take j) j4).2 v wr (by rw[HC.o.2.1];exact hjl) (by rw[HC.o.2.1];have:=HOP.o (zu (down (zo s ms) (s.fs.length+1)) ((List.range s.fs.length).take j) j4).2;omega) (by rw[HC.o.2.1];exact HSX.o) HWr.o.1;rw[HC.o.2.1,HC.o.2.2.1,HC.o.2.2.2.1,HC.o.2.2.2.2.1]at h;exact h
   go_wp2_with fail
   refine HDA.o.mono ?_;rintro e w3⟨v3,rfl,hb3,hyes⟩
   by_cases hd:(down (zo s ms) (s.fs.length+1) j (zu (down (zo s ms) (s.fs.length+1)) ((List.range s.fs.length).take j) j4).2).1=true
   ·have HS:Hid ((zu (down (zo s ms) (s.fs.length+1)) ((List.range s.fs.length).take (j+1)) j4)=down (zo s ms) (s.fs.length+1) j (zu (down (zo s ms) (s.fs.length+1)) ((List.range s.fs.length).take j) j4).2):=by unfold Hid;rw[HTK.o,zbk,if_pos HD.o]
    have HY:=hid (hyes hd);have HDD:=hid hd;rw[hd];clear hyes hb3 hd hcell hgc HDA;go_wp2_with fail
    exact⟨⟨j+1,v3,by omega,by go_num,by rw[HS.o];exact HDD.o,by rw[HS.o];exact HY.o.1,HWr.o.2.trans HY.o.2⟩,zw hjl⟩
   ·have hdf:(down (zo s ms) (s.fs.length+1) j (zu (down (zo s ms) (s.fs.length+1)) ((List.range s.fs.length).take j) j4).2).1=false:=by simpa using hd
    have HF:Hid ((zL (zo s ms) s.fs.length).1=false):=by
     have h1:(zu (down (zo s ms) (s.fs.length+1)) ((List.range s.fs.length).take (j+1)) j4).1=false:=by rw[HTK.o,zbk,if_pos HD.o];exact hdf
     have h2:=zc6 (down (zo s ms) (s.fs.length+1)) ((List.range s.fs.length).take (j+1)) ((List.range s.fs.length).drop (j+1)) j4 h1;rw[List.take_append_drop]at h2;exact h2
    have HB3:Hid (Bw w0 w3):=hb3;rw[hdf];clear hyes hb3 hd hdf hcell hgc HDA;go_wp2_with fail
    go_ret2
    exact⟨_,by rw[HF.o];rfl,HB3.o,fun h=>by rw[HF.o]at h;cases h⟩
  ·have e:j=s.fs.length:=by omega
   have hall:(List.range s.fs.length).take j=List.range s.fs.length:=tOl (by simp;omega);rw[hall]at HWr HD;have HY:Hid ((zL (zo s ms) s.fs.length).1=true):=HD.o;have HWW:Hid (zaw c wr (zL (zo s ms) s.fs.length).2 v):=HWr.o.1;have hpc:∀k,wr.cell? (aD (w.heap.size+1) k)=(#[c.fn,.map (some c.mr),v]:AV)[k]?:=by have h:=zbH HWW.o.cells;rw[HC.o.2.2.2.2.1]at h;exact h
   obtain⟨va,vcap,hve⟩:=qL HWW.o.row;subst hve;subst e;clear HWr HD hall;go_wp2_with fail
   go_ret2
   refine⟨_,by rw[HY.o];rfl,by have h:=HWW.o.base;rw[HC.o.2.2.2.1]at h;exact h,fun _=>?_⟩;have h:=HWW.o.row;rw[HC.o.2.2.2.2.2.2]at h;exact zdw h (by omega)
def zaD (f:Fld)(v:BA):BA:=if v.toList.isEmpty=true then f.df else v
def zaq (fs:List Fld)(vs:List BA):List BA:=List.zipWith zaD fs vs
def jG (fs:List Fld)(vs:List BA)(k:Nat):List BA:=(zaq fs vs).take k++vs.drop k
theorem jc {fs:List Fld}{vs:List BA}(h:vs.length=fs.length):(zaq fs vs).length=vs.length:=by simp[zaq];omega
theorem zaI {fs:List Fld}{vs:List BA}(h:vs.length=fs.length)(k:Nat):(jG fs vs k).length=vs.length:=by
 simp[jG,jc h];omega
theorem ziy (fs:List Fld)(vs:List BA):jG fs vs 0=vs:=by simp[jG]
theorem zj4 {fs:List Fld}{vs:List BA}(h:vs.length=fs.length):jG fs vs fs.length=zaq fs vs:=by
 unfold jG;rw[tOl (by rw[jc h];omega),List.drop_of_length_le (by omega),List.append_nil]
theorem zfL {fs:List Fld}{vs:List BA}(h:vs.length=fs.length)(k:Nat)(hk:k<fs.length):(jG fs vs k)[k]?=vs[k]?:=by
 unfold jG;rw[List.getElem?_append_right (by simp;omega)]
 simp[jc h,Nat.min_eq_left (show k<=vs.length by omega)]
theorem zdq {fs:List Fld}{vs:List BA}(h:vs.length=fs.length)(k:Nat)(hk:k<fs.length):jG fs vs (k+1)=(jG fs vs k).set k (zaD fs[k] (vs[k]'(by omega))):=by
 have hl:=jc h;have hv:(zaq fs vs)[k]'(by omega)=zaD fs[k] (vs[k]'(by omega)):=by simp[zaq]
 unfold jG;rw[List.set_append_right _ _ (by simp;omega)];have e:k-((zaq fs vs).take k).length=0:=by simp;omega
 rw[e,List.drop_eq_getElem_cons (show k<vs.length by omega),List.set_cons_zero,tSe (by omega),hv]
 simp
theorem zA.set {lo:Nat}{w:World}{g:Nat}{ws:List BA}(h:zA lo w (some (aD g 0)) ws)(k:Nat)(s:BA):zA lo (w.setCell (aD g k) (.s s)) (some (aD g 0)) (ws.set k s):=by
 rcases h with⟨h0,_⟩|⟨b,C,h0,hg,hh,hc⟩
 ·cases h0
 ·cases h0
  refine Or.inr ⟨g,_,rfl,hg,zh hh _,fun i hi=>?_⟩;have hi':i<ws.length:=by rw[List.length_set]at hi;exact hi
  by_cases e:i=k
  ·subst e
   have hsz:i<C.size:=by
    rcases Nat.lt_or_ge i C.size with h1|h1
    ·exact h1
    ·have:=hc i hi';rw[Array.getElem?_eq_none h1]at this;cases this
   rw[Array.getElem?_setIfInBounds_self_of_lt hsz,List.getElem_set_self]
  ·rw[Array.getElem?_setIfInBounds_ne (fun h=>e h.symm),hc i hi',List.getElem_set_ne (fun h=>e h.symm)]
def zsB (w:World)(b:Nat)(v0 v1 v2 v3 v4 v5 v6:Value):World:=((((((w.setCell (aD b 0) v0).setCell (aD b 1) v1).setCell (aD b 2) v2).setCell (aD b 3) v3).setCell (aD b 4) v4).setCell (aD b 5) v5).setCell (aD b 6) v6
theorem jZ {lo:Nat}{w:World}{a:OA}{ws:List BA}(h:zA lo w a ws)(b:Nat)(hb:b<lo)(v0 v1 v2 v3 v4 v5 v6:Value):zA lo (zsB w b v0 v1 v2 v3 v4 v5 v6) a ws:=
 ((((((h.setCell _ hb _).setCell _ hb _).setCell _ hb _).setCell _ hb _).setCell _ hb _).setCell _ hb _).setCell _ hb _
theorem zaV {B:Nat}{w0 w:World}(h:Below B w0 w)(b:Nat)(hb:B<=b)(v0 v1 v2 v3 v4 v5 v6:Value):Below B w0 (zsB w b v0 v1 v2 v3 v4 v5 v6):=
 ((((((h.setCell (p:=(aD b 0)) hb _).setCell (p:=(aD b 1)) hb _).setCell (p:=(aD b 2)) hb _).setCell (p:=(aD b 3)) hb _).setCell (p:=(aD b 4)) hb _).setCell (p:=(aD b 5)) hb _).setCell (p:=(aD b 6)) hb _
def zmM (c p:Int):Value:=if c=0 then .nilIface else .iface 342 (.agg #[.i c,.i p])
theorem zjj (w:World):Calls Tryz.prog 258 #[.bool true] w fun e w'=>e=.returned .nilIface/\w'=w:=by
 go_enter Tryz.func258,Tryz.ntmps258
 go_wp2
 go_ret;exact⟨rfl,rfl⟩
theorem zjV (w:World):Calls Tryz.prog 258 #[.bool false] w fun e w'=>e=.returned (.iface 342 (.agg #[.i 1,.i 0]))/\w'=w:=by
 go_enter Tryz.func258,Tryz.ntmps258
 go_wp2
 go_ret;exact⟨rfl,rfl⟩
def jX (b:Bool):Value:=if b then .nilIface else .iface 342 (.agg #[.i 1,.i 0])
theorem jK (b:Bool)(w:World):Calls Tryz.prog 258 #[.bool b] w fun e w'=>e=.returned (jX b)/\w'=w:=by
 cases b
 ·exact zjV w
 ·exact zjj w
theorem zdp {a b:Bool}(h:a=b):Ending.returned (jX a)=.returned (jX b):=by rw[h]
theorem zfe (a0:OA)(cap0:Nat)(ss:List Shp)(o:Ob)(a a':OA)(cap cap':Nat)(w:World)(ho:zab w o a a') :
 Calls Tryz.prog 242 #[.l a0 ss.length cap0,.agg #[.s o.kd,.s o.nm,.s o.tm,.l a o.vs.length cap,.bool o.en,.l a' o.hs.length cap',.i o.vr]] w fun e w'=>e=.returned (jX (qU o))/\Bw w w':=by
 have h1:=ho.small.nm;have h2:=ho.small.tm
 by_cases hn:zm o.nm=true
 ·have HN:Hid (zm o.nm=true):=hn
  clear hn ho;go_enter Tryz.func242,Tryz.ntmps242;go_wp2_with fail
  refine(zf HN.o (zB _ _ h1)).mono ?_;rintro e w1⟨rfl,rfl⟩;go_wp2_with fail
  refine(zB _ _ h2).mono ?_;rintro e w1⟨rfl,rfl⟩;go_wp2_with fail
  refine(jK _ _).mono ?_;rintro e w1⟨rfl,rfl⟩;go_wp2_with fail
  go_ret;exact⟨zdp (by unfold qU;rw[HN.o];rfl),bAl _ _⟩
 ·have HN:Hid (zm o.nm=false):=by simpa[Hid] using hn
  clear hn ho;go_enter Tryz.func242,Tryz.ntmps242;go_wp2_with fail
  refine(zf HN.o (zB _ _ h1)).mono ?_;rintro e w1⟨rfl,rfl⟩;go_wp2_with fail
  refine(jK _ _).mono ?_;rintro e w1⟨rfl,rfl⟩;go_wp2_with fail
  go_ret;exact⟨zdp (a:=false) (b:=qU o) (by unfold qU;rw[HN.o];rfl),bAl _ _⟩
theorem ze5 (a0:OA)(cap0:Nat)(ss:List Shp)(o:Ob)(a a':OA)(cap cap':Nat)(w:World)(ho:zab w o a a') :
 Calls Tryz.prog 243 #[.l a0 ss.length cap0,.agg #[.s o.kd,.s o.nm,.s o.tm,.l a o.vs.length cap,.bool o.en,.l a' o.hs.length cap',.i o.vr]] w fun e w'=>e=.returned (jX (jh o))/\Bw w w':=by
 have hl:=ho.holds.len;unfold maxLen at hl
 by_cases h3:o.hs.length<=3
 ·go_enter Tryz.func243,Tryz.ntmps243
  go_wp2_with fail
  refine(zf7 _ _ _ _ (ho.holds.mono (bAl _ _))).mono ?_;rintro e w1⟨rfl,rfl⟩;go_wp2_with fail
  refine(jK _ _).mono ?_;rintro e w1⟨rfl,rfl⟩;go_wp2_with fail
  go_ret;exact⟨zdp (by unfold jh;rw[decide_eq_true h3];rfl),bAl _ _⟩
 ·go_enter Tryz.func243,Tryz.ntmps243
  go_wp2_with fail
  refine(jK _ _).mono ?_;rintro e w1⟨rfl,rfl⟩;go_wp2_with fail
  go_ret;exact⟨zdp (a:=false) (b:=jh o) (by unfold jh;rw[decide_eq_false (show ¬o.hs.length<=3 by omega)];rfl),bAl _ _⟩
theorem zea (a0:OA)(cap0:Nat)(ss:List Shp)(o:Ob)(a a':OA)(cap cap':Nat)(w:World) :
 Calls Tryz.prog 244 #[.l a0 ss.length cap0,.agg #[.s o.kd,.s o.nm,.s o.tm,.l a o.vs.length cap,.bool o.en,.l a' o.hs.length cap',.i o.vr]] w fun e w'=>e=.returned (jX (qG o))/\Bw w w':=by
 by_cases h0:0<=o.vr
 ·have HV:Hid (qG o=decide (o.vr<=1000000)):=by unfold Hid qG;rw[decide_eq_true h0];rfl
  go_enter Tryz.func244,Tryz.ntmps244
  go_wp2_with (go_at_call 258;refine(jK _ _).mono ?_;rintro e w1⟨rfl,rfl⟩)
  go_ret;exact⟨zdp HV.o.symm,bAl _ _⟩
 ·have HV:Hid (qG o=false):=by unfold Hid qG;rw[decide_eq_false h0];rfl
  go_enter Tryz.func244,Tryz.ntmps244
  go_wp2_with (go_at_call 258;refine(jK _ _).mono ?_;rintro e w1⟨rfl,rfl⟩)
  go_ret;exact⟨zdp HV.o.symm,bAl _ _⟩
theorem ze4 (a0:OA)(cap0:Nat)(ss:List Shp)(o:Ob)(a a':OA)(cap cap':Nat)(w:World)(hw:yR w a0 ss)(_ho:zab w o a a') :
 Calls Tryz.prog 245 #[.l a0 ss.length cap0,.agg #[.s o.kd,.s o.nm,.s o.tm,.l a o.vs.length cap,.bool o.en,.l a' o.hs.length cap',.i o.vr]] w fun e w'=>e=.returned (jX (zH ss o))/\Bw w w':=by
 by_cases hk:zC ss o.kd=true
 all_goals
  first
   | (have HK:Hid (zC ss o.kd=true):=hk)
   | (have HK:Hid (zC ss o.kd=false):=by simpa[Hid] using hk)
  clear hk;go_enter Tryz.func245,Tryz.ntmps245;go_wp2_with fail
  refine(qB _ _ _ _ _ (hw.mono (bAl _ _))).mono ?_;rintro e w1⟨fa,fcap,rfl,_,hb1⟩;rw[HK.o];have hX1:=za (zn w _ _) (by simp) hb1;have hz1:w.heap.size<w1.heap.size:=by have:=hb1.size;simp at this;omega
  have hB1:Bw w w1:=(bAl _ _).trans (hb1.mono (by simp));clear hb1
  go_wp2_with (go_at_call 258;refine(jK _ _).mono ?_;rintro e w2⟨rfl,rfl⟩)
  go_ret
 ·refine⟨zdp ?_,hB1.alloc (by omega) _⟩
  unfold zH;rw[HK.o];rw[Bool.eq_iff_iff];simp;omega
 ·refine⟨zdp (a:=false) (b:=zH ss o) ?_,hB1.alloc (by omega) _⟩
  unfold zH;rw[HK.o];rfl
def zaa {α:Type}(key:α->α->Int)(ms:List α)(k:Nat):Prop:=∀i (h:i+1<ms.length),i+1<k->key ms[i] ms[i+1]<0
def rising {α:Type}(key:α->α->Int)(ms:List α):Prop:=∀i (h:i+1<ms.length),key ms[i] ms[i+1]<0
noncomputable def zaQ {α:Type}(key:α->α->Int)(ms:List α):Bool:=@decide (rising key ms) (Classical.propDecidable _)
theorem zck {α:Type}{key:α->α->Int}{ms:List α}{m:Nat}(h:zaa key ms (m+1))(hl:m+1<ms.length)(hk:key ms[m] ms[m+1]<0):zaa key ms (m+1+1):=by
 intro i hi hik
 rcases Nat.lt_or_ge i m with hlt|hge
 ·exact h i hi (by omega)
 ·have e:i=m:=by omega
  subst e;exact hk
theorem zeB {α:Type}{key:α->α->Int}{ms:List α}{m:Nat}(hl:m+1<ms.length)(hk:¬key ms[m] ms[m+1]<0):zaQ key ms=false:=by
 unfold zaQ;simp only[decide_eq_false_iff_not];exact fun h=>hk (h m hl)
theorem zfb {α:Type}{key:α->α->Int}{ms:List α}{m:Nat}(h:zaa key ms (m+1))(hl:ms.length<=m+1):zaQ key ms=true:=by
 unfold zaQ;simp only[decide_eq_true_eq];exact fun i hi=>h i hi (by omega)
theorem zkT {α:Type}(key:α->α->Int)(ms:List α):zaQ key ms=true↔rising key ms:=by
 unfold zaQ;simp only[decide_eq_true_eq]
def zeG (a b:Int):Int:=if a<b then -1 else if b<a then 1 else 0
def zcK (a b:Gr):Int:=zeG a.no b.no
theorem zfp {n m:Nat}(h:m+1<n):n+1-(intOf (Value.int IntKind.i64 ((m:Int)+1+1))).toNat<n+1-(intOf (Value.int IntKind.i64 ((m:Int)+1))).toNat:=by
 show n+1-((m:Int)+1+1).toNat<n+1-((m:Int)+1).toNat
 omega
theorem zqO (x:Int)(w:World):Calls Tryz.prog 250 #[.i x] w fun e w'=>e=.returned (.bool false)/\w'=w:=by
 have h:(x != x)=false:=by simp
 go_enter Tryz.func250,Tryz.ntmps250;go_wp2_with fail
 go_ret;exact⟨rfl,rfl⟩
theorem zkn (x y:Int)(w:World):Calls Tryz.prog 222 #[.i x,.i y] w fun e w'=>e=.returned (.i (zeG x y))/\w'=w:=by
 have HN:=hid zqO
 by_cases h1:x<y
 ·have HF:Hid (zeG x y=-1):=by unfold Hid zeG;rw[if_pos h1]
  go_enter Tryz.func222,Tryz.ntmps222
  go_wp2_with (go_at_call 250;refine(HN.o _ _).mono ?_;rintro e w2⟨rfl,rfl⟩)
  go_ret;exact⟨zk HF.o.symm,rfl⟩
 ·by_cases h2:y<x
  ·have HF:Hid (zeG x y=1):=by unfold Hid zeG;rw[if_neg h1,if_pos h2]
   go_enter Tryz.func222,Tryz.ntmps222
   go_wp2_with (go_at_call 250;refine(HN.o _ _).mono ?_;rintro e w2⟨rfl,rfl⟩)
   go_ret;exact⟨zk HF.o.symm,rfl⟩
  ·have HF:Hid (zeG x y=0):=by unfold Hid zeG;rw[if_neg h1,if_neg h2]
   go_enter Tryz.func222,Tryz.ntmps222
   go_wp2_with (go_at_call 250;refine(HN.o _ _).mono ?_;rintro e w2⟨rfl,rfl⟩)
   go_ret;exact⟨zk HF.o.symm,rfl⟩
theorem zkA (g h:Gr)(a b:OA)(c d:Nat)(w:World) :
 Calls Tryz.prog 165 #[.agg (g.cells a c),.agg (h.cells b d)] w fun e w'=>e=.returned (.i (zcK g h))/\Bw w w':=by
 unfold Gr.cells;go_enter Tryz.func165,Tryz.ntmps165
 go_wp2_with (go_at_call 222;refine(zkn _ _ _).mono ?_;rintro e w2⟨rfl,rfl⟩)
 go_ret;exact⟨rfl,zx _ _ _⟩
theorem zja (a:OA)(cap:Nat)(ms:List Ob)(w:World)(hw:zcx w a ms) :
 Calls Tryz.prog 159 #[.l a ms.length cap,.func (.func 160) #[] #[]] w fun e w'=>e=.returned (.bool (zaQ zcB ms))/\Bw w w':=by
 have hl:=hw.len;unfold maxLen at hl;have HW:=hid hw;clear hw;go_enter Tryz.func159,Tryz.ntmps159;go_wp2_with fail
 go_loopw [5] (fun iv wr=>∃m:Nat,iv=.i ((m:Int)+1)/\m<=ms.length/\Hid (zaa zcB ms (m+1)/\Bw w wr)) (fun iv _=>ms.length+1-(intOf iv).toNat)
 case atStart=>exact⟨0,rfl,Nat.zero_le _,fun i h h'=>by omega,bRf _ _⟩
 case round=>
  obtain⟨m,rfl,hml,HQ⟩:=hrel
  by_cases hlt:m+1<ms.length
  ·have hm:m<ms.length:=by omega
   obtain⟨b,off,p0,p1,p2,p3,rfl,hb,_,_,_,d0,d1,d2,d3,d4,d5,d6⟩:=HW.o.load HQ.o.2 m hm;obtain⟨b2,off2,q0,q1,q2,q3,ha2,hbq,_,_,_,e0,e1,e2,e3,e4,e5,e6⟩:=HW.o.load HQ.o.2 (m+1) hlt
   obtain⟨rfl,rfl⟩:b=b2/\off=off2:=by
    have h:=ha2
    simpa using h
   have hb':=nLt hb HQ.o.2.size;have hltI:(m:Int)+1<(ms.length:Int):=by omega
   have h0m:(0:Int)<=(m:Int):=by omega
   have h01:(0:Int)<=(m:Int)+1:=by omega
   have hsub:IntKind.i64.wrap ((m:Int)+1-1)=(m:Int):=by rw[IntKind.wrap_i64];omega
   have hsub2:IntKind.i64.wrap (m:Int)=(m:Int):=by rw[IntKind.wrap_i64];omega
   have hsub3:wrap64 (m:Int)=(m:Int):=by unfold wrap64;omega
   have htn:((m:Int)+1).toNat=m+1:=by omega
   have hlmI:(m:Int)<(ms.length:Int):=by omega
   have HBr:=hid HQ.o.2;have hS:wr.drew.cell? (aD b (off+m*7))=some (.s ms[m].kd)/\wr.drew.cell? (aD b (off+m*7+1))=some (.s ms[m].nm)/\wr.drew.cell? (aD b (off+m*7+2))=some (.s ms[m].tm)/\wr.drew.cell? (aD b (off+m*7+3))=some (.l p0 ms[m].vs.length p2)/\wr.drew.cell? (aD b (off+m*7+4))=some (.bool ms[m].en)/\wr.drew.cell? (aD b (off+m*7+5))=some (.l p1 ms[m].hs.length p3)/\wr.drew.cell? (aD b (off+m*7+6))=some (.i ms[m].vr)/\wr.drew.cell? (aD b (off+(m+1)*7))=some (.s ms[m+1].kd)/\wr.drew.cell? (aD b (off+(m+1)*7+1))=some (.s ms[m+1].nm)/\wr.drew.cell? (aD b (off+(m+1)*7+2))=some (.s ms[m+1].tm)/\wr.drew.cell? (aD b (off+(m+1)*7+3))=some (.l q0 ms[m+1].vs.length q2)/\wr.drew.cell? (aD b (off+(m+1)*7+4))=some (.bool ms[m+1].en)/\wr.drew.cell? (aD b (off+(m+1)*7+5))=some (.l q1 ms[m+1].hs.length q3)/\wr.drew.cell? (aD b (off+(m+1)*7+6))=some (.i ms[m+1].vr):=⟨d0,d1,d2,d3,d4,d5,d6,e0,e1,e2,e3,e4,e5,e6⟩
   clear d0 d1 d2 d3 d4 d5 d6 e0 e1 e2 e3 e4 e5 e6;have HM:=hid HQ.o.1;clear HQ;go_wp2_with fail
   go_region_held3 (fun w'=>w'.cell? (aD b (off+m*7))=some (.s ms[m].kd)/\w'.cell? (aD b (off+m*7+1))=some (.s ms[m].nm)/\w'.cell? (aD b (off+m*7+2))=some (.s ms[m].tm)/\w'.cell? (aD b (off+m*7+3))=some (.l p0 ms[m].vs.length p2)/\w'.cell? (aD b (off+m*7+4))=some (.bool ms[m].en)/\w'.cell? (aD b (off+m*7+5))=some (.l p1 ms[m].hs.length p3)/\w'.cell? (aD b (off+m*7+6))=some (.i ms[m].vr)/\w'.cell? (aD b (off+(m+1)*7))=some (.s ms[m+1].kd)/\w'.cell? (aD b (off+(m+1)*7+1))=some (.s ms[m+1].nm)/\w'.cell? (aD b (off+(m+1)*7+2))=some (.s ms[m+1].tm)/\w'.cell? (aD b (off+(m+1)*7+3))=some (.l q0 ms[m+1].vs.length q2)/\w'.cell? (aD b (off+(m+1)*7+4))=some (.bool ms[m+1].en)/\w'.cell? (aD b (off+(m+1)*7+5))=some (.l q1 ms[m+1].hs.length q3)/\w'.cell? (aD b (off+(m+1)*7+6))=some (.i ms[m+1].vr)) (exact hS) (first|(go_at_call 160;refine(ziX ms[m] ms[m+1] p0 p1 q0 q1 p2 p3 q2 q3 _).mono ?_;rintro e w2⟨rfl,hb2⟩;have hS:=(⟨(hb2.cell (p:=(aD b _)) hb').trans hS.1,(hb2.cell (p:=(aD b _)) hb').trans hS.2.1,(hb2.cell (p:=(aD b _)) hb').trans hS.2.2.1,(hb2.cell (p:=(aD b _)) hb').trans hS.2.2.2.1,(hb2.cell (p:=(aD b _)) hb').trans hS.2.2.2.2.1,(hb2.cell (p:=(aD b _)) hb').trans hS.2.2.2.2.2.1,(hb2.cell (p:=(aD b _)) hb').trans hS.2.2.2.2.2.2.1,(hb2.cell (p:=(aD b _)) hb').trans hS.2.2.2.2.2.2.2.1,(hb2.cell (p:=(aD b _)) hb').trans hS.2.2.2.2.2.2.2.2.1,(hb2.cell (p:=(aD b _)) hb').trans hS.2.2.2.2.2.2.2.2.2.1,(hb2.cell (p:=(aD b _)) hb').trans hS.2.2.2.2.2.2.2.2.2.2.1,(hb2.cell (p:=(aD b _)) hb').trans hS.2.2.2.2.2.2.2.2.2.2.2.1,(hb2.cell (p:=(aD b _)) hb').trans hS.2.2.2.2.2.2.2.2.2.2.2.2.1,(hb2.cell (p:=(aD b _)) hb').trans hS.2.2.2.2.2.2.2.2.2.2.2.2.2⟩:_/\_/\_/\_/\_/\_/\_/\_/\_/\_/\_/\_/\_/\_);have hB2:=HBr.o.drew.trans (hb2.mono HBr.o.drew.size);clear hb2))
   by_cases hk:zcB ms[m] ms[m+1]<0
   ·have HA:=hid (zck HM.o hlt hk)
    have hd:decide (0<=zcB ms[m] ms[m+1])=false:=by simp;omega
    rw[hd];clear hk hd;go_wp2_with fail
    exact⟨⟨m+1,by go_num,by omega,HA.o,hB2⟩,zfp (by omega)⟩
   ·have HA:=hid (zeB hlt hk)
    have hd:decide (0<=zcB ms[m] ms[m+1])=true:=by simp;omega
    rw[hd];clear hk hd;go_wp2_with fail
    go_ret;exact⟨ze HA.o.symm,hB2⟩
  ·have HA:Hid (zaQ zcB ms=true):=zfb HQ.o.1 (by omega)
   have HB:=hid HQ.o.2;clear HQ;go_wp2_with fail
   go_ret;exact⟨ze HA.o.symm,HB.o⟩
theorem zi1 (a:OA)(cap:Nat)(ms:List Gr)(w:World)(hw:zbN w a ms) :
 Calls Tryz.prog 164 #[.l a ms.length cap,.func (.func 165) #[] #[]] w fun e w'=>e=.returned (.bool (zaQ zcK ms))/\Bw w w':=by
 have hl:=hw.len;unfold maxLen at hl;have HW:=hid hw;clear hw;go_enter Tryz.func164,Tryz.ntmps164;go_wp2_with fail
 go_loopw [5] (fun iv wr=>∃m:Nat,iv=.i ((m:Int)+1)/\m<=ms.length/\Hid (zaa zcK ms (m+1)/\Bw w wr)) (fun iv _=>ms.length+1-(intOf iv).toNat)
 case atStart=>exact⟨0,rfl,Nat.zero_le _,fun i h h'=>by omega,bRf _ _⟩
 case round=>
  obtain⟨m,rfl,hml,HQ⟩:=hrel
  by_cases hlt:m+1<ms.length
  ·have hm:m<ms.length:=by omega
   obtain⟨b,off,p0,p1,rfl,hb,_,_,d0,d1,d2,d3,d4,d5,d6⟩:=HW.o.load HQ.o.2 m hm;obtain⟨b2,off2,q0,q1,ha2,hbq,_,_,e0,e1,e2,e3,e4,e5,e6⟩:=HW.o.load HQ.o.2 (m+1) hlt
   obtain⟨rfl,rfl⟩:b=b2/\off=off2:=by
    have h:=ha2
    simpa using h
   have hb':=nLt hb HQ.o.2.size;have hltI:(m:Int)+1<(ms.length:Int):=by omega
   have h0m:(0:Int)<=(m:Int):=by omega
   have h01:(0:Int)<=(m:Int)+1:=by omega
   have hsub:IntKind.i64.wrap ((m:Int)+1-1)=(m:Int):=by rw[IntKind.wrap_i64];omega
   have hsub2:IntKind.i64.wrap (m:Int)=(m:Int):=by rw[IntKind.wrap_i64];omega
   have hsub3:wrap64 (m:Int)=(m:Int):=by unfold wrap64;omega
   have htn:((m:Int)+1).toNat=m+1:=by omega
   have hlmI:(m:Int)<(ms.length:Int):=by omega
   have HBr:=hid HQ.o.2;have hS:wr.drew.cell? (aD b (off+m*7))=some (.i ms[m].no)/\wr.drew.cell? (aD b (off+m*7+1))=some (.s ms[m].to)/\wr.drew.cell? (aD b (off+m*7+2))=some (.s ms[m].gb)/\wr.drew.cell? (aD b (off+m*7+3))=some (.l p0 ms[m].r.vs.length p1)/\wr.drew.cell? (aD b (off+m*7+4))=some (.s ms[m].r.kd)/\wr.drew.cell? (aD b (off+m*7+5))=some (.s ms[m].r.tm)/\wr.drew.cell? (aD b (off+m*7+6))=some (.s ms[m].r.px)/\wr.drew.cell? (aD b (off+(m+1)*7))=some (.i ms[m+1].no)/\wr.drew.cell? (aD b (off+(m+1)*7+1))=some (.s ms[m+1].to)/\wr.drew.cell? (aD b (off+(m+1)*7+2))=some (.s ms[m+1].gb)/\wr.drew.cell? (aD b (off+(m+1)*7+3))=some (.l q0 ms[m+1].r.vs.length q1)/\wr.drew.cell? (aD b (off+(m+1)*7+4))=some (.s ms[m+1].r.kd)/\wr.drew.cell? (aD b (off+(m+1)*7+5))=some (.s ms[m+1].r.tm)/\wr.drew.cell? (aD b (off+(m+1)*7+6))=some (.s ms[m+1].r.px):=⟨d0,d1,d2,d3,d4,d5,d6,e0,e1,e2,e3,e4,e5,e6⟩
   clear d0 d1 d2 d3 d4 d5 d6 e0 e1 e2 e3 e4 e5 e6;have HM:=hid HQ.o.1;clear HQ;go_wp2_with fail
   go_region_held3 (fun w'=>w'.cell? (aD b (off+m*7))=some (.i ms[m].no)/\w'.cell? (aD b (off+m*7+1))=some (.s ms[m].to)/\w'.cell? (aD b (off+m*7+2))=some (.s ms[m].gb)/\w'.cell? (aD b (off+m*7+3))=some (.l p0 ms[m].r.vs.length p1)/\w'.cell? (aD b (off+m*7+4))=some (.s ms[m].r.kd)/\w'.cell? (aD b (off+m*7+5))=some (.s ms[m].r.tm)/\w'.cell? (aD b (off+m*7+6))=some (.s ms[m].r.px)/\w'.cell? (aD b (off+(m+1)*7))=some (.i ms[m+1].no)/\w'.cell? (aD b (off+(m+1)*7+1))=some (.s ms[m+1].to)/\w'.cell? (aD b (off+(m+1)*7+2))=some (.s ms[m+1].gb)/\w'.cell? (aD b (off+(m+1)*7+3))=some (.l q0 ms[m+1].r.vs.length q1)/\w'.cell? (aD b (off+(m+1)*7+4))=some (.s ms[m+1].r.kd)/\w'.cell? (aD b (off+(m+1)*7+5))=some (.s ms[m+1].r.tm)/\w'.cell? (aD b (off+(m+1)*7+6))=some (.s ms[m+1].r.px)) (exact hS) (first|(go_at_call 165;refine(zkA ms[m] ms[m+1] p0 q0 p1 q1 _).mono ?_;rintro e w2⟨rfl,hb2⟩;have hS:=(⟨(hb2.cell (p:=(aD b _)) hb').trans hS.1,(hb2.cell (p:=(aD b _)) hb').trans hS.2.1,(hb2.cell (p:=(aD b _)) hb').trans hS.2.2.1,(hb2.cell (p:=(aD b _)) hb').trans hS.2.2.2.1,(hb2.cell (p:=(aD b _)) hb').trans hS.2.2.2.2.1,(hb2.cell (p:=(aD b _)) hb').trans hS.2.2.2.2.2.1,(hb2.cell (p:=(aD b _)) hb').trans hS.2.2.2.2.2.2.1,(hb2.cell (p:=(aD b _)) hb').trans hS.2.2.2.2.2.2.2.1,(hb2.cell (p:=(aD b _)) hb').trans hS.2.2.2.2.2.2.2.2.1,(hb2.cell (p:=(aD b _)) hb').trans hS.2.2.2.2.2.2.2.2.2.1,(hb2.cell (p:=(aD b _)) hb').trans hS.2.2.2.2.2.2.2.2.2.2.1,(hb2.cell (p:=(aD b _)) hb').trans hS.2.2.2.2.2.2.2.2.2.2.2.1,(hb2.cell (p:=(aD b _)) hb').trans hS.2.2.2.2.2.2.2.2.2.2.2.2.1,(hb2.cell (p:=(aD b _)) hb').trans hS.2.2.2.2.2.2.2.2.2.2.2.2.2⟩:_/\_/\_/\_/\_/\_/\_/\_/\_/\_/\_/\_/\_/\_);have hB2:=HBr.o.drew.trans (hb2.mono HBr.o.drew.size);clear hb2))
   by_cases hk:zcK ms[m] ms[m+1]<0
   ·have HA:=hid (zck HM.o hlt hk)
    have hd:decide (0<=zcK ms[m] ms[m+1])=false:=by simp;omega
    rw[hd];clear hk hd;go_wp2_with fail
    exact⟨⟨m+1,by go_num,by omega,HA.o,hB2⟩,zfp (by omega)⟩
   ·have HA:=hid (zeB hlt hk)
    have hd:decide (0<=zcK ms[m] ms[m+1])=true:=by simp;omega
    rw[hd];clear hk hd;go_wp2_with fail
    go_ret;exact⟨ze HA.o.symm,hB2⟩
  ·have HA:Hid (zaQ zcK ms=true):=zfb HQ.o.1 (by omega)
   have HB:=hid HQ.o.2;clear HQ;go_wp2_with fail
   go_ret;exact⟨ze HA.o.symm,HB.o⟩
theorem ziI (a:OA)(cap:Nat)(ms:List Lg)(w:World)(hw:zc5 w a ms) :
 Calls Tryz.prog 167 #[.l a ms.length cap,.func (.func 168) #[] #[]] w fun e w'=>e=.returned (.bool (zaQ q9 ms))/\Bw w w':=by
 have hl:=hw.len;unfold maxLen at hl;have HW:=hid hw;clear hw;go_enter Tryz.func167,Tryz.ntmps167;go_wp2_with fail
 go_loopw [5] (fun iv wr=>∃m:Nat,iv=.i ((m:Int)+1)/\m<=ms.length/\Hid (zaa q9 ms (m+1)/\Bw w wr)) (fun iv _=>ms.length+1-(intOf iv).toNat)
 case atStart=>exact⟨0,rfl,Nat.zero_le _,fun i h h'=>by omega,bRf _ _⟩
 case round=>
  obtain⟨m,rfl,hml,HQ⟩:=hrel
  by_cases hlt:m+1<ms.length
  ·have hm:m<ms.length:=by omega
   obtain⟨b,off,rfl,hb,d0,d1,d2,d3⟩:=HW.o.load HQ.o.2 m hm;obtain⟨b2,off2,ha2,hbq,e0,e1,e2,e3⟩:=HW.o.load HQ.o.2 (m+1) hlt
   obtain⟨rfl,rfl⟩:b=b2/\off=off2:=by
    have h:=ha2
    simpa using h
   have hb':=nLt hb HQ.o.2.size;have hltI:(m:Int)+1<(ms.length:Int):=by omega
   have h0m:(0:Int)<=(m:Int):=by omega
   have h01:(0:Int)<=(m:Int)+1:=by omega
   have hsub:IntKind.i64.wrap ((m:Int)+1-1)=(m:Int):=by rw[IntKind.wrap_i64];omega
   have hsub2:IntKind.i64.wrap (m:Int)=(m:Int):=by rw[IntKind.wrap_i64];omega
   have hsub3:wrap64 (m:Int)=(m:Int):=by unfold wrap64;omega
   have htn:((m:Int)+1).toNat=m+1:=by omega
   have hlmI:(m:Int)<(ms.length:Int):=by omega
   have HBr:=hid HQ.o.2;have hS:wr.drew.cell? (aD b (off+m*4))=some (.s ms[m].tm)/\wr.drew.cell? (aD b (off+m*4+1))=some (.s ms[m].rs)/\wr.drew.cell? (aD b (off+m*4+2))=some (.i ms[m].mo)/\wr.drew.cell? (aD b (off+m*4+3))=some (.i ms[m].fr)/\wr.drew.cell? (aD b (off+(m+1)*4))=some (.s ms[m+1].tm)/\wr.drew.cell? (aD b (off+(m+1)*4+1))=some (.s ms[m+1].rs)/\wr.drew.cell? (aD b (off+(m+1)*4+2))=some (.i ms[m+1].mo)/\wr.drew.cell? (aD b (off+(m+1)*4+3))=some (.i ms[m+1].fr):=⟨d0,d1,d2,d3,e0,e1,e2,e3⟩
   clear d0 d1 d2 d3 e0 e1 e2 e3;have HM:=hid HQ.o.1;clear HQ;go_wp2_with fail
   go_region_held3 (fun w'=>w'.cell? (aD b (off+m*4))=some (.s ms[m].tm)/\w'.cell? (aD b (off+m*4+1))=some (.s ms[m].rs)/\w'.cell? (aD b (off+m*4+2))=some (.i ms[m].mo)/\w'.cell? (aD b (off+m*4+3))=some (.i ms[m].fr)/\w'.cell? (aD b (off+(m+1)*4))=some (.s ms[m+1].tm)/\w'.cell? (aD b (off+(m+1)*4+1))=some (.s ms[m+1].rs)/\w'.cell? (aD b (off+(m+1)*4+2))=some (.i ms[m+1].mo)/\w'.cell? (aD b (off+(m+1)*4+3))=some (.i ms[m+1].fr)) (exact hS) (first|(go_at_call 168;refine(zcH ms[m] ms[m+1] _).mono ?_;rintro e w2⟨rfl,hb2⟩;have hS:=(⟨(hb2.cell (p:=(aD b _)) hb').trans hS.1,(hb2.cell (p:=(aD b _)) hb').trans hS.2.1,(hb2.cell (p:=(aD b _)) hb').trans hS.2.2.1,(hb2.cell (p:=(aD b _)) hb').trans hS.2.2.2.1,(hb2.cell (p:=(aD b _)) hb').trans hS.2.2.2.2.1,(hb2.cell (p:=(aD b _)) hb').trans hS.2.2.2.2.2.1,(hb2.cell (p:=(aD b _)) hb').trans hS.2.2.2.2.2.2.1,(hb2.cell (p:=(aD b _)) hb').trans hS.2.2.2.2.2.2.2⟩:_/\_/\_/\_/\_/\_/\_/\_);have hB2:=HBr.o.drew.trans (hb2.mono HBr.o.drew.size);clear hb2))
   by_cases hk:q9 ms[m] ms[m+1]<0
   ·have HA:=hid (zck HM.o hlt hk)
    have hd:decide (0<=q9 ms[m] ms[m+1])=false:=by simp;omega
    rw[hd];clear hk hd;go_wp2_with fail
    exact⟨⟨m+1,by go_num,by omega,HA.o,hB2⟩,zfp (by omega)⟩
   ·have HA:=hid (zeB hlt hk)
    have hd:decide (0<=q9 ms[m] ms[m+1])=true:=by simp;omega
    rw[hd];clear hk hd;go_wp2_with fail
    go_ret;exact⟨ze HA.o.symm,hB2⟩
  ·have HA:Hid (zaQ q9 ms=true):=zfb HQ.o.1 (by omega)
   have HB:=hid HQ.o.2;clear HQ;go_wp2_with fail
   go_ret;exact⟨ze HA.o.symm,HB.o⟩
theorem zjq (a:OA)(cap:Nat)(ms:List Pu)(w:World)(hw:zdV w a ms) :
 Calls Tryz.prog 170 #[.l a ms.length cap,.func (.func 171) #[] #[]] w fun e w'=>e=.returned (.bool (zaQ zaF ms))/\Bw w w':=by
 have hl:=hw.len;unfold maxLen at hl;have HW:=hid hw;clear hw;go_enter Tryz.func170,Tryz.ntmps170;go_wp2_with fail
 go_loopw [5] (fun iv wr=>∃m:Nat,iv=.i ((m:Int)+1)/\m<=ms.length/\Hid (zaa zaF ms (m+1)/\Bw w wr)) (fun iv _=>ms.length+1-(intOf iv).toNat)
 case atStart=>exact⟨0,rfl,Nat.zero_le _,fun i h h'=>by omega,bRf _ _⟩
 case round=>
  obtain⟨m,rfl,hml,HQ⟩:=hrel
  by_cases hlt:m+1<ms.length
  ·have hm:m<ms.length:=by omega
   obtain⟨b,off,rfl,hb,d0,d1,d2,d3,d4⟩:=HW.o.load HQ.o.2 m hm;obtain⟨b2,off2,ha2,hbq,e0,e1,e2,e3,e4⟩:=HW.o.load HQ.o.2 (m+1) hlt
   obtain⟨rfl,rfl⟩:b=b2/\off=off2:=by
    have h:=ha2
    simpa using h
   have hb':=nLt hb HQ.o.2.size;have hltI:(m:Int)+1<(ms.length:Int):=by omega
   have h0m:(0:Int)<=(m:Int):=by omega
   have h01:(0:Int)<=(m:Int)+1:=by omega
   have hsub:IntKind.i64.wrap ((m:Int)+1-1)=(m:Int):=by rw[IntKind.wrap_i64];omega
   have hsub2:IntKind.i64.wrap (m:Int)=(m:Int):=by rw[IntKind.wrap_i64];omega
   have hsub3:wrap64 (m:Int)=(m:Int):=by unfold wrap64;omega
   have htn:((m:Int)+1).toNat=m+1:=by omega
   have hlmI:(m:Int)<(ms.length:Int):=by omega
   have HBr:=hid HQ.o.2;have hS:wr.drew.cell? (aD b (off+m*5))=some (.s ms[m].dr)/\wr.drew.cell? (aD b (off+m*5+1))=some (.s ms[m].tm)/\wr.drew.cell? (aD b (off+m*5+2))=some (.s ms[m].rs)/\wr.drew.cell? (aD b (off+m*5+3))=some (.i ms[m].am)/\wr.drew.cell? (aD b (off+m*5+4))=some (.i ms[m].un)/\wr.drew.cell? (aD b (off+(m+1)*5))=some (.s ms[m+1].dr)/\wr.drew.cell? (aD b (off+(m+1)*5+1))=some (.s ms[m+1].tm)/\wr.drew.cell? (aD b (off+(m+1)*5+2))=some (.s ms[m+1].rs)/\wr.drew.cell? (aD b (off+(m+1)*5+3))=some (.i ms[m+1].am)/\wr.drew.cell? (aD b (off+(m+1)*5+4))=some (.i ms[m+1].un):=⟨d0,d1,d2,d3,d4,e0,e1,e2,e3,e4⟩
   clear d0 d1 d2 d3 d4 e0 e1 e2 e3 e4;have HM:=hid HQ.o.1;clear HQ;go_wp2_with fail
   go_region_held3 (fun w'=>w'.cell? (aD b (off+m*5))=some (.s ms[m].dr)/\w'.cell? (aD b (off+m*5+1))=some (.s ms[m].tm)/\w'.cell? (aD b (off+m*5+2))=some (.s ms[m].rs)/\w'.cell? (aD b (off+m*5+3))=some (.i ms[m].am)/\w'.cell? (aD b (off+m*5+4))=some (.i ms[m].un)/\w'.cell? (aD b (off+(m+1)*5))=some (.s ms[m+1].dr)/\w'.cell? (aD b (off+(m+1)*5+1))=some (.s ms[m+1].tm)/\w'.cell? (aD b (off+(m+1)*5+2))=some (.s ms[m+1].rs)/\w'.cell? (aD b (off+(m+1)*5+3))=some (.i ms[m+1].am)/\w'.cell? (aD b (off+(m+1)*5+4))=some (.i ms[m+1].un)) (exact hS) (first|(go_at_call 171;refine(zj1 ms[m] ms[m+1] _).mono ?_;rintro e w2⟨rfl,hb2⟩;have hS:=(⟨(hb2.cell (p:=(aD b _)) hb').trans hS.1,(hb2.cell (p:=(aD b _)) hb').trans hS.2.1,(hb2.cell (p:=(aD b _)) hb').trans hS.2.2.1,(hb2.cell (p:=(aD b _)) hb').trans hS.2.2.2.1,(hb2.cell (p:=(aD b _)) hb').trans hS.2.2.2.2.1,(hb2.cell (p:=(aD b _)) hb').trans hS.2.2.2.2.2.1,(hb2.cell (p:=(aD b _)) hb').trans hS.2.2.2.2.2.2.1,(hb2.cell (p:=(aD b _)) hb').trans hS.2.2.2.2.2.2.2.1,(hb2.cell (p:=(aD b _)) hb').trans hS.2.2.2.2.2.2.2.2.1,(hb2.cell (p:=(aD b _)) hb').trans hS.2.2.2.2.2.2.2.2.2⟩:_/\_/\_/\_/\_/\_/\_/\_/\_/\_);have hB2:=HBr.o.drew.trans (hb2.mono HBr.o.drew.size);clear hb2))
   by_cases hk:zaF ms[m] ms[m+1]<0
   ·have HA:=hid (zck HM.o hlt hk)
    have hd:decide (0<=zaF ms[m] ms[m+1])=false:=by simp;omega
    rw[hd];clear hk hd;go_wp2_with fail
    exact⟨⟨m+1,by go_num,by omega,HA.o,hB2⟩,zfp (by omega)⟩
   ·have HA:=hid (zeB hlt hk)
    have hd:decide (0<=zaF ms[m] ms[m+1])=true:=by simp;omega
    rw[hd];clear hk hd;go_wp2_with fail
    go_ret;exact⟨ze HA.o.symm,hB2⟩
  ·have HA:Hid (zaQ zaF ms=true):=zfb HQ.o.1 (by omega)
   have HB:=hid HQ.o.2;clear HQ;go_wp2_with fail
   go_ret;exact⟨ze HA.o.symm,HB.o⟩
theorem zg0 (l:Lw)(la lb lc:OA)(lca lcb lcc:Nat)(b:Bk)(a0 a1 a2 a3:OA)(c0 c1 c2 c3:Nat)(team res:BA)(w:World)(hl:yH w l la lb lc)(hb:jU w b a0 a1 a2 a3)(hz:qR b.os<=1048576) :
 Calls Tryz.prog 104 #[.agg (l.cells la lb lc lca lcb lcc),.agg (b.cells a0 a1 a2 a3 c0 c1 c2 c3),.s team,.s res] w fun e w'=>e=.returned (.i (used l b.os team res))/\Bw w w':=by
 have HL:Hid (yH w l la lb lc):=hl;have HK:Hid (jU w b a0 a1 a2 a3):=hb;have HZ:Hid (qR b.os<=1048576/\b.os.length<=1048576):=⟨hz,by unfold qR at hz;omega⟩
 clear hl hb hz;unfold Lw.cells Bk.cells;go_enter Tryz.func104,Tryz.ntmps104;go_wp2_with fail
 obtain⟨hX0,hY0⟩:=jC w #[.l la l.ss.length lca,.l lb l.ms.length lcb,.l lc l.ts.length lcc] (bC b a0 a1 a2 a3 c0 c1 c2 c3) 44 51;have HB0:Hid (Bw w ((w.alloc (.cells #[.l la l.ss.length lca,.l lb l.ms.length lcb,.l lc l.ts.length lcc] 44)).alloc (.cells (bC b a0 a1 a2 a3 c0 c1 c2 c3) 51))):=zx w _ _;obtain⟨W0,hW0⟩:=xN ((w.alloc (.cells #[.l la l.ss.length lca,.l lb l.ms.length lcb,.l lc l.ts.length lcc] 44)).alloc (.cells (bC b a0 a1 a2 a3 c0 c1 c2 c3) 51));have hz0:w.heap.size+1<W0.heap.size:=by rw[hW0];simp
 rw[<- hW0]at HB0 hX0 hY0 ⊢;clear hW0
 go_loopw [9,10] (fun nv iv wr=>∃(k:Nat) (s:Int),k<=b.os.length/\iv=.i k/\nv=.i s/\Hid (s=zaN l b.os team res k/\Bw W0 wr)) (fun _ iv _=>b.os.length-(intOf iv).toNat)
 case atStart=>exact⟨0,0,Nat.zero_le _,rfl,rfl,by simp[zaN],bRf _ _⟩
 case round=>
  obtain⟨k,s,hk,rfl,rfl,HQ⟩:=hrel
  have hsb:0<=s/\s<=20000000000000:=by
   have h1:=HQ.o.1;have h2:=zcr l b.os team res k hk;have h3:=HZ.o;have h4:zbm (b.os.take k)<=zbm b.os:=zbO Ob.sz b.os k;unfold qR at h3;omega
  have hX:=za hX0 (nSl hz0) HQ.o.2;have hY:=za hY0 hz0 HQ.o.2;have hz:=nLt hz0 HQ.o.2.size;have hzX:=nSl hz;have hkn:k<=1048576:=by have:=HZ.o.2;omega
  by_cases hlt:k<b.os.length
  ·obtain⟨ob,off,v0,v1,q0,q1,rfl,hob,hsm,hl0,hl1,d0,d1,d2,d3,d4,d5,d6⟩:=HK.o.os.load (HB0.o.trans (HQ.o.2.mono HB0.o.size)) k hlt
   have hob':=nLt hob (HB0.o.trans (HQ.o.2.mono HB0.o.size)).size;have hltI:(k:Int)<(b.os.length:Int):=by omega
   have HSt:Hid (zaN l b.os team res (k+1)=zaN l b.os team res k+zbS l team res b.os[k]):=zgd l b.os team res k hlt;have HOo:Hid (zab wr b.os[k] v0 v1):=⟨hsm,hl0,hl1⟩
   have HOl:Hid (b.os[k].vs.length<=1048576):=by
    have h3:=HZ.o.1
    have:=(zmy (left:=1048576) (ms:=b.os) (by omega) (by omega)).2 k hlt
    exact this.1
   have hwb:=zgS l.ss b.os[k] res HOl.o;have HBr:Hid (Bw w wr):=HB0.o.trans (HQ.o.2.mono HB0.o.size);clear hsm hl0 hl1;go_wp2_with fail
   have HS:Hid ((∀j,wr.cell? (aD w.heap.size j)=(#[.l la l.ss.length lca,.l lb l.ms.length lcb,.l lc l.ts.length lcc]:AV)[j]?)/\(∀j,wr.cell? (aD (w.heap.size+1) j)=((bC b (some (aD ob off)) a1 a2 a3 c0 c1 c2 c3):AV)[j]?)/\wr.cell? (aD ob (off+k*7))=some (.s b.os[k].kd)/\wr.cell? (aD ob (off+k*7+1))=some (.s b.os[k].nm)/\wr.cell? (aD ob (off+k*7+2))=some (.s b.os[k].tm)/\wr.cell? (aD ob (off+k*7+3))=some (.l v0 b.os[k].vs.length q0)/\wr.cell? (aD ob (off+k*7+4))=some (.bool b.os[k].en)/\wr.cell? (aD ob (off+k*7+5))=some (.l v1 b.os[k].hs.length q1)/\wr.cell? (aD ob (off+k*7+6))=some (.i b.os[k].vr)):=⟨hX,hY,d0,d1,d2,d3,d4,d5,d6⟩
   have hS:(∀j,wr.drew.cell? (aD w.heap.size j)=(#[.l la l.ss.length lca,.l lb l.ms.length lcb,.l lc l.ts.length lcc]:AV)[j]?)/\(∀j,wr.drew.cell? (aD (w.heap.size+1) j)=((bC b (some (aD ob off)) a1 a2 a3 c0 c1 c2 c3):AV)[j]?)/\wr.drew.cell? (aD ob (off+k*7))=some (.s b.os[k].kd)/\wr.drew.cell? (aD ob (off+k*7+1))=some (.s b.os[k].nm)/\wr.drew.cell? (aD ob (off+k*7+2))=some (.s b.os[k].tm)/\wr.drew.cell? (aD ob (off+k*7+3))=some (.l v0 b.os[k].vs.length q0)/\wr.drew.cell? (aD ob (off+k*7+4))=some (.bool b.os[k].en)/\wr.drew.cell? (aD ob (off+k*7+5))=some (.l v1 b.os[k].hs.length q1)/\wr.drew.cell? (aD ob (off+k*7+6))=some (.i b.os[k].vr):=HS.o;clear hX hY d0 d1 d2 d3 d4 d5 d6
   go_region_held3 (fun w'=>(∀j,w'.cell? (aD w.heap.size j)=(#[.l la l.ss.length lca,.l lb l.ms.length lcb,.l lc l.ts.length lcc]:AV)[j]?)/\(∀j,w'.cell? (aD (w.heap.size+1) j)=(#[.i b.now,.i b.tick,.i b.given,.l (some (aD ob off)) b.os.length c0,.l a1 b.gs.length c1,.l a2 b.ls.length c2,.l a3 b.ps.length c3]:AV)[j]?)/\w'.cell? (aD ob (off+k*7))=some (.s b.os[k].kd)/\w'.cell? (aD ob (off+k*7+1))=some (.s b.os[k].nm)/\w'.cell? (aD ob (off+k*7+2))=some (.s b.os[k].tm)/\w'.cell? (aD ob (off+k*7+3))=some (.l v0 b.os[k].vs.length q0)/\w'.cell? (aD ob (off+k*7+4))=some (.bool b.os[k].en)/\w'.cell? (aD ob (off+k*7+5))=some (.l v1 b.os[k].hs.length q1)/\w'.cell? (aD ob (off+k*7+6))=some (.i b.os[k].vr)) (exact hS) (first|(go_at_call 63;refine(zbg _ _ l.ts b.os[k].tm team _ (by exact HL.o.ts.mono HBr.o.drew)).mono ?_;rintro e w1⟨rfl,rfl⟩))
   obtain⟨w2,hw2⟩:=xN (wr.drew);have hB2:Bw W0 w2:=by rw[hw2];exact HQ.o.2.drew
   have HBr2:Hid (Bw w w2):=by unfold Hid;rw[hw2];exact HBr.o.drew
   have HO2:Hid (zab w2 b.os[k] v0 v1):=by unfold Hid;rw[hw2];exact HOo.o.mono (bRf _ _).drew
   have hS2:(∀j,w2.cell? (aD w.heap.size j)=(#[.l la l.ss.length lca,.l lb l.ms.length lcb,.l lc l.ts.length lcc]:AV)[j]?)/\(∀j,w2.cell? (aD (w.heap.size+1) j)=((bC b (some (aD ob off)) a1 a2 a3 c0 c1 c2 c3):AV)[j]?)/\w2.cell? (aD ob (off+k*7))=some (.s b.os[k].kd)/\w2.cell? (aD ob (off+k*7+1))=some (.s b.os[k].nm)/\w2.cell? (aD ob (off+k*7+2))=some (.s b.os[k].tm)/\w2.cell? (aD ob (off+k*7+3))=some (.l v0 b.os[k].vs.length q0)/\w2.cell? (aD ob (off+k*7+4))=some (.bool b.os[k].en)/\w2.cell? (aD ob (off+k*7+5))=some (.l v1 b.os[k].hs.length q1)/\w2.cell? (aD ob (off+k*7+6))=some (.i b.os[k].vr):=by rw[hw2];exact hS
   have hz2:w.heap.size+1<w2.heap.size:=by rw[hw2];exact hz
   have hzX2:=nSl hz2;have hob2:ob<w2.heap.size:=by rw[hw2];exact hob'
   have HB2:Hid (Bw W0 w2):=hB2;rw[<- hw2];clear hw2 hS HS hB2 hz hzX hob'
   by_cases hu:under l.ts 4 b.os[k].tm team=true
   ·have HU:Hid (zbS l team res b.os[k]=je l.ss b.os[k] res):=by unfold Hid zbS;rw[if_pos hu]
    rw[hu];clear hu;have hS:(∀j,w2.drew.cell? (aD w.heap.size j)=(#[.l la l.ss.length lca,.l lb l.ms.length lcb,.l lc l.ts.length lcc]:AV)[j]?)/\(∀j,w2.drew.cell? (aD (w.heap.size+1) j)=((bC b (some (aD ob off)) a1 a2 a3 c0 c1 c2 c3):AV)[j]?)/\w2.drew.cell? (aD ob (off+k*7))=some (.s b.os[k].kd)/\w2.drew.cell? (aD ob (off+k*7+1))=some (.s b.os[k].nm)/\w2.drew.cell? (aD ob (off+k*7+2))=some (.s b.os[k].tm)/\w2.drew.cell? (aD ob (off+k*7+3))=some (.l v0 b.os[k].vs.length q0)/\w2.drew.cell? (aD ob (off+k*7+4))=some (.bool b.os[k].en)/\w2.drew.cell? (aD ob (off+k*7+5))=some (.l v1 b.os[k].hs.length q1)/\w2.drew.cell? (aD ob (off+k*7+6))=some (.i b.os[k].vr):=hS2;clear hS2;go_wp2_with fail
    go_region_held3 (fun w'=>(∀j,w'.cell? (aD w.heap.size j)=(#[.l la l.ss.length lca,.l lb l.ms.length lcb,.l lc l.ts.length lcc]:AV)[j]?)/\(∀j,w'.cell? (aD (w.heap.size+1) j)=(#[.i b.now,.i b.tick,.i b.given,.l (some (aD ob off)) b.os.length c0,.l a1 b.gs.length c1,.l a2 b.ls.length c2,.l a3 b.ps.length c3]:AV)[j]?)/\w'.cell? (aD ob (off+k*7))=some (.s b.os[k].kd)/\w'.cell? (aD ob (off+k*7+1))=some (.s b.os[k].nm)/\w'.cell? (aD ob (off+k*7+2))=some (.s b.os[k].tm)/\w'.cell? (aD ob (off+k*7+3))=some (.l v0 b.os[k].vs.length q0)/\w'.cell? (aD ob (off+k*7+4))=some (.bool b.os[k].en)/\w'.cell? (aD ob (off+k*7+5))=some (.l v1 b.os[k].hs.length q1)/\w'.cell? (aD ob (off+k*7+6))=some (.i b.os[k].vr)) (exact hS) (first|(go_at_call 143;refine(zjJ l _ _ _ _ _ _ b.os[k] _ _ _ _ res _ (by exact HL.o.mono HBr2.o.drew) (by exact HO2.o.mono (bRf _ _).drew) HOl.o).mono ?_;rintro e w3⟨rfl,hb3⟩;have hS:=(⟨za hS.1 hzX2 hb3,za hS.2.1 hz2 hb3,(hb3.cell (p:=(aD ob _)) hob2).trans hS.2.2.1,(hb3.cell (p:=(aD ob _)) hob2).trans hS.2.2.2.1,(hb3.cell (p:=(aD ob _)) hob2).trans hS.2.2.2.2.1,(hb3.cell (p:=(aD ob _)) hob2).trans hS.2.2.2.2.2.1,(hb3.cell (p:=(aD ob _)) hob2).trans hS.2.2.2.2.2.2.1,(hb3.cell (p:=(aD ob _)) hob2).trans hS.2.2.2.2.2.2.2.1,(hb3.cell (p:=(aD ob _)) hob2).trans hS.2.2.2.2.2.2.2.2⟩:_/\_/\_/\_/\_/\_/\_/\_/\_);have hB3:=HB2.o.drew.trans (hb3.mono HB2.o.drew.size);clear hb3))
    go_wp2_with fail
    refine⟨⟨k+1,s+je l.ss b.os[k] res,by omega,by go_num,?_,by rw[HSt.o,HU.o,HQ.o.1],hB3⟩,zw hlt⟩
    have hw:IntKind.i64.wrap (s+je l.ss b.os[k] res)=s+je l.ss b.os[k] res:=by
     rw[IntKind.wrap_i64];omega
    rw[hw]
   ·have hu':under l.ts 4 b.os[k].tm team=false:=by simpa using hu
    have HU:Hid (zbS l team res b.os[k]=0):=by unfold Hid zbS;rw[if_neg hu]
    rw[hu'];clear hu hu';go_wp2_with fail
    exact⟨⟨k+1,s,by omega,by go_num,rfl,by rw[HSt.o,HU.o,HQ.o.1];omega,HB2.o⟩,zw hlt⟩
  ·have e:k=b.os.length:=by omega
   subst e;have HE:Hid (used l b.os team res=s):=by unfold Hid used;rw[HQ.o.1]
   clear hlt hk;go_wp2_with fail
   go_ret;exact⟨zk HE.o.symm,HB0.o.trans (HQ.o.2.mono HB0.o.size)⟩
end Go.Proofs.YthdfpinbnncghaaGreat
