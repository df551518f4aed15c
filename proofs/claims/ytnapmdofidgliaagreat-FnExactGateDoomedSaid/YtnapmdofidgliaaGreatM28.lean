import Derived.Test.YtnapmdofidgliaaGreatM26
import Derived.Laws.EntriesVeiled
import Derived.Test.YtnapmdofidgliaaGreatM16
import Derived.Test.YtnapmdofidgliaaGreatM27
set_option maxHeartbeats 4000000
namespace Go.Proofs.YtnapmdofidgliaaGreat
open Go.RowKit
def znL (w:World)(a:Option Addr)(n:Nat):Prop:=0<n->∃g,a=some ⟨g,0,none⟩/\g<w.heap.size/\∀q,q<n->w.cell? ⟨g,q,none⟩=some (.int .i64 (q:Int))
set_option maxRecDepth 20000 in
theorem zp4 (s:Shp)(ms:List Mnd)(w0:World)(ma fa ia:Option Addr)(mcap fcap icap bm bs:Nat)(w:World)(hm:qN w0 ma ms)(hf:zY w0 fa s.fs)(hl:ms.length<=1048576)(hn:s.fs.length<=6)
 (hrd:∀q,q<s.fs.length->∀x∈yC s ms q,0<=x/\x<s.fs.length) (hB:Below w0.heap.size w0 w) (hbm:bm<w.heap.size) (hbs:bs<w.heap.size) (hcm:w.cell? ⟨bm,0,none⟩=some (.slice ma ms.length mcap)) (hcs:∀j,w.cell? ⟨bs,j,none⟩=(#[.string s.kd,.slice fa s.fs.length fcap]:Array Value)[j]?)
 (hit:znL w ia s.fs.length) :
 Calls Tryz.prog 187 #[.slice ia s.fs.length icap,.func (.func 188) #[] #[.pointer (some ⟨bm,0,none⟩),.pointer (some ⟨bs,0,none⟩)]] w
  fun e w'=>∃v,e=.returned (.tuple #[v,.bool (zH (zn s ms) s.fs.length).1])/\Below w0.heap.size w0 w'/\((zH (zn s ms) s.fs.length).1=true->w'.ownsRow w.heap.size 3 1 v (zH (zn s ms) s.fs.length).2.row.length (zeJ (zH (zn s ms) s.fs.length).2.row)):=by
 have hmk:∀w:World,(Instr.makeMap 268 none).run Tryz.prog w=.ok (.map (some w.heap.size)) (w.alloc (.map #[] 0)):=fun w=>by kernel_rfl
 go_enter Tryz.func187,Tryz.ntmps187;go_wp2_with fail
 have hb2:Below w.heap.size w ((w.alloc (.map #[] 0)).alloc (.cells #[(.func (.func 188) #[] #[.pointer (some ⟨bm,0,none⟩),.pointer (some ⟨bs,0,none⟩)]),.map (some w.heap.size),.slice none 0 0] 270)):=zw _ _ _;have hs0:=hB.size;obtain⟨c,hceq⟩:∃c,c=(⟨s,ms,w0,ma,fa,mcap,fcap,bm,bs,w.heap.size+1,w.heap.size,w.heap.size+2⟩:WalkC):=⟨_,rfl⟩
 have hc:c.Ok:=by
  subst hceq;exact⟨hm,hf,hl,hn,hrd,by show w0.heap.size<=w.heap.size+1;omega,hs0,by show w.heap.size+1<w.heap.size+2;omega,by show w.heap.size<w.heap.size+2;omega,by show bm<w.heap.size+2;omega,by show bs<w.heap.size+2;omega,by show w.heap.size+1≠w.heap.size;omega,by show bm≠w.heap.size+1;omega,by show bm≠w.heap.size;omega,by show bs≠w.heap.size+1;omega,by show bs≠w.heap.size;omega⟩
 have hW:zau c ((w.alloc (.map #[] 0)).alloc (.cells #[(.func (.func 188) #[] #[.pointer (some ⟨bm,0,none⟩),.pointer (some ⟨bs,0,none⟩)]),.map (some w.heap.size),.slice none 0 0] 270)) jR (.slice none 0 0):=by
  subst hceq;refine⟨hB.trans (hb2.mono hs0),(hb2.cell (p:=⟨bm,0,none⟩) hbm).trans hcm,za hcs hbs hb2,by show w.heap.size+2<=_;simp,(zT _ _ _).2,World.ownsRow_nil _ _ _ _,⟨#[],0,(zT _ _ _).1,fun x hx=>by simp at hx,fun k v hk=>?_,fun i j x y hx=>by simp at hx⟩⟩;unfold zf6 jR at hk
  simp at hk
 have HC:Hid (c.Ok/\c.s=s/\c.ms=ms/\c.w0=w0/\c.p=w.heap.size+1/\c.mr=w.heap.size/\c.lo=w.heap.size+2):=⟨hc,by rw[hceq],by rw[hceq],by rw[hceq],by rw[hceq],by rw[hceq],by rw[hceq]⟩
 have HW:=hid hW;have HRD:Hid (∀p,p<s.fs.length->∀q∈zn s ms p,q<s.fs.length):=by have h:=hc.rd;rw[hceq]at h;exact h
 have HIT:=hid hit;have HN:=hid hn
 have HOP:Hid (∀T,open' s.fs.length T<=s.fs.length):=by
  intro T;unfold open';exact Nat.le_trans (List.length_filter_le _ _) (by simp)
 have HW2:Hid (∃W,W=((w.alloc (.map #[] 0)).alloc (.cells #[(.func (.func 188) #[] #[.pointer (some ⟨bm,0,none⟩),.pointer (some ⟨bs,0,none⟩)]),.map (some w.heap.size),.slice none 0 0] 270))):=⟨_,rfl⟩
 clear hW hc hceq hmk hB hcm hcs hrd hit hs0
 go_loopw [14] (fun iv wr=>∃(j:Nat) (v:Value),j<=s.fs.length/\iv=.int .i64 j/\(zu (down (zn s ms) (s.fs.length+1)) ((List.range s.fs.length).take j) jR).1=true/\zau c wr (zu (down (zn s ms) (s.fs.length+1)) ((List.range s.fs.length).take j) jR).2 v/\Moves c (.slice none 0 0) ((w.alloc (.map #[] 0)).alloc (.cells #[(.func (.func 188) #[] #[.pointer (some ⟨bm,0,none⟩),.pointer (some ⟨bs,0,none⟩)]),.map (some w.heap.size),.slice none 0 0] 270)) v wr) (fun iv _=>s.fs.length-(intOf iv).toNat)
 case atStart=>exact⟨0,_,Nat.zero_le _,rfl,rfl,HW.out,Moves.refl _ _ _⟩
 case round=>
  obtain⟨j,v,hj,rfl,hD,hWr,hMr⟩:=hrel;have HWr:=jC hWr hMr;have HD:=hid hD;clear hWr hMr hD
  by_cases hjl:j<s.fs.length
  ·have HTK:Hid ((List.range s.fs.length).take (j+1)=(List.range s.fs.length).take j++[j]):=by
    unfold Hid;rw[tSe (by simpa using hjl)]
    simp
   obtain⟨g,rfl,hgl,hgc⟩:=HIT.out (by omega)
   have hcell:wr.cell? ⟨g,j,none⟩=some (.int .i64 (j:Int)):=by
    rw[zhK (HWr.out.2.out g (by have:=hb2.size;omega) (by rw[HC.out.2.2.2.2.1];omega) (by rw[HC.out.2.2.2.2.2.1];omega) (by simp[Value.ownBlock]))];exact(hb2.cell (p:=⟨g,j,none⟩) hgl).trans (hgc j hjl)
   have hjI:(j:Int)<(s.fs.length:Int):=by omega
   have HSX:Hid ((zu (down (zn s ms) (s.fs.length+1)) ((List.range s.fs.length).take j) jR).2.row.length+open' s.fs.length (zu (down (zn s ms) (s.fs.length+1)) ((List.range s.fs.length).take j) jR).2<=6):=by
    have h1:=zfI HRD.out (s.fs.length+1) _ jR (fun a ha=>List.mem_range.1 (List.mem_of_mem_take ha)) HD.out;have h2:=HOP.out jR;have h3:jR.row.length=0:=rfl;have h4:=HN.out
    show _<=_
    omega
   have HDA:Hid (Calls Tryz.prog 207 #[.pointer (some ⟨w.heap.size+1,0,none⟩),.int .i64 (j:Int)] wr fun e w'=>∃v',e=.returned (.bool (down (zn s ms) (s.fs.length+1) j (zu (down (zn s ms) (s.fs.length+1)) ((List.range s.fs.length).take j) jR).2).1)/\Below w0.heap.size w0 w'/\((down (zn s ms) (s.fs.length+1) j (zu (down (zn s ms) (s.fs.length+1)) ((List.range s.fs.length).take j) jR).2).1=true->zau c w' (down (zn s ms) (s.fs.length+1) j (zu (down (zn s ms) (s.fs.length+1)) ((List.range s.fs.length).take j) jR).2).2 v'/\Moves c v wr v' w')):=by
    have h:=zqk c HC.out.1 (s.fs.length+1) j (zu (down (zn s ms) (s.fs.length+1)) ((List.range s.fs.length).take j) jR).2 v wr (by rw[HC.out.2.1];exact hjl) (by rw[HC.out.2.1];have:=HOP.out (zu (down (zn s ms) (s.fs.length+1)) ((List.range s.fs.length).take j) jR).2;omega) (by rw[HC.out.2.1];exact HSX.out) HWr.out.1;rw[HC.out.2.1,HC.out.2.2.1,HC.out.2.2.2.1,HC.out.2.2.2.2.1]at h;exact h
   go_wp2_with fail
   refine HDA.out.mono ?_;rintro e w3⟨v3,rfl,hb3,hyes⟩
   by_cases hd:(down (zn s ms) (s.fs.length+1) j (zu (down (zn s ms) (s.fs.length+1)) ((List.range s.fs.length).take j) jR).2).1=true
   ·have HS:Hid ((zu (down (zn s ms) (s.fs.length+1)) ((List.range s.fs.length).take (j+1)) jR)=down (zn s ms) (s.fs.length+1) j (zu (down (zn s ms) (s.fs.length+1)) ((List.range s.fs.length).take j) jR).2):=by unfold Hid;rw[HTK.out,zba,if_pos HD.out]
    have HY:=hid (hyes hd);have HDD:=hid hd;rw[hd];clear hyes hb3 hd hcell hgc HDA;go_wp2_with fail
    exact⟨⟨j+1,v3,by omega,by go_num,by rw[HS.out];exact HDD.out,by rw[HS.out];exact HY.out.1,HWr.out.2.trans HY.out.2⟩,zm hjl⟩
   ·have hdf:(down (zn s ms) (s.fs.length+1) j (zu (down (zn s ms) (s.fs.length+1)) ((List.range s.fs.length).take j) jR).2).1=false:=by simpa using hd
    have HF:Hid ((zH (zn s ms) s.fs.length).1=false):=by
     have h1:(zu (down (zn s ms) (s.fs.length+1)) ((List.range s.fs.length).take (j+1)) jR).1=false:=by rw[HTK.out,zba,if_pos HD.out];exact hdf
     have h2:=zc4 (down (zn s ms) (s.fs.length+1)) ((List.range s.fs.length).take (j+1)) ((List.range s.fs.length).drop (j+1)) jR h1;rw[List.take_append_drop]at h2;exact h2
    have HB3:Hid (Below w0.heap.size w0 w3):=hb3;rw[hdf];clear hyes hb3 hd hdf hcell hgc HDA;go_wp2_with fail
    go_ret2
    exact⟨_,by rw[HF.out];rfl,HB3.out,fun h=>by rw[HF.out]at h;cases h⟩
  ·have e:j=s.fs.length:=by omega
   have hall:(List.range s.fs.length).take j=List.range s.fs.length:=tOl (by simp;omega);rw[hall]at HWr HD;have HY:Hid ((zH (zn s ms) s.fs.length).1=true):=HD.out;have HWW:Hid (zau c wr (zH (zn s ms) s.fs.length).2 v):=HWr.out.1;have hpc:∀k,wr.cell? ⟨w.heap.size+1,k,none⟩=(#[c.fn,.map (some c.mr),v]:Array Value)[k]?:=by have h:=zbA HWW.out.cells;rw[HC.out.2.2.2.2.1]at h;exact h
   obtain⟨va,vcap,hve⟩:=yY HWW.out.row;subst hve;subst e;clear HWr HD hall;go_wp2_with fail
   go_ret2
   refine⟨_,by rw[HY.out];rfl,by have h:=HWW.out.base;rw[HC.out.2.2.2.1]at h;exact h,fun _=>?_⟩;have h:=HWW.out.row;rw[HC.out.2.2.2.2.2.2]at h;exact zaq h (by omega)
def zas (f:Fld)(v:ByteArray):ByteArray:=if v.toList.isEmpty=true then f.df else v
def zal (fs:List Fld)(vs:List ByteArray):List ByteArray:=List.zipWith zas fs vs
def jo (fs:List Fld)(vs:List ByteArray)(k:Nat):List ByteArray:=(zal fs vs).take k++vs.drop k
theorem qR {fs:List Fld}{vs:List ByteArray}(h:vs.length=fs.length):(zal fs vs).length=vs.length:=by simp[zal];omega
theorem zaE {fs:List Fld}{vs:List ByteArray}(h:vs.length=fs.length)(k:Nat):(jo fs vs k).length=vs.length:=by
 simp[jo,qR h];omega
theorem zii (fs:List Fld)(vs:List ByteArray):jo fs vs 0=vs:=by simp[jo]
theorem zjz {fs:List Fld}{vs:List ByteArray}(h:vs.length=fs.length):jo fs vs fs.length=zal fs vs:=by
 unfold jo;rw[tOl (by rw[qR h];omega),List.drop_of_length_le (by omega),List.append_nil]
theorem zft {fs:List Fld}{vs:List ByteArray}(h:vs.length=fs.length)(k:Nat)(hk:k<fs.length):(jo fs vs k)[k]?=vs[k]?:=by
 unfold jo;rw[List.getElem?_append_right (by simp;omega)]
 simp[qR h,Nat.min_eq_left (show k<=vs.length by omega)]
theorem zde {fs:List Fld}{vs:List ByteArray}(h:vs.length=fs.length)(k:Nat)(hk:k<fs.length):jo fs vs (k+1)=(jo fs vs k).set k (zas fs[k] (vs[k]'(by omega))):=by
 have hl:=qR h;have hv:(zal fs vs)[k]'(by omega)=zas fs[k] (vs[k]'(by omega)):=by simp[zal]
 unfold jo;rw[List.set_append_right _ _ (by simp;omega)];have e:k-((zal fs vs).take k).length=0:=by simp;omega
 rw[e,List.drop_eq_getElem_cons (show k<vs.length by omega),List.set_cons_zero,tSe (by omega),hv]
 simp
theorem zx.set {lo:Nat}{w:World}{g:Nat}{ws:List ByteArray}(h:zx lo w (some ⟨g,0,none⟩) ws)(k:Nat)(s:ByteArray):zx lo (w.setCell ⟨g,k,none⟩ (.string s)) (some ⟨g,0,none⟩) (ws.set k s):=by
 rcases h with⟨h0,_⟩|⟨b,C,h0,hg,hh,hc⟩
 ·cases h0
 ·cases h0
  refine Or.inr ⟨g,_,rfl,hg,zk hh _,fun i hi=>?_⟩;have hi':i<ws.length:=by rw[List.length_set]at hi;exact hi
  by_cases e:i=k
  ·subst e
   have hsz:i<C.size:=by
    rcases Nat.lt_or_ge i C.size with h1|h1
    ·exact h1
    ·have:=hc i hi';rw[Array.getElem?_eq_none h1]at this;cases this
   rw[Array.getElem?_setIfInBounds_self_of_lt hsz,List.getElem_set_self]
  ·rw[Array.getElem?_setIfInBounds_ne (fun h=>e h.symm),hc i hi',List.getElem_set_ne (fun h=>e h.symm)]
def zq8 (w:World)(b:Nat)(v0 v1 v2 v3 v4 v5 v6:Value):World:=((((((w.setCell ⟨b,0,none⟩ v0).setCell ⟨b,1,none⟩ v1).setCell ⟨b,2,none⟩ v2).setCell ⟨b,3,none⟩ v3).setCell ⟨b,4,none⟩ v4).setCell ⟨b,5,none⟩ v5).setCell ⟨b,6,none⟩ v6
theorem jT {lo:Nat}{w:World}{a:Option Addr}{ws:List ByteArray}(h:zx lo w a ws)(b:Nat)(hb:b<lo)(v0 v1 v2 v3 v4 v5 v6:Value):zx lo (zq8 w b v0 v1 v2 v3 v4 v5 v6) a ws:=
 ((((((h.setCell _ hb _).setCell _ hb _).setCell _ hb _).setCell _ hb _).setCell _ hb _).setCell _ hb _).setCell _ hb _
theorem zaW {B:Nat}{w0 w:World}(h:Below B w0 w)(b:Nat)(hb:B<=b)(v0 v1 v2 v3 v4 v5 v6:Value):Below B w0 (zq8 w b v0 v1 v2 v3 v4 v5 v6):=
 ((((((h.setCell (p:=⟨b,0,none⟩) hb _).setCell (p:=⟨b,1,none⟩) hb _).setCell (p:=⟨b,2,none⟩) hb _).setCell (p:=⟨b,3,none⟩) hb _).setCell (p:=⟨b,4,none⟩) hb _).setCell (p:=⟨b,5,none⟩) hb _).setCell (p:=⟨b,6,none⟩) hb _
def zlK (c p:Int):Value:=if c=0 then .nilIface else .iface 281 (.agg #[.int .i64 c,.int .i64 p])
theorem zi1 (w:World):Calls Tryz.prog 222 #[.bool true] w fun e w'=>e=.returned .nilIface/\w'=w:=by
 go_enter Tryz.func222,Tryz.ntmps222
 go_wp2
 go_ret;exact⟨rfl,rfl⟩
theorem zjm (w:World):Calls Tryz.prog 222 #[.bool false] w fun e w'=>e=.returned (.iface 281 (.agg #[.int .i64 1,.int .i64 0]))/\w'=w:=by
 go_enter Tryz.func222,Tryz.ntmps222
 go_wp2
 go_ret;exact⟨rfl,rfl⟩
def jO (b:Bool):Value:=if b then .nilIface else .iface 281 (.agg #[.int .i64 1,.int .i64 0])
theorem jA (b:Bool)(w:World):Calls Tryz.prog 222 #[.bool b] w fun e w'=>e=.returned (jO b)/\w'=w:=by
 cases b
 ·exact zjm w
 ·exact zi1 w
theorem zdd {a b:Bool}(h:a=b):Ending.returned (jO a)=.returned (jO b):=by rw[h]
theorem zfc (a0:Option Addr)(cap0:Nat)(ss:List Shp)(o:Ob)(a a':Option Addr)(cap cap':Nat)(w:World)(ho:jK w o a a') :
 Calls Tryz.prog 210 #[.slice a0 ss.length cap0,.agg #[.string o.kd,.string o.nm,.string o.tm,.slice a o.vs.length cap,.bool o.en,.slice a' o.hs.length cap',.int .i64 o.vr]] w fun e w'=>e=.returned (jO (qH o))/\Below w.heap.size w w':=by
 have h1:=ho.small.nm;have h2:=ho.small.tm
 by_cases hn:zB o.nm=true
 ·have HN:Hid (zB o.nm=true):=hn
  clear hn ho;go_enter Tryz.func210,Tryz.ntmps210;go_wp2_with fail
  refine(zf HN.out (zF _ _ h1)).mono ?_;rintro e w1⟨rfl,rfl⟩;go_wp2_with fail
  refine(zF _ _ h2).mono ?_;rintro e w1⟨rfl,rfl⟩;go_wp2_with fail
  refine(jA _ _).mono ?_;rintro e w1⟨rfl,rfl⟩;go_wp2_with fail
  go_ret;exact⟨zdd (by unfold qH;rw[HN.out];rfl),bAl _ _⟩
 ·have HN:Hid (zB o.nm=false):=by simpa[Hid] using hn
  clear hn ho;go_enter Tryz.func210,Tryz.ntmps210;go_wp2_with fail
  refine(zf HN.out (zF _ _ h1)).mono ?_;rintro e w1⟨rfl,rfl⟩;go_wp2_with fail
  refine(jA _ _).mono ?_;rintro e w1⟨rfl,rfl⟩;go_wp2_with fail
  go_ret;exact⟨zdd (a:=false) (b:=qH o) (by unfold qH;rw[HN.out];rfl),bAl _ _⟩
theorem zfl (a0:Option Addr)(cap0:Nat)(ss:List Shp)(o:Ob)(a a':Option Addr)(cap cap':Nat)(w:World)(ho:jK w o a a') :
 Calls Tryz.prog 211 #[.slice a0 ss.length cap0,.agg #[.string o.kd,.string o.nm,.string o.tm,.slice a o.vs.length cap,.bool o.en,.slice a' o.hs.length cap',.int .i64 o.vr]] w fun e w'=>e=.returned (jO (q8 o))/\Below w.heap.size w w':=by
 have hl:=ho.holds.len;unfold maxLen at hl
 by_cases h3:o.hs.length<=3
 ·go_enter Tryz.func211,Tryz.ntmps211
  go_wp2_with fail
  refine(zkp _ _ _ _ (ho.holds.mono (bAl _ _))).mono ?_;rintro e w1⟨rfl,rfl⟩;go_wp2_with fail
  refine(jA _ _).mono ?_;rintro e w1⟨rfl,rfl⟩;go_wp2_with fail
  go_ret;exact⟨zdd (by unfold q8;rw[decide_eq_true h3];rfl),bAl _ _⟩
 ·go_enter Tryz.func211,Tryz.ntmps211
  go_wp2_with fail
  refine(jA _ _).mono ?_;rintro e w1⟨rfl,rfl⟩;go_wp2_with fail
  go_ret;exact⟨zdd (a:=false) (b:=q8 o) (by unfold q8;rw[decide_eq_false (show ¬o.hs.length<=3 by omega)];rfl),bAl _ _⟩
theorem zdJ (a0:Option Addr)(cap0:Nat)(ss:List Shp)(o:Ob)(a a':Option Addr)(cap cap':Nat)(w:World) :
 Calls Tryz.prog 212 #[.slice a0 ss.length cap0,.agg #[.string o.kd,.string o.nm,.string o.tm,.slice a o.vs.length cap,.bool o.en,.slice a' o.hs.length cap',.int .i64 o.vr]] w fun e w'=>e=.returned (jO (qz o))/\Below w.heap.size w w':=by
 by_cases h0:0<=o.vr
 ·have HV:Hid (qz o=decide (o.vr<=1000000)):=by unfold Hid qz;rw[decide_eq_true h0];rfl
  go_enter Tryz.func212,Tryz.ntmps212
  go_wp2_with (go_at_call 222;refine(jA _ _).mono ?_;rintro e w1⟨rfl,rfl⟩)
  go_ret;exact⟨zdd HV.out.symm,bAl _ _⟩
 ·have HV:Hid (qz o=false):=by unfold Hid qz;rw[decide_eq_false h0];rfl
  go_enter Tryz.func212,Tryz.ntmps212
  go_wp2_with (go_at_call 222;refine(jA _ _).mono ?_;rintro e w1⟨rfl,rfl⟩)
  go_ret;exact⟨zdd HV.out.symm,bAl _ _⟩
theorem zfg (a0:Option Addr)(cap0:Nat)(ss:List Shp)(o:Ob)(a a':Option Addr)(cap cap':Nat)(w:World)(hw:yU w a0 ss)(_ho:jK w o a a') :
 Calls Tryz.prog 213 #[.slice a0 ss.length cap0,.agg #[.string o.kd,.string o.nm,.string o.tm,.slice a o.vs.length cap,.bool o.en,.slice a' o.hs.length cap',.int .i64 o.vr]] w fun e w'=>e=.returned (jO (zy ss o))/\Below w.heap.size w w':=by
 by_cases hk:zG ss o.kd=true
 all_goals
  first
   | (have HK:Hid (zG ss o.kd=true):=hk)
   | (have HK:Hid (zG ss o.kd=false):=by simpa[Hid] using hk)
  clear hk;go_enter Tryz.func213,Tryz.ntmps213;go_wp2_with fail
  refine(qJ _ _ _ _ _ (hw.mono (bAl _ _))).mono ?_;rintro e w1⟨fa,fcap,rfl,_,hb1⟩;rw[HK.out];have hX1:=za (zl w _ _) (by simp) hb1;have hz1:w.heap.size<w1.heap.size:=by have:=hb1.size;simp at this;omega
  have hB1:Below w.heap.size w w1:=(bAl _ _).trans (hb1.mono (by simp));clear hb1
  go_wp2_with (go_at_call 222;refine(jA _ _).mono ?_;rintro e w2⟨rfl,rfl⟩)
  go_ret
 ·refine⟨zdd ?_,hB1.alloc (by omega) _⟩
  unfold zy;rw[HK.out];rw[Bool.eq_iff_iff];simp;omega
 ·refine⟨zdd (a:=false) (b:=zy ss o) ?_,hB1.alloc (by omega) _⟩
  unfold zy;rw[HK.out];rfl
def zaN (b:Bk):Bool:=within b.now 0 1000000&&(within b.tick 0 1000000&&within b.given 0 b.now)
def yx (given:Int)(g:Gr):Bool:=within g.no 1 given&&(zB g.to&&((g.gb.toList.isEmpty||zB g.gb)&&zS g.r))
noncomputable def yK (b:Bk):Bool:=decide (b.gs.length<=24)&&(zbZ zcw b.gs&&b.gs.all (yx b.given))
def yJ (ts:List Tm)(g:Lg):Bool:=yG ts g.tm&&(zB g.rs&&jF g.fr g.mo 0 1000000)
noncomputable def yV (ts:List Tm)(b:Bk):Bool:=decide (b.ls.length<=10)&&(zbZ qP b.ls&&b.ls.all (yJ ts))
theorem zkE (b:Bk)(a0 a1 a2 a3:Option Addr)(c0 c1 c2 c3:Nat)(w:World) :
 Calls Tryz.prog 116 #[.agg (b.cells a0 a1 a2 a3 c0 c1 c2 c3)] w fun e w'=>e=.returned (.bool (zaN b))/\Below w.heap.size w w':=by
 have HB:Hid (∀ob,Below w.heap.size w (w.alloc ob)):=fun ob=>bAl _ _
 unfold Bk.cells
 by_cases h1:within b.now 0 1000000=true
 rotate_left
 ·have h1':within b.now 0 1000000=false:=by simpa using h1
  have HF:Hid (zaN b=false):=by unfold Hid zaN;rw[h1'];rfl
  have H1:Hid (∀W,Calls Tryz.prog 152 #[.int .i64 b.now,.int .i64 0,.int .i64 1000000] W fun e w'=>e=.returned (.bool false)/\w'=W):=fun W=>zf h1' (jg _ _ _ W)
  clear h1 h1';go_enter Tryz.func116,Tryz.ntmps116
  go_wp2_with (go_at_call 152;refine(H1.out _).mono ?_;rintro e w2⟨rfl,rfl⟩)
  go_ret;exact⟨ze HF.out.symm,HB.out _⟩
 by_cases h2:within b.tick 0 1000000=true
 rotate_left
 ·have h2':within b.tick 0 1000000=false:=by simpa using h2
  have HF:Hid (zaN b=false):=by unfold Hid zaN;rw[h1,h2'];rfl
  have H1:Hid (∀W,Calls Tryz.prog 152 #[.int .i64 b.now,.int .i64 0,.int .i64 1000000] W fun e w'=>e=.returned (.bool true)/\w'=W):=fun W=>zf h1 (jg _ _ _ W)
  have H2:Hid (∀W,Calls Tryz.prog 152 #[.int .i64 b.tick,.int .i64 0,.int .i64 1000000] W fun e w'=>e=.returned (.bool false)/\w'=W):=fun W=>zf h2' (jg _ _ _ W)
  clear h1 h2 h2';go_enter Tryz.func116,Tryz.ntmps116;go_wp2_with fail
  refine(H1.out _).mono ?_;rintro e w2⟨rfl,rfl⟩;go_wp2_with fail
  refine(H2.out _).mono ?_;rintro e w2⟨rfl,rfl⟩;go_wp2_with fail
  go_ret;exact⟨ze HF.out.symm,HB.out _⟩
 ·have HF:Hid (zaN b=within b.given 0 b.now):=by unfold Hid zaN;rw[h1,h2];rfl
  have H1:Hid (∀W,Calls Tryz.prog 152 #[.int .i64 b.now,.int .i64 0,.int .i64 1000000] W fun e w'=>e=.returned (.bool true)/\w'=W):=fun W=>zf h1 (jg _ _ _ W)
  have H2:Hid (∀W,Calls Tryz.prog 152 #[.int .i64 b.tick,.int .i64 0,.int .i64 1000000] W fun e w'=>e=.returned (.bool true)/\w'=W):=fun W=>zf h2 (jg _ _ _ W)
  clear h1 h2;go_enter Tryz.func116,Tryz.ntmps116;go_wp2_with fail
  refine(H1.out _).mono ?_;rintro e w2⟨rfl,rfl⟩;go_wp2_with fail
  refine(H2.out _).mono ?_;rintro e w2⟨rfl,rfl⟩;go_wp2_with fail
  refine(jg _ _ _ _).mono ?_;rintro e w2⟨rfl,rfl⟩;go_wp2_with fail
  go_ret;exact⟨ze HF.out.symm,HB.out _⟩
theorem zkG (b:Bk)(a0 a1 a2 a3:Option Addr)(c0 c1 c2 c3:Nat)(w:World)(hb:jk w b a0 a1 a2 a3) :
 Calls Tryz.prog 118 #[.agg (b.cells a0 a1 a2 a3 c0 c1 c2 c3)] w fun e w'=>e=.returned (.bool (yK b))/\Below w.heap.size w w':=by
 have HK:=hid hb;clear hb;unfold Bk.cells
 by_cases hln:b.gs.length<=24
 rotate_left
 ·have HF:Hid (yK b=false):=by unfold Hid yK;rw[decide_eq_false hln];rfl
  have hg:(24:Int)<(b.gs.length:Int):=by omega
  go_enter Tryz.func118,Tryz.ntmps118;go_wp2_with fail
  go_ret;exact⟨ze HF.out.symm,bAl _ _⟩
 have hg:decide ((24:Int)<(b.gs.length:Int))=false:=by simp;omega
 have HLN:Hid (b.gs.length<=24):=hln;clear hln;go_enter Tryz.func118,Tryz.ntmps118;go_wp2_with fail
 have hX0:=zl w #[.int .i64 b.now,.int .i64 b.tick,.int .i64 b.given,.slice a0 b.os.length c0,.slice a1 b.gs.length c1,.slice a2 b.ls.length c2,.slice a3 b.ps.length c3] 48;have HB0:Hid (Below w.heap.size w (w.alloc (.cells #[.int .i64 b.now,.int .i64 b.tick,.int .i64 b.given,.slice a0 b.os.length c0,.slice a1 b.gs.length c1,.slice a2 b.ls.length c2,.slice a3 b.ps.length c3] 48))):=bAl _ _;obtain⟨W0,hW0⟩:∃W0,W0=w.alloc (.cells #[.int .i64 b.now,.int .i64 b.tick,.int .i64 b.given,.slice a0 b.os.length c0,.slice a1 b.gs.length c1,.slice a2 b.ls.length c2,.slice a3 b.ps.length c3] 48):=⟨_,rfl⟩
 have hz0:w.heap.size<W0.heap.size:=by rw[hW0];simp
 rw[<- hW0]at HB0 hX0 ⊢;clear hW0;refine(ziG _ _ b.gs _ (HK.out.gs.mono HB0.out)).mono ?_;rintro e w1⟨rfl,hb1⟩;have HB1:=hid (HB0.out.trans (hb1.mono HB0.out.size));have hX1:=za hX0 hz0 hb1;have hz1:=nLt hz0 hb1.size;clear hb1 hX0 hz0 HB0
 by_cases has:zbZ zcw b.gs=true
 rotate_left
 ·have has':zbZ zcw b.gs=false:=by simpa using has
  have HF:Hid (yK b=false):=by unfold Hid yK;rw[has'];simp
  rw[has'];clear has has';go_wp2_with fail
  go_ret;exact⟨ze HF.out.symm,HB1.out⟩
 have HG:Hid (yK b=b.gs.all (yx b.given)):=by unfold Hid yK;rw[has,decide_eq_true HLN.out];rfl
 rw[has];clear has;go_wp2_with fail
 go_loopw [18] (fun iv wr=>∃k:Nat,k<=b.gs.length/\iv=.int .i64 k/\Hid ((b.gs.take k).all (yx b.given)=true/\Below w1.heap.size w1 wr)) (fun iv _=>b.gs.length-(intOf iv).toNat)
 case atStart=>exact⟨0,Nat.zero_le _,rfl,by simp,bRf _ _⟩
 case round=>
  obtain⟨k,hk,rfl,HQ⟩:=hrel;have hkn:k<=24:=by have:=HLN.out;omega
  by_cases hlt:k<b.gs.length
  ·obtain⟨ob,off,v0,q0,rfl,hob,hsm,hi0,d0,d1,d2,d3,d4,d5,d6⟩:=HK.out.gs.load (HB1.out.trans (HQ.out.2.mono HB1.out.size)) k hlt
   have hob':=nLt hob (HB1.out.trans (HQ.out.2.mono HB1.out.size)).size;have hltI:(k:Int)<(b.gs.length:Int):=by omega
   have hX:=za hX1 hz1 HQ.out.2;have hz:w.heap.size<wr.heap.size:=nLt hz1 HQ.out.2.size;have HSn:Hid ((b.gs.take (k+1)).all (yx b.given)=((b.gs.take k).all (yx b.given)&&(yx b.given) b.gs[k])):=qQ _ _ _ hlt;have HBo:Hid (∀ob,Below w1.heap.size w1 (wr.alloc ob)):=fun ob=>HQ.out.2.alloc HQ.out.2.size _
   have HBw:Hid (∀W,Below w1.heap.size w1 W->Below w.heap.size w W):=fun W hW=>HB1.out.trans (hW.mono HB1.out.size)
   have HNo:Hid ((yx b.given) b.gs[k]=false->yK b=false):=fun h=>by rw[HG.out];exact zaD _ _ _ hlt h
   have HYes:Hid ((yx b.given) b.gs[k]=true->(b.gs.take (k+1)).all (yx b.given)=true):=fun h=>by rw[HSn.out,HQ.out.1,h];rfl
   have HIt:=jC hi0 hsm;clear hsm hi0;have HW1:∀v,within b.gs[k].no 1 b.given=v->Hid (∀W,Calls Tryz.prog 152 #[.int .i64 b.gs[k].no,.int .i64 1,.int .i64 b.given] W fun e w'=>e=.returned (.bool v)/\w'=W):=fun v h W=>zf h (jg _ _ _ W)
   have HN1:∀v,zB b.gs[k].to=v->Hid (∀W,Calls Tryz.prog 147 #[.string b.gs[k].to] W fun e w'=>e=.returned (.bool v)/\w'=W):=fun v h W=>zf h (zF _ W HIt.out.2.to)
   have HN2:∀v,zB b.gs[k].gb=v->Hid (∀W,Calls Tryz.prog 147 #[.string b.gs[k].gb] W fun e w'=>e=.returned (.bool v)/\w'=W):=fun v h W=>zf h (zF _ W HIt.out.2.gb)
   have HR1:∀v,zS b.gs[k].r=v->Hid (∀W,Below wr.heap.size wr W->Calls Tryz.prog 159 #[.agg #[.slice v0 b.gs[k].r.vs.length q0,.string b.gs[k].r.kd,.string b.gs[k].r.tm,.string b.gs[k].r.px]] W fun e w'=>e=.returned (.bool v)/\Below W.heap.size W w'):=fun v h W hW=>zf h (zob b.gs[k].r v0 q0 W HIt.out.2.r (HIt.out.1.mono hW))
   by_cases t1:within b.gs[k].no 1 b.given=true
   rotate_left
   ·have HF:Hid (yK b=false):=HNo.out (by unfold yx;rw[bFi t1];rfl)
    have H1:=HW1 false (bFi t1);clear HW1 HN1 HN2 HR1 t1;go_wp2_with fail
    refine(H1.out _).mono ?_;rintro e w2⟨rfl,rfl⟩;go_wp2_with fail
    go_ret;exact⟨ze HF.out.symm,HBw.out _ (HBo.out _)⟩
   have H1:=HW1 true t1
   by_cases t2:zB b.gs[k].to=true
   rotate_left
   ·have HF:Hid (yK b=false):=HNo.out (by unfold yx;rw[t1,bFi t2];rfl)
    have H2:=HN1 false (bFi t2);clear HW1 HN1 HN2 HR1 t1 t2;go_wp2_with fail
    refine(H1.out _).mono ?_;rintro e w2⟨rfl,rfl⟩;go_wp2_with fail
    refine(H2.out _).mono ?_;rintro e w2⟨rfl,rfl⟩;go_wp2_with fail
    go_ret;exact⟨ze HF.out.symm,HBw.out _ (HBo.out _)⟩
   have H2:=HN1 true t2
   by_cases t3:b.gs[k].gb.toList.isEmpty=true
   ·by_cases t5:zS b.gs[k].r=true
    ·have HY:Hid ((b.gs.take (k+1)).all (yx b.given)=true):=HYes.out (by unfold yx;rw[t1,t2,t3,t5];rfl)
     have H5:=HR1 true t5;clear HW1 HN1 HN2 HR1 t1 t2 t5;go_wp2_with fail
     refine(H1.out _).mono ?_;rintro e w2⟨rfl,rfl⟩;go_wp2_with fail
     refine(H2.out _).mono ?_;rintro e w2⟨rfl,rfl⟩;go_wp2_with fail
     refine(H5.out _ (bAl _ _)).mono ?_;rintro e w2⟨rfl,hb2⟩;have HB2:=hid ((HBo.out _).trans (hb2.mono (HBo.out _).size));clear hb2;go_wp2_with fail
     exact⟨⟨k+1,by omega,by go_num,HY.out,HB2.out⟩,zm hlt⟩
    ·have HF:Hid (yK b=false):=HNo.out (by unfold yx;rw[t1,t2,t3,bFi t5];rfl)
     have H5:=HR1 false (bFi t5);clear HW1 HN1 HN2 HR1 t1 t2 t5;go_wp2_with fail
     refine(H1.out _).mono ?_;rintro e w2⟨rfl,rfl⟩;go_wp2_with fail
     refine(H2.out _).mono ?_;rintro e w2⟨rfl,rfl⟩;go_wp2_with fail
     refine(H5.out _ (bAl _ _)).mono ?_;rintro e w2⟨rfl,hb2⟩;have HB2:=hid ((HBo.out _).trans (hb2.mono (HBo.out _).size));clear hb2;go_wp2_with fail
     go_ret;exact⟨ze HF.out.symm,HBw.out _ HB2.out⟩
   have t3':=bFi t3;clear t3
   by_cases t4:zB b.gs[k].gb=true
   rotate_left
   ·have HF:Hid (yK b=false):=HNo.out (by unfold yx;rw[t1,t2,t3',bFi t4];rfl)
    have H4:=HN2 false (bFi t4);clear HW1 HN1 HN2 HR1 t1 t2 t4;go_wp2_with fail
    refine(H1.out _).mono ?_;rintro e w2⟨rfl,rfl⟩;go_wp2_with fail
    refine(H2.out _).mono ?_;rintro e w2⟨rfl,rfl⟩;go_wp2_with fail
    refine(H4.out _).mono ?_;rintro e w2⟨rfl,rfl⟩;go_wp2_with fail
    go_ret;exact⟨ze HF.out.symm,HBw.out _ (HBo.out _)⟩
   have H4:=HN2 true t4
   by_cases t5:zS b.gs[k].r=true
   ·have HY:Hid ((b.gs.take (k+1)).all (yx b.given)=true):=HYes.out (by unfold yx;rw[t1,t2,t3',t4,t5];rfl)
    have H5:=HR1 true t5;clear HW1 HN1 HN2 HR1 t1 t2 t4 t5;go_wp2_with fail
    refine(H1.out _).mono ?_;rintro e w2⟨rfl,rfl⟩;go_wp2_with fail
    refine(H2.out _).mono ?_;rintro e w2⟨rfl,rfl⟩;go_wp2_with fail
    refine(H4.out _).mono ?_;rintro e w2⟨rfl,rfl⟩;go_wp2_with fail
    refine(H5.out _ (bAl _ _)).mono ?_;rintro e w2⟨rfl,hb2⟩;have HB2:=hid ((HBo.out _).trans (hb2.mono (HBo.out _).size));clear hb2;go_wp2_with fail
    exact⟨⟨k+1,by omega,by go_num,HY.out,HB2.out⟩,zm hlt⟩
   ·have HF:Hid (yK b=false):=HNo.out (by unfold yx;rw[t1,t2,t3',t4,bFi t5];rfl)
    have H5:=HR1 false (bFi t5);clear HW1 HN1 HN2 HR1 t1 t2 t4 t5;go_wp2_with fail
    refine(H1.out _).mono ?_;rintro e w2⟨rfl,rfl⟩;go_wp2_with fail
    refine(H2.out _).mono ?_;rintro e w2⟨rfl,rfl⟩;go_wp2_with fail
    refine(H4.out _).mono ?_;rintro e w2⟨rfl,rfl⟩;go_wp2_with fail
    refine(H5.out _ (bAl _ _)).mono ?_;rintro e w2⟨rfl,hb2⟩;have HB2:=hid ((HBo.out _).trans (hb2.mono (HBo.out _).size));clear hb2;go_wp2_with fail
    go_ret;exact⟨ze HF.out.symm,HBw.out _ HB2.out⟩
  ·have e:k=b.gs.length:=by omega
   subst e
   have HE:Hid (yK b=true):=by
    unfold Hid;rw[HG.out];have h:=HQ.out.1;rw[tOl (Nat.le_refl _)]at h;exact h
   have HBe:=hid (HB1.out.trans (HQ.out.2.mono HB1.out.size));clear hlt hk HQ;go_wp2_with fail
   go_ret;exact⟨ze HE.out.symm,HBe.out⟩
theorem jB.ready {lo hi bo:Nat}{w W:World}{fs:List Fld}(h:jB lo hi w bo fs)(hM:Marked lo hi w W)(i:Nat)(hi':i<fs.length) :
 (∀j,j<11->∃v,W.cell? ⟨bo,i*11+j,none⟩=some v)/\(∀o,W.frozen? ⟨bo,o,none⟩=false):=by
 have h':=h.mono hM;obtain⟨C,hC,hs,hn⟩:=h'.rows;exact⟨fun j hj=>⟨C[i*11+j]'(by omega),by rw[cell_of_block hC];exact Array.getElem?_eq_getElem (by omega)⟩,fun o=>zh hC⟩
theorem jB.words {lo hi bo:Nat}{w:World}{fs:List Fld}(h:jB lo hi w bo fs)(i:Nat)(hi':i<fs.length) :
 ∃bk cap,jQ lo hi w bk fs[i].ws.length/\∀W,Marked lo hi w W->W.cell? ⟨bo,i*11+4,none⟩=some (.slice (some ⟨bk,0,none⟩) fs[i].ws.length cap):=by
 obtain⟨C,hC,hs,hn⟩:=h.rows;obtain⟨bk,cap,h1,h2,_⟩:=hn i hi';refine⟨bk,cap,h1,fun W hM=>?_⟩;obtain⟨C',hC',_,hk⟩:=hM.inn bo C _ h.low h.high hC;rw[cell_of_block hC'];exact(hk _ _ _ _).2 h2
theorem jB.put {lo hi bo:Nat}{w W:World}{fs:List Fld}(h:jB lo hi w bo fs)(hM:Marked lo hi w W)(i j:Nat)(hi':i<fs.length)(hj:j<11)(hj4:j≠4)(v:Value)(hv:∀a n c,v≠Value.slice a n c):Marked lo hi w (W.setCell ⟨bo,i*11+j,none⟩ v):=by
 obtain⟨C,hC,_,hn⟩:=h.rows;obtain⟨_,_,_,_,h3⟩:=hn i hi';exact hM.put h.low h.high hC (h3 j hj hj4) v hv
set_option maxRecDepth 20000 in
theorem zfW (lo hi bo cap:Nat)(fs:List Fld)(k:Int)(w:World)(h:jB lo hi w bo fs)(hl:fs.length<=1048576)(hls:∀i (h:i<fs.length),fs[i].ws.length<=1048576)(hk:0<k)(hk2:k<4000000000000000000) :
 Calls Tryz.prog 91 #[.slice (some ⟨bo,0,none⟩) fs.length cap,.int .i64 k] w fun e w'=>∃k',e=.returned (.int .i64 k')/\k<=k'/\k'<=k+fs.length*1048586/\Marked lo hi w w':=by
 have HF:=hid h;have HL:=jC hl hls;have HK:=jC hk hk2;clear h hl hls hk hk2;go_enter Tryz.func91,Tryz.ntmps91;go_wp2_with fail
 go_loopw [1,5] (fun kv iv wr=>∃(i:Nat) (kk:Int),i<=fs.length/\kv=.int .i64 kk/\iv=.int .i64 i/\k<=kk/\kk<=k+i*1048586/\Marked lo hi w wr) (fun _ iv _=>fs.length-(intOf iv).toNat)
 case atStart=>exact⟨0,k,Nat.zero_le _,rfl,rfl,Int.le_refl _,by simp,Marked.refl _ _ _⟩
 case round=>
  obtain⟨i,kk,hile,rfl,rfl,h1,h2,hM⟩:=hrel
  by_cases hlt:i<fs.length
  ·have hltI:(i:Int)<(fs.length:Int):=by omega
   have HB:Hid (0<kk/\kk<7000000000000000000/\kk<=k+i*1048586/\k<=kk):=by have a:=HK.out;have b:=HL.out.1;exact⟨by omega,by omega,h2,h1⟩
   have HM:=hid hM;clear h1 h2 hM;obtain⟨bk,bcap,hT,hsl⟩:=HF.out.words i hlt;have HT:=jC hT hsl;clear hT hsl;go_wp2_with fail
   refine(zP _ _ HB.out.1 (by have:=HB.out;omega)).mono ?_;rintro e w1⟨s1,rfl,hb1⟩;have HM1:=hid (HM.out.trans (Marked.of_below hb1));clear hb1;have hsl:=HT.out.2 _ HM1.out;obtain⟨hex,hfz⟩:=HF.out.ready HM1.out i hlt;obtain⟨v0,hv0⟩:=hex 0 (by omega);obtain⟨v1,hv1⟩:=hex 1 (by omega);obtain⟨v2,hv2⟩:=hex 2 (by omega);obtain⟨v3,hv3⟩:=hex 3 (by omega);rw[Nat.add_zero]at hv0;have hwkk1:wrap64 (kk+1)=kk+1:=by have:=HB.out;exact yt _ ⟨by omega,by omega⟩
   have hwkk2:wrap64 (kk+1+1)=kk+1+1:=by have:=HB.out;exact yt _ ⟨by omega,by omega⟩
   have hwkk3:wrap64 (kk+1+1+1)=kk+1+1+1:=by have:=HB.out;exact yt _ ⟨by omega,by omega⟩
   have hwkk4:wrap64 (kk+1+1+1+1)=kk+1+1+1+1:=by have:=HB.out;exact yt _ ⟨by omega,by omega⟩
   clear hex;go_wp2_with fail
   have HMW:=HF.out.put (HF.out.put (HF.out.put (HF.out.put HM1.out i 0 hlt (by omega) (by omega) (.string s1) (fun _ _ _ h=>by cases h)) i 1 hlt (by omega) (by omega) (.int .i64 (kk+1)) (fun _ _ _ h=>by cases h)) i 2 hlt (by omega) (by omega) (.int .i64 (kk+1+1)) (fun _ _ _ h=>by cases h)) i 3 hlt (by omega) (by omega) (.int .i64 (kk+1+1+1)) (fun _ _ _ h=>by cases h);refine(zb8 lo hi bk _ bcap _ _ (HT.out.1.mono HMW) (HL.out.2 i hlt) (by have:=HB.out;omega) (by have:=HB.out;omega)).mono ?_;rintro e w2⟨k2,rfl,hk2,hM2⟩;have HM2:=hid (HMW.trans hM2);have HB2:Hid (kk<k2/\k2<=kk+4+1048576/\0<k2):=by have a:=HL.out.2 i hlt;have b:=HB.out;exact⟨by omega,by omega,by omega⟩
   clear HMW hM2 hk2 hv0 hv1 hv2 hv3 hfz hsl;go_wp2_with fail
   refine(zP _ _ HB2.out.2.2 (by have:=HB.out;have:=HB2.out;omega)).mono ?_;rintro e w3⟨s3,rfl,hb3⟩;have HM3:=hid (HM2.out.trans (Marked.of_below hb3));clear hb3;obtain⟨hex,hfz⟩:=HF.out.ready HM3.out i hlt;obtain⟨v5,hv5⟩:=hex 5 (by omega);obtain⟨v6,hv6⟩:=hex 6 (by omega);obtain⟨v7,hv7⟩:=hex 7 (by omega);obtain⟨v8,hv8⟩:=hex 8 (by omega);have hwk21:wrap64 (k2+1)=k2+1:=by have:=HB.out;have:=HB2.out;exact yt _ ⟨by omega,by omega⟩
   have hwk22:wrap64 (k2+1+1)=k2+1+1:=by have:=HB.out;have:=HB2.out;exact yt _ ⟨by omega,by omega⟩
   have hwk23:wrap64 (k2+1+1+1)=k2+1+1+1:=by have:=HB.out;have:=HB2.out;exact yt _ ⟨by omega,by omega⟩
   have hwk24:wrap64 (k2+1+1+1+1)=k2+1+1+1+1:=by have:=HB.out;have:=HB2.out;exact yt _ ⟨by omega,by omega⟩
   have hwk25:wrap64 (k2+1+1+1+1+1)=k2+1+1+1+1+1:=by have:=HB.out;have:=HB2.out;exact yt _ ⟨by omega,by omega⟩
   have hwk26:wrap64 (k2+1+1+1+1+1+1)=k2+1+1+1+1+1+1:=by have:=HB.out;have:=HB2.out;exact yt _ ⟨by omega,by omega⟩
   clear hex;go_wp2_with fail
   have HMW:=HF.out.put (HF.out.put (HF.out.put (HF.out.put HM3.out i 5 hlt (by omega) (by omega) (.string s3) (fun _ _ _ h=>by cases h)) i 6 hlt (by omega) (by omega) (.int .i64 (k2+1)) (fun _ _ _ h=>by cases h)) i 7 hlt (by omega) (by omega) (.bool ((k2+1+1).tmod 3 == 0)) (fun _ _ _ h=>by cases h)) i 8 hlt (by omega) (by omega) (.bool ((k2+1+1+1).tmod 3 == 0)) (fun _ _ _ h=>by cases h);refine(zP _ _ (by have:=HB2.out;omega) (by have:=HB.out;have:=HB2.out;omega)).mono ?_;rintro e w4⟨s4,rfl,hb4⟩;have HM4:=hid (HMW.trans (Marked.of_below hb4));clear HMW hb4 hv5 hv6 hv7 hv8 hfz;obtain⟨hex,hfz⟩:=HF.out.ready HM4.out i hlt;obtain⟨v9,hv9⟩:=hex 9 (by omega);clear hex;go_wp2_with fail
   have HMW:=HF.out.put HM4.out i 9 hlt (by omega) (by omega) (.string s4) (fun _ _ _ h=>by cases h);refine(zP _ _ (by have:=HB2.out;omega) (by have:=HB.out;have:=HB2.out;omega)).mono ?_;rintro e w5⟨s5,rfl,hb5⟩;have HM5:=hid (HMW.trans (Marked.of_below hb5));clear HMW hb5 hv9 hfz;obtain⟨hex,hfz⟩:=HF.out.ready HM5.out i hlt;obtain⟨v10,hv10⟩:=hex 10 (by omega);clear hex;go_wp2_with fail
   go_roundw
   case rel=>exact⟨i+1,k2+1+1+1+1+1+1,by omega,by rw[hwk26],by rw[wrap_one (by have:=HL.out.1;omega)],by have a:=HB.out;have b:=HB2.out;omega,by have a:=HB.out;have b:=HB2.out;omega,HF.out.put HM5.out i 10 hlt (by omega) (by omega) (.string s5) (fun _ _ _ h=>by cases h)⟩
   case measure=>exact jq hlt (by have:=HL.out.1;omega)
  ·have e:i=fs.length:=by omega
   subst e;go_wp2_with fail
   go_ret;exact⟨kk,rfl,h1,h2,hM⟩
theorem jP.ready {lo hi bo:Nat}{w W:World}{ss:List Shp}(h:jP lo hi w bo ss)(hM:Marked lo hi w W)(i:Nat)(hi':i<ss.length) :
 (∀j,j<2->∃v,W.cell? ⟨bo,i*2+j,none⟩=some v)/\(∀o,W.frozen? ⟨bo,o,none⟩=false):=by
 have h':=h.mono hM;obtain⟨C,hC,hs,hn⟩:=h'.rows;exact⟨fun j hj=>⟨C[i*2+j]'(by omega),by rw[cell_of_block hC];exact Array.getElem?_eq_getElem (by omega)⟩,fun o=>zh hC⟩
theorem jP.zdk {lo hi bo:Nat}{w:World}{ss:List Shp}(h:jP lo hi w bo ss)(i:Nat)(hi':i<ss.length) :
 ∃bf cap,jB lo hi w bf ss[i].fs/\∀W,Marked lo hi w W->W.cell? ⟨bo,i*2+1,none⟩=some (.slice (some ⟨bf,0,none⟩) ss[i].fs.length cap):=by
 obtain⟨C,hC,hs,hn⟩:=h.rows;obtain⟨bk,cap,h1,h2,_⟩:=hn i hi';refine⟨bk,cap,h1,fun W hM=>?_⟩;obtain⟨C',hC',_,hk⟩:=hM.inn bo C _ h.low h.high hC;rw[cell_of_block hC'];exact(hk _ _ _ _).2 h2
theorem jP.put {lo hi bo:Nat}{w W:World}{ss:List Shp}(h:jP lo hi w bo ss)(hM:Marked lo hi w W)(i:Nat)(hi':i<ss.length)(v:Value)(hv:∀a n c,v≠Value.slice a n c):Marked lo hi w (W.setCell ⟨bo,i*2,none⟩ v):=by
 obtain⟨C,hC,_,hn⟩:=h.rows;obtain⟨_,_,_,_,h3⟩:=hn i hi';exact hM.put h.low h.high hC h3 v hv
theorem zfZ (lo hi bo cap:Nat)(ss:List Shp)(k:Int)(w:World)(h:jP lo hi w bo ss)(hl:ss.length<=1048576)(hls:∀i (h:i<ss.length),ss[i].fs.length<=1048576/\∀j (h':j<ss[i].fs.length),ss[i].fs[j].ws.length<=1048576)(hk:0<k)(hk2:k<1000000000000000000) :
 Calls Tryz.prog 46 #[.slice (some ⟨bo,0,none⟩) ss.length cap,.int .i64 k] w fun e w'=>∃k',e=.returned (.int .i64 k')/\k<=k'/\k'<=k+ss.length*1099522113537/\Marked lo hi w w':=by
 have HF:=hid h;have HL:=jC hl hls;have HK:=jC hk hk2;clear h hl hls hk hk2;go_enter Tryz.func46,Tryz.ntmps46;go_wp2_with fail
 go_loopw [1,5] (fun kv iv wr=>∃(i:Nat) (kk:Int),i<=ss.length/\kv=.int .i64 kk/\iv=.int .i64 i/\k<=kk/\kk<=k+i*1099522113537/\Marked lo hi w wr) (fun _ iv _=>ss.length-(intOf iv).toNat)
 case atStart=>exact⟨0,k,Nat.zero_le _,rfl,rfl,Int.le_refl _,by simp,Marked.refl _ _ _⟩
 case round=>
  obtain⟨i,kk,hile,rfl,rfl,h1,h2,hM⟩:=hrel
  by_cases hlt:i<ss.length
  ·have hltI:(i:Int)<(ss.length:Int):=by omega
   have HB:Hid (0<kk/\kk<3000000000000000000/\kk<=k+i*1099522113537/\k<=kk):=by have a:=HK.out;have b:=HL.out.1;exact⟨by omega,by omega,h2,h1⟩
   have HM:=hid hM;clear h1 h2 hM;obtain⟨bf,bcap,hT,hsl⟩:=HF.out.zdk i hlt;have HT:=jC hT hsl;clear hT hsl;go_wp2_with fail
   refine(zP _ _ HB.out.1 (by have:=HB.out;omega)).mono ?_;rintro e w1⟨s1,rfl,hb1⟩;have HM1:=hid (HM.out.trans (Marked.of_below hb1));clear hb1;have hsl:=HT.out.2 _ HM1.out;obtain⟨hex,hfz⟩:=HF.out.ready HM1.out i hlt;obtain⟨v0,hv0⟩:=hex 0 (by omega);rw[Nat.add_zero]at hv0;have hw1:wrap64 (kk+1)=kk+1:=by have:=HB.out;exact yt _ ⟨by omega,by omega⟩
   clear hex;go_wp2_with fail
   have HMW:=HF.out.put HM1.out i hlt (.string s1) (fun _ _ _ h=>by cases h);refine(zfW lo hi bf bcap _ _ _ (HT.out.1.mono HMW) (HL.out.2 i hlt).1 (HL.out.2 i hlt).2 (by have:=HB.out;omega) (by have:=HB.out;omega)).mono ?_;rintro e w2⟨k2,rfl,h3,h4,hM2⟩;have HM2:=hid (HMW.trans hM2);have HB2:Hid (kk<k2/\k2<=kk+1099522113537):=by have a:=(HL.out.2 i hlt).1;exact⟨by omega,by omega⟩
   clear HMW hM2 h3 h4 hv0 hfz hsl;go_wp2_with fail
   go_roundw
   case rel=>exact⟨i+1,k2,by omega,rfl,by rw[wrap_one (by have:=HL.out.1;omega)],by have a:=HB.out;have b:=HB2.out;omega,by have a:=HB.out;have b:=HB2.out;omega,HM2.out⟩
   case measure=>exact jq hlt (by have:=HL.out.1;omega)
  ·have e:i=ss.length:=by omega
   subst e;go_wp2_with fail
   go_ret;exact⟨kk,rfl,h1,h2,hM⟩
end Go.Proofs.YtnapmdofidgliaaGreat
