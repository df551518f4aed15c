import Derived.Test.YtcgpjfcocmcodaaGreatM37
set_option maxHeartbeats 4000000
namespace Go.Proofs.YtcgpjfcocmcodaaGreat
open Go.RowKit
def za3 (s:Shp)(i:Nat):BA:=(s.fs.getD i zbw).nm
def jF (s:Shp)(ms:List Mnd)(row:List BA)(i:Nat):Bool:=!has row (za3 s i)&&zcq ms s.kd (za3 s i) row
def zfi (s:Shp)(ms:List Mnd)(row:List BA):List BA:=match (List.range s.fs.length).find? (jF s ms row) with|none=>row|some i=>row++[za3 s i]
def yj (s:Shp)(ms:List Mnd):Nat->List BA
 | 0=>[]
 | k+1=>zfi s ms (yj s ms k)
theorem zlQ (s:Shp)(ms:List Mnd)(row:List BA):(zfi s ms row).length<=row.length+1:=by
 unfold zfi;split
 ·omega
 ·simp
theorem zeS (s:Shp)(ms:List Mnd):∀k,(yj s ms k).length<=k
 | 0=>Nat.le_refl _
 | k+1=>Nat.le_trans (zlQ s ms _) (by have:=zeS s ms k;omega)
theorem zfr (s:Shp)(ms:List Mnd):∀k,∀x∈yj s ms k,∃i,i<s.fs.length/\x=za3 s i
 | 0,x,h=>by cases h
 | k+1,x,h=>by
  have h':x∈zfi s ms (yj s ms k):=h;unfold zfi at h'
  split at h'
  ·exact zfr s ms k x h'
  ·rename_i i hi
   rw[List.mem_append,List.mem_singleton]at h'
   rcases h' with h'|h'
   ·exact zfr s ms k x h'
   ·exact⟨i,List.mem_range.1 (List.mem_of_find?_eq_some hi),h'⟩
set_option maxRecDepth 20000 in
theorem zlo (fa ma:OA)(fcap mcap:Nat)(s:Shp)(ms:List Mnd)(w:World)(hf:yg w fa s.fs)(hm:qL w ma ms)(hml:ms.length<=12)(hn:s.fs.length<=6) :
 Calls Tryz.prog 157 #[.agg #[.s s.kd,.l fa s.fs.length fcap],.l ma ms.length mcap] w fun e w'=>∃v,e=.returned v/\w'.ownsRow w.heap.size 9 1 v (yj s ms s.fs.length).length ((yj s ms s.fs.length).map Value.string)/\Bw w w':=by
 have HM:=ql hf hm
 have HSM:Hid (∀k,∀x∈yj s ms k,x.size<=maxLen):=by
  intro k x hx;obtain⟨i,hi,rfl⟩:=zfr s ms k x hx;unfold za3;rw[getD_at _ _ _ hi];exact(hf.smalls.small i hi).1.nm
 obtain⟨i0,hi0,hz0,hz1',hz2⟩:=info_parts Tryz.zcV;clear hf hm;go_enter Tryz.func157,Tryz.ntmps157;go_wp2_with fail
 have hnI:(s.fs.length:Int)<=6:=by omega
 go_loopw [5,6] (fun v0 iv wr=>∃(k:Nat) (v:Value),v=v0/\k<=s.fs.length/\iv=.i k/\wr.ownsRow (w.heap.size+1) 9 1 v (yj s ms k).length ((yj s ms k).map Value.string)/\wr.heap[w.heap.size]?=some (.cells #[.s s.kd,.l fa s.fs.length fcap] 134)/\Bw w wr) (fun _ iv _=>s.fs.length-(intOf iv).toNat)
 case atStart=>exact⟨0,_,rfl,Nat.zero_le _,rfl,⟨rfl,.inr ⟨w.heap.size+1,0,#[],rfl,Nat.le_refl _,(zQ _ _ _).2,Nat.le_refl _,by simp[maxLen],rfl,rfl⟩⟩,(zQ _ _ _).1,zw _ _ _⟩
 case round=>
  obtain⟨k,v,hv,hk,rfl,hown,hbox,hB⟩:=hrel;subst hv;obtain⟨va,vcap,rfl⟩:=qD hown;have HW:=zbQ hown hbox hB;have hXr:∀j,wr.cell? (aD w.heap.size j)=(#[.s s.kd,.l fa s.fs.length fcap]:AV)[j]?:=fun j=>cell_of_block hbox
  have hzr:=(gES hbox).1;have HGL:Hid ((yj s ms k).length<=6):=by have:=zeS s ms k;show _<=_;omega
  clear hown hbox hB
  by_cases hlt:k<s.fs.length
  ·have hltI:(k:Int)<(s.fs.length:Int):=by omega
   go_wp2_with fail
   clear hXr;obtain⟨wo,hwo⟩:=xN (wr);have HWO:Hid (wo.ownsRow (w.heap.size+1) 9 1 (.l va (yj s ms k).length vcap) (yj s ms k).length ((yj s ms k).map Value.string)/\wo.heap[w.heap.size]?=some (.cells #[.s s.kd,.l fa s.fs.length fcap] 134)/\Bw w wo/\w.heap.size<wo.heap.size):=by rw[hwo];exact⟨HW.o.1,HW.o.2.1,HW.o.2.2,hzr⟩
   have HWE:=hid hwo;clear hwo HW hzr
   go_loopw [5,7] (fun v1 iv wq=>∃i:Nat,i<=s.fs.length/\iv=.i i/\v1=.l va (yj s ms k).length vcap/\(∀q,q<i->jF s ms (yj s ms k) q=false)/\Bw wo wq) (fun _ iv _=>s.fs.length-(intOf iv).toNat)
   case atStart=>exact⟨0,Nat.zero_le _,rfl,rfl,fun q h=>absurd h (by omega),by rw[HWE.o];exact bRf _ _⟩
   case round=>
    obtain⟨i,hi,rfl,rfl,hno,hBq⟩:=hrel;have HQ:=zrA hno hBq (yC HWO.o.1 hBq) ((hBq.block _ HWO.o.2.2.2).trans HWO.o.2.1) (HWO.o.2.2.1.trans (hBq.mono HWO.o.2.2.1.size));have hXq:=zbs HQ.o.2.2.2.1;have hzq:=(gES HQ.o.2.2.2.1).1;clear hno hBq
    by_cases hil:i<s.fs.length
    ·have hilI:(i:Int)<(s.fs.length:Int):=by omega
     obtain⟨fb,foff,rfl,hfb,hr⟩:=HM.o.1.rows (by intro e;rw[e]at hil;simp at hil);obtain⟨wa,wcap,hf0⟩:=hr i hil;obtain⟨c0,c1,c2,c3,c4,c5,c6,c7,c8,c9,c10⟩:=(hf0.mono hfb HQ.o.2.2.2.2).load;have HNM:Hid (za3 s i=s.fs[i].nm):=by unfold Hid za3;rw[getD_at _ _ _ hil]
     have HST:=hid (zmj HQ.o.2.2.1 (by have:=HGL.o;unfold maxLen;omega) (HSM.o k))
     have HFIND:Hid (jF s ms (yj s ms k) i=true->yj s ms (k+1)=yj s ms k++[s.fs[i].nm]):=by
      intro h
      show zfi s ms (yj s ms k)=_
      unfold zfi
      have:(List.range s.fs.length).find? (jF s ms (yj s ms k))=some i:=by
       rw[List.find?_range_eq_some];exact⟨h,List.mem_range.2 hil,fun j hj=>by rw[HQ.o.1 j hj];rfl⟩
      rw[this]
      show yj s ms k++[za3 s i]=_
      rw[HNM.o]
     clear hr hf0 c1 c2 c3 c4 c5 c6 c7 c8 c9 c10;go_wp2_with fail
     have h:=zcJ va vcap (yj s ms k) s.fs[i].nm wr HST.o
     rcases hh:has (yj s ms k) s.fs[i].nm with _|_
     rotate_left
     ·rw[hh]at h
      refine h.mono ?_;rintro e w3⟨rfl,rfl⟩
      have HNR:Hid (∀q,q<i+1->jF s ms (yj s ms k) q=false):=by
       intro q hq
       rcases Nat.lt_or_ge q i with h1|h1
       ·exact HQ.o.1 q h1
       ·have e:q=i:=by omega
        subst e;unfold jF;rw[HNM.o,hh];rfl
      clear h hh;go_wp2_with fail
      exact⟨⟨i+1,by omega,by go_num,rfl,HNR.o,HQ.o.2.1⟩,zq hil⟩
     rw[hh]at h;refine h.mono ?_;rintro e w3'⟨rfl,hw3⟩;rw[hw3];clear hw3 w3';have HRN:Hid (jF s ms (yj s ms k) i=zcq ms s.kd s.fs[i].nm (yj s ms k)):=by unfold Hid jF;rw[HNM.o,hh];rfl
     clear h hh;go_wp2_with fail
     have h:=zmZ ma va mcap vcap ms s.kd s.fs[i].nm (yj s ms k) wr (HM.o.2.mono HQ.o.2.2.2.2) HST.o hml
     rcases hh:zcq ms s.kd s.fs[i].nm (yj s ms k) with _|_
     ·rw[hh]at h
      refine h.mono ?_;rintro e w3⟨rfl,hb3⟩
      have HNR:Hid ((∀q,q<i+1->jF s ms (yj s ms k) q=false)/\Bw wo w3):=by
       refine⟨fun q hq=>?_,HQ.o.2.1.trans (hb3.mono HQ.o.2.1.size)⟩
       rcases Nat.lt_or_ge q i with h1|h1
       ·exact HQ.o.1 q h1
       ·have e:q=i:=by omega
        subst e;rw[HRN.o,hh]
      clear h hh hb3;go_wp2_with fail
      exact⟨⟨i+1,by omega,by go_num,rfl,HNR.o.1,HNR.o.2⟩,zq hil⟩
     rw[hh]at h;refine h.mono ?_;rintro e w3⟨rfl,hb3⟩;have HG1:=hid (HFIND.o (by rw[HRN.o,hh]));have H3:=zbX (yC HQ.o.2.2.1 hb3) ((hb3.block _ hzq).trans HQ.o.2.2.2.1) (HQ.o.2.2.2.2.trans (hb3.mono HQ.o.2.2.2.2.size)) (nLt hzq hb3.size);clear h hh hb3 hXq c0
     go_wp2_with (at_builtin;refine zhR ?_)
     show wpList _ _ _ _ _ _
     refine wpList_append_own _ rfl (.tmp 42) (.tmp 44) 105 rfl (w.heap.size+1) 9 i0 (.s ByteArray.empty) 1 16 Tryz.underlying105 hi0 hz0 hz1' hz2 rfl (by decide) (.l va (yj s ms k).length vcap) _ _ rfl (H3.o.1.alloc _) (aD w3.heap.size 0) 1 1 [.s s.fs[i].nm] rfl rfl (zfo _ _ _) (by intro u hu;simp at hu;subst hu;rfl) (by have:=HGL.o;unfold maxLen;omega) (by have:=HGL.o;omega) (by have:=H3.o.2.2.2;simp;omega) ?_;intro v' w4 hown' hgr _;obtain⟨va',vcap',rfl⟩:=qD hown';have hgb:∀g,(Value.slice va (yj s ms k).length vcap).ownBlock=some g->w.heap.size+1<=g:=fun g hg=>(H3.o.1.lt g hg).1
     have HY:Hid (w4.ownsRow (w.heap.size+1) 9 1 (.l va' ((yj s ms k).length+1) vcap') (yj s ms (k+1)).length ((yj s ms (k+1)).map Value.string)/\w4.heap[w.heap.size]?=some (.cells #[.s s.kd,.l (some (aD fb foff)) s.fs.length fcap] 134)/\Bw w w4):=by
      refine⟨by rw[HG1.o,List.length_append,List.map_append];exact hown',?_,zdo H3.o.2.2.1 H3.o.2.2.1.size hgr (fun g hg=>by have:=hgb g hg;omega)⟩;exact(zaQ hgr (by have:=H3.o.2.2.2;simp;omega) (fun g hg=>by have:=hgb g hg;omega)).trans ((Below.heap_alloc _ _ _ H3.o.2.2.2).trans H3.o.2.1)
     clear hown' hgr hgb;go_wp2_with fail
     exact⟨⟨k+1,_,rfl,by omega,by go_num,HY.o.1,HY.o.2.1,HY.o.2.2⟩,zq hlt⟩
    ·have e:i=s.fs.length:=by omega
     have HN:Hid (yj s ms (k+1)=yj s ms k):=by
      show zfi s ms (yj s ms k)=_
      unfold zfi
      have:(List.range s.fs.length).find? (jF s ms (yj s ms k))=none:=by
       rw[List.find?_eq_none];intro q hq;rw[HQ.o.1 q (by rw[e];exact List.mem_range.1 hq)]
       simp
      rw[this]
     subst e;go_wp2_with fail
     exact⟨⟨k+1,_,rfl,by omega,by go_num,by rw[HN.o];exact HQ.o.2.2.1,HQ.o.2.2.2.1,HQ.o.2.2.2.2⟩,zq hlt⟩
  ·have e:k=s.fs.length:=by omega
   subst e;go_wp2_with fail
   go_ret;exact⟨_,rfl,zdi HW.o.1 (by omega),HW.o.2.2⟩
def zdc {α:Type}(p:α->Bool)(l:List α):Int:=if l.any p=true then (l.findIdx p:Int) else -1
theorem zpC {α:Type}{p:α->Bool}{l:List α}{k:Nat}(hk:k<l.length)(h:∀i (hi:i<l.length),i<k->p l[i]=false)(hp:p l[k]=true):zdc p l=k:=by
 unfold zdc;rw[if_pos (List.any_eq_true.2 ⟨l[k],List.getElem_mem _,hp⟩)];have e:l.findIdx p=k:=(List.findIdx_eq hk).2 ⟨hp,fun j hj=>h j (by omega) hj⟩;rw[e]
theorem zlu {α:Type}{p:α->Bool}{l:List α}(h:∀i (hi:i<l.length),p l[i]=false):zdc p l=-1:=by
 unfold zdc;rw[if_neg];intro hc;obtain⟨x,hx,hp⟩:=List.any_eq_true.1 hc;obtain⟨i,hi,rfl⟩:=List.mem_iff_getElem.1 hx;rw[h i hi]at hp
 cases hp
theorem zcd {α:Type}(p:α->Bool)(l:List α):zdc p l<0↔l.any p=false:=by
 unfold zdc
 split
 ·rename_i h;rw[h];constructor
  ·intro h';omega
  ·intro h';cases h'
 ·rename_i h
  exact⟨fun _=>by simpa using h,fun _=>by omega⟩
def zb0 (kd nm:BA)(o:Ob):Bool:=decide (o.kd=kd)&&decide (o.nm=nm)
def j3 (tm rs:BA)(g:Lg):Bool:=decide (g.tm=tm)&&decide (g.rs=rs)
def zor (tm rs:BA)(p:Pu):Bool:=decide (p.tm=tm)&&decide (p.rs=rs)
def zbi (ps:List Pu)(tm rs:BA):Nat->Int
 | 0=>0
 | k+1=>zbi ps tm rs k+(match ps[k]? with|some p=>if zor tm rs p=true then p.am else 0|none=>0)
def out (ps:List Pu)(tm rs:BA):Int:=zbi ps tm rs ps.length
theorem zft (ps:List Pu)(tm rs:BA)(k:Nat)(h:k<ps.length):zbi ps tm rs (k+1)=zbi ps tm rs k+(if zor tm rs ps[k]=true then ps[k].am else 0):=by
 simp only[zbi,List.getElem?_eq_getElem h]
theorem zbE (ps:List Pu)(tm rs:BA)(ha:∀i (h:i<ps.length),0<=ps[i].am/\ps[i].am<=1000000):∀k,k<=ps.length->0<=zbi ps tm rs k/\zbi ps tm rs k<=k*1000000
 | 0,_=>by simp[zbi]
 | k+1,h=>by
  have h1:=zbE ps tm rs ha k (by omega);have h2:=ha k h;rw[zft ps tm rs k h]
  split <;> omega
theorem zhQ (x y:BA)(w:World):Calls Tryz.prog 78 #[.s x,.s y] w fun e w'=>e=.returned (.i (key x y))/\w'=w:=by
 have k1:=zkC x y;have k2:=zkC y x;have k3:=zqF x y;have k4:=zn3 x y;unfold less at k1 k2
 by_cases h1:key x y=-1
 ·have HF:=zkH h1
  have e1:Op.bytesLess x.toList y.toList=true:=by rw[k1];simpa using h1
  clear k1 k2 k3 k4 h1;go_enter Tryz.func78,Tryz.ntmps78;go_wp2_with fail
  go_ret;exact⟨zo HF.o.symm,rfl⟩
 ·have e1:Op.bytesLess x.toList y.toList=false:=by rw[k1];simpa using h1
  by_cases h2:key y x=-1
  ·have HF:Hid (key x y=1):=by unfold Hid;omega
   have e2:Op.bytesLess y.toList x.toList=true:=by rw[k2];simpa using h2
   have e3:(x.toList == y.toList)=false:=by rw[beq_toList,decide_eq_false_iff_not];intro e;have:=(zbO x y).2 e;omega
   clear k1 k2 k3 k4 h1 h2;go_enter Tryz.func78,Tryz.ntmps78;go_wp2_with fail
   go_ret;exact⟨zo HF.o.symm,rfl⟩
  ·have HF:Hid (key x y=0):=by unfold Hid;omega
   have e2:Op.bytesLess y.toList x.toList=false:=by rw[k2];simpa using h2
   have e3:(x.toList == y.toList)=true:=by rw[beq_toList,decide_eq_true_eq];exact(zbO x y).1 HF.o
   clear k1 k2 k3 k4 h1 h2;go_enter Tryz.func78,Tryz.ntmps78;go_wp2_with fail
   go_ret;exact⟨zo HF.o.symm,rfl⟩
theorem zd1 (x y z u:BA)(w:World):Calls Tryz.prog 29 #[.s x,.s y,.s z,.s u] w fun e w'=>e=.returned (.i (key2 x y z u))/\w'=w:=by
 by_cases h:key x z=0
 ·have HF:Hid (key2 x y z u=key y u):=by unfold Hid key2;rw[if_pos h]
  have e1:(key x z != 0)=false:=by simpa using h
  clear h;go_enter Tryz.func29,Tryz.ntmps29
  go_wp2_with (go_at_call 78;refine(zhQ _ _ _).mono ?_;rintro e w2⟨rfl,rfl⟩)
  go_ret;exact⟨zo HF.o.symm,rfl⟩
 ·have HF:Hid (key2 x y z u=key x z):=by unfold Hid key2;rw[if_neg h]
  have e1:(key x z != 0)=true:=by simpa using h
  clear h;go_enter Tryz.func29,Tryz.ntmps29
  go_wp2_with (go_at_call 78;refine(zhQ _ _ _).mono ?_;rintro e w2⟨rfl,rfl⟩)
  go_ret;exact⟨zo HF.o.symm,rfl⟩
theorem zj7 (p q:Pu)(w:World):Calls Tryz.prog 124 #[.agg p.cells,.agg q.cells] w fun e w'=>e=.returned (.i (zar p q))/\Bw w w':=by
 unfold Pu.cells
 by_cases h:p.dr=q.dr
 ·have HF:Hid (zar p q=key2 p.tm p.rs q.tm q.rs):=by unfold Hid zar;rw[if_pos ((zbO _ _).2 h)]
  have e1:(p.dr.toList == q.dr.toList)=true:=by rw[beq_toList];simpa using h
  clear h;go_enter Tryz.func124,Tryz.ntmps124;go_wp2_with fail
  refine(zd1 _ _ _ _ _).mono ?_;rintro e w2⟨rfl,rfl⟩;go_wp2_with fail
  go_ret;exact⟨zo HF.o.symm,zw _ _ _⟩
 ·have HF:Hid (zar p q=key p.dr q.dr):=by unfold Hid zar;rw[if_neg (fun e=>h ((zbO _ _).1 e))]
  have e1:(p.dr.toList == q.dr.toList)=false:=by rw[beq_toList];simpa using h
  clear h;go_enter Tryz.func124,Tryz.ntmps124;go_wp2_with fail
  refine(zhQ _ _ _).mono ?_;rintro e w2⟨rfl,rfl⟩;go_wp2_with fail
  go_ret;exact⟨zo HF.o.symm,zw _ _ _⟩
theorem zn4 (b:Bk)(a0 a1 a2 a3:OA)(c0 c1 c2 c3:Nat)(kd nm:BA)(w:World)(hb:ji w b a0 a1 a2 a3)(hl:b.os.length<=1048576) :
 Calls Tryz.prog 122 #[.agg (b.cells a0 a1 a2 a3 c0 c1 c2 c3),.s kd,.s nm] w fun e w'=>e=.returned (.i (zdc (zb0 kd nm) b.os))/\Bw w w':=by
 have HK:Hid (ji w b a0 a1 a2 a3):=hb;clear hb;unfold Bk.cells;go_enter Tryz.func122,Tryz.ntmps122;go_wp2_with fail
 have hX0:=zl w (bC b a0 a1 a2 a3 c0 c1 c2 c3) 40;have HB0:Hid (Bw w (w.alloc (.cells (bC b a0 a1 a2 a3 c0 c1 c2 c3) 40))):=bAl _ _;obtain⟨W0,hW0⟩:=xN (w.alloc (.cells (bC b a0 a1 a2 a3 c0 c1 c2 c3) 40));have hz0:w.heap.size<W0.heap.size:=by rw[hW0];simp
 rw[<- hW0]at HB0 hX0 ⊢;clear hW0
 go_loopw [7] (fun iv wr=>∃k:Nat,k<=b.os.length/\iv=.i k/\Hid (∀i (hi:i<b.os.length),i<k->zb0 kd nm b.os[i]=false)/\wr=W0) (fun iv _=>b.os.length-(intOf iv).toNat)
 case atStart=>exact⟨0,Nat.zero_le _,rfl,fun i hi h=>by omega,rfl⟩
 case round=>
  obtain⟨k,hk,rfl,HQ,rfl⟩:=hrel;have hkn:k<=1048576:=by omega
  by_cases hlt:k<b.os.length
  ·obtain⟨ob,off,v0,v1,q0,q1,rfl,hob,hsm,hl0,hl1,d0,d1,d2,d3,d4,d5,d6⟩:=HK.o.os.load HB0.o k hlt
   have hltI:(k:Int)<(b.os.length:Int):=by omega
   clear hsm hl0 hl1
   by_cases h1:b.os[k].kd=kd
   ·have e1:(b.os[k].kd.toList == kd.toList)=true:=by rw[beq_toList];simpa using h1
    by_cases h2:b.os[k].nm=nm
    ·have e2:(b.os[k].nm.toList == nm.toList)=true:=by rw[beq_toList];simpa using h2
     have HF:Hid (zdc (zb0 kd nm) b.os=k):=zpC hlt HQ.o (by unfold zb0;simp[h1,h2]);clear h1 h2;go_wp2_with fail
     go_ret;exact⟨zo HF.o.symm,HB0.o⟩
    ·have e2:(b.os[k].nm.toList == nm.toList)=false:=by rw[beq_toList];simpa using h2
     have HN:Hid (∀i (hi:i<b.os.length),i<k+1->zb0 kd nm b.os[i]=false):=by
      intro i hi h
      rcases Nat.eq_or_lt_of_le (Nat.le_of_lt_succ h) with e|h'
      ·subst e;unfold zb0;simp[h2]
      ·exact HQ.o i hi h'
     clear h1 h2;go_wp2_with fail
     exact⟨⟨k+1,by omega,by go_num,HN.o,trivial⟩,zq hlt⟩
   ·have e1:(b.os[k].kd.toList == kd.toList)=false:=by rw[beq_toList];simpa using h1
    have HN:Hid (∀i (hi:i<b.os.length),i<k+1->zb0 kd nm b.os[i]=false):=by
     intro i hi h
     rcases Nat.eq_or_lt_of_le (Nat.le_of_lt_succ h) with e|h'
     ·subst e;unfold zb0;simp[h1]
     ·exact HQ.o i hi h'
    clear h1;go_wp2_with fail
    exact⟨⟨k+1,by omega,by go_num,HN.o,trivial⟩,zq hlt⟩
  ·have HF:Hid (zdc (zb0 kd nm) b.os=-1):=zlu fun i hi=>HQ.o i hi (by omega)
   clear HQ;go_wp2_with fail
   go_ret;exact⟨zo HF.o.symm,HB0.o⟩
theorem zez (b:Bk)(a0 a1 a2 a3:OA)(c0 c1 c2 c3:Nat)(tm rs:BA)(w:World)(hb:ji w b a0 a1 a2 a3)(hl:b.ls.length<=1048576) :
 Calls Tryz.prog 27 #[.agg (b.cells a0 a1 a2 a3 c0 c1 c2 c3),.s tm,.s rs] w fun e w'=>e=.returned (.i (zdc (j3 tm rs) b.ls))/\Bw w w':=by
 have HK:Hid (ji w b a0 a1 a2 a3):=hb;clear hb;unfold Bk.cells;go_enter Tryz.func27,Tryz.ntmps27;go_wp2_with fail
 have hX0:=zl w (bC b a0 a1 a2 a3 c0 c1 c2 c3) 40;have HB0:Hid (Bw w (w.alloc (.cells (bC b a0 a1 a2 a3 c0 c1 c2 c3) 40))):=bAl _ _;obtain⟨W0,hW0⟩:=xN (w.alloc (.cells (bC b a0 a1 a2 a3 c0 c1 c2 c3) 40));have hz0:w.heap.size<W0.heap.size:=by rw[hW0];simp
 rw[<- hW0]at HB0 hX0 ⊢;clear hW0
 go_loopw [7] (fun iv wr=>∃k:Nat,k<=b.ls.length/\iv=.i k/\Hid (∀i (hi:i<b.ls.length),i<k->j3 tm rs b.ls[i]=false)/\wr=W0) (fun iv _=>b.ls.length-(intOf iv).toNat)
 case atStart=>exact⟨0,Nat.zero_le _,rfl,fun i hi h=>by omega,rfl⟩
 case round=>
  obtain⟨k,hk,rfl,HQ,rfl⟩:=hrel;have hkn:k<=1048576:=by omega
  by_cases hlt:k<b.ls.length
  ·obtain⟨ob,off,rfl,hob,d0,d1,d2,d3⟩:=HK.o.ls.load HB0.o k hlt
   have hltI:(k:Int)<(b.ls.length:Int):=by omega
   clear d2 d3
   by_cases h1:b.ls[k].tm=tm
   ·have e1:(b.ls[k].tm.toList == tm.toList)=true:=by rw[beq_toList];simpa using h1
    by_cases h2:b.ls[k].rs=rs
    ·have e2:(b.ls[k].rs.toList == rs.toList)=true:=by rw[beq_toList];simpa using h2
     have HF:Hid (zdc (j3 tm rs) b.ls=k):=zpC hlt HQ.o (by unfold j3;simp[h1,h2]);clear h1 h2;go_wp2_with fail
     go_ret;exact⟨zo HF.o.symm,HB0.o⟩
    ·have e2:(b.ls[k].rs.toList == rs.toList)=false:=by rw[beq_toList];simpa using h2
     have HN:Hid (∀i (hi:i<b.ls.length),i<k+1->j3 tm rs b.ls[i]=false):=by
      intro i hi h
      rcases Nat.eq_or_lt_of_le (Nat.le_of_lt_succ h) with e|h'
      ·subst e;unfold j3;simp[h2]
      ·exact HQ.o i hi h'
     clear h1 h2;go_wp2_with fail
     exact⟨⟨k+1,by omega,by go_num,HN.o,trivial⟩,zq hlt⟩
   ·have e1:(b.ls[k].tm.toList == tm.toList)=false:=by rw[beq_toList];simpa using h1
    have HN:Hid (∀i (hi:i<b.ls.length),i<k+1->j3 tm rs b.ls[i]=false):=by
     intro i hi h
     rcases Nat.eq_or_lt_of_le (Nat.le_of_lt_succ h) with e|h'
     ·subst e;unfold j3;simp[h1]
     ·exact HQ.o i hi h'
    clear h1;go_wp2_with fail
    exact⟨⟨k+1,by omega,by go_num,HN.o,trivial⟩,zq hlt⟩
  ·have HF:Hid (zdc (j3 tm rs) b.ls=-1):=zlu fun i hi=>HQ.o i hi (by omega)
   clear HQ;go_wp2_with fail
   go_ret;exact⟨zo HF.o.symm,HB0.o⟩
set_option maxRecDepth 20000 in
theorem zmP (own0:Nat->Lb)(a:OA)(cap:Nat)(xs:List Ob)(w:World)(hw:zbG w a xs)(hl:xs.length<=1048576)(hls:∀i (h:i<xs.length),xs[i].vs.length<=1048576/\xs[i].hs.length<=1048576) :
 Calls Tryz.prog 88 #[.l a xs.length cap,.func (.func 89) #[] #[]] w fun e w'=>∃v own,e=.returned v/\(∀k,k<w.heap.size->own k=own0 k)/\zhB w.heap.size w' own v xs/\Bw w w':=by
 obtain⟨i0,hi,hzi,hz1',hz2'⟩:=info_parts Tryz.zqK;have HI:Hid (Tryz.prog.info? 121=some i0/\i0.zero=some (.agg oZ)/\i0.size=7/\i0.bytes=112):=⟨hi,hzi,hz1',hz2'⟩
 have HK:=hid hw;have HL:=ql hl hls;clear hw hi hzi hz1' hz2' hls;go_enter Tryz.func88,Tryz.ntmps88;go_wp2_with fail
 go_loopw [5,10] (fun v0 iv wr=>∃(k:Nat) (v:Value) (own:Nat->Lb),v=v0/\k<=xs.length/\iv=.i k/\Hid (zhB w.heap.size wr own v (xs.take k)/\(∀q,q<w.heap.size->own q=own0 q)/\Bw w wr)) (fun _ iv _=>xs.length-(intOf iv).toNat)
 case atStart=>exact⟨0,_,own0,rfl,Nat.zero_le _,rfl,⟨[],by simp,World.ownsRow_nil _ _ _ _,fun k hk=>by simp[Value.ownBlock]at hk,fun i hi=>absurd hi (by simp)⟩,fun _ _=>rfl,bRf _ _⟩
 case round=>
  obtain⟨k,v,own,hv,hk,rfl,HQ⟩:=hrel;subst hv
  by_cases hlt:k<xs.length
  ·obtain⟨ob,off,va0,va1,vc0,vc1,rfl,hob,hsm,hi0,hi1,d0,d1,d2,d3,d4,d5,d6⟩:=HK.o.load HQ.o.2.2 k hlt
   have hob':=nLt hob HQ.o.2.2.size;have hltI:(k:Int)<(xs.length:Int):=by omega
   have HI0:=hid hi0;have HI1:=hid hi1;have HBa:=hid ((bRf wr.heap.size wr).alloc (Nat.le_refl _) (.cells #[.s xs[k].kd,.s xs[k].nm,.s xs[k].tm,.l va0 xs[k].vs.length vc0,.bool xs[k].en,.l va1 xs[k].hs.length vc1,.i xs[k].vr] 121));clear hi0 hi1;go_wp2_with fail
   clear d0 d1 d2 d3 d4 d5 d6;refine(zfk xs[k] va0 va1 vc0 vc1 _ ⟨hsm,HI0.o.mono HBa.o,HI1.o.mono HBa.o⟩ (HL.o.2 k hlt).1 (HL.o.2 k hlt).2).mono ?_;rintro e w1⟨a0,c0,a1,c1,m,rfl,ht0,hm,hsm1,ht1,hb1⟩;have hzW:wr.heap.size<=(wr.alloc (.cells #[.s xs[k].kd,.s xs[k].nm,.s xs[k].tm,.l va0 xs[k].vs.length vc0,.bool xs[k].en,.l va1 xs[k].hs.length vc1,.i xs[k].vr] 121)).heap.size:=by simp
   have HT:Hid (zn wr.heap.size w1 a0 xs[k].vs/\(∀g,a0=some g->g.block<m)/\wr.heap.size<=m/\zn m w1 a1 xs[k].hs):=⟨ht0.low hzW,hm,Nat.le_trans hzW hsm1,ht1⟩
   clear ht0 hm hsm1 ht1;have HB1:=hid (HBa.o.trans (hb1.mono hzW));clear hb1 HBa HI0 HI1 hsm;obtain⟨ps,hps,hown,hlab,hent⟩:=HQ.o.1;have HPS:=zbX hps hown hlab hent;have hpl:ps.length=(xs.take k).length:=by rw[<- hps,List.length_map]
   rw[List.length_take]at hpl;have HLL:Hid (ps.length<=1048576/\w.heap.size<=wr.heap.size/\wr.heap.size<=w1.heap.size):=⟨by omega,HQ.o.2.2.size,HB1.o.size⟩
   clear hpl;have hown1:w1.ownsRow w.heap.size 121 7 v ps.length (ps.flatMap ObP.row):=yC hown HB1.o;clear hps hown hlab hent
   go_wp2_with (at_builtin;refine wpList_append_own_at _ rfl (.tmp 14) (.tmp 18) 35 rfl w.heap.size 121 i0 (.agg #[.s ByteArray.empty,.s ByteArray.empty,.s ByteArray.empty,.l none 0 0,.bool false,.l none 0 0,.i 0]) 7 112 Tryz.underlying35 HI.o.1 HI.o.2.1 HI.o.2.2.1 HI.o.2.2.2 rfl (by decide) _ _ _ rfl (hown1.alloc _) (aD w1.heap.size 0) 1 1 [.s xs[k].kd,.s xs[k].nm,.s xs[k].tm,.l a0 xs[k].vs.length c0,.bool xs[k].en,.l a1 xs[k].hs.length c1,.i xs[k].vr] rfl rfl (zeV _ _ _) (by intro u hu;simp at hu;rcases hu with rfl|rfl|rfl|rfl|rfl|rfl|rfl <;> rfl) (by have:=HLL.o;unfold maxLen;omega) (by have:=HLL.o;omega) (by have:=HLL.o;simp;omega) ?_;intro v' w4 hown' hgr _ hat)
   obtain⟨own',ho1,ho2⟩:=zhB.snoc HPS.o.1 HPS.o.2.1 HPS.o.2.2.1 HPS.o.2.2.2 HLL.o.2.1 HB1.o HT.o.1 HT.o.2.1 HT.o.2.2.1 HT.o.2.2.2 hgr hown' hat;exact⟨⟨k+1,v',own',rfl,by omega,by go_num,by rw[tSe hlt];exact ho2,fun z hz=>(ho1 z (by have:=HLL.o;omega)).trans (HQ.o.2.1 z hz),((HQ.o.2.2.trans (HB1.o.mono HLL.o.2.1)).alloc (by have:=HLL.o;omega) _).grown hgr (by have:=HLL.o;simp;omega) (fun z hz=>(HPS.o.2.1.lt z hz).1)⟩,zq hlt⟩
  ·have e:k=xs.length:=by omega
   subst e;have HE:=HQ;rw[tOl (Nat.le_refl _)]at HE;clear HQ;go_wp2_with fail
   go_ret;exact⟨v,own,rfl,HE.o.2.1,HE.o.1,HE.o.2.2⟩
set_option maxRecDepth 20000 in
theorem zmT (own0:Nat->Lb)(a:OA)(cap:Nat)(xs:List Gr)(w:World)(hw:zcj w a xs)(hl:xs.length<=1048576)(hls:∀i (h:i<xs.length),xs[i].r.vs.length<=1048576) :
 Calls Tryz.prog 90 #[.l a xs.length cap,.func (.func 91) #[] #[]] w fun e w'=>∃v own,e=.returned v/\(∀k,k<w.heap.size->own k=own0 k)/\zhx w.heap.size w' own v xs/\Bw w w':=by
 obtain⟨i0,hi,hzi,hz1',hz2'⟩:=info_parts Tryz.zq5;have HI:Hid (Tryz.prog.info? 125=some i0/\i0.zero=some (.agg #[.i 0,.s ByteArray.empty,.s ByteArray.empty,.l none 0 0,.s ByteArray.empty,.s ByteArray.empty,.s ByteArray.empty])/\i0.size=7/\i0.bytes=112):=⟨hi,hzi,hz1',hz2'⟩
 have HK:=hid hw;have HL:=ql hl hls;clear hw hi hzi hz1' hz2' hls;go_enter Tryz.func90,Tryz.ntmps90;go_wp2_with fail
 go_loopw [5,10] (fun v0 iv wr=>∃(k:Nat) (v:Value) (own:Nat->Lb),v=v0/\k<=xs.length/\iv=.i k/\Hid (zhx w.heap.size wr own v (xs.take k)/\(∀q,q<w.heap.size->own q=own0 q)/\Bw w wr)) (fun _ iv _=>xs.length-(intOf iv).toNat)
 case atStart=>exact⟨0,_,own0,rfl,Nat.zero_le _,rfl,⟨[],by simp,World.ownsRow_nil _ _ _ _,fun k hk=>by simp[Value.ownBlock]at hk,fun i hi=>absurd hi (by simp)⟩,fun _ _=>rfl,bRf _ _⟩
 case round=>
  obtain⟨k,v,own,hv,hk,rfl,HQ⟩:=hrel;subst hv
  by_cases hlt:k<xs.length
  ·obtain⟨ob,off,va0,vc0,rfl,hob,hsm,hi0,d0,d1,d2,d3,d4,d5,d6⟩:=HK.o.load HQ.o.2.2 k hlt
   have hob':=nLt hob HQ.o.2.2.size;have hltI:(k:Int)<(xs.length:Int):=by omega
   have HI0:=hid hi0;have HBa:=hid ((bRf wr.heap.size wr).alloc (Nat.le_refl _) (.cells #[.i xs[k].no,.s xs[k].to,.s xs[k].gb,.l va0 xs[k].r.vs.length vc0,.s xs[k].r.kd,.s xs[k].r.tm,.s xs[k].r.px] 125));clear hi0;go_wp2_with fail
   clear d0 d1 d2 d3 d4 d5 d6;refine(zkL xs[k] va0 vc0 _ (HI0.o.mono HBa.o) (HL.o.2 k hlt)).mono ?_;rintro e w1⟨a0,c0,rfl,ht0,hb1⟩;have hzW:wr.heap.size<=(wr.alloc (.cells #[.i xs[k].no,.s xs[k].to,.s xs[k].gb,.l va0 xs[k].r.vs.length vc0,.s xs[k].r.kd,.s xs[k].r.tm,.s xs[k].r.px] 125)).heap.size:=by simp
   have HT:Hid (yx wr.heap.size w1 a0 xs[k].r.vs):=ht0.low hzW;clear ht0;have HB1:=hid (HBa.o.trans (hb1.mono hzW));clear hb1 HBa HI0 hsm;obtain⟨ps,hps,hown,hlab,hent⟩:=HQ.o.1;have HPS:=zbX hps hown hlab hent;have hpl:ps.length=(xs.take k).length:=by rw[<- hps,List.length_map]
   rw[List.length_take]at hpl;have HLL:Hid (ps.length<=1048576/\w.heap.size<=wr.heap.size/\wr.heap.size<=w1.heap.size):=⟨by omega,HQ.o.2.2.size,HB1.o.size⟩
   clear hpl;have hown1:w1.ownsRow w.heap.size 125 7 v ps.length (ps.flatMap GrP.row):=yC hown HB1.o;clear hps hown hlab hent
   go_wp2_with (at_builtin;refine wpList_append_own_at _ rfl (.tmp 14) (.tmp 18) 36 rfl w.heap.size 125 i0 (.agg #[.i 0,.s ByteArray.empty,.s ByteArray.empty,.l none 0 0,.s ByteArray.empty,.s ByteArray.empty,.s ByteArray.empty]) 7 112 Tryz.underlying36 HI.o.1 HI.o.2.1 HI.o.2.2.1 HI.o.2.2.2 rfl (by decide) _ _ _ rfl (hown1.alloc _) (aD w1.heap.size 0) 1 1 [.i xs[k].no,.s xs[k].to,.s xs[k].gb,.l a0 xs[k].r.vs.length c0,.s xs[k].r.kd,.s xs[k].r.tm,.s xs[k].r.px] rfl rfl (zeV _ _ _) (by intro u hu;simp at hu;rcases hu with rfl|rfl|rfl|rfl|rfl|rfl|rfl <;> rfl) (by have:=HLL.o;unfold maxLen;omega) (by have:=HLL.o;omega) (by have:=HLL.o;simp;omega) ?_;intro v' w4 hown' hgr _ hat)
   obtain⟨own',ho1,ho2⟩:=zhx.snoc HPS.o.1 HPS.o.2.1 HPS.o.2.2.1 HPS.o.2.2.2 HLL.o.2.1 HB1.o HT.o hgr hown' hat;exact⟨⟨k+1,v',own',rfl,by omega,by go_num,by rw[tSe hlt];exact ho2,fun z hz=>(ho1 z (by have:=HLL.o;omega)).trans (HQ.o.2.1 z hz),((HQ.o.2.2.trans (HB1.o.mono HLL.o.2.1)).alloc (by have:=HLL.o;omega) _).grown hgr (by have:=HLL.o;simp;omega) (fun z hz=>(HPS.o.2.1.lt z hz).1)⟩,zq hlt⟩
  ·have e:k=xs.length:=by omega
   subst e;have HE:=HQ;rw[tOl (Nat.le_refl _)]at HE;clear HQ;go_wp2_with fail
   go_ret;exact⟨v,own,rfl,HE.o.2.1,HE.o.1,HE.o.2.2⟩
end Go.Proofs.YtcgpjfcocmcodaaGreat
