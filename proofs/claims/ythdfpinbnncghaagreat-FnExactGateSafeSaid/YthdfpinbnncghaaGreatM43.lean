import Derived.Test.YthdfpinbnncghaaGreatM42
import Derived.Test.YthdfpinbnncghaaGreatM41
import Derived.Test.YthdfpinbnncghaaGreatM29
import Derived.Test.YthdfpinbnncghaaGreatM30
set_option maxHeartbeats 4000000
namespace Go.Proofs.YthdfpinbnncghaaGreat
open Go.RowKit
def zbj (s:Shp)(i:Nat):BA:=(s.fs.getD i zb7).nm
def jT (s:Shp)(ms:List Mnd)(row:List BA)(i:Nat):Bool:=!has row (zbj s i)&&zcD ms s.kd (zbj s i) row
def zfq (s:Shp)(ms:List Mnd)(row:List BA):List BA:=match (List.range s.fs.length).find? (jT s ms row) with|none=>row|some i=>row++[zbj s i]
def yA (s:Shp)(ms:List Mnd):Nat->List BA
 | 0=>[]
 | k+1=>zfq s ms (yA s ms k)
theorem zmx (s:Shp)(ms:List Mnd)(row:List BA):(zfq s ms row).length<=row.length+1:=by
 unfold zfq;split
 ·omega
 ·simp
theorem zfz (s:Shp)(ms:List Mnd):∀k,(yA s ms k).length<=k
 | 0=>Nat.le_refl _
 | k+1=>Nat.le_trans (zmx s ms _) (by have:=zfz s ms k;omega)
theorem zfw (s:Shp)(ms:List Mnd):∀k,∀x∈yA s ms k,∃i,i<s.fs.length/\x=zbj s i
 | 0,x,h=>by cases h
 | k+1,x,h=>by
  have h':x∈zfq s ms (yA s ms k):=h;unfold zfq at h'
  split at h'
  ·exact zfw s ms k x h'
  ·rename_i i hi
   rw[List.mem_append,List.mem_singleton]at h'
   rcases h' with h'|h'
   ·exact zfw s ms k x h'
   ·exact⟨i,List.mem_range.1 (List.mem_of_find?_eq_some hi),h'⟩
set_option maxRecDepth 20000 in
theorem zlG (fa ma:OA)(fcap mcap:Nat)(s:Shp)(ms:List Mnd)(w:World)(hf:yj w fa s.fs)(hm:qZ w ma ms)(hml:ms.length<=12)(hn:s.fs.length<=6) :
 Calls Tryz.prog 135 #[.agg #[.s s.kd,.l fa s.fs.length fcap],.l ma ms.length mcap] w fun e w'=>∃v,e=.returned v/\w'.ownsRow w.heap.size 9 1 v (yA s ms s.fs.length).length ((yA s ms s.fs.length).map Value.string)/\Bw w w':=by
 have HM:=ji hf hm
 have HSM:Hid (∀k,∀x∈yA s ms k,x.size<=maxLen):=by
  intro k x hx;obtain⟨i,hi,rfl⟩:=zfw s ms k x hx;unfold zbj;rw[getD_at _ _ _ hi];exact(hf.smalls.small i hi).1.nm
 obtain⟨i0,hi0,hz0,hz1',hz2⟩:=info_parts Tryz.zdi;clear hf hm;go_enter Tryz.func135,Tryz.ntmps135;go_wp2_with fail
 have hnI:(s.fs.length:Int)<=6:=by omega
 go_loopw [5,6] (fun v0 iv wr=>∃(k:Nat) (v:Value),v=v0/\k<=s.fs.length/\iv=.i k/\wr.ownsRow (w.heap.size+1) 9 1 v (yA s ms k).length ((yA s ms k).map Value.string)/\wr.heap[w.heap.size]?=some (.cells #[.s s.kd,.l fa s.fs.length fcap] 139)/\Bw w wr) (fun _ iv _=>s.fs.length-(intOf iv).toNat)
 case atStart=>exact⟨0,_,rfl,Nat.zero_le _,rfl,⟨rfl,.inr ⟨w.heap.size+1,0,#[],rfl,Nat.le_refl _,(yt _ _ _).2,Nat.le_refl _,by simp[maxLen],rfl,rfl⟩⟩,(yt _ _ _).1,zx _ _ _⟩
 case round=>
  obtain⟨k,v,hv,hk,rfl,hown,hbox,hB⟩:=hrel;subst hv;obtain⟨va,vcap,rfl⟩:=qL hown;have HW:=zcl hown hbox hB;have hXr:∀j,wr.cell? (aD w.heap.size j)=(#[.s s.kd,.l fa s.fs.length fcap]:AV)[j]?:=fun j=>cell_of_block hbox
  have hzr:=(gES hbox).1;have HGL:Hid ((yA s ms k).length<=6):=by have:=zfz s ms k;show _<=_;omega
  clear hown hbox hB
  by_cases hlt:k<s.fs.length
  ·have hltI:(k:Int)<(s.fs.length:Int):=by omega
   go_wp2_with fail
   clear hXr;obtain⟨wo,hwo⟩:=xN (wr);have HWO:Hid (wo.ownsRow (w.heap.size+1) 9 1 (.l va (yA s ms k).length vcap) (yA s ms k).length ((yA s ms k).map Value.string)/\wo.heap[w.heap.size]?=some (.cells #[.s s.kd,.l fa s.fs.length fcap] 139)/\Bw w wo/\w.heap.size<wo.heap.size):=by rw[hwo];exact⟨HW.o.1,HW.o.2.1,HW.o.2.2,hzr⟩
   have HWE:=hid hwo;clear hwo HW hzr
   go_loopw [5,7] (fun v1 iv wq=>∃i:Nat,i<=s.fs.length/\iv=.i i/\v1=.l va (yA s ms k).length vcap/\(∀q,q<i->jT s ms (yA s ms k) q=false)/\Bw wo wq) (fun _ iv _=>s.fs.length-(intOf iv).toNat)
   case atStart=>exact⟨0,Nat.zero_le _,rfl,rfl,fun q h=>absurd h (by omega),by rw[HWE.o];exact bRf _ _⟩
   case round=>
    obtain⟨i,hi,rfl,rfl,hno,hBq⟩:=hrel;have HQ:=zst hno hBq (jD HWO.o.1 hBq) ((hBq.block _ HWO.o.2.2.2).trans HWO.o.2.1) (HWO.o.2.2.1.trans (hBq.mono HWO.o.2.2.1.size));have hXq:=zbH HQ.o.2.2.2.1;have hzq:=(gES HQ.o.2.2.2.1).1;clear hno hBq
    by_cases hil:i<s.fs.length
    ·have hilI:(i:Int)<(s.fs.length:Int):=by omega
     obtain⟨fb,foff,rfl,hfb,hr⟩:=HM.o.1.rows (by intro e;rw[e]at hil;simp at hil);obtain⟨wa,wcap,hf0⟩:=hr i hil;obtain⟨c0,c1,c2,c3,c4,c5,c6,c7,c8,c9,c10⟩:=(hf0.mono hfb HQ.o.2.2.2.2).load;have HNM:Hid (zbj s i=s.fs[i].nm):=by unfold Hid zbj;rw[getD_at _ _ _ hil]
     have HST:=hid (zmw HQ.o.2.2.1 (by have:=HGL.o;unfold maxLen;omega) (HSM.o k))
     have HFIND:Hid (jT s ms (yA s ms k) i=true->yA s ms (k+1)=yA s ms k++[s.fs[i].nm]):=by
      intro h
      show zfq s ms (yA s ms k)=_
      unfold zfq
      have:(List.range s.fs.length).find? (jT s ms (yA s ms k))=some i:=by
       rw[List.find?_range_eq_some];exact⟨h,List.mem_range.2 hil,fun j hj=>by rw[HQ.o.1 j hj];rfl⟩
      rw[this]
      show yA s ms k++[zbj s i]=_
      rw[HNM.o]
     clear hr hf0 c1 c2 c3 c4 c5 c6 c7 c8 c9 c10;go_wp2_with fail
     have h:=zc0 va vcap (yA s ms k) s.fs[i].nm wr HST.o
     rcases hh:has (yA s ms k) s.fs[i].nm with _|_
     rotate_left
     ·rw[hh]at h
      refine h.mono ?_;rintro e w3⟨rfl,rfl⟩
      have HNR:Hid (∀q,q<i+1->jT s ms (yA s ms k) q=false):=by
       intro q hq
       rcases Nat.lt_or_ge q i with h1|h1
       ·exact HQ.o.1 q h1
       ·have e:q=i:=by omega
        subst e;unfold jT;rw[HNM.o,hh];rfl
      clear h hh;go_wp2_with fail
      exact⟨⟨i+1,by omega,by go_num,rfl,HNR.o,HQ.o.2.1⟩,zw hil⟩
     rw[hh]at h;refine h.mono ?_;rintro e w3'⟨rfl,hw3⟩;rw[hw3];clear hw3 w3';have HRN:Hid (jT s ms (yA s ms k) i=zcD ms s.kd s.fs[i].nm (yA s ms k)):=by unfold Hid jT;rw[HNM.o,hh];rfl
     clear h hh;go_wp2_with fail
     have h:=zoc ma va mcap vcap ms s.kd s.fs[i].nm (yA s ms k) wr (HM.o.2.mono HQ.o.2.2.2.2) HST.o hml
     rcases hh:zcD ms s.kd s.fs[i].nm (yA s ms k) with _|_
     ·rw[hh]at h
      refine h.mono ?_;rintro e w3⟨rfl,hb3⟩
      have HNR:Hid ((∀q,q<i+1->jT s ms (yA s ms k) q=false)/\Bw wo w3):=by
       refine⟨fun q hq=>?_,HQ.o.2.1.trans (hb3.mono HQ.o.2.1.size)⟩
       rcases Nat.lt_or_ge q i with h1|h1
       ·exact HQ.o.1 q h1
       ·have e:q=i:=by omega
        subst e;rw[HRN.o,hh]
      clear h hh hb3;go_wp2_with fail
      exact⟨⟨i+1,by omega,by go_num,rfl,HNR.o.1,HNR.o.2⟩,zw hil⟩
     rw[hh]at h;refine h.mono ?_;rintro e w3⟨rfl,hb3⟩;have HG1:=hid (HFIND.o (by rw[HRN.o,hh]));have H3:=zk2 (jD HQ.o.2.2.1 hb3) ((hb3.block _ hzq).trans HQ.o.2.2.2.1) (HQ.o.2.2.2.2.trans (hb3.mono HQ.o.2.2.2.2.size)) (nLt hzq hb3.size);clear h hh hb3 hXq c0
     go_wp2_with (at_builtin;refine zhw ?_)
     show wpList _ _ _ _ _ _
     refine wpList_append_own _ rfl (.tmp 42) (.tmp 44) 110 rfl (w.heap.size+1) 9 i0 (.s ByteArray.empty) 1 16 Tryz.underlying110 hi0 hz0 hz1' hz2 rfl (by decide) (.l va (yA s ms k).length vcap) _ _ rfl (H3.o.1.alloc _) (aD w3.heap.size 0) 1 1 [.s s.fs[i].nm] rfl rfl (zfl _ _ _) (by intro u hu;simp at hu;subst hu;rfl) (by have:=HGL.o;unfold maxLen;omega) (by have:=HGL.o;omega) (by have:=H3.o.2.2.2;simp;omega) ?_;intro v' w4 hown' hgr _;obtain⟨va',vcap',rfl⟩:=qL hown';have hgb:∀g,(Value.slice va (yA s ms k).length vcap).ownBlock=some g->w.heap.size+1<=g:=fun g hg=>(H3.o.1.lt g hg).1
     have HY:Hid (w4.ownsRow (w.heap.size+1) 9 1 (.l va' ((yA s ms k).length+1) vcap') (yA s ms (k+1)).length ((yA s ms (k+1)).map Value.string)/\w4.heap[w.heap.size]?=some (.cells #[.s s.kd,.l (some (aD fb foff)) s.fs.length fcap] 139)/\Bw w w4):=by
      refine⟨by rw[HG1.o,List.length_append,List.map_append];exact hown',?_,zdA H3.o.2.2.1 H3.o.2.2.1.size hgr (fun g hg=>by have:=hgb g hg;omega)⟩;exact(za4 hgr (by have:=H3.o.2.2.2;simp;omega) (fun g hg=>by have:=hgb g hg;omega)).trans ((Below.heap_alloc _ _ _ H3.o.2.2.2).trans H3.o.2.1)
     clear hown' hgr hgb;go_wp2_with fail
     exact⟨⟨k+1,_,rfl,by omega,by go_num,HY.o.1,HY.o.2.1,HY.o.2.2⟩,zw hlt⟩
    ·have e:i=s.fs.length:=by omega
     have HN:Hid (yA s ms (k+1)=yA s ms k):=by
      show zfq s ms (yA s ms k)=_
      unfold zfq
      have:(List.range s.fs.length).find? (jT s ms (yA s ms k))=none:=by
       rw[List.find?_eq_none];intro q hq;rw[HQ.o.1 q (by rw[e];exact List.mem_range.1 hq)]
       simp
      rw[this]
     subst e;go_wp2_with fail
     exact⟨⟨k+1,_,rfl,by omega,by go_num,by rw[HN.o];exact HQ.o.2.2.1,HQ.o.2.2.2.1,HQ.o.2.2.2.2⟩,zw hlt⟩
  ·have e:k=s.fs.length:=by omega
   subst e;go_wp2_with fail
   go_ret;exact⟨_,rfl,zdw HW.o.1 (by omega),HW.o.2.2⟩
def zd3 {α:Type}(p:α->Bool)(l:List α):Int:=if l.any p=true then (l.findIdx p:Int) else -1
theorem zp3 {α:Type}{p:α->Bool}{l:List α}{k:Nat}(hk:k<l.length)(h:∀i (hi:i<l.length),i<k->p l[i]=false)(hp:p l[k]=true):zd3 p l=k:=by
 unfold zd3;rw[if_pos (List.any_eq_true.2 ⟨l[k],List.getElem_mem _,hp⟩)];have e:l.findIdx p=k:=(List.findIdx_eq hk).2 ⟨hp,fun j hj=>h j (by omega) hj⟩;rw[e]
theorem zlM {α:Type}{p:α->Bool}{l:List α}(h:∀i (hi:i<l.length),p l[i]=false):zd3 p l=-1:=by
 unfold zd3;rw[if_neg];intro hc;obtain⟨x,hx,hp⟩:=List.any_eq_true.1 hc;obtain⟨i,hi,rfl⟩:=List.mem_iff_getElem.1 hx;rw[h i hi]at hp
 cases hp
theorem zcw {α:Type}(p:α->Bool)(l:List α):zd3 p l<0↔l.any p=false:=by
 unfold zd3
 split
 ·rename_i h;rw[h];constructor
  ·intro h';omega
  ·intro h';cases h'
 ·rename_i h
  exact⟨fun _=>by simpa using h,fun _=>by omega⟩
def zch (kd nm:BA)(o:Ob):Bool:=decide (o.kd=kd)&&decide (o.nm=nm)
def zeW (tm rs:BA)(g:Lg):Bool:=decide (g.tm=tm)&&decide (g.rs=rs)
def zoT (tm rs:BA)(p:Pu):Bool:=decide (p.tm=tm)&&decide (p.rs=rs)
def zbt (ps:List Pu)(tm rs:BA):Nat->Int
 | 0=>0
 | k+1=>zbt ps tm rs k+(match ps[k]? with|some p=>if zoT tm rs p=true then p.am else 0|none=>0)
def out (ps:List Pu)(tm rs:BA):Int:=zbt ps tm rs ps.length
theorem zfI (ps:List Pu)(tm rs:BA)(k:Nat)(h:k<ps.length):zbt ps tm rs (k+1)=zbt ps tm rs k+(if zoT tm rs ps[k]=true then ps[k].am else 0):=by
 simp only[zbt,List.getElem?_eq_getElem h]
theorem zbV (ps:List Pu)(tm rs:BA)(ha:∀i (h:i<ps.length),0<=ps[i].am/\ps[i].am<=1000000):∀k,k<=ps.length->0<=zbt ps tm rs k/\zbt ps tm rs k<=k*1000000
 | 0,_=>by simp[zbt]
 | k+1,h=>by
  have h1:=zbV ps tm rs ha k (by omega);have h2:=ha k h;rw[zfI ps tm rs k h]
  split <;> omega
theorem zhW (x y:BA)(w:World):Calls Tryz.prog 138 #[.s x,.s y] w fun e w'=>e=.returned (.i (key x y))/\w'=w:=by
 have k1:=zeV x y;have k2:=zeV y x;have k3:=zrA x y;have k4:=zkd x y;unfold less at k1 k2
 by_cases h1:key x y=-1
 ·have HF:=zkN h1
  have e1:Op.bytesLess x.toList y.toList=true:=by rw[k1];simpa using h1
  clear k1 k2 k3 k4 h1;go_enter Tryz.func138,Tryz.ntmps138;go_wp2_with fail
  go_ret;exact⟨zk HF.o.symm,rfl⟩
 ·have e1:Op.bytesLess x.toList y.toList=false:=by rw[k1];simpa using h1
  by_cases h2:key y x=-1
  ·have HF:Hid (key x y=1):=by unfold Hid;omega
   have e2:Op.bytesLess y.toList x.toList=true:=by rw[k2];simpa using h2
   have e3:(x.toList == y.toList)=false:=by rw[beq_toList,decide_eq_false_iff_not];intro e;have:=(zbP x y).2 e;omega
   clear k1 k2 k3 k4 h1 h2;go_enter Tryz.func138,Tryz.ntmps138;go_wp2_with fail
   go_ret;exact⟨zk HF.o.symm,rfl⟩
  ·have HF:Hid (key x y=0):=by unfold Hid;omega
   have e2:Op.bytesLess y.toList x.toList=false:=by rw[k2];simpa using h2
   have e3:(x.toList == y.toList)=true:=by rw[beq_toList,decide_eq_true_eq];exact(zbP x y).1 HF.o
   clear k1 k2 k3 k4 h1 h2;go_enter Tryz.func138,Tryz.ntmps138;go_wp2_with fail
   go_ret;exact⟨zk HF.o.symm,rfl⟩
theorem zho (x y z u:BA)(w:World):Calls Tryz.prog 95 #[.s x,.s y,.s z,.s u] w fun e w'=>e=.returned (.i (key2 x y z u))/\w'=w:=by
 by_cases h:key x z=0
 ·have HF:Hid (key2 x y z u=key y u):=by unfold Hid key2;rw[if_pos h]
  have e1:(key x z != 0)=false:=by simpa using h
  clear h;go_enter Tryz.func95,Tryz.ntmps95
  go_wp2_with (go_at_call 138;refine(zhW _ _ _).mono ?_;rintro e w2⟨rfl,rfl⟩)
  go_ret;exact⟨zk HF.o.symm,rfl⟩
 ·have HF:Hid (key2 x y z u=key x z):=by unfold Hid key2;rw[if_neg h]
  have e1:(key x z != 0)=true:=by simpa using h
  clear h;go_enter Tryz.func95,Tryz.ntmps95
  go_wp2_with (go_at_call 138;refine(zhW _ _ _).mono ?_;rintro e w2⟨rfl,rfl⟩)
  go_ret;exact⟨zk HF.o.symm,rfl⟩
theorem zkF (p q:Pu)(w:World):Calls Tryz.prog 103 #[.agg p.cells,.agg q.cells] w fun e w'=>e=.returned (.i (zaF p q))/\Bw w w':=by
 unfold Pu.cells
 by_cases h:p.dr=q.dr
 ·have HF:Hid (zaF p q=key2 p.tm p.rs q.tm q.rs):=by unfold Hid zaF;rw[if_pos ((zbP _ _).2 h)]
  have e1:(p.dr.toList == q.dr.toList)=true:=by rw[beq_toList];simpa using h
  clear h;go_enter Tryz.func103,Tryz.ntmps103;go_wp2_with fail
  refine(zho _ _ _ _ _).mono ?_;rintro e w2⟨rfl,rfl⟩;go_wp2_with fail
  go_ret;exact⟨zk HF.o.symm,zx _ _ _⟩
 ·have HF:Hid (zaF p q=key p.dr q.dr):=by unfold Hid zaF;rw[if_neg (fun e=>h ((zbP _ _).1 e))]
  have e1:(p.dr.toList == q.dr.toList)=false:=by rw[beq_toList];simpa using h
  clear h;go_enter Tryz.func103,Tryz.ntmps103;go_wp2_with fail
  refine(zhW _ _ _).mono ?_;rintro e w2⟨rfl,rfl⟩;go_wp2_with fail
  go_ret;exact⟨zk HF.o.symm,zx _ _ _⟩
theorem znX (b:Bk)(a0 a1 a2 a3:OA)(c0 c1 c2 c3:Nat)(kd nm:BA)(w:World)(hb:jU w b a0 a1 a2 a3)(hl:b.os.length<=1048576) :
 Calls Tryz.prog 99 #[.agg (b.cells a0 a1 a2 a3 c0 c1 c2 c3),.s kd,.s nm] w fun e w'=>e=.returned (.i (zd3 (zch kd nm) b.os))/\Bw w w':=by
 have HK:Hid (jU w b a0 a1 a2 a3):=hb;clear hb;unfold Bk.cells;go_enter Tryz.func99,Tryz.ntmps99;go_wp2_with fail
 have hX0:=zn w (bC b a0 a1 a2 a3 c0 c1 c2 c3) 51;have HB0:Hid (Bw w (w.alloc (.cells (bC b a0 a1 a2 a3 c0 c1 c2 c3) 51))):=bAl _ _;obtain⟨W0,hW0⟩:=xN (w.alloc (.cells (bC b a0 a1 a2 a3 c0 c1 c2 c3) 51));have hz0:w.heap.size<W0.heap.size:=by rw[hW0];simp
 rw[<- hW0]at HB0 hX0 ⊢;clear hW0
 go_loopw [7] (fun iv wr=>∃k:Nat,k<=b.os.length/\iv=.i k/\Hid (∀i (hi:i<b.os.length),i<k->zch kd nm b.os[i]=false)/\wr=W0) (fun iv _=>b.os.length-(intOf iv).toNat)
 case atStart=>exact⟨0,Nat.zero_le _,rfl,fun i hi h=>by omega,rfl⟩
 case round=>
  obtain⟨k,hk,rfl,HQ,rfl⟩:=hrel;have hkn:k<=1048576:=by omega
  by_cases hlt:k<b.os.length
  ·obtain⟨ob,off,v0,v1,q0,q1,rfl,hob,hsm,hl0,hl1,d0,d1,d2,d3,d4,d5,d6⟩:=HK.o.os.load HB0.o k hlt
   have hltI:(k:Int)<(b.os.length:Int):=by omega
   clear hsm hl0 hl1
   by_cases h1:b.os[k].kd=kd
   ·have e1:(b.os[k].kd.toList == kd.toList)=true:=by rw[beq_toList];simpa using h1
    by_cases h2:b.os[k].nm=nm
    ·have e2:(b.os[k].nm.toList == nm.toList)=true:=by rw[beq_toList];simpa using h2
     have HF:Hid (zd3 (zch kd nm) b.os=k):=zp3 hlt HQ.o (by unfold zch;simp[h1,h2]);clear h1 h2;go_wp2_with fail
     go_ret;exact⟨zk HF.o.symm,HB0.o⟩
    ·have e2:(b.os[k].nm.toList == nm.toList)=false:=by rw[beq_toList];simpa using h2
     have HN:Hid (∀i (hi:i<b.os.length),i<k+1->zch kd nm b.os[i]=false):=by
      intro i hi h
      rcases Nat.eq_or_lt_of_le (Nat.le_of_lt_succ h) with e|h'
      ·subst e;unfold zch;simp[h2]
      ·exact HQ.o i hi h'
     clear h1 h2;go_wp2_with fail
     exact⟨⟨k+1,by omega,by go_num,HN.o,trivial⟩,zw hlt⟩
   ·have e1:(b.os[k].kd.toList == kd.toList)=false:=by rw[beq_toList];simpa using h1
    have HN:Hid (∀i (hi:i<b.os.length),i<k+1->zch kd nm b.os[i]=false):=by
     intro i hi h
     rcases Nat.eq_or_lt_of_le (Nat.le_of_lt_succ h) with e|h'
     ·subst e;unfold zch;simp[h1]
     ·exact HQ.o i hi h'
    clear h1;go_wp2_with fail
    exact⟨⟨k+1,by omega,by go_num,HN.o,trivial⟩,zw hlt⟩
  ·have HF:Hid (zd3 (zch kd nm) b.os=-1):=zlM fun i hi=>HQ.o i hi (by omega)
   clear HQ;go_wp2_with fail
   go_ret;exact⟨zk HF.o.symm,HB0.o⟩
theorem zgw (b:Bk)(a0 a1 a2 a3:OA)(c0 c1 c2 c3:Nat)(tm rs:BA)(w:World)(hb:jU w b a0 a1 a2 a3)(hl:b.ls.length<=1048576) :
 Calls Tryz.prog 102 #[.agg (b.cells a0 a1 a2 a3 c0 c1 c2 c3),.s tm,.s rs] w fun e w'=>e=.returned (.i (zd3 (zeW tm rs) b.ls))/\Bw w w':=by
 have HK:Hid (jU w b a0 a1 a2 a3):=hb;clear hb;unfold Bk.cells;go_enter Tryz.func102,Tryz.ntmps102;go_wp2_with fail
 have hX0:=zn w (bC b a0 a1 a2 a3 c0 c1 c2 c3) 51;have HB0:Hid (Bw w (w.alloc (.cells (bC b a0 a1 a2 a3 c0 c1 c2 c3) 51))):=bAl _ _;obtain⟨W0,hW0⟩:=xN (w.alloc (.cells (bC b a0 a1 a2 a3 c0 c1 c2 c3) 51));have hz0:w.heap.size<W0.heap.size:=by rw[hW0];simp
 rw[<- hW0]at HB0 hX0 ⊢;clear hW0
 go_loopw [7] (fun iv wr=>∃k:Nat,k<=b.ls.length/\iv=.i k/\Hid (∀i (hi:i<b.ls.length),i<k->zeW tm rs b.ls[i]=false)/\wr=W0) (fun iv _=>b.ls.length-(intOf iv).toNat)
 case atStart=>exact⟨0,Nat.zero_le _,rfl,fun i hi h=>by omega,rfl⟩
 case round=>
  obtain⟨k,hk,rfl,HQ,rfl⟩:=hrel;have hkn:k<=1048576:=by omega
  by_cases hlt:k<b.ls.length
  ·obtain⟨ob,off,rfl,hob,d0,d1,d2,d3⟩:=HK.o.ls.load HB0.o k hlt
   have hltI:(k:Int)<(b.ls.length:Int):=by omega
   clear d2 d3
   by_cases h1:b.ls[k].tm=tm
   ·have e1:(b.ls[k].tm.toList == tm.toList)=true:=by rw[beq_toList];simpa using h1
    by_cases h2:b.ls[k].rs=rs
    ·have e2:(b.ls[k].rs.toList == rs.toList)=true:=by rw[beq_toList];simpa using h2
     have HF:Hid (zd3 (zeW tm rs) b.ls=k):=zp3 hlt HQ.o (by unfold zeW;simp[h1,h2]);clear h1 h2;go_wp2_with fail
     go_ret;exact⟨zk HF.o.symm,HB0.o⟩
    ·have e2:(b.ls[k].rs.toList == rs.toList)=false:=by rw[beq_toList];simpa using h2
     have HN:Hid (∀i (hi:i<b.ls.length),i<k+1->zeW tm rs b.ls[i]=false):=by
      intro i hi h
      rcases Nat.eq_or_lt_of_le (Nat.le_of_lt_succ h) with e|h'
      ·subst e;unfold zeW;simp[h2]
      ·exact HQ.o i hi h'
     clear h1 h2;go_wp2_with fail
     exact⟨⟨k+1,by omega,by go_num,HN.o,trivial⟩,zw hlt⟩
   ·have e1:(b.ls[k].tm.toList == tm.toList)=false:=by rw[beq_toList];simpa using h1
    have HN:Hid (∀i (hi:i<b.ls.length),i<k+1->zeW tm rs b.ls[i]=false):=by
     intro i hi h
     rcases Nat.eq_or_lt_of_le (Nat.le_of_lt_succ h) with e|h'
     ·subst e;unfold zeW;simp[h1]
     ·exact HQ.o i hi h'
    clear h1;go_wp2_with fail
    exact⟨⟨k+1,by omega,by go_num,HN.o,trivial⟩,zw hlt⟩
  ·have HF:Hid (zd3 (zeW tm rs) b.ls=-1):=zlM fun i hi=>HQ.o i hi (by omega)
   clear HQ;go_wp2_with fail
   go_ret;exact⟨zk HF.o.symm,HB0.o⟩
def zbs (ss:List Shp)(m:Mnd):Bool:=zC ss m.kd&&yK (shapeOf ss m.kd).fs m
def zcG (ms:List Mnd)(s:Shp):Bool:=decide ((yA s ms s.fs.length).length=s.fs.length)
def jL (ss:List Shp)(ms:List Mnd):Bool:=yg ss&&decide (ms.length<=12)&&ms.all (zbs ss)&&ss.all (zcG ms)
theorem zmV (a:OA)(cap:Nat)(ss:List Shp)(m:Mnd)(w:World)(hw:yR w a ss)(hm:m.Small) :
 Calls Tryz.prog 134 #[.l a ss.length cap,.agg m.cells] w fun e w'=>e=.returned (.bool (zbs ss m))/\Bw w w':=by
 by_cases hk:zC ss m.kd=true
 ·refine(zmq a cap ss m w hw hm hk).mono ?_
  rintro e w'⟨rfl,hb⟩;exact⟨by unfold zbs;rw[hk];rfl,hb⟩
 ·have hkf:zC ss m.kd=false:=by simpa using hk
  have HF:Hid (zbs ss m=false):=by unfold Hid zbs;rw[hkf];rfl
  unfold Mnd.cells;have hba:=(bRf w.heap.size w).alloc (Nat.le_refl _) (.cells #[.s m.kd,.s m.fd,.s m.wh,.s m.wi,.s m.pt,.s m.fr] 141);go_enter Tryz.func134,Tryz.ntmps134;go_wp2_with fail
  refine(jW _ _ _ _ _ (hw.mono hba) hkf).mono ?_;rintro e w1⟨rfl,rfl⟩;go_wp2_with fail
  go_ret;exact⟨by rw[HF.o];rfl,hba⟩
set_option maxRecDepth 20000 in
theorem zeP (a a':OA)(cap cap':Nat)(ss:List Shp)(ms:List Mnd)(w:World)(hw:yR w a ss)(hm:qZ w a' ms) :
 Calls Tryz.prog 91 #[.l a ss.length cap,.l a' ms.length cap'] w fun e w'=>e=.returned (.bool (jL ss ms))/\Bw w w':=by
 have HW:=ji hw hm;have hl:=hw.len;have hml:=hm.len;unfold maxLen at hl hml;clear hw hm
 by_cases hok:yg ss=true
 rotate_left
 ·have hokf:yg ss=false:=by simpa using hok
  have HF:Hid (jL ss ms=false):=by unfold Hid jL;rw[hokf];simp
  go_enter Tryz.func91,Tryz.ntmps91;go_wp2_with fail
  have h:=zcm a cap ss w HW.o.1;rw[hokf]at h;refine h.mono ?_;rintro e w1⟨rfl,hb1⟩;clear h;go_wp2_with fail
  go_ret;exact⟨by rw[HF.o];rfl,hb1⟩
 have HOK:=hid hok
 by_cases h12:ms.length<=12
 rotate_left
 ·have HF:Hid (jL ss ms=false):=by unfold Hid jL;rw[decide_eq_false h12];simp
  go_enter Tryz.func91,Tryz.ntmps91;go_wp2_with fail
  have h:=zcm a cap ss w HW.o.1;rw[hok]at h;refine h.mono ?_;rintro e w1⟨rfl,hb1⟩;clear h hok;go_wp2_with fail
  go_ret;exact⟨by rw[HF.o];rfl,hb1⟩
 have h12I:(ms.length:Int)<=12:=by omega
 go_enter Tryz.func91,Tryz.ntmps91;go_wp2_with fail
 have h:=zcm a cap ss w HW.o.1;rw[hok]at h;refine h.mono ?_;rintro e w1⟨rfl,hb1⟩;have HB1:=hid hb1;clear h hok hb1;go_wp2_with fail
 go_loopw [5] (fun iv wr=>∃k:Nat,k<=ms.length/\iv=.i k/\(ms.take k).all (zbs ss)=true/\Bw w wr) (fun iv _=>ms.length-(intOf iv).toNat)
 case atStart=>exact⟨0,Nat.zero_le _,rfl,rfl,HB1.o⟩
 case round=>
  obtain⟨k,hk,rfl,hall,hB⟩:=hrel;have HB:=hid hB;have HA:=hid hall;clear hall hB
  by_cases hlt:k<ms.length
  ·obtain⟨b,off,rfl,hb,c0,c1,c2,c3,c4,c5⟩:=HW.o.2.load HB.o k hlt
   have hltI:(k:Int)<(ms.length:Int):=by omega
   have HSM:=hid (HW.o.2.small k hlt)
   have HTK:Hid ((ms.take (k+1)).all (zbs ss)=zbs ss ms[k]):=by
    unfold Hid;rw[tSe hlt,List.all_append,HA.o];simp
   have HNO:Hid (zbs ss ms[k]=false->jL ss ms=false):=by
    intro h
    have:ms.all (zbs ss)=false:=by rw[List.all_eq_false];exact⟨_,List.getElem_mem hlt,by rw[h];simp⟩
    unfold jL;rw[this];simp
   go_wp2_with fail
   have h:=zmV a cap ss ms[k] wr (HW.o.1.mono HB.o) HSM.o
   rcases hh:zbs ss ms[k] with _|_
   ·rw[hh]at h
    refine h.mono ?_;rintro e w3⟨rfl,hb3⟩;have HF:=ji (HNO.o hh) (HB.o.trans (hb3.mono HB.o.size));clear h hb3 hh c0 c1 c2 c3 c4 c5;go_wp2_with fail
    go_ret;exact⟨by rw[HF.o.1];rfl,HF.o.2⟩
   ·rw[hh]at h
    refine h.mono ?_;rintro e w3⟨rfl,hb3⟩;have HY:Hid ((ms.take (k+1)).all (zbs ss)=true/\Bw w w3):=⟨by rw[HTK.o];exact hh,HB.o.trans (hb3.mono HB.o.size)⟩
    clear h hb3 hh c0 c1 c2 c3 c4 c5;go_wp2_with fail
    exact⟨⟨k+1,by omega,by go_num,HY.o.1,HY.o.2⟩,zw hlt⟩
  ·have e:k=ms.length:=by omega
   have hall:=HA.o;rw[e,tOl (Nat.le_refl _)]at hall;have HALL:=hid hall;subst e;clear hall HA;go_wp2_with fail
   have HBw:=hid HB.o;clear HB
   go_loopw [6] (fun iv wq=>∃k:Nat,k<=ss.length/\iv=.i k/\(ss.take k).all (zcG ms)=true/\Bw w wq) (fun iv _=>ss.length-(intOf iv).toNat)
   case atStart=>exact⟨0,Nat.zero_le _,rfl,rfl,HBw.o⟩
   case round=>
    obtain⟨k,hk,rfl,hall,hB⟩:=hrel;have HB:=hid hB;have HA:=hid hall;clear hall hB
    by_cases hlt:k<ss.length
    ·obtain⟨b,off,rfl,hb,hr⟩:=HW.o.1.rows (by rintro rfl;simp at hlt)
     obtain⟨fa,fcap,hs0⟩:=hr k hlt;have HSI:Hid (∀W,Bw w W->zl2 W b (off+k*2) ss[k] fa fcap):=fun W hbb=>hs0.mono hb hbb
     have hck:=(HSI.o _ HB.o).kind;have hcl:=(HSI.o _ HB.o).list;have hltI:(k:Int)<(ss.length:Int):=by omega
     have HTK:Hid ((ss.take (k+1)).all (zcG ms)=zcG ms ss[k]):=by
      unfold Hid;rw[tSe hlt,List.all_append,HA.o];simp
     have HNO:Hid (zcG ms ss[k]=false->jL ss ms=false):=by
      intro h
      have:ss.all (zcG ms)=false:=by rw[List.all_eq_false];exact⟨_,List.getElem_mem hlt,by rw[h];simp⟩
      unfold jL;rw[this];simp
     have HFW:=hid (zgj HOK.o k hlt);clear hr hs0;go_wp2_with fail
     have hbc:=HB.o.drew;have hL:=(⟨(HSI.o _ hbc).kind,(HSI.o _ hbc).list⟩:_/\_)
     go_region_held3 (fun w'=>w'.cell? (aD b (off+k*2))=some (.s ss[k].kd)/\w'.cell? (aD b (off+k*2+1))=some (.l fa ss[k].fs.length fcap)) (exact hL) (first
      | (go_at_call 135;refine(zlG fa a' fcap cap' ss[k] ms _ (by exact(HSI.o _ hbc).flds) (by exact HW.o.2.mono hbc) h12 HFW.o).mono ?_;rintro e w5⟨v5,rfl,hrow,hb5⟩;obtain⟨ra,rcap,rfl⟩:=qL hrow;have hbc:=hbc.trans (hb5.mono hbc.size);have hL:=(⟨(HSI.o _ hbc).kind,(HSI.o _ hbc).list⟩:_/\_);clear hb5 hrow))
     by_cases hrk:(yA ss[k] ms ss[k].fs.length).length=ss[k].fs.length
     ·have hrI:(((yA ss[k] ms ss[k].fs.length).length:Int) != (ss[k].fs.length:Int))=false:=by rw[hrk];simp
      have HY:Hid ((ss.take (k+1)).all (zcG ms)=true):=by unfold Hid;rw[HTK.o];unfold zcG;exact decide_eq_true hrk
      clear hrk;go_wp2_with fail
      exact⟨⟨k+1,by omega,by go_num,HY.o,hbc⟩,zw hlt⟩
     ·have hrI:(((yA ss[k] ms ss[k].fs.length).length:Int) != (ss[k].fs.length:Int))=true:=by rw[bne_iff_ne];omega
      have HF:Hid (jL ss ms=false):=HNO.o (by unfold zcG;exact decide_eq_false hrk);clear hrk;go_wp2_with fail
      go_ret;exact⟨by rw[HF.o];rfl,hbc⟩
    ·have e:k=ss.length:=by omega
     have hall:=HA.o;rw[e,tOl (Nat.le_refl _)]at hall;have HF:Hid (jL ss ms=true):=by unfold Hid jL;rw[HALL.o,HOK.o,hall,decide_eq_true h12];rfl
     subst e;clear hall HA;go_wp2_with fail
     go_ret;exact⟨by rw[HF.o];rfl,HB.o⟩
theorem zlW (b:Bk)(a0 a1 a2 a3:OA)(c0 c1 c2 c3:Nat)(tm rs:BA)(w:World)(hb:jU w b a0 a1 a2 a3)(hl:b.ps.length<=1000)(ha:∀i (h:i<b.ps.length),0<=b.ps[i].am/\b.ps[i].am<=1000000) :
 Calls Tryz.prog 105 #[.agg (b.cells a0 a1 a2 a3 c0 c1 c2 c3),.s tm,.s rs] w fun e w'=>e=.returned (.i (out b.ps tm rs))/\Bw w w':=by
 have HK:=hid hb;have HA:Hid (∀i (h:i<b.ps.length),0<=b.ps[i].am/\b.ps[i].am<=1000000):=ha;clear hb ha;unfold Bk.cells;go_enter Tryz.func105,Tryz.ntmps105;go_wp2_with fail
 have hX0:=zn w (bC b a0 a1 a2 a3 c0 c1 c2 c3) 51;have HB0:Hid (Bw w (w.alloc (.cells (bC b a0 a1 a2 a3 c0 c1 c2 c3) 51))):=bAl _ _;obtain⟨W0,hW0⟩:=xN (w.alloc (.cells (bC b a0 a1 a2 a3 c0 c1 c2 c3) 51));have hz0:w.heap.size<W0.heap.size:=by rw[hW0];simp
 rw[<- hW0]at HB0 hX0 ⊢;clear hW0
 go_loopw [7,8] (fun nv iv wr=>∃(k:Nat) (s:Int),k<=b.ps.length/\iv=.i k/\nv=.i s/\Hid (s=zbt b.ps tm rs k)/\wr=W0) (fun _ iv _=>b.ps.length-(intOf iv).toNat)
 case atStart=>exact⟨0,0,Nat.zero_le _,rfl,rfl,by simp[zbt,Hid],rfl⟩
 case round=>
  obtain⟨k,s,hk,rfl,rfl,HQ,rfl⟩:=hrel;have hkn:k<=1000:=by omega
  have hsb:0<=s/\s<=1000000000:=by have h1:=HQ.o;have h2:=zbV b.ps tm rs HA.o k hk;omega
  by_cases hlt:k<b.ps.length
  ·obtain⟨ob,off,rfl,hob,d0,d1,d2,d3,d4⟩:=HK.o.ps.load HB0.o k hlt
   have hltI:(k:Int)<(b.ps.length:Int):=by omega
   have HSt:=hid (zfI b.ps tm rs k hlt);have hab:=HA.o k hlt;clear d0 d4
   by_cases h1:b.ps[k].tm=tm
   ·have e1:(b.ps[k].tm.toList == tm.toList)=true:=by rw[beq_toList];simpa using h1
    by_cases h2:b.ps[k].rs=rs
    ·have e2:(b.ps[k].rs.toList == rs.toList)=true:=by rw[beq_toList];simpa using h2
     have HN:Hid (zbt b.ps tm rs (k+1)=s+b.ps[k].am):=by unfold Hid;rw[HSt.o,<- HQ.o,if_pos (by unfold zoT;simp[h1,h2])]
     clear h1 h2;go_wp2_with fail
     exact⟨⟨k+1,s+b.ps[k].am,by omega,by go_num,by go_num,HN.o.symm,trivial⟩,zw hlt⟩
    ·have e2:(b.ps[k].rs.toList == rs.toList)=false:=by rw[beq_toList];simpa using h2
     have HN:Hid (zbt b.ps tm rs (k+1)=s):=by unfold Hid;rw[HSt.o,<- HQ.o,if_neg (by unfold zoT;simp[h2])];omega
     clear h1 h2;go_wp2_with fail
     exact⟨⟨k+1,s,by omega,by go_num,rfl,HN.o.symm,trivial⟩,zw hlt⟩
   ·have e1:(b.ps[k].tm.toList == tm.toList)=false:=by rw[beq_toList];simpa using h1
    have HN:Hid (zbt b.ps tm rs (k+1)=s):=by unfold Hid;rw[HSt.o,<- HQ.o,if_neg (by unfold zoT;simp[h1])];omega
    clear h1;go_wp2_with fail
    exact⟨⟨k+1,s,by omega,by go_num,rfl,HN.o.symm,trivial⟩,zw hlt⟩
  ·have e:k=b.ps.length:=by omega
   subst e;have HE:Hid (out b.ps tm rs=s):=by unfold Hid out;exact HQ.o.symm
   clear HQ hlt hk;go_wp2_with fail
   go_ret;exact⟨zk HE.o.symm,HB0.o⟩
theorem zeI (a c:OA)(ca cc:Nat)(xs ys:List BA)(w:World)(hx:zJ w a xs)(hy:zJ w c ys)(hl:xs.length<=1048576)(hl':ys.length<=1048576) :
 Calls Tryz.prog 96 #[.l a xs.length ca,.l c ys.length cc] w fun e w'=>e=.returned (.bool (decide (xs=ys)))/\Bw w w':=by
 obtain⟨r,hr⟩:=xN (decide (xs=ys));rw[<- hr];have HR:=hid hr;have HX:=ji hx hy;clear hr hx hy
 by_cases hn:xs.length=ys.length
 rotate_left
 ·have HF:Hid (r=false):=by unfold Hid;rw[HR.o,decide_eq_false_iff_not];intro e;exact hn (by rw[e])
  have e1:((xs.length:Int) != (ys.length:Int))=true:=by simp;omega
  clear hn;go_enter Tryz.func96,Tryz.ntmps96;go_wp2_with fail
  go_ret;exact⟨ze HF.o.symm,bRf _ _⟩
 have e1:((xs.length:Int) != (ys.length:Int))=false:=by simp;omega
 have HN:=hid hn;clear hn;go_enter Tryz.func96,Tryz.ntmps96;go_wp2_with fail
 go_loopw [5] (fun iv wr=>∃k:Nat,k<=xs.length/\iv=.i k/\Hid ((∀i (h:i<xs.length) (h':i<ys.length),i<k->xs[i]=ys[i])/\Bw w wr)) (fun iv _=>xs.length-(intOf iv).toNat)
 case atStart=>exact⟨0,Nat.zero_le _,rfl,fun i h h' hk=>by omega,bRf _ _⟩
 case round=>
  obtain⟨k,hk,rfl,HQ⟩:=hrel;have hkn:k<=1048576:=by omega
  by_cases hlt:k<xs.length
  ·have hlt':k<ys.length:=by have:=HN.o;omega
   obtain⟨p,po,rfl,hp,hpc⟩:=HX.o.1.cells (by intro e;rw[e]at hlt;simp at hlt);obtain⟨q,qo,rfl,hq,hqc⟩:=HX.o.2.cells (by intro e;rw[e]at hlt';simp at hlt');have c1:=(HQ.o.2.cell (p:=(aD p (po+k))) hp).trans (hpc k hlt);have c2:=(HQ.o.2.cell (p:=(aD q (qo+k))) hq).trans (hqc k hlt');have hltI:(k:Int)<(xs.length:Int):=by omega
   have hltI':(k:Int)<(ys.length:Int):=by omega
   have hp':=nLt hp HQ.o.2.size;have hq':=nLt hq HQ.o.2.size;have HB:=hid HQ.o.2;clear hpc hqc
   by_cases he:xs[k]=ys[k]
   ·have e2:(xs[k].toList == ys[k].toList)=true:=by rw[beq_toList];simpa using he
    have HA:Hid (∀i (h:i<xs.length) (h':i<ys.length),i<k+1->xs[i]=ys[i]):=by
     intro i h h' hi
     rcases Nat.eq_or_lt_of_le (Nat.le_of_lt_succ hi) with e|h2
     ·subst e;exact he
     ·exact HQ.o.1 i h h' h2
    clear he HQ;go_wp2_with fail
    go_quiet (fail)
    go_wp2_with fail
    exact⟨⟨k+1,by omega,by go_num,HA.o,below_drewN HB.o _⟩,zw hlt⟩
   ·have e2:(xs[k].toList == ys[k].toList)=false:=by rw[beq_toList];simpa using he
    have HF:Hid (r=false):=by
     unfold Hid;rw[HR.o,decide_eq_false_iff_not];intro e;subst e;exact he rfl
    clear he HQ;go_wp2_with fail
    go_quiet (fail)
    go_wp2_with fail
    go_ret;exact⟨ze HF.o.symm,below_drewN HB.o _⟩
  ·have HF:Hid (r=true):=by
    unfold Hid;rw[HR.o,decide_eq_true_eq];exact List.ext_getElem HN.o fun i h h'=>HQ.o.1 i h h' (by omega)
   have HB:=hid HQ.o.2;clear HQ;go_wp2_with fail
   go_ret;exact⟨ze HF.o.symm,HB.o⟩
end Go.Proofs.YthdfpinbnncghaaGreat
namespace Go.Proofs.YthdfpinbnncghaaGreat
theorem zr8 (ws:List BA)(v:BA):has ws v=true↔v∈ws:=by
 unfold has;rw[List.any_eq_true]
 constructor
 ·rintro⟨x,hx,he⟩
  have:x=v:=by simpa using he
  rw[<- this];exact hx
 ·intro h;exact⟨v,h,by simp⟩
theorem zm8 {ss:List Shp}(h:yg ss=true)(i:Nat)(hi:i<ss.length)(j:Nat)(hj:j<ss[i].fs.length):zfv ss ss[i].fs j=true:=by
 have h1:=zhT h i hi;unfold qp at h1;rw[getD_at ss i _ hi]at h1;simp only[Bool.and_eq_true]at h1;have h2:=h1.2;unfold qz at h2;simp only[Bool.and_eq_true]at h2;exact zgr hj h2.2
theorem zno {ss:List Shp}(h:yg ss=true)(i:Nat)(hi:i<ss.length)(j:Nat)(hj:j<ss[i].fs.length):isSet ss[i].fs[j].nm=true:=by
 have h1:=zm8 h i hi j hj;rw[zjx _ _ _ hj]at h1;simp only[Bool.and_eq_true]at h1;have h2:=h1.1.1;rw[zqq];intro e;rw[e]at h2
 revert h2
 decide
theorem zeU {ss:List Shp}(h:yg ss=true)(i:Nat)(hi:i<ss.length)(j k:Nat)(hj:j<k)(hk:k<ss[i].fs.length):(ss[i].fs[j]'(by omega)).nm≠ss[i].fs[k].nm:=by
 have h1:=zm8 h i hi k hk;rw[zjx _ _ _ hk]at h1;simp only[Bool.and_eq_true,Bool.not_eq_true']at h1;have h2:=h1.1.2;intro e;unfold hasName at h2;rw[List.any_eq_false]at h2
 have hm:ss[i].fs[j]'(by omega)∈ss[i].fs.take k:=by
  rw[List.mem_iff_getElem];exact⟨j,by simp;omega,by simp⟩
 exact h2 _ hm (by simpa using e)
theorem zq3 {ss:List Shp}(h:yg ss=true)(i:Nat)(hi:i<ss.length)(j k:Nat)(hj:j<ss[i].fs.length)(hk:k<ss[i].fs.length)(e:zbj ss[i] j=zbj ss[i] k):j=k:=by
 unfold zbj at e;rw[getD_at _ _ _ hj,getD_at _ _ _ hk]at e
 rcases Nat.lt_trichotomy j k with h1|h1|h1
 ·exact absurd e (zeU h i hi j k h1 hk)
 ·exact h1
 ·exact absurd e.symm (zeU h i hi k j h1 hj)
theorem zqz {ss:List Shp}(h:yg ss=true)(m:Mnd):zak ss m=zbs ss m:=by
 unfold zak zbs
 by_cases hk:zC ss m.kd=true
 ·rw[hk,Bool.true_and,Bool.true_and]
  unfold zC at hk;rw[List.any_eq_true]at hk;obtain⟨x,hx,he⟩:=hk;obtain⟨i,hi,rfl⟩:=List.mem_iff_getElem.1 hx;have hkd:ss[i].kd=m.kd:=by simpa using he
  rw[<- hkd,zej h i hi];unfold zbe yK
  by_cases hp:plain ss[i].fs m.fd=true
  ·have hfd:isSet m.fd=true:=by
    rcases jQ ss[i].fs m.fd with⟨_,h2⟩|⟨k,hk',_,h2,_⟩
    ·rw[zaT h2]at hp;cases hp
    ·rw[<- h2];exact zno h i hi k hk'
   have hne:∀v,isSet v=false->v≠m.fd:=fun v hv e=>by rw[e,hfd]at hv;cases hv
   rw[hp,Bool.true_and,Bool.true_and]
   have e:(zS m).all (zaj ss[i].fs m)=((!isSet m.wh||plain ss[i].fs m.wh)&&(!isSet m.fr||plain ss[i].fs m.fr)&&!decide (m.wh=m.fd)&&!decide (m.fr=m.fd)):=by
    unfold zS;rw[List.all_filter];unfold zaj
    rcases hw:isSet m.wh with _|_ <;> rcases hf:isSet m.fr with _|_
    ·simp[hw,hf,hne _ hw,hne _ hf]
    ·simp[hw,hf,hne _ hw]
     cases plain ss[i].fs m.fr <;> simp
    ·simp[hw,hf,hne _ hf]
     cases plain ss[i].fs m.wh <;> simp
    ·simp[hw,hf]
     cases plain ss[i].fs m.wh <;> cases plain ss[i].fs m.fr <;> simp
   rw[e]
  ·have hpf:plain ss[i].fs m.fd=false:=by simpa using hp
   rw[hpf];simp
 ·have hkf:zC ss m.kd=false:=by simpa using hk
  rw[hkf];rfl
theorem zo3 {ss:List Shp}{ms:List Mnd}(h:yg ss=true)(hm:ms.all (zak ss)=true)(i:Nat)(hi:i<ss.length)(row:List Nat)(hrow:∀q∈row,q<ss[i].fs.length)(j:Nat)(hj:j<ss[i].fs.length) :
 jT ss[i] ms (row.map (zbj ss[i])) j=ready (zo ss[i] ms) row j:=by
 have hmem:∀q,q<ss[i].fs.length->(has (row.map (zbj ss[i])) (zbj ss[i] q)=true↔q∈row):=by
  intro q hq;rw[zr8,List.mem_map]
  constructor
  ·rintro⟨p,hp,e⟩
   rw[<- zq3 h i hi p q (hrow p hp) hq e];exact hp
  ·intro hp;exact⟨q,hp,rfl⟩
 rw[Bool.eq_iff_iff,zhN];unfold jT;rw[Bool.and_eq_true,Bool.not_eq_true',<- Bool.not_eq_true,hmem j hj];refine and_congr Iff.rfl ?_;unfold zcD;rw[List.all_eq_true]
 -- what a mend that turns j reads
 have hread:∀m∈ms,turns m ss[i] j=true->∀v∈zS m,∃q,q<ss[i].fs.length/\zY ss[i].fs v=(q:Int)/\zbj ss[i] q=v:=by
  intro m hmm ht v hv;unfold turns at ht;simp only[Bool.and_eq_true,decide_eq_true_eq]at ht;have h1:=List.all_eq_true.1 hm m hmm;unfold zak at h1;rw[ht.1,zej h i hi]at h1;simp only[Bool.and_eq_true]at h1;have h2:=h1.2;unfold zbe at h2;simp only[Bool.and_eq_true]at h2;have h3:=List.all_eq_true.1 h2.1.2 v hv;unfold zaj at h3;simp only[Bool.and_eq_true]at h3
  rcases jQ ss[i].fs v with⟨_,h5⟩|⟨k,hk,h4,h5,_⟩
  ·rw[zaT h5]at h3;exact absurd h3.2 (by simp)
  ·exact⟨k,hk,h4,by unfold zbj;rw[getD_at _ _ _ hk];exact h5⟩
 have hR:∀m,qK ss[i].kd (zbj ss[i] j) (row.map (zbj ss[i])) m=true↔(turns m ss[i] j=true->∀v∈zS m,has (row.map (zbj ss[i])) v=true):=by
  intro m;have e1:turns m ss[i] j=(decide (m.kd=ss[i].kd)&&decide (m.fd=zbj ss[i] j)):=rfl;unfold qK;rw[<- e1]
  rcases turns m ss[i] j with _|_
  ·simp
  ·unfold zS
   rcases hw:isSet m.wh with _|_ <;> rcases hf:isSet m.fr with _|_ <;> simp[hw,hf]
 constructor
 ·intro hall q hq
  unfold zo at hq;obtain⟨x,hx,rfl⟩:=List.mem_map.1 hq;unfold yE at hx;obtain⟨m,hmm,hx⟩:=List.mem_flatMap.1 hx
  by_cases ht:turns m ss[i] j=true
  ·rw[if_pos ht]at hx
   obtain⟨v,hv,rfl⟩:=List.mem_map.1 hx;obtain⟨q,hq,e1,e2⟩:=hread m hmm ht v hv
   have:=(hR m).1 (hall m hmm) ht v hv
   rw[e1,Int.toNat_natCast];rw[<- e2]at this;exact(hmem q hq).1 this
  ·rw[if_neg ht]at hx;cases hx
 ·intro hall m hmm
  rw[hR];intro ht v hv;obtain⟨q,hq,e1,e2⟩:=hread m hmm ht v hv;rw[<- e2,hmem q hq];refine hall q ?_;unfold zo;rw[List.mem_map];refine⟨(q:Int),?_,Int.toNat_natCast _⟩;unfold yE;rw[List.mem_flatMap];refine⟨m,hmm,?_⟩;rw[if_pos ht,List.mem_map];exact⟨v,hv,e1⟩
theorem find_congr {α:Type}{f g:α->Bool}:∀ {l:List α},(∀x∈l,f x=g x)->l.find? f=l.find? g
 | [],_=>rfl
 | a :: l,h=>by
  have h1:=h a (by simp);have h2:=find_congr (f:=f) (g:=g) (l:=l) (fun x hx=>h x (by simp[hx]));rw[List.find?_cons,List.find?_cons,h1,h2]
theorem zel {ss:List Shp}{ms:List Mnd}(h:yg ss=true)(hm:ms.all (zak ss)=true)(i:Nat)(hi:i<ss.length):∀k,yA ss[i] ms k=(greedy (zo ss[i] ms) ss[i].fs.length k).map (zbj ss[i])
 | 0=>rfl
 | k+1=>by
  show zfq ss[i] ms (yA ss[i] ms k)=(more (zo ss[i] ms) ss[i].fs.length (greedy (zo ss[i] ms) ss[i].fs.length k)).map (zbj ss[i])
  rw[zel h hm i hi k];have hpart:=zcu (zo ss[i] ms) ss[i].fs.length k
  have e:(List.range ss[i].fs.length).find? (jT ss[i] ms ((greedy (zo ss[i] ms) ss[i].fs.length k).map (zbj ss[i])))=pick (zo ss[i] ms) ss[i].fs.length (greedy (zo ss[i] ms) ss[i].fs.length k):=by
   unfold pick
   apply find_congr
   intro x hx;exact zo3 h hm i hi _ hpart.mem x (List.mem_range.1 hx)
  unfold zfq more;rw[e]
  cases pick (zo ss[i] ms) ss[i].fs.length (greedy (zo ss[i] ms) ss[i].fs.length k) with
  | none=>rfl
  | some q=>simp
theorem znt {ss:List Shp}{ms:List Mnd}(h:yg ss=true)(hm:ms.all (zak ss)=true)(i:Nat)(hi:i<ss.length):rowOk ms ss[i]=zcG ms ss[i]:=by
 unfold rowOk zcG;rw[zel h hm i hi,List.length_map];refine zi2 (fun p hp q hq=>?_);unfold zo at hq;obtain⟨x,hx,rfl⟩:=List.mem_map.1 hq
 have:=zke h hm i hi p hp x hx
 omega
theorem zg4 (ss:List Shp)(ms:List Mnd):yx ss ms=jL ss ms:=by
 unfold yx jL
 by_cases h:yg ss=true
 ·have e1:ms.all (zbs ss)=ms.all (zak ss):=by congr 1;funext m;exact(zqz h m).symm
  rw[e1,h]
  by_cases hm:ms.all (zak ss)=true
  ·have e2:ss.all (rowOk ms)=ss.all (zcG ms):=by
    rw[Bool.eq_iff_iff,List.all_eq_true,List.all_eq_true]
    constructor
    ·intro ha x hx
     obtain⟨i,hi,rfl⟩:=List.mem_iff_getElem.1 hx;rw[<- znt h hm i hi];exact ha _ hx
    ·intro ha x hx
     obtain⟨i,hi,rfl⟩:=List.mem_iff_getElem.1 hx;rw[znt h hm i hi];exact ha _ hx
   rw[e2];cases decide (ms.length<=12) <;> simp
  ·have hmf:ms.all (zak ss)=false:=by simpa using hm
   rw[hmf];simp
 ·have hf:yg ss=false:=by simpa using h
  rw[hf];simp
end Go.Proofs.YthdfpinbnncghaaGreat
namespace Go.Proofs.YthdfpinbnncghaaGreat
open Go.RowKit
theorem zjh (a c:OA)(ca cc:Nat)(xs ys:List BA)(w:World)(hx:zJ w a xs)(hy:zJ w c ys)(hl:xs.length<=1048576)(hl':ys.length<=1048576) :
 Calls Tryz.prog 219 #[.l a xs.length ca,.l c ys.length cc] w fun e w'=>e=.returned (.bool (decide (xs=ys)))/\Bw w w':=by
 obtain⟨r,hr⟩:=xN (decide (xs=ys));rw[<- hr];have HR:Hid (r=decide (xs=ys)):=hr;have HX:Hid (zJ w a xs/\zJ w c ys):=⟨hx,hy⟩
 clear hr hx hy
 by_cases hn:xs.length=ys.length
 rotate_left
 ·have HF:Hid (r=false):=by unfold Hid;rw[HR.o,decide_eq_false_iff_not];intro e;exact hn (by rw[e])
  have e1:((xs.length:Int) != (ys.length:Int))=true:=by simp;omega
  clear hn;go_enter Tryz.func219,Tryz.ntmps219;go_wp2_with fail
  go_ret;exact⟨ze HF.o.symm,bRf _ _⟩
 have e1:((xs.length:Int) != (ys.length:Int))=false:=by simp;omega
 have HN:Hid (xs.length=ys.length):=hn;clear hn;go_enter Tryz.func219,Tryz.ntmps219;go_wp2_with fail
 go_loopw [13] (fun iv wr=>∃k:Nat,k<=xs.length/\iv=.i k/\Hid ((∀i (h:i<xs.length) (h':i<ys.length),i<k->xs[i]=ys[i])/\Bw w wr)) (fun iv _=>xs.length-(intOf iv).toNat)
 case atStart=>exact⟨0,Nat.zero_le _,rfl,fun i h h' hk=>by omega,bRf _ _⟩
 case round=>
  obtain⟨k,hk,rfl,HQ⟩:=hrel;have hkn:k<=1048576:=by omega
  by_cases hlt:k<xs.length
  ·have hlt':k<ys.length:=by have:=HN.o;omega
   obtain⟨p,po,rfl,hp,hpc⟩:=HX.o.1.cells (by intro e;rw[e]at hlt;simp at hlt);obtain⟨q,qo,rfl,hq,hqc⟩:=HX.o.2.cells (by intro e;rw[e]at hlt';simp at hlt');have c1:=(HQ.o.2.cell (p:=(aD p (po+k))) hp).trans (hpc k hlt);have c2:=(HQ.o.2.cell (p:=(aD q (qo+k))) hq).trans (hqc k hlt');have hltI:(k:Int)<(xs.length:Int):=by omega
   have hltI':(k:Int)<(ys.length:Int):=by omega
   have hp':p<wr.heap.size:=nLt hp HQ.o.2.size;have hq':q<wr.heap.size:=nLt hq HQ.o.2.size;have HB:Hid (Bw w wr):=HQ.o.2;clear hpc hqc
   by_cases he:xs[k]=ys[k]
   ·have e2:(xs[k].toList == ys[k].toList)=true:=by rw[beq_toList];simpa using he
    have HA:Hid (∀i (h:i<xs.length) (h':i<ys.length),i<k+1->xs[i]=ys[i]):=by
     intro i h h' hi
     rcases Nat.eq_or_lt_of_le (Nat.le_of_lt_succ hi) with e|h2
     ·subst e;exact he
     ·exact HQ.o.1 i h h' h2
    clear he HQ;go_wp2_with fail
    go_quiet (fail)
    go_wp2_with fail
    exact⟨⟨k+1,by omega,by go_num,HA.o,below_drewN HB.o _⟩,zw hlt⟩
   ·have e2:(xs[k].toList == ys[k].toList)=false:=by rw[beq_toList];simpa using he
    have HF:Hid (r=false):=by
     unfold Hid;rw[HR.o,decide_eq_false_iff_not];intro e;subst e;exact he rfl
    clear he HQ;go_wp2_with fail
    go_quiet (fail)
    go_wp2_with fail
    go_ret;exact⟨ze HF.o.symm,below_drewN HB.o _⟩
  ·have HF:Hid (r=true):=by
    unfold Hid;rw[HR.o,decide_eq_true_eq];exact List.ext_getElem HN.o fun i h h'=>HQ.o.1 i h h' (by omega)
   have HB:Hid (Bw w wr):=HQ.o.2;clear HQ;go_wp2_with fail
   go_ret;exact⟨ze HF.o.symm,HB.o⟩
theorem y8.new (w:World):y8 (w.alloc (.map #[] 0)) w.heap.size (fun _ _=>none):=
 ⟨⟨#[],0,Array.getElem?_push_size,fun x hx=>(by simp at hx),fun a b v h=>(by cases h),fun i j x y hx=>(by simp at hx)⟩,fun es c h=>by
  have e:(w.alloc (.map #[] 0)).heap[w.heap.size]?=some (.map #[] 0):=Array.getElem?_push_size;rw[e]at h
  cases h
  exact⟨fun x hx=>(by simp at hx),by simp⟩⟩
theorem zhY.below {r B:Nat}{w0 w w':World}(h:zhY r w w')(hb:Below B w0 w)(hr:B<=r):Below B w0 w':=
 ⟨h.os.trans hb.os,h.tape.trans hb.tape,h.output.trans hb.output,by rw[h.size];exact hb.size,fun k hk=>(h.out k (by omega)).trans (hb.block k hk)⟩
theorem zlE (o:Ob)(a0 a1:OA)(c0 c1:Nat)(w:World):Calls Tryz.prog 217 #[.agg #[.s o.kd,.s o.nm,.s o.tm,.l a0 o.vs.length c0,.bool o.en,.l a1 o.hs.length c1,.i o.vr]] w fun e w'=>e=.returned (jr o.kd o.nm)/\Bw w w':=by
 unfold jr;go_enter Tryz.func217,Tryz.ntmps217;go_wp2_with fail
 refine bodyPost_ret (v:=.agg #[.s o.kd,.s o.nm]) (by simp[results,Tryz.results217,go_sem]) rfl ⟨rfl,?_⟩
 first|exact zx _ _ _|exact((zx _ _ _).setCell (by simp) _).setCell (by simp) _|exact((zx _ _ _).setCell (by show _<=_+1;omega) _).setCell (by show _<=_+1;omega) _
structure zdj (f:BA->BA->Option Int)(os:List Ob)(k:Nat):Prop where
 has:∀p q,(f p q).isSome=(os.take k).any (zch p q)
 at_:∀p q v,f p q=some v->∃i,∃h:i<os.length,v=(i:Int)/\os[i].kd=p/\os[i].nm=q
theorem zdj.put {f:BA->BA->Option Int}{os:List Ob}{k:Nat}(h:zdj f os k)(hlt:k<os.length):zdj (fun p q=>if p=os[k].kd/\q=os[k].nm then some (k:Int) else f p q) os (k+1):=by
 refine⟨fun p q=>?_,fun p q v hv=>?_⟩
 ·rw[tSe hlt,List.any_append,<- h.has p q]
  simp only[List.any_cons,List.any_nil,Bool.or_false]
  by_cases e:p=os[k].kd/\q=os[k].nm
  ·rw[if_pos e]
   unfold zch
   simp[e.1,e.2]
  ·rw[if_neg e]
   have:zch p q os[k]=false:=by
    unfold zch;rw[Bool.and_eq_false_iff,decide_eq_false_iff_not,decide_eq_false_iff_not]
    by_cases e1:os[k].kd=p
    ·exact Or.inr fun e2=>e ⟨e1.symm,e2.symm⟩
    ·exact Or.inl e1
   rw[this,Bool.or_false]
 ·by_cases e:p=os[k].kd/\q=os[k].nm
  ·rw[if_pos e]at hv
   exact⟨k,hlt,(Option.some.inj hv).symm,e.1.symm,e.2.symm⟩
  ·rw[if_neg e]at hv
   exact h.at_ p q v hv
theorem zji (a:OA)(cap:Nat)(os:List Ob)(w:World)(hw:zcx w a os)(hl:os.length<=1048576) :
 Calls Tryz.prog 161 #[.l a os.length cap] w fun e w'=>(∃f,e=.returned (.map (some w.heap.size))/\y8 w' w.heap.size f/\zdj f os os.length)/\Bw w w':=by
 have HW:=hid hw;have hmk:∀w:World,(Instr.makeMap 246 none).run Tryz.prog w=.ok (.map (some w.heap.size)) (w.alloc (.map #[] 0)):=fun w=>by kernel_rfl
 clear hw;go_enter Tryz.func161,Tryz.ntmps161;go_wp2_with fail
 clear hmk
 go_loopw [9] (fun iv wr=>∃k:Nat,k<=os.length/\iv=.i k/\Hid ((∃f,y8 wr w.heap.size f/\zdj f os k)/\Bw w wr)) (fun iv _=>os.length-(intOf iv).toNat)
 case atStart=>exact⟨0,Nat.zero_le _,rfl,⟨_,y8.new w,⟨fun p q=>by simp,fun p q v h=>by cases h⟩⟩,bAl _ _⟩
 case round=>
  obtain⟨k,hk,rfl,HX⟩:=hrel;obtain⟨⟨f,hf,hc⟩,hB⟩:=HX.o;have hkn:k<=1048576:=by omega
  by_cases hlt:k<os.length
  ·obtain⟨ob,off,v0,v1,q0,q1,rfl,hob,hsm,hl0,hl1,d0,d1,d2,d3,d4,d5,d6⟩:=HW.o.load hB k hlt
   have hltI:(k:Int)<(os.length:Int):=by omega
   have hob':=nLt hob hB.size;have HKn:=hid hsm;have HPf:=zcl hf hc hB;clear hf hc hB HX hsm hl0 hl1;go_wp2_with fail
   refine(zlE os[k] v0 v1 q0 q1 _).mono ?_;rintro e w1⟨rfl,hb1⟩;have hBa:=(HPf.o.2.2.alloc HPf.o.2.2.size (.cells #[.s os[k].kd,.s os[k].nm,.s os[k].tm,.l v0 os[k].vs.length q0,.bool os[k].en,.l v1 os[k].hs.length q1,.i os[k].vr] 145))
   have hf1:y8 w1 w.heap.size f:=(HPf.o.1.mono (bAl _ _)).mono hb1;obtain⟨w2,hup,hf2,hp2⟩:=hf1.upd zkp Tryz.underlying246 os[k].kd os[k].nm HKn.o.kd HKn.o.nm (k:Int)
   have HC:Hid ((∃f,y8 w2 w.heap.size f/\zdj f os (k+1))/\Bw w w2):=
    ⟨⟨_,hf2,HPf.o.2.1.put hlt⟩,hp2.below (hBa.trans (hb1.mono hBa.size)) (Nat.le_refl _)⟩
   clear hf1 hf2 hp2 hb1 hBa;go_wp2_with fail
   exact⟨⟨k+1,by omega,by go_num,HC.o⟩,zw hlt⟩
  ·have e:k=os.length:=by omega
   subst e;have HE:Hid (∃f,y8 wr w.heap.size f/\zdj f os os.length):=⟨f,hf,hc⟩
   have HB:=hid hB;clear hf hc hB HX hlt hk;go_wp2_with fail
   go_ret;obtain⟨f,h1,h2⟩:=HE.o;exact⟨⟨f,rfl,h1,h2⟩,HB.o⟩
theorem zhM (a:OA)(cap:Nat)(os:List Ob)(w:World)(hw:zcx w a os)(hl:os.length<=1048576) :
 Calls Tryz.prog 161 #[.l a os.length cap] w fun e w'=>(∃f,e=.returned (.map (some w.heap.size))/\y8 w' w.heap.size f/\∀p q,(f p q).isSome=os.any (zch p q))/\Bw w w':=by
 refine(zji a cap os w hw hl).mono ?_;rintro e w'⟨⟨f,he,hf,hp⟩,hb⟩;exact⟨⟨f,he,hf,fun p q=>by rw[hp.has p q,tOl (Nat.le_refl _)]⟩,hb⟩
def zbi (l:Lw):Bool:=yx l.ss l.ms&&j6 l.ts
theorem zly (l:Lw)(a b c:OA)(ca cb cc:Nat)(w:World)(hl:yH w l a b c)(hf:l.Few) :
 Calls Tryz.prog 73 #[.agg (l.cells a b c ca cb cc)] w fun e w'=>e=.returned (.bool (zbi l))/\Bw w w':=by
 have HL:Hid (yH w l a b c):=hl;have HF:Hid l.Few:=hf;clear hl hf;unfold Lw.cells
 by_cases h1:yx l.ss l.ms=true
 ·have HQ:Hid (zbi l=j6 l.ts):=by unfold Hid zbi;rw[h1];rfl
  have HM:Hid (yx l.ss l.ms=true):=h1;clear h1;go_enter Tryz.func73,Tryz.ntmps73;go_wp2_with fail
  refine(zf HM.o (zeN _ _ _ _ l.ss l.ms _ (HL.o.ss.mono (bAl _ _)) (HL.o.ms.mono (bAl _ _)) HF.o.ms)).mono ?_;rintro e w1⟨rfl,hb⟩;have hX1:=za (zn w #[.l a l.ss.length ca,.l b l.ms.length cb,.l c l.ts.length cc] 44) (by simp) hb;have hz1:w.heap.size<w1.heap.size:=by have:=hb.size;simp at this;omega
  have hB1:Bw w w1:=(bAl _ _).trans (hb.mono (by simp));clear hb;go_wp2_with fail
  refine(ziP _ _ l.ts _ (HL.o.ts.mono hB1)).mono ?_;rintro e w2⟨rfl,hb⟩;have hB2:=hB1.trans (hb.mono hB1.size);clear hb hX1 hz1 hB1;go_wp2_with fail
  go_ret;exact⟨ze HQ.o.symm,hB2⟩
 ·have h1':yx l.ss l.ms=false:=by simpa using h1
  have HQ:Hid (zbi l=false):=by unfold Hid zbi;rw[h1'];rfl
  have HM:Hid (yx l.ss l.ms=false):=h1';clear h1 h1';go_enter Tryz.func73,Tryz.ntmps73;go_wp2_with fail
  refine(zf HM.o (zeN _ _ _ _ l.ss l.ms _ (HL.o.ss.mono (bAl _ _)) (HL.o.ms.mono (bAl _ _)) HF.o.ms)).mono ?_;rintro e w1⟨rfl,hb⟩;have hB1:Bw w w1:=(bAl _ _).trans (hb.mono (by simp));clear hb;go_wp2_with fail
  go_ret;exact⟨ze HQ.o.symm,hB1⟩
theorem zla (l:Lw)(a b c:OA)(ca cb cc:Nat)(w:World)(hl:yH w l a b c) :
 Calls Tryz.prog 56 #[.agg (l.cells a b c ca cb cc)] w fun e w'=>e=.returned (.bool (zbi l))/\Bw w w':=by
 have HL:Hid (yH w l a b c):=hl;clear hl;unfold Lw.cells
 by_cases h1:yx l.ss l.ms=true
 ·have HQ:Hid (zbi l=za5 l.ts):=by unfold Hid zbi;rw[h1,zmd];rfl
  have HM:Hid (jL l.ss l.ms=true):=by unfold Hid;rw[<- zg4];exact h1
  clear h1;go_enter Tryz.func56,Tryz.ntmps56;go_wp2_with fail
  refine(zf HM.o (zeP _ _ _ _ l.ss l.ms _ (HL.o.ss.mono (bAl _ _)) (HL.o.ms.mono (bAl _ _)))).mono ?_;rintro e w1⟨rfl,hb⟩;have hX1:=za (zn w #[.l a l.ss.length ca,.l b l.ms.length cb,.l c l.ts.length cc] 44) (by simp) hb;have hz1:w.heap.size<w1.heap.size:=by have:=hb.size;simp at this;omega
  have hB1:Bw w w1:=(bAl _ _).trans (hb.mono (by simp));clear hb;go_wp2_with fail
  refine(ziV _ _ l.ts _ (HL.o.ts.mono hB1)).mono ?_;rintro e w2⟨rfl,hb⟩;have hB2:=hB1.trans (hb.mono hB1.size);clear hb hX1 hz1 hB1;go_wp2_with fail
  go_ret;exact⟨ze HQ.o.symm,hB2⟩
 ·have h1':yx l.ss l.ms=false:=by simpa using h1
  have HQ:Hid (zbi l=false):=by unfold Hid zbi;rw[h1'];rfl
  have HM:Hid (jL l.ss l.ms=false):=by unfold Hid;rw[<- zg4];exact h1'
  clear h1 h1';go_enter Tryz.func56,Tryz.ntmps56;go_wp2_with fail
  refine(zf HM.o (zeP _ _ _ _ l.ss l.ms _ (HL.o.ss.mono (bAl _ _)) (HL.o.ms.mono (bAl _ _)))).mono ?_;rintro e w1⟨rfl,hb⟩;have hB1:Bw w w1:=(bAl _ _).trans (hb.mono (by simp));clear hb;go_wp2_with fail
  go_ret;exact⟨ze HQ.o.symm,hB1⟩
end Go.Proofs.YthdfpinbnncghaaGreat
namespace Go.Proofs.YthdfpinbnncghaaGreat
def q8 (fs:List Fld)(vs:List BA)(v:BA):BA:=match fs.findIdx? (fun f=>decide (f.nm=v)) with|some j=>vs.getD j ByteArray.empty|none=>ByteArray.empty
def gives (s:Shp)(vs:List BA)(p:Nat)(m:Mnd):Option BA:=
 if turns m s p=true/\¬(isSet m.wh=true/\q8 s.fs vs m.wh≠m.wi) then
  if isSet m.fr=true then (if isSet (q8 s.fs vs m.fr)=true then some (q8 s.fs vs m.fr) else none) else some m.pt
 else none
def decided (s:Shp)(ms:List Mnd)(p:Nat)(vs:List BA):BA:=(ms.findSome? (gives s vs p)).getD (vs.getD p ByteArray.empty)
theorem zdX {fs:List Fld}{vs:List BA}{v:BA}{j:Nat}(h:zY fs v=(j:Int)):q8 fs vs v=vs.getD j ByteArray.empty:=by
 unfold zY at h;unfold q8
 cases hf:fs.findIdx? (fun f=>decide (f.nm=v)) with
 | none=>rw[hf]at h;simp at h
 | some k=>
  rw[hf]at h
  have:k=j:=by simp only at h;omega
  rw[this]
theorem zgb {fs:List Fld}{vs:List BA}{v:BA}(h:zY fs v=-1):q8 fs vs v=ByteArray.empty:=by
 unfold zY at h;unfold q8
 cases hf:fs.findIdx? (fun f=>decide (f.nm=v)) with
 | none=>rfl
 | some k=>rw[hf]at h;simp only at h;omega
theorem zfy {α β:Type}{f g:α->Option β}:∀ {l:List α},(∀x∈l,f x=g x)->l.findSome? f=l.findSome? g
 | [],_=>rfl
 | a :: l,h=>by
  have h1:=h a (by simp);have h2:=zfy (f:=f) (g:=g) (l:=l) (fun x hx=>h x (by simp[hx]));rw[List.findSome?_cons,List.findSome?_cons,h1,h2]
theorem zlK {us vs:List BA}{q:Nat}(e:us[q]?=vs[q]?):us.getD q ByteArray.empty=vs.getD q ByteArray.empty:=by
 rw[List.getD_eq_getElem?_getD,List.getD_eq_getElem?_getD,e]
theorem zof (s:Shp)(ms:List Mnd)(p:Nat)(us vs:List BA)(hr:∀q∈zo s ms p,us[q]?=vs[q]?):ms.findSome? (gives s us p)=ms.findSome? (gives s vs p):=by
 apply zfy
 intro m hmm;unfold gives
 by_cases ht:turns m s p=true
 ·have hread:∀v∈zS m,q8 s.fs us v=q8 s.fs vs v:=by
   intro v hv'
   rcases jQ s.fs v with⟨h1,_⟩|⟨k,_,h1,_⟩
   ·rw[zgb h1,zgb h1]
   ·rw[zdX h1,zdX h1]
    apply zlK
    apply hr
    unfold zo;rw[List.mem_map];refine⟨(k:Int),?_,Int.toNat_natCast _⟩;unfold yE;rw[List.mem_flatMap];refine⟨m,hmm,?_⟩;rw[if_pos ht,List.mem_map];exact⟨v,hv',h1⟩
  have hw:isSet m.wh=true->q8 s.fs us m.wh=q8 s.fs vs m.wh:=fun hs=>hread _ (by unfold zS;rw[List.mem_filter];exact⟨by simp,hs⟩)
  have hf:isSet m.fr=true->q8 s.fs us m.fr=q8 s.fs vs m.fr:=fun hs=>hread _ (by unfold zS;rw[List.mem_filter];exact⟨by simp,hs⟩)
  have c1:(isSet m.wh=true/\q8 s.fs us m.wh≠m.wi)↔(isSet m.wh=true/\q8 s.fs vs m.wh≠m.wi):=by
   constructor
   ·rintro⟨a,b⟩;exact⟨a,by rw[<- hw a];exact b⟩
   ·rintro⟨a,b⟩;exact⟨a,by rw[hw a];exact b⟩
  have c2:(if isSet m.fr=true then (if isSet (q8 s.fs us m.fr)=true then some (q8 s.fs us m.fr) else none) else some m.pt)=(if isSet m.fr=true then (if isSet (q8 s.fs vs m.fr)=true then some (q8 s.fs vs m.fr) else none) else some m.pt):=by
   by_cases hsf:isSet m.fr=true
   ·rw[hf hsf]
   ·rw[if_neg hsf,if_neg hsf]
  rw[c2]
  by_cases hc:turns m s p=true/\¬(isSet m.wh=true/\q8 s.fs us m.wh≠m.wi)
  ·have hc':turns m s p=true/\¬(isSet m.wh=true/\q8 s.fs vs m.wh≠m.wi):=⟨hc.1,fun h'=>hc.2 (c1.2 h')⟩
   rw[if_pos hc,if_pos hc']
  ·have hc':¬(turns m s p=true/\¬(isSet m.wh=true/\q8 s.fs vs m.wh≠m.wi)):=fun h'=>hc ⟨h'.1,fun h''=>h'.2 (c1.1 h'')⟩
   rw[if_neg hc,if_neg hc']
 ·simp[ht]
theorem zlc (s:Shp)(ms:List Mnd):zsi (zo s ms) s.fs.length (decided s ms):=by
 intro p _ us vs _ _ hr hown;unfold decided;rw[zof s ms p us vs hr,zlK hown]
end Go.Proofs.YthdfpinbnncghaaGreat
namespace Go.Proofs.YthdfpinbnncghaaGreat
open Go.RowKit
theorem zqp (l:Lw)(la lb lc:OA)(lca lcb lcc:Nat)(x:Ak)(a0 a1 a2:OA)(c0 c1 c2:Nat)(w:World)(hl:yH w l la lb lc)(hx:jq w x a0 a1 a2) :
 Calls Tryz.prog 228 #[.agg (l.cells la lb lc lca lcb lcc),.agg (x.cells a0 a1 a2 c0 c1 c2)] w fun e w'=>e=.returned (.bool (zbd l x))/\Bw w w':=by
 have HL:Hid (yH w l la lb lc):=hl;have HX:Hid (jq w x a0 a1 a2):=hx;clear hl hx
 by_cases hn:zm x.who=true
 rotate_left
 ·have HN:Hid (zm x.who=false):=bFi hn
  clear hn;unfold Ak.cells Lw.cells;go_enter Tryz.func228,Tryz.ntmps228;go_wp2_with fail
  refine(zf HN.o (zB x.who _ HX.o.small.who)).mono ?_;rintro e w1⟨rfl,rfl⟩;go_wp2_with fail
  go_ret;exact⟨ze (by unfold zbd;rw[HN.o];rfl),zx _ _ _⟩
 by_cases hv:within x.vb 1 6=true
 rotate_left
 ·have HN:Hid (zm x.who=true):=hn
  have HV:Hid (within x.vb 1 6=false):=bFi hv;clear hn hv;unfold Ak.cells Lw.cells;go_enter Tryz.func228,Tryz.ntmps228;go_wp2_with fail
  refine(zf HN.o (zB x.who _ HX.o.small.who)).mono ?_;rintro e w1⟨rfl,rfl⟩;go_wp2_with fail
  refine(zf HV.o (yU x.vb 1 6 _)).mono ?_;rintro e w1⟨rfl,rfl⟩;go_wp2_with fail
  go_ret;exact⟨ze (by unfold zbd;rw[HN.o,HV.o];rfl),zx _ _ _⟩
 obtain⟨who,vb,kd,nm,tm,vs,hs,sn,hd,to,r,no⟩:=x;dsimp only at hn hv
 rcases zj5 hv with e|e|e|e|e|e <;> subst e
 ·refine(zoM l la lb lc lca lcb lcc who kd nm tm vs hs sn hd to r no a0 a1 a2 c0 c1 c2 w HL.o HX.o hn).mono ?_
  rintro e w1⟨rfl,hb⟩;exact⟨ze (by unfold zbd;dsimp only;rw[hn];rfl),hb⟩
 ·refine(zmg l la lb lc lca lcb lcc who kd nm tm vs hs sn hd to r no a0 a1 a2 c0 c1 c2 w HL.o HX.o hn).mono ?_
  rintro e w1⟨rfl,hb⟩;exact⟨ze (by unfold zbd;dsimp only;rw[hn];rfl),hb⟩
 ·refine(zqh l la lb lc lca lcb lcc who kd nm tm vs hs sn hd to r no a0 a1 a2 c0 c1 c2 w HL.o HX.o hn).mono ?_
  rintro e w1⟨rfl,hb⟩;exact⟨ze (by unfold zbd;dsimp only;rw[hn];rfl),hb⟩
 ·refine(zni l la lb lc lca lcb lcc who kd nm tm vs hs sn hd to r no a0 a1 a2 c0 c1 c2 w HL.o HX.o hn).mono ?_
  rintro e w1⟨rfl,hb⟩;exact⟨ze (by unfold zbd;dsimp only;rw[hn];rfl),hb⟩
 ·refine(zoU l la lb lc lca lcb lcc who kd nm tm vs hs sn hd to r no a0 a1 a2 c0 c1 c2 w HL.o HX.o hn).mono ?_
  rintro e w1⟨rfl,hb⟩;exact⟨ze (by unfold zbd;dsimp only;rw[hn];rfl),hb⟩
 ·refine(zpe l la lb lc lca lcb lcc who kd nm tm vs hs sn hd to r no a0 a1 a2 c0 c1 c2 w HL.o HX.o hn).mono ?_
  rintro e w1⟨rfl,hb⟩;exact⟨ze (by unfold zbd;dsimp only;rw[hn];rfl),hb⟩
theorem zc7 (s:Shp)(vs:List BA)(v:BA)(fa va:OA)(fcap vcap:Nat)(w:World)(hf:yj w fa s.fs)(hv:zJ w va vs)(hc:vs.length=s.fs.length) :
 Calls Tryz.prog 264 #[.agg #[.s s.kd,.l fa s.fs.length fcap],.l va vs.length vcap,.s v] w fun e w'=>e=.returned (.s (q8 s.fs vs v))/\Bw w w':=by
 have hl:=hv.len;unfold maxLen at hl;have hba:=(bRf w.heap.size w).alloc (Nat.le_refl _) (.cells #[.s s.kd,.l fa s.fs.length fcap] 139)
 rcases jQ s.fs v with⟨h1,_⟩|⟨i,hi,h1,_⟩
 ·have HV:Hid (q8 s.fs vs v=ByteArray.empty):=zgb h1
  go_enter Tryz.func264,Tryz.ntmps264;go_wp2_with fail
  have h:=jH fa fcap s.fs v _ (hf.mono hba);rw[h1]at h;refine h.mono ?_;rintro e w1⟨rfl,hb1⟩;clear h;go_wp2_with fail
  go_ret;exact⟨by rw[HV.o];rfl,hba.trans (hb1.mono hba.size)⟩
 ·have hiv:i<vs.length:=by omega
  have HV:Hid (q8 s.fs vs v=vs[i]):=by unfold Hid;rw[zdX h1,getD_at _ _ _ hiv]
  obtain⟨b,off,rfl,hb,hcell⟩:=hv.cells (by rintro rfl;simp at hiv);go_enter Tryz.func264,Tryz.ntmps264;go_wp2_with fail
  have h:=jH fa fcap s.fs v _ (hf.mono hba);rw[h1]at h;refine h.mono ?_;rintro e w1⟨rfl,hb1⟩;have hB1:Bw w w1:=hba.trans (hb1.mono hba.size);have hci:w1.cell? (aD b (off+i))=some (.s vs[i]):=(hB1.cell (p:=(aD b (off+i))) hb).trans (hcell i hiv);have hiI:(i:Int)<(vs.length:Int):=by omega
  have hi0:decide ((i:Int)<0)=false:=by simp
  clear h hcell hba hb1;go_wp2_with fail
  go_ret;exact⟨by rw[HV.o];rfl,hB1⟩
end Go.Proofs.YthdfpinbnncghaaGreat
namespace Go.Proofs.YthdfpinbnncghaaGreat
open Go
theorem zm7 {fs:List Fld}{vs:List BA}(v:BA)(hv:∀x∈vs,x.size<=maxLen):(q8 fs vs v).size<=maxLen:=by
 have he:ByteArray.empty.size<=maxLen:=by show 0<=_;exact Nat.zero_le _
 unfold q8
 split
 ·rename_i j _
  rw[List.getD_eq_getElem?_getD]
  cases h:vs[j]? with
  | none=>exact he
  | some x=>exact hv x (List.mem_of_getElem? h)
 ·exact he
theorem zls {s:Shp}{ms:List Mnd}{vs:List BA}(p:Nat)(hm:∀i (h:i<ms.length),ms[i].Small)(hv:∀x∈vs,x.size<=maxLen):(decided s ms p vs).size<=maxLen:=by
 unfold decided
 cases hf:ms.findSome? (gives s vs p) with
 | none=>
  show(vs.getD p ByteArray.empty).size<=maxLen
  rw[List.getD_eq_getElem?_getD]
  cases h:vs[p]? with
  | none=>show 0<=_;exact Nat.zero_le _
  | some x=>exact hv x (List.mem_of_getElem? h)
 | some x=>
  show x.size<=maxLen
  obtain⟨m,hmm,hg⟩:=List.exists_of_findSome?_eq_some hf;obtain⟨i,hi,rfl⟩:=List.mem_iff_getElem.1 hmm;unfold gives at hg
  split at hg
  ·split at hg
   ·split at hg
    ·rw[<- Option.some.inj hg];exact zm7 _ hv
    ·cases hg
   ·rw[<- Option.some.inj hg];exact(hm i hi).pt
  ·cases hg
theorem zco {s:Shp}{ms:List Mnd}(hm:∀i (h:i<ms.length),ms[i].Small):∀(row:List Nat) (vs:List BA),(∀x∈vs,x.size<=maxLen)->∀x∈yc (decided s ms) row vs,x.size<=maxLen
 | [],_,hv=>hv
 | p :: row,vs,hv=>by
  refine zco hm row (vs.set p (decided s ms p vs)) (fun x hx=>?_)
  rcases List.mem_or_eq_of_mem_set hx with h|h
  ·exact hv x h
  ·rw[h];exact zls p hm hv
end Go.Proofs.YthdfpinbnncghaaGreat
