import Derived.Test.YtnapmdofidgliaaGreatM38
import Derived.Test.YtnapmdofidgliaaGreatM37
import Derived.Test.YtnapmdofidgliaaGreatM19
set_option maxHeartbeats 4000000
namespace Go.Proofs.YtnapmdofidgliaaGreat
open Go.RowKit
def za8 (s:Shp)(i:Nat):ByteArray:=(s.fs.getD i zbO).nm
def jL (s:Shp)(ms:List Mnd)(row:List ByteArray)(i:Nat):Bool:=!has row (za8 s i)&&zcs ms s.kd (za8 s i) row
def zfj (s:Shp)(ms:List Mnd)(row:List ByteArray):List ByteArray:=match (List.range s.fs.length).find? (jL s ms row) with|none=>row|some i=>row++[za8 s i]
def yh (s:Shp)(ms:List Mnd):Nat->List ByteArray
 | 0=>[]
 | k+1=>zfj s ms (yh s ms k)
theorem zmk (s:Shp)(ms:List Mnd)(row:List ByteArray):(zfj s ms row).length<=row.length+1:=by
 unfold zfj;split
 ·omega
 ·simp
theorem zeO (s:Shp)(ms:List Mnd):∀k,(yh s ms k).length<=k
 | 0=>Nat.le_refl _
 | k+1=>Nat.le_trans (zmk s ms _) (by have:=zeO s ms k;omega)
theorem zeW (s:Shp)(ms:List Mnd):∀k,∀x∈yh s ms k,∃i,i<s.fs.length/\x=za8 s i
 | 0,x,h=>by cases h
 | k+1,x,h=>by
  have h':x∈zfj s ms (yh s ms k):=h;unfold zfj at h'
  split at h'
  ·exact zeW s ms k x h'
  ·rename_i i hi
   rw[List.mem_append,List.mem_singleton]at h'
   rcases h' with h'|h'
   ·exact zeW s ms k x h'
   ·exact⟨i,List.mem_range.1 (List.mem_of_find?_eq_some hi),h'⟩
set_option maxRecDepth 20000 in
theorem zlC (fa ma:Option Addr)(fcap mcap:Nat)(s:Shp)(ms:List Mnd)(w:World)(hf:zY w fa s.fs)(hm:qN w ma ms)(hml:ms.length<=12)(hn:s.fs.length<=6) :
 Calls Tryz.prog 131 #[.agg #[.string s.kd,.slice fa s.fs.length fcap],.slice ma ms.length mcap] w fun e w'=>∃v,e=.returned v/\w'.ownsRow w.heap.size 9 1 v (yh s ms s.fs.length).length ((yh s ms s.fs.length).map Value.string)/\Below w.heap.size w w':=by
 have HM:=jC hf hm
 have HSM:Hid (∀k,∀x∈yh s ms k,x.size<=maxLen):=by
  intro k x hx;obtain⟨i,hi,rfl⟩:=zeW s ms k x hx;unfold za8;rw[getD_at _ _ _ hi];exact(hf.smalls.small i hi).1.nm
 obtain⟨i0,hi0,hz0,hz1',hz2⟩:=info_parts Tryz.zc1;clear hf hm;go_enter Tryz.func131,Tryz.ntmps131;go_wp2_with fail
 have hnI:(s.fs.length:Int)<=6:=by omega
 go_loopw [5,6] (fun v0 iv wr=>∃(k:Nat) (v:Value),v=v0/\k<=s.fs.length/\iv=.int .i64 k/\wr.ownsRow (w.heap.size+1) 9 1 v (yh s ms k).length ((yh s ms k).map Value.string)/\wr.heap[w.heap.size]?=some (.cells #[.string s.kd,.slice fa s.fs.length fcap] 131)/\Below w.heap.size w wr) (fun _ iv _=>s.fs.length-(intOf iv).toNat)
 case atStart=>exact⟨0,_,rfl,Nat.zero_le _,rfl,⟨rfl,.inr ⟨w.heap.size+1,0,#[],rfl,Nat.le_refl _,(zT _ _ _).2,Nat.le_refl _,by simp[maxLen],rfl,rfl⟩⟩,(zT _ _ _).1,zw _ _ _⟩
 case round=>
  obtain⟨k,v,hv,hk,rfl,hown,hbox,hB⟩:=hrel;subst hv;obtain⟨va,vcap,rfl⟩:=yY hown;have HW:=zc6 hown hbox hB;have hXr:∀j,wr.cell? ⟨w.heap.size,j,none⟩=(#[.string s.kd,.slice fa s.fs.length fcap]:Array Value)[j]?:=fun j=>cell_of_block hbox
  have hzr:=(gES hbox).1;have HGL:Hid ((yh s ms k).length<=6):=by have:=zeO s ms k;show _<=_;omega
  clear hown hbox hB
  by_cases hlt:k<s.fs.length
  ·have hltI:(k:Int)<(s.fs.length:Int):=by omega
   go_wp2_with fail
   clear hXr;obtain⟨wo,hwo⟩:∃wo,wo=wr:=⟨_,rfl⟩
   have HWO:Hid (wo.ownsRow (w.heap.size+1) 9 1 (.slice va (yh s ms k).length vcap) (yh s ms k).length ((yh s ms k).map Value.string)/\wo.heap[w.heap.size]?=some (.cells #[.string s.kd,.slice fa s.fs.length fcap] 131)/\Below w.heap.size w wo/\w.heap.size<wo.heap.size):=by rw[hwo];exact⟨HW.out.1,HW.out.2.1,HW.out.2.2,hzr⟩
   have HWE:=hid hwo;clear hwo HW hzr
   go_loopw [5,7] (fun v1 iv wq=>∃i:Nat,i<=s.fs.length/\iv=.int .i64 i/\v1=.slice va (yh s ms k).length vcap/\(∀q,q<i->jL s ms (yh s ms k) q=false)/\Below wo.heap.size wo wq) (fun _ iv _=>s.fs.length-(intOf iv).toNat)
   case atStart=>exact⟨0,Nat.zero_le _,rfl,rfl,fun q h=>absurd h (by omega),by rw[HWE.out];exact bRf _ _⟩
   case round=>
    obtain⟨i,hi,rfl,rfl,hno,hBq⟩:=hrel;have HQ:=zpx hno hBq (yF HWO.out.1 hBq) ((hBq.block _ HWO.out.2.2.2).trans HWO.out.2.1) (HWO.out.2.2.1.trans (hBq.mono HWO.out.2.2.1.size));have hXq:=zbA HQ.out.2.2.2.1;have hzq:=(gES HQ.out.2.2.2.1).1;clear hno hBq
    by_cases hil:i<s.fs.length
    ·have hilI:(i:Int)<(s.fs.length:Int):=by omega
     obtain⟨fb,foff,rfl,hfb,hr⟩:=HM.out.1.rows (by intro e;rw[e]at hil;simp at hil);obtain⟨wa,wcap,hf0⟩:=hr i hil;obtain⟨c0,c1,c2,c3,c4,c5,c6,c7,c8,c9,c10⟩:=(hf0.mono hfb HQ.out.2.2.2.2).load;have HNM:Hid (za8 s i=s.fs[i].nm):=by unfold Hid za8;rw[getD_at _ _ _ hil]
     have HST:=hid (zl2 HQ.out.2.2.1 (by have:=HGL.out;unfold maxLen;omega) (HSM.out k))
     have HFIND:Hid (jL s ms (yh s ms k) i=true->yh s ms (k+1)=yh s ms k++[s.fs[i].nm]):=by
      intro h
      show zfj s ms (yh s ms k)=_
      unfold zfj
      have:(List.range s.fs.length).find? (jL s ms (yh s ms k))=some i:=by
       rw[List.find?_range_eq_some];exact⟨h,List.mem_range.2 hil,fun j hj=>by rw[HQ.out.1 j hj];rfl⟩
      rw[this]
      show yh s ms k++[za8 s i]=_
      rw[HNM.out]
     clear hr hf0 c1 c2 c3 c4 c5 c6 c7 c8 c9 c10;go_wp2_with fail
     have h:=zcI va vcap (yh s ms k) s.fs[i].nm wr HST.out
     rcases hh:has (yh s ms k) s.fs[i].nm with _|_
     rotate_left
     ·rw[hh]at h
      refine h.mono ?_;rintro e w3⟨rfl,rfl⟩
      have HNR:Hid (∀q,q<i+1->jL s ms (yh s ms k) q=false):=by
       intro q hq
       rcases Nat.lt_or_ge q i with h1|h1
       ·exact HQ.out.1 q h1
       ·have e:q=i:=by omega
        subst e;unfold jL;rw[HNM.out,hh];rfl
      clear h hh;go_wp2_with fail
      exact⟨⟨i+1,by omega,by go_num,rfl,HNR.out,HQ.out.2.1⟩,zm hil⟩
     rw[hh]at h;refine h.mono ?_;rintro e w3'⟨rfl,hw3⟩;rw[hw3];clear hw3 w3';have HRN:Hid (jL s ms (yh s ms k) i=zcs ms s.kd s.fs[i].nm (yh s ms k)):=by unfold Hid jL;rw[HNM.out,hh];rfl
     clear h hh;go_wp2_with fail
     have h:=znC ma va mcap vcap ms s.kd s.fs[i].nm (yh s ms k) wr (HM.out.2.mono HQ.out.2.2.2.2) HST.out hml
     rcases hh:zcs ms s.kd s.fs[i].nm (yh s ms k) with _|_
     ·rw[hh]at h
      refine h.mono ?_;rintro e w3⟨rfl,hb3⟩
      have HNR:Hid ((∀q,q<i+1->jL s ms (yh s ms k) q=false)/\Below wo.heap.size wo w3):=by
       refine⟨fun q hq=>?_,HQ.out.2.1.trans (hb3.mono HQ.out.2.1.size)⟩
       rcases Nat.lt_or_ge q i with h1|h1
       ·exact HQ.out.1 q h1
       ·have e:q=i:=by omega
        subst e;rw[HRN.out,hh]
      clear h hh hb3;go_wp2_with fail
      exact⟨⟨i+1,by omega,by go_num,rfl,HNR.out.1,HNR.out.2⟩,zm hil⟩
     rw[hh]at h;refine h.mono ?_;rintro e w3⟨rfl,hb3⟩;have HG1:=hid (HFIND.out (by rw[HRN.out,hh]));have H3:=zkC (yF HQ.out.2.2.1 hb3) ((hb3.block _ hzq).trans HQ.out.2.2.2.1) (HQ.out.2.2.2.2.trans (hb3.mono HQ.out.2.2.2.2.size)) (nLt hzq hb3.size);clear h hh hb3 hXq c0
     go_wp2_with (at_builtin;refine zhM ?_)
     show wpList _ _ _ _ _ _
     refine wpList_append_own _ rfl (.tmp 42) (.tmp 44) 106 rfl (w.heap.size+1) 9 i0 (.string ByteArray.empty) 1 16 Tryz.underlying106 hi0 hz0 hz1' hz2 rfl (by decide) (.slice va (yh s ms k).length vcap) _ _ rfl (H3.out.1.alloc _) ⟨w3.heap.size,0,none⟩ 1 1 [.string s.fs[i].nm] rfl rfl (zci _ _ _) (by intro u hu;simp at hu;subst hu;rfl) (by have:=HGL.out;unfold maxLen;omega) (by have:=HGL.out;omega) (by have:=H3.out.2.2.2;simp;omega) ?_;intro v' w4 hown' hgr _;obtain⟨va',vcap',rfl⟩:=yY hown';have hgb:∀g,(Value.slice va (yh s ms k).length vcap).ownBlock=some g->w.heap.size+1<=g:=fun g hg=>(H3.out.1.lt g hg).1
     have HY:Hid (w4.ownsRow (w.heap.size+1) 9 1 (.slice va' ((yh s ms k).length+1) vcap') (yh s ms (k+1)).length ((yh s ms (k+1)).map Value.string)/\w4.heap[w.heap.size]?=some (.cells #[.string s.kd,.slice (some ⟨fb,foff,none⟩) s.fs.length fcap] 131)/\Below w.heap.size w w4):=by
      refine⟨by rw[HG1.out,List.length_append,List.map_append];exact hown',?_,zaQ H3.out.2.2.1 H3.out.2.2.1.size hgr (fun g hg=>by have:=hgb g hg;omega)⟩;exact(zaM hgr (by have:=H3.out.2.2.2;simp;omega) (fun g hg=>by have:=hgb g hg;omega)).trans ((Below.heap_alloc _ _ _ H3.out.2.2.2).trans H3.out.2.1)
     clear hown' hgr hgb;go_wp2_with fail
     exact⟨⟨k+1,_,rfl,by omega,by go_num,HY.out.1,HY.out.2.1,HY.out.2.2⟩,zm hlt⟩
    ·have e:i=s.fs.length:=by omega
     have HN:Hid (yh s ms (k+1)=yh s ms k):=by
      show zfj s ms (yh s ms k)=_
      unfold zfj
      have:(List.range s.fs.length).find? (jL s ms (yh s ms k))=none:=by
       rw[List.find?_eq_none];intro q hq;rw[HQ.out.1 q (by rw[e];exact List.mem_range.1 hq)]
       simp
      rw[this]
     subst e;go_wp2_with fail
     exact⟨⟨k+1,_,rfl,by omega,by go_num,by rw[HN.out];exact HQ.out.2.2.1,HQ.out.2.2.2.1,HQ.out.2.2.2.2⟩,zm hlt⟩
  ·have e:k=s.fs.length:=by omega
   subst e;go_wp2_with fail
   go_ret;exact⟨_,rfl,zaq HW.out.1 (by omega),HW.out.2.2⟩
theorem zlD (b:Bk)(a0 a1 a2 a3:Option Addr)(c0 c1 c2 c3:Nat)(tm rs:ByteArray)(w:World)(hb:jk w b a0 a1 a2 a3)(hl:b.ps.length<=1000)(ha:∀i (h:i<b.ps.length),0<=b.ps[i].am/\b.ps[i].am<=1000000) :
 Calls Tryz.prog 109 #[.agg (b.cells a0 a1 a2 a3 c0 c1 c2 c3),.string tm,.string rs] w fun e w'=>e=.returned (.int .i64 (out b.ps tm rs))/\Below w.heap.size w w':=by
 have HK:=hid hb;have HA:Hid (∀i (h:i<b.ps.length),0<=b.ps[i].am/\b.ps[i].am<=1000000):=ha;clear hb ha;unfold Bk.cells;go_enter Tryz.func109,Tryz.ntmps109;go_wp2_with fail
 have hX0:=zl w #[.int .i64 b.now,.int .i64 b.tick,.int .i64 b.given,.slice a0 b.os.length c0,.slice a1 b.gs.length c1,.slice a2 b.ls.length c2,.slice a3 b.ps.length c3] 48;have HB0:Hid (Below w.heap.size w (w.alloc (.cells #[.int .i64 b.now,.int .i64 b.tick,.int .i64 b.given,.slice a0 b.os.length c0,.slice a1 b.gs.length c1,.slice a2 b.ls.length c2,.slice a3 b.ps.length c3] 48))):=bAl _ _;obtain⟨W0,hW0⟩:∃W0,W0=w.alloc (.cells #[.int .i64 b.now,.int .i64 b.tick,.int .i64 b.given,.slice a0 b.os.length c0,.slice a1 b.gs.length c1,.slice a2 b.ls.length c2,.slice a3 b.ps.length c3] 48):=⟨_,rfl⟩
 have hz0:w.heap.size<W0.heap.size:=by rw[hW0];simp
 rw[<- hW0]at HB0 hX0 ⊢;clear hW0
 go_loopw [7,8] (fun nv iv wr=>∃(k:Nat) (s:Int),k<=b.ps.length/\iv=.int .i64 k/\nv=.int .i64 s/\Hid (s=zbt b.ps tm rs k)/\wr=W0) (fun _ iv _=>b.ps.length-(intOf iv).toNat)
 case atStart=>exact⟨0,0,Nat.zero_le _,rfl,rfl,by simp[zbt,Hid],rfl⟩
 case round=>
  obtain⟨k,s,hk,rfl,rfl,HQ,rfl⟩:=hrel;have hkn:k<=1000:=by omega
  have hsb:0<=s/\s<=1000000000:=by have h1:=HQ.out;have h2:=zbN b.ps tm rs HA.out k hk;omega
  by_cases hlt:k<b.ps.length
  ·obtain⟨ob,off,rfl,hob,d0,d1,d2,d3,d4⟩:=HK.out.ps.load HB0.out k hlt
   have hltI:(k:Int)<(b.ps.length:Int):=by omega
   have HSt:=hid (zfn b.ps tm rs k hlt);have hab:=HA.out k hlt;clear d0 d4
   by_cases h1:b.ps[k].tm=tm
   ·have e1:(b.ps[k].tm.toList == tm.toList)=true:=by rw[beq_toList];simpa using h1
    by_cases h2:b.ps[k].rs=rs
    ·have e2:(b.ps[k].rs.toList == rs.toList)=true:=by rw[beq_toList];simpa using h2
     have HN:Hid (zbt b.ps tm rs (k+1)=s+b.ps[k].am):=by unfold Hid;rw[HSt.out,<- HQ.out,if_pos (by unfold zod;simp[h1,h2])]
     clear h1 h2;go_wp2_with fail
     exact⟨⟨k+1,s+b.ps[k].am,by omega,by go_num,by go_num,HN.out.symm,trivial⟩,zm hlt⟩
    ·have e2:(b.ps[k].rs.toList == rs.toList)=false:=by rw[beq_toList];simpa using h2
     have HN:Hid (zbt b.ps tm rs (k+1)=s):=by unfold Hid;rw[HSt.out,<- HQ.out,if_neg (by unfold zod;simp[h2])];omega
     clear h1 h2;go_wp2_with fail
     exact⟨⟨k+1,s,by omega,by go_num,rfl,HN.out.symm,trivial⟩,zm hlt⟩
   ·have e1:(b.ps[k].tm.toList == tm.toList)=false:=by rw[beq_toList];simpa using h1
    have HN:Hid (zbt b.ps tm rs (k+1)=s):=by unfold Hid;rw[HSt.out,<- HQ.out,if_neg (by unfold zod;simp[h1])];omega
    clear h1;go_wp2_with fail
    exact⟨⟨k+1,s,by omega,by go_num,rfl,HN.out.symm,trivial⟩,zm hlt⟩
  ·have e:k=b.ps.length:=by omega
   subst e;have HE:Hid (out b.ps tm rs=s):=by unfold Hid out;exact HQ.out.symm
   clear HQ hlt hk;go_wp2_with fail
   go_ret;exact⟨zo HE.out.symm,HB0.out⟩
theorem zez (a c:Option Addr)(ca cc:Nat)(xs ys:List ByteArray)(w:World)(hx:zD w a xs)(hy:zD w c ys)(hl:xs.length<=1048576)(hl':ys.length<=1048576) :
 Calls Tryz.prog 101 #[.slice a xs.length ca,.slice c ys.length cc] w fun e w'=>e=.returned (.bool (decide (xs=ys)))/\Below w.heap.size w w':=by
 obtain⟨r,hr⟩:∃r,r=decide (xs=ys):=⟨_,rfl⟩
 rw[<- hr];have HR:=hid hr;have HX:=jC hx hy;clear hr hx hy
 by_cases hn:xs.length=ys.length
 rotate_left
 ·have HF:Hid (r=false):=by unfold Hid;rw[HR.out,decide_eq_false_iff_not];intro e;exact hn (by rw[e])
  have e1:((xs.length:Int) != (ys.length:Int))=true:=by simp;omega
  clear hn;go_enter Tryz.func101,Tryz.ntmps101;go_wp2_with fail
  go_ret;exact⟨ze HF.out.symm,bRf _ _⟩
 have e1:((xs.length:Int) != (ys.length:Int))=false:=by simp;omega
 have HN:=hid hn;clear hn;go_enter Tryz.func101,Tryz.ntmps101;go_wp2_with fail
 go_loopw [5] (fun iv wr=>∃k:Nat,k<=xs.length/\iv=.int .i64 k/\Hid ((∀i (h:i<xs.length) (h':i<ys.length),i<k->xs[i]=ys[i])/\Below w.heap.size w wr)) (fun iv _=>xs.length-(intOf iv).toNat)
 case atStart=>exact⟨0,Nat.zero_le _,rfl,fun i h h' hk=>by omega,bRf _ _⟩
 case round=>
  obtain⟨k,hk,rfl,HQ⟩:=hrel;have hkn:k<=1048576:=by omega
  by_cases hlt:k<xs.length
  ·have hlt':k<ys.length:=by have:=HN.out;omega
   obtain⟨p,po,rfl,hp,hpc⟩:=HX.out.1.cells (by intro e;rw[e]at hlt;simp at hlt);obtain⟨q,qo,rfl,hq,hqc⟩:=HX.out.2.cells (by intro e;rw[e]at hlt';simp at hlt');have c1:=(HQ.out.2.cell (p:=⟨p,po+k,none⟩) hp).trans (hpc k hlt);have c2:=(HQ.out.2.cell (p:=⟨q,qo+k,none⟩) hq).trans (hqc k hlt');have hltI:(k:Int)<(xs.length:Int):=by omega
   have hltI':(k:Int)<(ys.length:Int):=by omega
   have hp':=nLt hp HQ.out.2.size;have hq':=nLt hq HQ.out.2.size;have HB:=hid HQ.out.2;clear hpc hqc
   by_cases he:xs[k]=ys[k]
   ·have e2:(xs[k].toList == ys[k].toList)=true:=by rw[beq_toList];simpa using he
    have HA:Hid (∀i (h:i<xs.length) (h':i<ys.length),i<k+1->xs[i]=ys[i]):=by
     intro i h h' hi
     rcases Nat.eq_or_lt_of_le (Nat.le_of_lt_succ hi) with e|h2
     ·subst e;exact he
     ·exact HQ.out.1 i h h' h2
    clear he HQ;go_wp2_with fail
    go_quiet (fail)
    go_wp2_with fail
    exact⟨⟨k+1,by omega,by go_num,HA.out,below_drewN HB.out _⟩,zm hlt⟩
   ·have e2:(xs[k].toList == ys[k].toList)=false:=by rw[beq_toList];simpa using he
    have HF:Hid (r=false):=by
     unfold Hid;rw[HR.out,decide_eq_false_iff_not];intro e;subst e;exact he rfl
    clear he HQ;go_wp2_with fail
    go_quiet (fail)
    go_wp2_with fail
    go_ret;exact⟨ze HF.out.symm,below_drewN HB.out _⟩
  ·have HF:Hid (r=true):=by
    unfold Hid;rw[HR.out,decide_eq_true_eq];exact List.ext_getElem HN.out fun i h h'=>HQ.out.1 i h h' (by omega)
   have HB:=hid HQ.out.2;clear HQ;go_wp2_with fail
   go_ret;exact⟨ze HF.out.symm,HB.out⟩
def zbu (ss:List Shp)(m:Mnd):Bool:=zG ss m.kd&&yu (shapeOf ss m.kd).fs m
def zcv (ms:List Mnd)(s:Shp):Bool:=decide ((yh s ms s.fs.length).length=s.fs.length)
def jD (ss:List Shp)(ms:List Mnd):Bool:=zN ss&&decide (ms.length<=12)&&ms.all (zbu ss)&&ss.all (zcv ms)
theorem zmw (a:Option Addr)(cap:Nat)(ss:List Shp)(m:Mnd)(w:World)(hw:yU w a ss)(hm:m.Small) :
 Calls Tryz.prog 130 #[.slice a ss.length cap,.agg m.cells] w fun e w'=>e=.returned (.bool (zbu ss m))/\Below w.heap.size w w':=by
 by_cases hk:zG ss m.kd=true
 ·refine(zlQ a cap ss m w hw hm hk).mono ?_
  rintro e w'⟨rfl,hb⟩;exact⟨by unfold zbu;rw[hk];rfl,hb⟩
 ·have hkf:zG ss m.kd=false:=by simpa using hk
  have HF:Hid (zbu ss m=false):=by unfold Hid zbu;rw[hkf];rfl
  unfold Mnd.cells;have hba:=(bRf w.heap.size w).alloc (Nat.le_refl _) (.cells #[.string m.kd,.string m.fd,.string m.wh,.string m.wi,.string m.pt,.string m.fr] 133);go_enter Tryz.func130,Tryz.ntmps130;go_wp2_with fail
  refine(zd2 _ _ _ _ _ (hw.mono hba) hkf).mono ?_;rintro e w1⟨rfl,rfl⟩;go_wp2_with fail
  go_ret;exact⟨by rw[HF.out];rfl,hba⟩
set_option maxRecDepth 20000 in
theorem zev (a a':Option Addr)(cap cap':Nat)(ss:List Shp)(ms:List Mnd)(w:World)(hw:yU w a ss)(hm:qN w a' ms) :
 Calls Tryz.prog 96 #[.slice a ss.length cap,.slice a' ms.length cap'] w fun e w'=>e=.returned (.bool (jD ss ms))/\Below w.heap.size w w':=by
 have HW:=jC hw hm;have hl:=hw.len;have hml:=hm.len;unfold maxLen at hl hml;clear hw hm
 by_cases hok:zN ss=true
 rotate_left
 ·have hokf:zN ss=false:=by simpa using hok
  have HF:Hid (jD ss ms=false):=by unfold Hid jD;rw[hokf];simp
  go_enter Tryz.func96,Tryz.ntmps96;go_wp2_with fail
  have h:=zb3 a cap ss w HW.out.1;rw[hokf]at h;refine h.mono ?_;rintro e w1⟨rfl,hb1⟩;clear h;go_wp2_with fail
  go_ret;exact⟨by rw[HF.out];rfl,hb1⟩
 have HOK:=hid hok
 by_cases h12:ms.length<=12
 rotate_left
 ·have HF:Hid (jD ss ms=false):=by unfold Hid jD;rw[decide_eq_false h12];simp
  go_enter Tryz.func96,Tryz.ntmps96;go_wp2_with fail
  have h:=zb3 a cap ss w HW.out.1;rw[hok]at h;refine h.mono ?_;rintro e w1⟨rfl,hb1⟩;clear h hok;go_wp2_with fail
  go_ret;exact⟨by rw[HF.out];rfl,hb1⟩
 have h12I:(ms.length:Int)<=12:=by omega
 go_enter Tryz.func96,Tryz.ntmps96;go_wp2_with fail
 have h:=zb3 a cap ss w HW.out.1;rw[hok]at h;refine h.mono ?_;rintro e w1⟨rfl,hb1⟩;have HB1:=hid hb1;clear h hok hb1;go_wp2_with fail
 go_loopw [5] (fun iv wr=>∃k:Nat,k<=ms.length/\iv=.int .i64 k/\(ms.take k).all (zbu ss)=true/\Below w.heap.size w wr) (fun iv _=>ms.length-(intOf iv).toNat)
 case atStart=>exact⟨0,Nat.zero_le _,rfl,rfl,HB1.out⟩
 case round=>
  obtain⟨k,hk,rfl,hall,hB⟩:=hrel;have HB:=hid hB;have HA:=hid hall;clear hall hB
  by_cases hlt:k<ms.length
  ·obtain⟨b,off,rfl,hb,c0,c1,c2,c3,c4,c5⟩:=HW.out.2.load HB.out k hlt
   have hltI:(k:Int)<(ms.length:Int):=by omega
   have HSM:=hid (HW.out.2.small k hlt)
   have HTK:Hid ((ms.take (k+1)).all (zbu ss)=zbu ss ms[k]):=by
    unfold Hid;rw[tSe hlt,List.all_append,HA.out];simp
   have HNO:Hid (zbu ss ms[k]=false->jD ss ms=false):=by
    intro h
    have:ms.all (zbu ss)=false:=by rw[List.all_eq_false];exact⟨_,List.getElem_mem hlt,by rw[h];simp⟩
    unfold jD;rw[this];simp
   go_wp2_with fail
   have h:=zmw a cap ss ms[k] wr (HW.out.1.mono HB.out) HSM.out
   rcases hh:zbu ss ms[k] with _|_
   ·rw[hh]at h
    refine h.mono ?_;rintro e w3⟨rfl,hb3⟩;have HF:=jC (HNO.out hh) (HB.out.trans (hb3.mono HB.out.size));clear h hb3 hh c0 c1 c2 c3 c4 c5;go_wp2_with fail
    go_ret;exact⟨by rw[HF.out.1];rfl,HF.out.2⟩
   ·rw[hh]at h
    refine h.mono ?_;rintro e w3⟨rfl,hb3⟩;have HY:Hid ((ms.take (k+1)).all (zbu ss)=true/\Below w.heap.size w w3):=⟨by rw[HTK.out];exact hh,HB.out.trans (hb3.mono HB.out.size)⟩
    clear h hb3 hh c0 c1 c2 c3 c4 c5;go_wp2_with fail
    exact⟨⟨k+1,by omega,by go_num,HY.out.1,HY.out.2⟩,zm hlt⟩
  ·have e:k=ms.length:=by omega
   have hall:=HA.out;rw[e,tOl (Nat.le_refl _)]at hall;have HALL:=hid hall;subst e;clear hall HA;go_wp2_with fail
   have HBw:=hid HB.out;clear HB
   go_loopw [6] (fun iv wq=>∃k:Nat,k<=ss.length/\iv=.int .i64 k/\(ss.take k).all (zcv ms)=true/\Below w.heap.size w wq) (fun iv _=>ss.length-(intOf iv).toNat)
   case atStart=>exact⟨0,Nat.zero_le _,rfl,rfl,HBw.out⟩
   case round=>
    obtain⟨k,hk,rfl,hall,hB⟩:=hrel;have HB:=hid hB;have HA:=hid hall;clear hall hB
    by_cases hlt:k<ss.length
    ·obtain⟨b,off,rfl,hb,hr⟩:=HW.out.1.rows (by rintro rfl;simp at hlt)
     obtain⟨fa,fcap,hs0⟩:=hr k hlt;have HSI:Hid (∀W,Below w.heap.size w W->zlh W b (off+k*2) ss[k] fa fcap):=fun W hbb=>hs0.mono hb hbb
     have hck:=(HSI.out _ HB.out).kind;have hcl:=(HSI.out _ HB.out).list;have hltI:(k:Int)<(ss.length:Int):=by omega
     have HTK:Hid ((ss.take (k+1)).all (zcv ms)=zcv ms ss[k]):=by
      unfold Hid;rw[tSe hlt,List.all_append,HA.out];simp
     have HNO:Hid (zcv ms ss[k]=false->jD ss ms=false):=by
      intro h
      have:ss.all (zcv ms)=false:=by rw[List.all_eq_false];exact⟨_,List.getElem_mem hlt,by rw[h];simp⟩
      unfold jD;rw[this];simp
     have HFW:=hid (zd0 HOK.out k hlt);clear hr hs0;go_wp2_with fail
     have hbc:=HB.out.drew;have hL:=(⟨(HSI.out _ hbc).kind,(HSI.out _ hbc).list⟩:_/\_)
     go_region_held3 (fun w'=>w'.cell? ⟨b,off+k*2,none⟩=some (.string ss[k].kd)/\w'.cell? ⟨b,off+k*2+1,none⟩=some (.slice fa ss[k].fs.length fcap)) (exact hL) (first
      | (go_at_call 131;refine(zlC fa a' fcap cap' ss[k] ms _ (by exact(HSI.out _ hbc).zdk) (by exact HW.out.2.mono hbc) h12 HFW.out).mono ?_;rintro e w5⟨v5,rfl,hrow,hb5⟩;obtain⟨ra,rcap,rfl⟩:=yY hrow;have hbc:=hbc.trans (hb5.mono hbc.size);have hL:=(⟨(HSI.out _ hbc).kind,(HSI.out _ hbc).list⟩:_/\_);clear hb5 hrow))
     by_cases hrk:(yh ss[k] ms ss[k].fs.length).length=ss[k].fs.length
     ·have hrI:(((yh ss[k] ms ss[k].fs.length).length:Int) != (ss[k].fs.length:Int))=false:=by rw[hrk];simp
      have HY:Hid ((ss.take (k+1)).all (zcv ms)=true):=by unfold Hid;rw[HTK.out];unfold zcv;exact decide_eq_true hrk
      clear hrk;go_wp2_with fail
      exact⟨⟨k+1,by omega,by go_num,HY.out,hbc⟩,zm hlt⟩
     ·have hrI:(((yh ss[k] ms ss[k].fs.length).length:Int) != (ss[k].fs.length:Int))=true:=by rw[bne_iff_ne];omega
      have HF:Hid (jD ss ms=false):=HNO.out (by unfold zcv;exact decide_eq_false hrk);clear hrk;go_wp2_with fail
      go_ret;exact⟨by rw[HF.out];rfl,hbc⟩
    ·have e:k=ss.length:=by omega
     have hall:=HA.out;rw[e,tOl (Nat.le_refl _)]at hall;have HF:Hid (jD ss ms=true):=by unfold Hid jD;rw[HALL.out,HOK.out,hall,decide_eq_true h12];rfl
     subst e;clear hall HA;go_wp2_with fail
     go_ret;exact⟨by rw[HF.out];rfl,HB.out⟩
theorem ziO (a c:Option Addr)(ca cc:Nat)(xs ys:List ByteArray)(w:World)(hx:zD w a xs)(hy:zD w c ys)(hl:xs.length<=1048576)(hl':ys.length<=1048576) :
 Calls Tryz.prog 197 #[.slice a xs.length ca,.slice c ys.length cc] w fun e w'=>e=.returned (.bool (decide (xs=ys)))/\Below w.heap.size w w':=by
 obtain⟨r,hr⟩:∃r,r=decide (xs=ys):=⟨_,rfl⟩
 rw[<- hr];have HR:Hid (r=decide (xs=ys)):=hr;have HX:Hid (zD w a xs/\zD w c ys):=⟨hx,hy⟩
 clear hr hx hy
 by_cases hn:xs.length=ys.length
 rotate_left
 ·have HF:Hid (r=false):=by unfold Hid;rw[HR.out,decide_eq_false_iff_not];intro e;exact hn (by rw[e])
  have e1:((xs.length:Int) != (ys.length:Int))=true:=by simp;omega
  clear hn;go_enter Tryz.func197,Tryz.ntmps197;go_wp2_with fail
  go_ret;exact⟨ze HF.out.symm,bRf _ _⟩
 have e1:((xs.length:Int) != (ys.length:Int))=false:=by simp;omega
 have HN:Hid (xs.length=ys.length):=hn;clear hn;go_enter Tryz.func197,Tryz.ntmps197;go_wp2_with fail
 go_loopw [13] (fun iv wr=>∃k:Nat,k<=xs.length/\iv=.int .i64 k/\Hid ((∀i (h:i<xs.length) (h':i<ys.length),i<k->xs[i]=ys[i])/\Below w.heap.size w wr)) (fun iv _=>xs.length-(intOf iv).toNat)
 case atStart=>exact⟨0,Nat.zero_le _,rfl,fun i h h' hk=>by omega,bRf _ _⟩
 case round=>
  obtain⟨k,hk,rfl,HQ⟩:=hrel;have hkn:k<=1048576:=by omega
  by_cases hlt:k<xs.length
  ·have hlt':k<ys.length:=by have:=HN.out;omega
   obtain⟨p,po,rfl,hp,hpc⟩:=HX.out.1.cells (by intro e;rw[e]at hlt;simp at hlt);obtain⟨q,qo,rfl,hq,hqc⟩:=HX.out.2.cells (by intro e;rw[e]at hlt';simp at hlt');have c1:=(HQ.out.2.cell (p:=⟨p,po+k,none⟩) hp).trans (hpc k hlt);have c2:=(HQ.out.2.cell (p:=⟨q,qo+k,none⟩) hq).trans (hqc k hlt');have hltI:(k:Int)<(xs.length:Int):=by omega
   have hltI':(k:Int)<(ys.length:Int):=by omega
   have hp':p<wr.heap.size:=nLt hp HQ.out.2.size;have hq':q<wr.heap.size:=nLt hq HQ.out.2.size;have HB:Hid (Below w.heap.size w wr):=HQ.out.2;clear hpc hqc
   by_cases he:xs[k]=ys[k]
   ·have e2:(xs[k].toList == ys[k].toList)=true:=by rw[beq_toList];simpa using he
    have HA:Hid (∀i (h:i<xs.length) (h':i<ys.length),i<k+1->xs[i]=ys[i]):=by
     intro i h h' hi
     rcases Nat.eq_or_lt_of_le (Nat.le_of_lt_succ hi) with e|h2
     ·subst e;exact he
     ·exact HQ.out.1 i h h' h2
    clear he HQ;go_wp2_with fail
    go_quiet (fail)
    go_wp2_with fail
    exact⟨⟨k+1,by omega,by go_num,HA.out,below_drewN HB.out _⟩,zm hlt⟩
   ·have e2:(xs[k].toList == ys[k].toList)=false:=by rw[beq_toList];simpa using he
    have HF:Hid (r=false):=by
     unfold Hid;rw[HR.out,decide_eq_false_iff_not];intro e;subst e;exact he rfl
    clear he HQ;go_wp2_with fail
    go_quiet (fail)
    go_wp2_with fail
    go_ret;exact⟨ze HF.out.symm,below_drewN HB.out _⟩
  ·have HF:Hid (r=true):=by
    unfold Hid;rw[HR.out,decide_eq_true_eq];exact List.ext_getElem HN.out fun i h h'=>HQ.out.1 i h h' (by omega)
   have HB:Hid (Below w.heap.size w wr):=HQ.out.2;clear HQ;go_wp2_with fail
   go_ret;exact⟨ze HF.out.symm,HB.out⟩
theorem yA.new (w:World):yA (w.alloc (.map #[] 0)) w.heap.size (fun _ _=>none):=
 ⟨⟨#[],0,Array.getElem?_push_size,fun x hx=>(by simp at hx),fun a b v h=>(by cases h),fun i j x y hx=>(by simp at hx)⟩,fun es c h=>by
  have e:(w.alloc (.map #[] 0)).heap[w.heap.size]?=some (.map #[] 0):=Array.getElem?_push_size;rw[e]at h
  cases h
  exact⟨fun x hx=>(by simp at hx),by simp⟩⟩
theorem zbT.below {r B:Nat}{w0 w w':World}(h:zbT r w w')(hb:Below B w0 w)(hr:B<=r):Below B w0 w':=
 ⟨h.os.trans hb.os,h.tape.trans hb.tape,h.output.trans hb.output,by rw[h.size];exact hb.size,fun k hk=>(h.out k (by omega)).trans (hb.block k hk)⟩
theorem ji (o:Ob)(a0 a1:Option Addr)(c0 c1:Nat)(w:World):Calls Tryz.prog 80 #[.agg #[.string o.kd,.string o.nm,.string o.tm,.slice a0 o.vs.length c0,.bool o.en,.slice a1 o.hs.length c1,.int .i64 o.vr]] w fun e w'=>e=.returned (yw o.kd o.nm)/\Below w.heap.size w w':=by
 unfold yw;go_enter Tryz.func80,Tryz.ntmps80;go_wp2_with fail
 refine bodyPost_ret (v:=.agg #[.string o.kd,.string o.nm]) (by simp[results,Tryz.results80,go_sem]) rfl ⟨rfl,?_⟩
 first|exact zw _ _ _|exact((zw _ _ _).setCell (by simp) _).setCell (by simp) _|exact((zw _ _ _).setCell (by show _<=_+1;omega) _).setCell (by show _<=_+1;omega) _
structure zbK (f:ByteArray->ByteArray->Option Int)(os:List Ob)(k:Nat):Prop where
 has:∀p q,(f p q).isSome=(os.take k).any (zar p q)
 at_:∀p q v,f p q=some v->∃i,∃h:i<os.length,v=(i:Int)/\os[i].kd=p/\os[i].nm=q
theorem zbK.put {f:ByteArray->ByteArray->Option Int}{os:List Ob}{k:Nat}(h:zbK f os k)(hlt:k<os.length):zbK (fun p q=>if p=os[k].kd/\q=os[k].nm then some (k:Int) else f p q) os (k+1):=by
 refine⟨fun p q=>?_,fun p q v hv=>?_⟩
 ·rw[tSe hlt,List.any_append,<- h.has p q]
  simp only[List.any_cons,List.any_nil,Bool.or_false]
  by_cases e:p=os[k].kd/\q=os[k].nm
  ·rw[if_pos e]
   unfold zar
   simp[e.1,e.2]
  ·rw[if_neg e]
   have:zar p q os[k]=false:=by
    unfold zar;rw[Bool.and_eq_false_iff,decide_eq_false_iff_not,decide_eq_false_iff_not]
    by_cases e1:os[k].kd=p
    ·exact Or.inr fun e2=>e ⟨e1.symm,e2.symm⟩
    ·exact Or.inl e1
   rw[this,Bool.or_false]
 ·by_cases e:p=os[k].kd/\q=os[k].nm
  ·rw[if_pos e]at hv
   exact⟨k,hlt,(Option.some.inj hv).symm,e.1.symm,e.2.symm⟩
  ·rw[if_neg e]at hv
   exact h.at_ p q v hv
theorem zeF (a:Option Addr)(cap:Nat)(os:List Ob)(w:World)(hw:zbV w a os)(hl:os.length<=1048576) :
 Calls Tryz.prog 76 #[.slice a os.length cap] w fun e w'=>(∃f,e=.returned (.map (some w.heap.size))/\yA w' w.heap.size f/\zbK f os os.length)/\Below w.heap.size w w':=by
 have HW:=hid hw;have hmk:∀w:World,(Instr.makeMap 78 none).run Tryz.prog w=.ok (.map (some w.heap.size)) (w.alloc (.map #[] 0)):=fun w=>by kernel_rfl
 clear hw;go_enter Tryz.func76,Tryz.ntmps76;go_wp2_with fail
 clear hmk
 go_loopw [9] (fun iv wr=>∃k:Nat,k<=os.length/\iv=.int .i64 k/\Hid ((∃f,yA wr w.heap.size f/\zbK f os k)/\Below w.heap.size w wr)) (fun iv _=>os.length-(intOf iv).toNat)
 case atStart=>exact⟨0,Nat.zero_le _,rfl,⟨_,yA.new w,⟨fun p q=>by simp,fun p q v h=>by cases h⟩⟩,bAl _ _⟩
 case round=>
  obtain⟨k,hk,rfl,HX⟩:=hrel;obtain⟨⟨f,hf,hc⟩,hB⟩:=HX.out;have hkn:k<=1048576:=by omega
  by_cases hlt:k<os.length
  ·obtain⟨ob,off,v0,v1,q0,q1,rfl,hob,hsm,hl0,hl1,d0,d1,d2,d3,d4,d5,d6⟩:=HW.out.load hB k hlt
   have hltI:(k:Int)<(os.length:Int):=by omega
   have hob':=nLt hob hB.size;have HKn:=hid hsm;have HPf:=zc6 hf hc hB;clear hf hc hB HX hsm hl0 hl1;go_wp2_with fail
   refine(ji os[k] v0 v1 q0 q1 _).mono ?_;rintro e w1⟨rfl,hb1⟩;have hBa:=(HPf.out.2.2.alloc HPf.out.2.2.size (.cells #[.string os[k].kd,.string os[k].nm,.string os[k].tm,.slice v0 os[k].vs.length q0,.bool os[k].en,.slice v1 os[k].hs.length q1,.int .i64 os[k].vr] 123))
   have hf1:yA w1 w.heap.size f:=(HPf.out.1.mono (bAl _ _)).mono hb1;obtain⟨w2,hup,hf2,hp2⟩:=hf1.upd zab Tryz.underlying78 os[k].kd os[k].nm HKn.out.kd HKn.out.nm (k:Int)
   have HC:Hid ((∃f,yA w2 w.heap.size f/\zbK f os (k+1))/\Below w.heap.size w w2):=
    ⟨⟨_,hf2,HPf.out.2.1.put hlt⟩,hp2.below (hBa.trans (hb1.mono hBa.size)) (Nat.le_refl _)⟩
   clear hf1 hf2 hp2 hb1 hBa;go_wp2_with fail
   exact⟨⟨k+1,by omega,by go_num,HC.out⟩,zm hlt⟩
  ·have e:k=os.length:=by omega
   subst e;have HE:Hid (∃f,yA wr w.heap.size f/\zbK f os os.length):=⟨f,hf,hc⟩
   have HB:=hid hB;clear hf hc hB HX hlt hk;go_wp2_with fail
   go_ret;obtain⟨f,h1,h2⟩:=HE.out;exact⟨⟨f,rfl,h1,h2⟩,HB.out⟩
theorem zhN (a:Option Addr)(cap:Nat)(os:List Ob)(w:World)(hw:zbV w a os)(hl:os.length<=1048576) :
 Calls Tryz.prog 76 #[.slice a os.length cap] w fun e w'=>(∃f,e=.returned (.map (some w.heap.size))/\yA w' w.heap.size f/\∀p q,(f p q).isSome=os.any (zar p q))/\Below w.heap.size w w':=by
 refine(zeF a cap os w hw hl).mono ?_;rintro e w'⟨⟨f,he,hf,hp⟩,hb⟩;exact⟨⟨f,he,hf,fun p q=>by rw[hp.has p q,tOl (Nat.le_refl _)]⟩,hb⟩
end Go.Proofs.YtnapmdofidgliaaGreat
namespace Go.Proofs.YtnapmdofidgliaaGreat
theorem zqT (ws:List ByteArray)(v:ByteArray):has ws v=true↔v∈ws:=by
 unfold has;rw[List.any_eq_true]
 constructor
 ·rintro⟨x,hx,he⟩
  have:x=v:=by simpa using he
  rw[<- this];exact hx
 ·intro h;exact⟨v,h,by simp⟩
theorem znM {ss:List Shp}(h:zN ss=true)(i:Nat)(hi:i<ss.length)(j:Nat)(hj:j<ss[i].fs.length):ze4 ss ss[i].fs j=true:=by
 have h1:=zhh h i hi;unfold yX at h1;rw[getD_at ss i _ hi]at h1;simp only[Bool.and_eq_true]at h1;have h2:=h1.2;unfold yZ at h2;simp only[Bool.and_eq_true]at h2;exact zfz hj h2.2
theorem znl {ss:List Shp}(h:zN ss=true)(i:Nat)(hi:i<ss.length)(j:Nat)(hj:j<ss[i].fs.length):isSet ss[i].fs[j].nm=true:=by
 have h1:=znM h i hi j hj;rw[zgK _ _ _ hj]at h1;simp only[Bool.and_eq_true]at h1;have h2:=h1.1.1;rw[zpL];intro e;rw[e]at h2
 revert h2
 decide
theorem ze0 {ss:List Shp}(h:zN ss=true)(i:Nat)(hi:i<ss.length)(j k:Nat)(hj:j<k)(hk:k<ss[i].fs.length):(ss[i].fs[j]'(by omega)).nm≠ss[i].fs[k].nm:=by
 have h1:=znM h i hi k hk;rw[zgK _ _ _ hk]at h1;simp only[Bool.and_eq_true,Bool.not_eq_true']at h1;have h2:=h1.1.2;intro e;unfold hasName at h2;rw[List.any_eq_false]at h2
 have hm:ss[i].fs[j]'(by omega)∈ss[i].fs.take k:=by
  rw[List.mem_iff_getElem];exact⟨j,by simp;omega,by simp⟩
 exact h2 _ hm (by simpa using e)
theorem zqo {ss:List Shp}(h:zN ss=true)(i:Nat)(hi:i<ss.length)(j k:Nat)(hj:j<ss[i].fs.length)(hk:k<ss[i].fs.length)(e:za8 ss[i] j=za8 ss[i] k):j=k:=by
 unfold za8 at e;rw[getD_at _ _ _ hj,getD_at _ _ _ hk]at e
 rcases Nat.lt_trichotomy j k with h1|h1|h1
 ·exact absurd e (ze0 h i hi j k h1 hk)
 ·exact h1
 ·exact absurd e.symm (ze0 h i hi k j h1 hj)
theorem zpD {ss:List Shp}(h:zN ss=true)(m:Mnd):j6 ss m=zbu ss m:=by
 unfold j6 zbu
 by_cases hk:zG ss m.kd=true
 ·rw[hk,Bool.true_and,Bool.true_and]
  unfold zG at hk;rw[List.any_eq_true]at hk;obtain⟨x,hx,he⟩:=hk;obtain⟨i,hi,rfl⟩:=List.mem_iff_getElem.1 hx;have hkd:ss[i].kd=m.kd:=by simpa using he
  rw[<- hkd,zes h i hi];unfold za4 yu
  by_cases hp:plain ss[i].fs m.fd=true
  ·have hfd:isSet m.fd=true:=by
    rcases jm ss[i].fs m.fd with⟨_,h2⟩|⟨k,hk',_,h2,_⟩
    ·rw[zav h2]at hp;cases hp
    ·rw[<- h2];exact znl h i hi k hk'
   have hne:∀v,isSet v=false->v≠m.fd:=fun v hv e=>by rw[e,hfd]at hv;cases hv
   rw[hp,Bool.true_and,Bool.true_and]
   have e:(zQ m).all (j5 ss[i].fs m)=((!isSet m.wh||plain ss[i].fs m.wh)&&(!isSet m.fr||plain ss[i].fs m.fr)&&!decide (m.wh=m.fd)&&!decide (m.fr=m.fd)):=by
    unfold zQ;rw[List.all_filter];unfold j5
    rcases hw:isSet m.wh with _|_ <;> rcases hf:isSet m.fr with _|_
    ·simp[hw,hf,hne _ hw,hne _ hf]
    ·simp[hw,hf,hne _ hw]
     cases plain ss[i].fs m.fr <;> simp
    ·simp[hw,hf,hne _ hf]
     cases plain ss[i].fs m.wh <;> simp
    ·simp[hw,hf]
     cases plain ss[i].fs m.wh <;> cases plain ss[i].fs m.fr <;> simp
   rw[e]
  ·have hpf:plain ss[i].fs m.fd=false:=by simpa using hp
   rw[hpf];simp
 ·have hkf:zG ss m.kd=false:=by simpa using hk
  rw[hkf];rfl
theorem zoX {ss:List Shp}{ms:List Mnd}(h:zN ss=true)(hm:ms.all (j6 ss)=true)(i:Nat)(hi:i<ss.length)(row:List Nat)(hrow:∀q∈row,q<ss[i].fs.length)(j:Nat)(hj:j<ss[i].fs.length) :
 jL ss[i] ms (row.map (za8 ss[i])) j=ready (zn ss[i] ms) row j:=by
 have hmem:∀q,q<ss[i].fs.length->(has (row.map (za8 ss[i])) (za8 ss[i] q)=true↔q∈row):=by
  intro q hq;rw[zqT,List.mem_map]
  constructor
  ·rintro⟨p,hp,e⟩
   rw[<- zqo h i hi p q (hrow p hp) hq e];exact hp
  ·intro hp;exact⟨q,hp,rfl⟩
 rw[Bool.eq_iff_iff,zhA];unfold jL;rw[Bool.and_eq_true,Bool.not_eq_true',<- Bool.not_eq_true,hmem j hj];refine and_congr Iff.rfl ?_;unfold zcs;rw[List.all_eq_true]
 -- what a mend that turns j reads
 have hread:∀m∈ms,turns m ss[i] j=true->∀v∈zQ m,∃q,q<ss[i].fs.length/\zR ss[i].fs v=(q:Int)/\za8 ss[i] q=v:=by
  intro m hmm ht v hv;unfold turns at ht;simp only[Bool.and_eq_true,decide_eq_true_eq]at ht;have h1:=List.all_eq_true.1 hm m hmm;unfold j6 at h1;rw[ht.1,zes h i hi]at h1;simp only[Bool.and_eq_true]at h1;have h2:=h1.2;unfold za4 at h2;simp only[Bool.and_eq_true]at h2;have h3:=List.all_eq_true.1 h2.1.2 v hv;unfold j5 at h3;simp only[Bool.and_eq_true]at h3
  rcases jm ss[i].fs v with⟨_,h5⟩|⟨k,hk,h4,h5,_⟩
  ·rw[zav h5]at h3;exact absurd h3.2 (by simp)
  ·exact⟨k,hk,h4,by unfold za8;rw[getD_at _ _ _ hk];exact h5⟩
 have hR:∀m,qC ss[i].kd (za8 ss[i] j) (row.map (za8 ss[i])) m=true↔(turns m ss[i] j=true->∀v∈zQ m,has (row.map (za8 ss[i])) v=true):=by
  intro m;have e1:turns m ss[i] j=(decide (m.kd=ss[i].kd)&&decide (m.fd=za8 ss[i] j)):=rfl;unfold qC;rw[<- e1]
  rcases turns m ss[i] j with _|_
  ·simp
  ·unfold zQ
   rcases hw:isSet m.wh with _|_ <;> rcases hf:isSet m.fr with _|_ <;> simp[hw,hf]
 constructor
 ·intro hall q hq
  unfold zn at hq;obtain⟨x,hx,rfl⟩:=List.mem_map.1 hq;unfold yC at hx;obtain⟨m,hmm,hx⟩:=List.mem_flatMap.1 hx
  by_cases ht:turns m ss[i] j=true
  ·rw[if_pos ht]at hx
   obtain⟨v,hv,rfl⟩:=List.mem_map.1 hx;obtain⟨q,hq,e1,e2⟩:=hread m hmm ht v hv
   have:=(hR m).1 (hall m hmm) ht v hv
   rw[e1,Int.toNat_natCast];rw[<- e2]at this;exact(hmem q hq).1 this
  ·rw[if_neg ht]at hx;cases hx
 ·intro hall m hmm
  rw[hR];intro ht v hv;obtain⟨q,hq,e1,e2⟩:=hread m hmm ht v hv;rw[<- e2,hmem q hq];refine hall q ?_;unfold zn;rw[List.mem_map];refine⟨(q:Int),?_,Int.toNat_natCast _⟩;unfold yC;rw[List.mem_flatMap];refine⟨m,hmm,?_⟩;rw[if_pos ht,List.mem_map];exact⟨v,hv,e1⟩
theorem find_congr {α:Type}{f g:α->Bool}:∀ {l:List α},(∀x∈l,f x=g x)->l.find? f=l.find? g
 | [],_=>rfl
 | a :: l,h=>by
  have h1:=h a (by simp);have h2:=find_congr (f:=f) (g:=g) (l:=l) (fun x hx=>h x (by simp[hx]));rw[List.find?_cons,List.find?_cons,h1,h2]
theorem zeh {ss:List Shp}{ms:List Mnd}(h:zN ss=true)(hm:ms.all (j6 ss)=true)(i:Nat)(hi:i<ss.length):∀k,yh ss[i] ms k=(greedy (zn ss[i] ms) ss[i].fs.length k).map (za8 ss[i])
 | 0=>rfl
 | k+1=>by
  show zfj ss[i] ms (yh ss[i] ms k)=(more (zn ss[i] ms) ss[i].fs.length (greedy (zn ss[i] ms) ss[i].fs.length k)).map (za8 ss[i])
  rw[zeh h hm i hi k];have hpart:=zcq (zn ss[i] ms) ss[i].fs.length k
  have e:(List.range ss[i].fs.length).find? (jL ss[i] ms ((greedy (zn ss[i] ms) ss[i].fs.length k).map (za8 ss[i])))=pick (zn ss[i] ms) ss[i].fs.length (greedy (zn ss[i] ms) ss[i].fs.length k):=by
   unfold pick
   apply find_congr
   intro x hx;exact zoX h hm i hi _ hpart.mem x (List.mem_range.1 hx)
  unfold zfj more;rw[e]
  cases pick (zn ss[i] ms) ss[i].fs.length (greedy (zn ss[i] ms) ss[i].fs.length k) with
  | none=>rfl
  | some q=>simp
theorem zmQ {ss:List Shp}{ms:List Mnd}(h:zN ss=true)(hm:ms.all (j6 ss)=true)(i:Nat)(hi:i<ss.length):rowOk ms ss[i]=zcv ms ss[i]:=by
 unfold rowOk zcv;rw[zeh h hm i hi,List.length_map];refine ziJ (fun p hp q hq=>?_);unfold zn at hq;obtain⟨x,hx,rfl⟩:=List.mem_map.1 hq
 have:=zjB h hm i hi p hp x hx
 omega
theorem zgf (ss:List Shp)(ms:List Mnd):yj ss ms=jD ss ms:=by
 unfold yj jD
 by_cases h:zN ss=true
 ·have e1:ms.all (zbu ss)=ms.all (j6 ss):=by congr 1;funext m;exact(zpD h m).symm
  rw[e1,h]
  by_cases hm:ms.all (j6 ss)=true
  ·have e2:ss.all (rowOk ms)=ss.all (zcv ms):=by
    rw[Bool.eq_iff_iff,List.all_eq_true,List.all_eq_true]
    constructor
    ·intro ha x hx
     obtain⟨i,hi,rfl⟩:=List.mem_iff_getElem.1 hx;rw[<- zmQ h hm i hi];exact ha _ hx
    ·intro ha x hx
     obtain⟨i,hi,rfl⟩:=List.mem_iff_getElem.1 hx;rw[zmQ h hm i hi];exact ha _ hx
   rw[e2];cases decide (ms.length<=12) <;> simp
  ·have hmf:ms.all (j6 ss)=false:=by simpa using hm
   rw[hmf];simp
 ·have hf:zN ss=false:=by simpa using h
  rw[hf];simp
end Go.Proofs.YtnapmdofidgliaaGreat
namespace Go.Proofs.YtnapmdofidgliaaGreat
open Go.RowKit
theorem zdX (r:Nat)(f:ByteArray->ByteArray->Option Int)(p q:ByteArray)(w:World)(hM:yA w r f)(hp:p.size<=maxLen)(hq:q.size<=maxLen) :
 Calls Tryz.prog 78 #[.map (some r),yw p q] w fun e w'=>e=.returned (.bool (f p q).isSome)/\Below w.heap.size w w':=by
 have hb:Below w.heap.size w (w.alloc (.cells #[.string p,.string q] 149)):=bAl _ _;have hlk:=(hM.mono hb).look zab Tryz.underlying79 p q hp hq true;unfold yw at hlk ⊢;simp only[if_true]at hlk;have HB:Hid (Below w.heap.size w (w.alloc (.cells #[.string p,.string q] 149))):=hb;clear hb hM
 cases hs:(f p q).isSome with
 | false=>
  rw[hs]at hlk;go_enter Tryz.func78,Tryz.ntmps78;go_wp2_with fail
  go_ret;exact⟨rfl,HB.out⟩
 | true=>
  rw[hs]at hlk;go_enter Tryz.func78,Tryz.ntmps78;go_wp2_with fail
  go_ret;exact⟨rfl,HB.out⟩
end Go.Proofs.YtnapmdofidgliaaGreat
namespace Go.Proofs.YtnapmdofidgliaaGreat
def qO (fs:List Fld)(vs:List ByteArray)(v:ByteArray):ByteArray:=match fs.findIdx? (fun f=>decide (f.nm=v)) with|some j=>vs.getD j ByteArray.empty|none=>ByteArray.empty
def gives (s:Shp)(vs:List ByteArray)(p:Nat)(m:Mnd):Option ByteArray:=
 if turns m s p=true/\¬(isSet m.wh=true/\qO s.fs vs m.wh≠m.wi) then
  if isSet m.fr=true then (if isSet (qO s.fs vs m.fr)=true then some (qO s.fs vs m.fr) else none) else some m.pt
 else none
def decided (s:Shp)(ms:List Mnd)(p:Nat)(vs:List ByteArray):ByteArray:=(ms.findSome? (gives s vs p)).getD (vs.getD p ByteArray.empty)
theorem zdA {fs:List Fld}{vs:List ByteArray}{v:ByteArray}{j:Nat}(h:zR fs v=(j:Int)):qO fs vs v=vs.getD j ByteArray.empty:=by
 unfold zR at h;unfold qO
 cases hf:fs.findIdx? (fun f=>decide (f.nm=v)) with
 | none=>rw[hf]at h;simp at h
 | some k=>
  rw[hf]at h
  have:k=j:=by simp only at h;omega
  rw[this]
theorem zfU {fs:List Fld}{vs:List ByteArray}{v:ByteArray}(h:zR fs v=-1):qO fs vs v=ByteArray.empty:=by
 unfold zR at h;unfold qO
 cases hf:fs.findIdx? (fun f=>decide (f.nm=v)) with
 | none=>rfl
 | some k=>rw[hf]at h;simp only at h;omega
theorem zeZ {α β:Type}{f g:α->Option β}:∀ {l:List α},(∀x∈l,f x=g x)->l.findSome? f=l.findSome? g
 | [],_=>rfl
 | a :: l,h=>by
  have h1:=h a (by simp);have h2:=zeZ (f:=f) (g:=g) (l:=l) (fun x hx=>h x (by simp[hx]));rw[List.findSome?_cons,List.findSome?_cons,h1,h2]
theorem zlb {us vs:List ByteArray}{q:Nat}(e:us[q]?=vs[q]?):us.getD q ByteArray.empty=vs.getD q ByteArray.empty:=by
 rw[List.getD_eq_getElem?_getD,List.getD_eq_getElem?_getD,e]
theorem zmO (s:Shp)(ms:List Mnd)(p:Nat)(us vs:List ByteArray)(hr:∀q∈zn s ms p,us[q]?=vs[q]?):ms.findSome? (gives s us p)=ms.findSome? (gives s vs p):=by
 apply zeZ
 intro m hmm;unfold gives
 by_cases ht:turns m s p=true
 ·have hread:∀v∈zQ m,qO s.fs us v=qO s.fs vs v:=by
   intro v hv'
   rcases jm s.fs v with⟨h1,_⟩|⟨k,_,h1,_⟩
   ·rw[zfU h1,zfU h1]
   ·rw[zdA h1,zdA h1]
    apply zlb
    apply hr
    unfold zn;rw[List.mem_map];refine⟨(k:Int),?_,Int.toNat_natCast _⟩;unfold yC;rw[List.mem_flatMap];refine⟨m,hmm,?_⟩;rw[if_pos ht,List.mem_map];exact⟨v,hv',h1⟩
  have hw:isSet m.wh=true->qO s.fs us m.wh=qO s.fs vs m.wh:=fun hs=>hread _ (by unfold zQ;rw[List.mem_filter];exact⟨by simp,hs⟩)
  have hf:isSet m.fr=true->qO s.fs us m.fr=qO s.fs vs m.fr:=fun hs=>hread _ (by unfold zQ;rw[List.mem_filter];exact⟨by simp,hs⟩)
  have c1:(isSet m.wh=true/\qO s.fs us m.wh≠m.wi)↔(isSet m.wh=true/\qO s.fs vs m.wh≠m.wi):=by
   constructor
   ·rintro⟨a,b⟩;exact⟨a,by rw[<- hw a];exact b⟩
   ·rintro⟨a,b⟩;exact⟨a,by rw[hw a];exact b⟩
  have c2:(if isSet m.fr=true then (if isSet (qO s.fs us m.fr)=true then some (qO s.fs us m.fr) else none) else some m.pt)=(if isSet m.fr=true then (if isSet (qO s.fs vs m.fr)=true then some (qO s.fs vs m.fr) else none) else some m.pt):=by
   by_cases hsf:isSet m.fr=true
   ·rw[hf hsf]
   ·rw[if_neg hsf,if_neg hsf]
  rw[c2]
  by_cases hc:turns m s p=true/\¬(isSet m.wh=true/\qO s.fs us m.wh≠m.wi)
  ·have hc':turns m s p=true/\¬(isSet m.wh=true/\qO s.fs vs m.wh≠m.wi):=⟨hc.1,fun h'=>hc.2 (c1.2 h')⟩
   rw[if_pos hc,if_pos hc']
  ·have hc':¬(turns m s p=true/\¬(isSet m.wh=true/\qO s.fs vs m.wh≠m.wi)):=fun h'=>hc ⟨h'.1,fun h''=>h'.2 (c1.1 h'')⟩
   rw[if_neg hc,if_neg hc']
 ·simp[ht]
theorem zkK (s:Shp)(ms:List Mnd):zq2 (zn s ms) s.fs.length (decided s ms):=by
 intro p _ us vs _ _ hr hown;unfold decided;rw[zmO s ms p us vs hr,zlb hown]
end Go.Proofs.YtnapmdofidgliaaGreat
namespace Go.Proofs.YtnapmdofidgliaaGreat
open Go.RowKit
def zcl (l:Lw):Bool:=yj l.ss l.ms&&zbU l.ts
theorem zkF (l:Lw)(a b c:Option Addr)(ca cb cc:Nat)(w:World)(hl:jh w l a b c)(hf:l.Few) :
 Calls Tryz.prog 74 #[.agg (l.cells a b c ca cb cc)] w fun e w'=>e=.returned (.bool (zcl l))/\Below w.heap.size w w':=by
 have HL:Hid (jh w l a b c):=hl;have HF:Hid l.Few:=hf;clear hl hf;unfold Lw.cells
 by_cases h1:yj l.ss l.ms=true
 ·have HQ:Hid (zcl l=zbU l.ts):=by unfold Hid zcl;rw[h1];rfl
  have HM:Hid (yj l.ss l.ms=true):=h1;clear h1;go_enter Tryz.func74,Tryz.ntmps74;go_wp2_with fail
  refine(zf HM.out (zeG _ _ _ _ l.ss l.ms _ (HL.out.ss.mono (bAl _ _)) (HL.out.ms.mono (bAl _ _)) HF.out.ms)).mono ?_;rintro e w1⟨rfl,hb⟩;have hX1:=za (zl w #[.slice a l.ss.length ca,.slice b l.ms.length cb,.slice c l.ts.length cc] 41) (by simp) hb;have hz1:w.heap.size<w1.heap.size:=by have:=hb.size;simp at this;omega
  have hB1:Below w.heap.size w w1:=(bAl _ _).trans (hb.mono (by simp));clear hb;go_wp2_with fail
  refine(zio _ _ l.ts _ (HL.out.ts.mono hB1)).mono ?_;rintro e w2⟨rfl,hb⟩;have hB2:=hB1.trans (hb.mono hB1.size);clear hb hX1 hz1 hB1;go_wp2_with fail
  go_ret;exact⟨ze HQ.out.symm,hB2⟩
 ·have h1':yj l.ss l.ms=false:=by simpa using h1
  have HQ:Hid (zcl l=false):=by unfold Hid zcl;rw[h1'];rfl
  have HM:Hid (yj l.ss l.ms=false):=h1';clear h1 h1';go_enter Tryz.func74,Tryz.ntmps74;go_wp2_with fail
  refine(zf HM.out (zeG _ _ _ _ l.ss l.ms _ (HL.out.ss.mono (bAl _ _)) (HL.out.ms.mono (bAl _ _)) HF.out.ms)).mono ?_;rintro e w1⟨rfl,hb⟩;have hB1:Below w.heap.size w w1:=(bAl _ _).trans (hb.mono (by simp));clear hb;go_wp2_with fail
  go_ret;exact⟨ze HQ.out.symm,hB1⟩
theorem zkU (l:Lw)(a b c:Option Addr)(ca cb cc:Nat)(w:World)(hl:jh w l a b c) :
 Calls Tryz.prog 60 #[.agg (l.cells a b c ca cb cc)] w fun e w'=>e=.returned (.bool (zcl l))/\Below w.heap.size w w':=by
 have HL:Hid (jh w l a b c):=hl;clear hl;unfold Lw.cells
 by_cases h1:yj l.ss l.ms=true
 ·have HQ:Hid (zcl l=zaX l.ts):=by unfold Hid zcl;rw[h1,zl4];rfl
  have HM:Hid (jD l.ss l.ms=true):=by unfold Hid;rw[<- zgf];exact h1
  clear h1;go_enter Tryz.func60,Tryz.ntmps60;go_wp2_with fail
  refine(zf HM.out (zev _ _ _ _ l.ss l.ms _ (HL.out.ss.mono (bAl _ _)) (HL.out.ms.mono (bAl _ _)))).mono ?_;rintro e w1⟨rfl,hb⟩;have hX1:=za (zl w #[.slice a l.ss.length ca,.slice b l.ms.length cb,.slice c l.ts.length cc] 41) (by simp) hb;have hz1:w.heap.size<w1.heap.size:=by have:=hb.size;simp at this;omega
  have hB1:Below w.heap.size w w1:=(bAl _ _).trans (hb.mono (by simp));clear hb;go_wp2_with fail
  refine(zir _ _ l.ts _ (HL.out.ts.mono hB1)).mono ?_;rintro e w2⟨rfl,hb⟩;have hB2:=hB1.trans (hb.mono hB1.size);clear hb hX1 hz1 hB1;go_wp2_with fail
  go_ret;exact⟨ze HQ.out.symm,hB2⟩
 ·have h1':yj l.ss l.ms=false:=by simpa using h1
  have HQ:Hid (zcl l=false):=by unfold Hid zcl;rw[h1'];rfl
  have HM:Hid (jD l.ss l.ms=false):=by unfold Hid;rw[<- zgf];exact h1'
  clear h1 h1';go_enter Tryz.func60,Tryz.ntmps60;go_wp2_with fail
  refine(zf HM.out (zev _ _ _ _ l.ss l.ms _ (HL.out.ss.mono (bAl _ _)) (HL.out.ms.mono (bAl _ _)))).mono ?_;rintro e w1⟨rfl,hb⟩;have hB1:Below w.heap.size w w1:=(bAl _ _).trans (hb.mono (by simp));clear hb;go_wp2_with fail
  go_ret;exact⟨ze HQ.out.symm,hB1⟩
theorem zcR (s:Shp)(vs:List ByteArray)(v:ByteArray)(fa va:Option Addr)(fcap vcap:Nat)(w:World)(hf:zY w fa s.fs)(hv:zD w va vs)(hc:vs.length=s.fs.length) :
 Calls Tryz.prog 228 #[.agg #[.string s.kd,.slice fa s.fs.length fcap],.slice va vs.length vcap,.string v] w fun e w'=>e=.returned (.string (qO s.fs vs v))/\Below w.heap.size w w':=by
 have hl:=hv.len;unfold maxLen at hl;have hba:=(bRf w.heap.size w).alloc (Nat.le_refl _) (.cells #[.string s.kd,.slice fa s.fs.length fcap] 131)
 rcases jm s.fs v with⟨h1,_⟩|⟨i,hi,h1,_⟩
 ·have HV:Hid (qO s.fs vs v=ByteArray.empty):=zfU h1
  go_enter Tryz.func228,Tryz.ntmps228;go_wp2_with fail
  have h:=jl fa fcap s.fs v _ (hf.mono hba);rw[h1]at h;refine h.mono ?_;rintro e w1⟨rfl,hb1⟩;clear h;go_wp2_with fail
  go_ret;exact⟨by rw[HV.out];rfl,hba.trans (hb1.mono hba.size)⟩
 ·have hiv:i<vs.length:=by omega
  have HV:Hid (qO s.fs vs v=vs[i]):=by unfold Hid;rw[zdA h1,getD_at _ _ _ hiv]
  obtain⟨b,off,rfl,hb,hcell⟩:=hv.cells (by rintro rfl;simp at hiv);go_enter Tryz.func228,Tryz.ntmps228;go_wp2_with fail
  have h:=jl fa fcap s.fs v _ (hf.mono hba);rw[h1]at h;refine h.mono ?_;rintro e w1⟨rfl,hb1⟩;have hB1:Below w.heap.size w w1:=hba.trans (hb1.mono hba.size);have hci:w1.cell? ⟨b,off+i,none⟩=some (.string vs[i]):=(hB1.cell (p:=⟨b,off+i,none⟩) hb).trans (hcell i hiv);have hiI:(i:Int)<(vs.length:Int):=by omega
  have hi0:decide ((i:Int)<0)=false:=by simp
  clear h hcell hba hb1;go_wp2_with fail
  go_ret;exact⟨by rw[HV.out];rfl,hB1⟩
end Go.Proofs.YtnapmdofidgliaaGreat
namespace Go.Proofs.YtnapmdofidgliaaGreat
open Go
theorem zn2 {fs:List Fld}{vs:List ByteArray}(v:ByteArray)(hv:∀x∈vs,x.size<=maxLen):(qO fs vs v).size<=maxLen:=by
 have he:ByteArray.empty.size<=maxLen:=by show 0<=_;exact Nat.zero_le _
 unfold qO
 split
 ·rename_i j _
  rw[List.getD_eq_getElem?_getD]
  cases h:vs[j]? with
  | none=>exact he
  | some x=>exact hv x (List.mem_of_getElem? h)
 ·exact he
theorem zkw {s:Shp}{ms:List Mnd}{vs:List ByteArray}(p:Nat)(hm:∀i (h:i<ms.length),ms[i].Small)(hv:∀x∈vs,x.size<=maxLen):(decided s ms p vs).size<=maxLen:=by
 unfold decided
 cases hf:ms.findSome? (gives s vs p) with
 | none=>
  show(vs.getD p ByteArray.empty).size<=maxLen
  rw[List.getD_eq_getElem?_getD]
  cases h:vs[p]? with
  | none=>show 0<=_;exact Nat.zero_le _
  | some x=>exact hv x (List.mem_of_getElem? h)
 | some x=>
  show x.size<=maxLen
  obtain⟨m,hmm,hg⟩:=List.exists_of_findSome?_eq_some hf;obtain⟨i,hi,rfl⟩:=List.mem_iff_getElem.1 hmm;unfold gives at hg
  split at hg
  ·split at hg
   ·split at hg
    ·rw[<- Option.some.inj hg];exact zn2 _ hv
    ·cases hg
   ·rw[<- Option.some.inj hg];exact(hm i hi).pt
  ·cases hg
theorem zcf {s:Shp}{ms:List Mnd}(hm:∀i (h:i<ms.length),ms[i].Small):∀(row:List Nat) (vs:List ByteArray),(∀x∈vs,x.size<=maxLen)->∀x∈z8 (decided s ms) row vs,x.size<=maxLen
 | [],_,hv=>hv
 | p :: row,vs,hv=>by
  refine zcf hm row (vs.set p (decided s ms p vs)) (fun x hx=>?_)
  rcases List.mem_or_eq_of_mem_set hx with h|h
  ·exact hv x h
  ·rw[h];exact zkw p hm hv
end Go.Proofs.YtnapmdofidgliaaGreat
