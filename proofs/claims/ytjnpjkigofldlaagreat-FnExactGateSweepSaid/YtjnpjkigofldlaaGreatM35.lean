import Derived.Test.YtjnpjkigofldlaaGreatM33
set_option maxRecDepth 20000
set_option maxHeartbeats 4000000
namespace Go.Proofs.YtjnpjkigofldlaaGreat
open Go.RowKit
def qA (kd fld:BA)(row:List BA)(m:Mnd):Bool:=!(decide (m.kd=kd)&&decide (m.fd=fld))||((!isSet m.wh||has row m.wh)&&(!isSet m.fr||has row m.fr))
def zcE (ms:List Mnd)(kd fld:BA)(row:List BA):Bool:=ms.all (qA kd fld row)
theorem zo7 (a ra:OA)(cap rcap:Nat)(ms:List Mnd)(kd fld:BA)(row:List BA)(w:World)(hm:qQ w a ms)(hr:zD w ra row)(hml:ms.length<=12) :
 Calls Tryz.prog 206 #[.l a ms.length cap,.s kd,.s fld,.l ra row.length rcap] w fun e w'=>e=.returned (.bool (zcE ms kd fld row))/\Bw w w':=by
 have HM:=yB hm hr;clear hm hr;go_in;go_wp2
 go_loopw [9] (fun iv wr=>∃k:Nat,k<=ms.length/\iv=.i k/\(ms.take k).all (qA kd fld row)=true/\Bw w wr) (fun iv _=>ms.length-(intOf iv).toNat)
 case atStart=>exact⟨0,Nat.zero_le _,rfl,rfl,bRf _ _⟩
 case round=>
  obtain⟨k,hk,rfl,hall,hB⟩:=hrel;have HB:=hid hB;have HA:Hid ((ms.take k).all (qA kd fld row)=true):=hall
  by_cases hlt:k<ms.length
  ·obtain⟨b,off,rfl,hb,c0,c1,c2,c3,c4,c5⟩:=HM.o.1.load hB k hlt
   have hltI:(k:Int)<(ms.length:Int):=by omega
   have HTK:Hid ((ms.take (k+1)).all (qA kd fld row)=qA kd fld row ms[k]):=by
    unfold Hid;rw[tSe hlt,List.all_append,HA.o];simp
   have HNO:Hid (qA kd fld row ms[k]=false->zcE ms kd fld row=false):=by
    intro h;unfold zcE;rw[List.all_eq_false];exact⟨_,List.getElem_mem hlt,by rw[h];simp⟩
   have HBA:Hid (Bw w (wr.alloc (.cells #[.s ms[k].kd,.s ms[k].fd,.s ms[k].wh,.s ms[k].wi,.s ms[k].pt,.s ms[k].fr] 132))):=hB.alloc hB.size _;clear hall hB HA
   by_cases e1:ms[k].kd=kd
   rotate_left
   ·have he1:(ms[k].kd.toList == kd.toList)=false:=by rw[beq_toList];simpa using e1
    have HY:Hid (qA kd fld row ms[k]=true):=by unfold Hid qA;simp[e1]
    clear e1;go_wp2
    exact⟨⟨k+1,by omega,by go_num,by rw[HTK.o];exact HY.o,HBA.o⟩,zi hlt⟩
   have he1:(ms[k].kd.toList == kd.toList)=true:=by rw[beq_toList];simpa using e1
   by_cases e2:ms[k].fd=fld
   rotate_left
   ·have he2:(ms[k].fd.toList == fld.toList)=false:=by rw[beq_toList];simpa using e2
    have HY:Hid (qA kd fld row ms[k]=true):=by unfold Hid qA;simp[e2]
    clear e1 e2;go_wp2
    exact⟨⟨k+1,by omega,by go_num,by rw[HTK.o];exact HY.o,HBA.o⟩,zi hlt⟩
   have he2:(ms[k].fd.toList == fld.toList)=true:=by rw[beq_toList];simpa using e2
   have HRD:Hid (qA kd fld row ms[k]=((!isSet ms[k].wh||has row ms[k].wh)&&(!isSet ms[k].fr||has row ms[k].fr))):=by unfold Hid qA;simp[e1,e2]
   clear e1 e2
   rcases hwh:ms[k].wh.toList.isEmpty with _|_ <;> rcases hfr:ms[k].fr.toList.isEmpty with _|_
   all_goals go_wp2_with fail
   ·skip
    have h:=zcR ra rcap row ms[k].wh _ (HM.o.2.mono HBA.o)
    rcases hh1:has row ms[k].wh with _|_
    ·rw[hh1]at h
     refine h.mono ?_;rintro e w3⟨rfl,rfl⟩;have HF:Hid (zcE ms kd fld row=false):=HNO.o (by rw[HRD.o];unfold isSet;simp[*]);clear h;go_wp2
     go_ret;exact⟨by rw[HF.o];rfl,HBA.o⟩
    ·rw[hh1]at h
     refine h.mono ?_;rintro e w3⟨rfl,rfl⟩;clear h;go_wp2_with fail
     have h:=zcR ra rcap row ms[k].fr _ (HM.o.2.mono HBA.o)
     rcases hh2:has row ms[k].fr with _|_
     ·rw[hh2]at h
      refine h.mono ?_;rintro e w3⟨rfl,rfl⟩;have HF:Hid (zcE ms kd fld row=false):=HNO.o (by rw[HRD.o];unfold isSet;simp[*]);clear h;go_wp2
      go_ret;exact⟨by rw[HF.o];rfl,HBA.o⟩
     ·rw[hh2]at h
      refine h.mono ?_;rintro e w3⟨rfl,rfl⟩;clear h;go_wp2_with fail
      have HY:Hid (qA kd fld row ms[k]=true):=by unfold Hid;rw[HRD.o];unfold isSet;simp[*]
      exact⟨⟨k+1,by omega,by go_num,by rw[HTK.o];exact HY.o,HBA.o⟩,zi hlt⟩
   ·skip
    have h:=zcR ra rcap row ms[k].wh _ (HM.o.2.mono HBA.o)
    rcases hh1:has row ms[k].wh with _|_
    ·rw[hh1]at h
     refine h.mono ?_;rintro e w3⟨rfl,rfl⟩;have HF:Hid (zcE ms kd fld row=false):=HNO.o (by rw[HRD.o];unfold isSet;simp[*]);clear h;go_wp2
     go_ret;exact⟨by rw[HF.o];rfl,HBA.o⟩
    ·rw[hh1]at h
     refine h.mono ?_;rintro e w3⟨rfl,rfl⟩;clear h;go_wp2_with fail
     have HY:Hid (qA kd fld row ms[k]=true):=by unfold Hid;rw[HRD.o];unfold isSet;simp[*]
     exact⟨⟨k+1,by omega,by go_num,by rw[HTK.o];exact HY.o,HBA.o⟩,zi hlt⟩
   ·skip
    have h:=zcR ra rcap row ms[k].fr _ (HM.o.2.mono HBA.o)
    rcases hh2:has row ms[k].fr with _|_
    ·rw[hh2]at h
     refine h.mono ?_;rintro e w3⟨rfl,rfl⟩;have HF:Hid (zcE ms kd fld row=false):=HNO.o (by rw[HRD.o];unfold isSet;simp[*]);clear h;go_wp2
     go_ret;exact⟨by rw[HF.o];rfl,HBA.o⟩
    ·rw[hh2]at h
     refine h.mono ?_;rintro e w3⟨rfl,rfl⟩;clear h;go_wp2_with fail
     have HY:Hid (qA kd fld row ms[k]=true):=by unfold Hid;rw[HRD.o];unfold isSet;simp[*]
     exact⟨⟨k+1,by omega,by go_num,by rw[HTK.o];exact HY.o,HBA.o⟩,zi hlt⟩
   ·skip
    have HY:Hid (qA kd fld row ms[k]=true):=by unfold Hid;rw[HRD.o];unfold isSet;simp[*]
    exact⟨⟨k+1,by omega,by go_num,by rw[HTK.o];exact HY.o,HBA.o⟩,zi hlt⟩
  ·have e:k=ms.length:=by omega
   rw[e,tOl (Nat.le_refl _)]at hall;have HF:Hid (zcE ms kd fld row=true):=hall;subst e;clear hall HA hB;go_wp2
   go_ret;exact⟨by rw[HF.o];rfl,HB.o⟩
def za9 (s:Shp)(i:Nat):BA:=(s.fs.getD i zbz).nm
def jB (s:Shp)(ms:List Mnd)(row:List BA)(i:Nat):Bool:=!has row (za9 s i)&&zcE ms s.kd (za9 s i) row
def zfc (s:Shp)(ms:List Mnd)(row:List BA):List BA:=match (List.range s.fs.length).find? (jB s ms row) with|none=>row|some i=>row++[za9 s i]
def yx (s:Shp)(ms:List Mnd):Nat->List BA
 | 0=>[]
 | k+1=>zfc s ms (yx s ms k)
theorem znH (s:Shp)(ms:List Mnd)(row:List BA):(zfc s ms row).length<=row.length+1:=by
 unfold zfc;split
 ·omega
 ·simp
theorem zfu (s:Shp)(ms:List Mnd):∀k,(yx s ms k).length<=k
 | 0=>Nat.le_refl _
 | k+1=>Nat.le_trans (znH s ms _) (by have:=zfu s ms k;omega)
theorem zfH (s:Shp)(ms:List Mnd):∀k,∀x∈yx s ms k,∃i,i<s.fs.length/\x=za9 s i
 | 0,x,h=>by cases h
 | k+1,x,h=>by
  have h':x∈zfc s ms (yx s ms k):=h;unfold zfc at h'
  split at h'
  ·exact zfH s ms k x h'
  ·rename_i i hi
   rw[List.mem_append,List.mem_singleton]at h'
   rcases h' with h'|h'
   ·exact zfH s ms k x h'
   ·exact⟨i,List.mem_range.1 (List.mem_of_find?_eq_some hi),h'⟩
theorem zmS (fa ma:OA)(fcap mcap:Nat)(s:Shp)(ms:List Mnd)(w:World)(hf:yw w fa s.fs)(hm:qQ w ma ms)(hml:ms.length<=12)(hn:s.fs.length<=6) :
 Calls Tryz.prog 158 #[.agg #[.s s.kd,.l fa s.fs.length fcap],.l ma ms.length mcap] w fun e w'=>∃v,e=.returned v/\w'.ownsRow w.heap.size 9 1 v (yx s ms s.fs.length).length ((yx s ms s.fs.length).map Value.string)/\Bw w w':=by
 have HM:=yB hf hm
 have HSM:Hid (∀k,∀x∈yx s ms k,x.size<=maxLen):=by
  intro k x hx;obtain⟨i,hi,rfl⟩:=zfH s ms k x hx;unfold za9;rw[getD_at _ _ _ hi];exact(hf.smalls.small i hi).1.nm
 obtain⟨i0,hi0,hz0,hz1',hz2⟩:=info_parts Tryz.zeB;clear hf hm;go_in;go_wp2_with fail
 have hnI:(s.fs.length:Int)<=6:=by omega
 go_loopw [5,6] (fun v0 iv wr=>∃(k:Nat) (v:Value),v=v0/\k<=s.fs.length/\iv=.i k/\wr.ownsRow (w.heap.size+1) 9 1 v (yx s ms k).length ((yx s ms k).map Value.string)/\wr.heap[w.heap.size]?=some (.cells #[.s s.kd,.l fa s.fs.length fcap] 130)/\Bw w wr) (fun _ iv _=>s.fs.length-(intOf iv).toNat)
 case atStart=>exact⟨0,_,rfl,Nat.zero_le _,rfl,⟨rfl,.inr ⟨w.heap.size+1,0,#[],rfl,Nat.le_refl _,(zK _ _ _).2,Nat.le_refl _,by simp[maxLen],rfl,rfl⟩⟩,(zK _ _ _).1,zo _ _ _⟩
 case round=>
  obtain⟨k,v,hv,hk,rfl,hown,hbox,hB⟩:=hrel;subst hv;obtain⟨va,vcap,rfl⟩:=yY hown;have HW:=zao hown hbox hB;have hXr:∀j,wr.cell? (aD w.heap.size j)=(#[.s s.kd,.l fa s.fs.length fcap]:AV)[j]?:=fun j=>cell_of_block hbox
  have hzr:=(gES hbox).1;have HGL:Hid ((yx s ms k).length<=6):=by have:=zfu s ms k;show _<=_;omega
  clear hown hbox hB
  by_cases hlt:k<s.fs.length
  ·have hltI:(k:Int)<(s.fs.length:Int):=by omega
   go_wp2_with fail
   clear hXr;obtain⟨wo,hwo⟩:=xN (wr);have HWO:Hid (wo.ownsRow (w.heap.size+1) 9 1 (.l va (yx s ms k).length vcap) (yx s ms k).length ((yx s ms k).map Value.string)/\wo.heap[w.heap.size]?=some (.cells #[.s s.kd,.l fa s.fs.length fcap] 130)/\Bw w wo/\w.heap.size<wo.heap.size):=by rw[hwo];exact⟨HW.o.1,HW.o.2.1,HW.o.2.2,hzr⟩
   have HWE:=hid hwo;clear hwo HW hzr
   go_loopw [5,7] (fun v1 iv wq=>∃i:Nat,i<=s.fs.length/\iv=.i i/\v1=.l va (yx s ms k).length vcap/\(∀q,q<i->jB s ms (yx s ms k) q=false)/\Bw wo wq) (fun _ iv _=>s.fs.length-(intOf iv).toNat)
   case atStart=>exact⟨0,Nat.zero_le _,rfl,rfl,fun q h=>absurd h (by omega),by rw[HWE.o];exact bRf _ _⟩
   case round=>
    obtain⟨i,hi,rfl,rfl,hno,hBq⟩:=hrel;have HQ:=zkq hno hBq (yc HWO.o.1 hBq) ((hBq.block _ HWO.o.2.2.2).trans HWO.o.2.1) (HWO.o.2.2.1.trans (hBq.mono HWO.o.2.2.1.size));have hXq:=zbu HQ.o.2.2.2.1;have hzq:=(gES HQ.o.2.2.2.1).1;clear hno hBq
    by_cases hil:i<s.fs.length
    ·have hilI:(i:Int)<(s.fs.length:Int):=by omega
     obtain⟨fb,foff,rfl,hfb,hr⟩:=HM.o.1.rows (by intro e;rw[e]at hil;simp at hil);obtain⟨wa,wcap,hf0⟩:=hr i hil;obtain⟨c0,c1,c2,c3,c4,c5,c6,c7,c8,c9,c10⟩:=(hf0.mono hfb HQ.o.2.2.2.2).load;have HNM:Hid (za9 s i=s.fs[i].nm):=by unfold Hid za9;rw[getD_at _ _ _ hil]
     have HST:=hid (znV HQ.o.2.2.1 (by have:=HGL.o;unfold maxLen;omega) (HSM.o k))
     have HFIND:Hid (jB s ms (yx s ms k) i=true->yx s ms (k+1)=yx s ms k++[s.fs[i].nm]):=by
      intro h
      show zfc s ms (yx s ms k)=_
      unfold zfc
      have:(List.range s.fs.length).find? (jB s ms (yx s ms k))=some i:=by
       rw[List.find?_range_eq_some];exact⟨h,List.mem_range.2 hil,fun j hj=>by rw[HQ.o.1 j hj];rfl⟩
      rw[this]
      show yx s ms k++[za9 s i]=_
      rw[HNM.o]
     clear hr hf0 c1 c2 c3 c4 c5 c6 c7 c8 c9 c10;go_wp2_with fail
     have h:=zcR va vcap (yx s ms k) s.fs[i].nm wr HST.o
     rcases hh:has (yx s ms k) s.fs[i].nm with _|_
     rotate_left
     ·rw[hh]at h
      refine h.mono ?_;rintro e w3⟨rfl,rfl⟩
      have HNR:Hid (∀q,q<i+1->jB s ms (yx s ms k) q=false):=by
       intro q hq
       rcases Nat.lt_or_ge q i with h1|h1
       ·exact HQ.o.1 q h1
       ·have e:q=i:=by omega
        subst e;unfold jB;rw[HNM.o,hh];rfl
      clear h hh;go_wp2
      exact⟨⟨i+1,by omega,by go_num,rfl,HNR.o,HQ.o.2.1⟩,zi hil⟩
     rw[hh]at h;refine h.mono ?_;rintro e w3'⟨rfl,hw3⟩;rw[hw3];clear hw3 w3';have HRN:Hid (jB s ms (yx s ms k) i=zcE ms s.kd s.fs[i].nm (yx s ms k)):=by unfold Hid jB;rw[HNM.o,hh];rfl
     clear h hh;go_wp2_with fail
     have h:=zo7 ma va mcap vcap ms s.kd s.fs[i].nm (yx s ms k) wr (HM.o.2.mono HQ.o.2.2.2.2) HST.o hml
     rcases hh:zcE ms s.kd s.fs[i].nm (yx s ms k) with _|_
     ·rw[hh]at h
      refine h.mono ?_;rintro e w3⟨rfl,hb3⟩
      have HNR:Hid ((∀q,q<i+1->jB s ms (yx s ms k) q=false)/\Bw wo w3):=by
       refine⟨fun q hq=>?_,HQ.o.2.1.trans (hb3.mono HQ.o.2.1.size)⟩
       rcases Nat.lt_or_ge q i with h1|h1
       ·exact HQ.o.1 q h1
       ·have e:q=i:=by omega
        subst e;rw[HRN.o,hh]
      clear h hh hb3;go_wp2
      exact⟨⟨i+1,by omega,by go_num,rfl,HNR.o.1,HNR.o.2⟩,zi hil⟩
     rw[hh]at h;refine h.mono ?_;rintro e w3⟨rfl,hb3⟩;have HG1:=hid (HFIND.o (by rw[HRN.o,hh]));have H3:=j3 (yc HQ.o.2.2.1 hb3) ((hb3.block _ hzq).trans HQ.o.2.2.2.1) (HQ.o.2.2.2.2.trans (hb3.mono HQ.o.2.2.2.2.size)) (nLt hzq hb3.size);clear h hh hb3 hXq c0
     go_wp2_with (at_builtin;refine zh3 ?_)
     show wpList _ _ _ _ _ _
     refine wpList_append_own _ rfl (.tmp 42) (.tmp 44) 98 rfl (w.heap.size+1) 9 i0 (.s ByteArray.empty) 1 16 Tryz.underlying98 hi0 hz0 hz1' hz2 rfl (by decide) (.l va (yx s ms k).length vcap) _ _ rfl (H3.o.1.alloc _) (aD w3.heap.size 0) 1 1 [.s s.fs[i].nm] rfl rfl (zbA _ _ _) (by intro u hu;simp at hu;subst hu;rfl) (by have:=HGL.o;unfold maxLen;omega) (by have:=HGL.o;omega) (by have:=H3.o.2.2.2;simp;omega) ?_;intro v' w4 hown' hgr _;obtain⟨va',vcap',rfl⟩:=yY hown';have hgb:∀g,(Value.slice va (yx s ms k).length vcap).ownBlock=some g->w.heap.size+1<=g:=fun g hg=>(H3.o.1.lt g hg).1
     have HY:Hid (w4.ownsRow (w.heap.size+1) 9 1 (.l va' ((yx s ms k).length+1) vcap') (yx s ms (k+1)).length ((yx s ms (k+1)).map Value.string)/\w4.heap[w.heap.size]?=some (.cells #[.s s.kd,.l (some (aD fb foff)) s.fs.length fcap] 130)/\Bw w w4):=by
      refine⟨by rw[HG1.o,List.length_append,List.map_append];exact hown',?_,zar H3.o.2.2.1 H3.o.2.2.1.size hgr (fun g hg=>by have:=hgb g hg;omega)⟩;exact(zaT hgr (by have:=H3.o.2.2.2;simp;omega) (fun g hg=>by have:=hgb g hg;omega)).trans ((Below.heap_alloc _ _ _ H3.o.2.2.2).trans H3.o.2.1)
     clear hown' hgr hgb;go_wp2
     exact⟨⟨k+1,_,rfl,by omega,by go_num,HY.o.1,HY.o.2.1,HY.o.2.2⟩,zi hlt⟩
    ·have e:i=s.fs.length:=by omega
     have HN:Hid (yx s ms (k+1)=yx s ms k):=by
      show zfc s ms (yx s ms k)=_
      unfold zfc
      have:(List.range s.fs.length).find? (jB s ms (yx s ms k))=none:=by
       rw[List.find?_eq_none];intro q hq;rw[HQ.o.1 q (by rw[e];exact List.mem_range.1 hq)]
       simp
      rw[this]
     subst e;go_wp2
     exact⟨⟨k+1,_,rfl,by omega,by go_num,by rw[HN.o];exact HQ.o.2.2.1,HQ.o.2.2.2.1,HQ.o.2.2.2.2⟩,zi hlt⟩
  ·have e:k=s.fs.length:=by omega
   subst e;go_wp2
   go_ret;exact⟨_,rfl,jU HW.o.1 (by omega),HW.o.2.2⟩
theorem zeV (a a':OA)(cap cap':Nat)(ss:List Shp)(ms:List Mnd)(w:World)(hw:yU w a ss)(hm:qQ w a' ms)(hml:ms.length<=1048576) :
 Calls Tryz.prog 135 #[.l a ss.length cap,.l a' ms.length cap'] w fun e w'=>e=.returned (.bool (yj ss ms))/\Bw w w':=by
 have HW:=yB hw hm;have hl:=hw.len;unfold maxLen at hl;clear hw hm
 by_cases h12:ms.length<=12
 rotate_left
 ·have HF:Hid (yj ss ms=false):=by unfold Hid yj;rw[decide_eq_false h12];simp
  go_in;go_wp2
  go_ret;exact⟨by rw[HF.o];rfl,bRf _ _⟩
 have h12I:(ms.length:Int)<=12:=by omega
 by_cases hok:zQ ss=true
 rotate_left
 ·have hokf:zQ ss=false:=by simpa using hok
  have HF:Hid (yj ss ms=false):=by unfold Hid yj;rw[hokf];simp
  go_in;go_wp2_with fail
  have h:=zd6 a cap ss w HW.o.1;rw[hokf]at h;refine h.mono ?_;rintro e w1⟨rfl,hb1⟩;clear h;go_wp2
  go_ret;exact⟨by rw[HF.o];rfl,hb1⟩
 have HOK:=hid hok;go_in;go_wp2_with fail
 have h:=zd6 a cap ss w HW.o.1;rw[hok]at h;refine h.mono ?_;rintro e w1⟨rfl,hb1⟩;have HB1:=hid hb1;clear h hb1 hok;go_wp2_with fail
 refine(zcY _).mono ?_;rintro e w2⟨rfl,hw2⟩
 have HB2:Hid (Bw w w2/\w2.heap[w1.heap.size]?=some (.map jg 4)/\w1.heap.size<w2.heap.size):=by
  rw[hw2];exact⟨HB1.o.trans ((bAl _ _).mono HB1.o.size),alloc_at _ _,by simp⟩
 clear hw2;go_wp2
 go_loopw [25] (fun iv wr=>∃k:Nat,k<=ms.length/\iv=.i k/\(ms.take k).all (j5 ss)=true/\Bw w2 wr) (fun iv _=>ms.length-(intOf iv).toNat)
 case atStart=>exact⟨0,Nat.zero_le _,rfl,rfl,bRf _ _⟩
 case round=>
  obtain⟨k,hk,rfl,hall,hB⟩:=hrel;have HB:=yB hB (HB2.o.1.trans (hB.mono HB2.o.1.size));have HA:=hid hall;clear hall hB
  by_cases hlt:k<ms.length
  ·obtain⟨b,off,rfl,hb,c0,c1,c2,c3,c4,c5⟩:=HW.o.2.load HB.o.2 k hlt
   have hltI:(k:Int)<(ms.length:Int):=by omega
   have hsm:=HW.o.2.small k hlt
   have HTK:Hid ((ms.take (k+1)).all (j5 ss)=j5 ss ms[k]):=by
    unfold Hid;rw[tSe hlt,List.all_append,HA.o];simp
   have HNO:Hid (j5 ss ms[k]=false->yj ss ms=false):=by
    intro h
    have:ms.all (j5 ss)=false:=by rw[List.all_eq_false];exact⟨_,List.getElem_mem hlt,by rw[h];simp⟩
    unfold yj;rw[this];simp
   have hba:=(bRf wr.heap.size wr).alloc (Nat.le_refl _) (.cells #[.s ms[k].kd,.s ms[k].fd,.s ms[k].wh,.s ms[k].wi,.s ms[k].pt,.s ms[k].fr] 132);have HSM:=hid hsm;clear hsm;go_wp2_with fail
   have h:=qV a cap ss ms[k].kd _ (HW.o.1.mono (HB.o.2.trans (hba.mono HB.o.2.size)))
   by_cases hkk:zF ss ms[k].kd=true
   rotate_left
   ·have hkf:zF ss ms[k].kd=false:=by simpa using hkk
    rw[hkf]at h;refine h.mono ?_;rintro e w3⟨fa,fcap,rfl,hfl,hb3⟩;have HF:=yB (HNO.o (by unfold j5;rw[hkf];rfl)) (HB.o.2.trans ((hba.trans (hb3.mono hba.size)).mono HB.o.2.size));clear h hba hfl hb3 c0 c1 c2 c3 c4 c5;go_wp2
    go_ret;exact⟨by rw[HF.o.1];rfl,HF.o.2.alloc HF.o.2.size _⟩
   rw[hkk]at h;refine h.mono ?_;rintro e w3⟨fa,fcap,rfl,hfl,hb3⟩;have hX3:=za (zI wr _ _) (by simp) hb3;have hz3:wr.heap.size<w3.heap.size:=by have:=hb3.size;simp at this;omega
   have HB3:=hid (hba.trans (hb3.mono hba.size));have hbs:=(bRf w3.heap.size w3).alloc (Nat.le_refl _) (.cells #[.s (shapeOf ss ms[k].kd).kd,.l fa (shapeOf ss ms[k].kd).fs.length fcap] 130);have HB4:=hid (HB3.o.trans (hbs.mono HB3.o.size));have HFL:=hid ((hfl.mono hb3).mono hbs);have HMA:Hid (j5 ss ms[k]=za2 (shapeOf ss ms[k].kd).fs ms[k]):=by unfold Hid j5;rw[hkk];simp
   have HRM:Hid ((w3.alloc (.cells #[.s (shapeOf ss ms[k].kd).kd,.l fa (shapeOf ss ms[k].kd).fs.length fcap] 130)).heap[w1.heap.size]?=some (.map jg 4)):=by
    have h1:=HB.o.1.size;have h2:=HB2.o.2.2;exact(HB4.o.block w1.heap.size (by omega)).trans ((HB.o.1.block w1.heap.size h2).trans HB2.o.2.1)
   clear h hba hfl hb3 hbs hkk c0 c1 c2 c3 c4 c5;go_wp2_with fail
   have h:=zqO w1.heap.size fa fcap (shapeOf ss ms[k].kd).fs ms[k] _ HRM.o HFL.o HSM.o
   by_cases hmo:za2 (shapeOf ss ms[k].kd).fs ms[k]=true
   ·rw[hmo]at h
    refine h.mono ?_;rintro e w5⟨rfl,hb5⟩;have HY:Hid ((ms.take (k+1)).all (j5 ss)=true/\Bw w2 w5):=⟨by rw[HTK.o,HMA.o];exact hmo,HB.o.1.trans ((HB4.o.trans (hb5.mono HB4.o.size)).mono HB.o.1.size)⟩
    clear h hb5 hmo hX3;go_wp2
    exact⟨⟨k+1,by omega,by go_num,HY.o.1,HY.o.2⟩,zi hlt⟩
   ·have hmf:za2 (shapeOf ss ms[k].kd).fs ms[k]=false:=by simpa using hmo
    rw[hmf]at h;refine h.mono ?_;rintro e w5⟨rfl,hb5⟩;have HF:=yB (HNO.o (by rw[HMA.o];exact hmf)) (HB.o.2.trans ((HB4.o.trans (hb5.mono HB4.o.size)).mono HB.o.2.size));clear h hb5 hmo hX3;go_wp2
    go_ret;exact⟨by rw[HF.o.1];rfl,HF.o.2⟩
  ·have e:k=ms.length:=by omega
   have hall:=HA.o;rw[e,tOl (Nat.le_refl _)]at hall;have HALL:=hid hall;subst e;clear hall HA;go_wp2_with fail
   have HBw:=hid HB.o.2;clear HB
   go_loopw [49] (fun iv wq=>∃k:Nat,k<=ss.length/\iv=.i k/\(ss.take k).all (rowOk ms)=true/\Bw w wq) (fun iv _=>ss.length-(intOf iv).toNat)
   case atStart=>exact⟨0,Nat.zero_le _,rfl,rfl,HBw.o⟩
   case round=>
    obtain⟨k,hk,rfl,hall,hB⟩:=hrel;have HB:=hid hB;have HA:=hid hall;clear hall hB
    by_cases hlt:k<ss.length
    ·obtain⟨b,off,rfl,hb,hr⟩:=HW.o.1.rows (by rintro rfl;simp at hlt)
     obtain⟨fa,fcap,hs0⟩:=hr k hlt;have hs:=hs0.mono hb HB.o;have hck:=hs.kind;have hcl:=hs.list;have hfl:=hs.zdE;have hltI:(k:Int)<(ss.length:Int):=by omega
     have HTK:Hid ((ss.take (k+1)).all (rowOk ms)=rowOk ms ss[k]):=by
      unfold Hid;rw[tSe hlt,List.all_append,HA.o];simp
     have HNO:Hid (rowOk ms ss[k]=false->yj ss ms=false):=by
      intro h
      have:ss.all (rowOk ms)=false:=by rw[List.all_eq_false];exact⟨_,List.getElem_mem hlt,by rw[h];simp⟩
      unfold yj;rw[this];simp
     have hba:=(bRf wr.heap.size wr).alloc (Nat.le_refl _) (.cells #[.s ss[k].kd,.l fa ss[k].fs.length fcap] 130);have HFL:=hid (hfl.mono hba);have HBA:Hid (Bw w (wr.alloc (.cells #[.s ss[k].kd,.l fa ss[k].fs.length fcap] 130))):=HB.o.trans (hba.mono HB.o.size);clear hr hs0 hs hfl hba;go_wp2_with fail
     have h:=ziR ss[k] ms a' fa cap' fcap _ (HW.o.2.mono HBA.o) HFL.o hml (zgv HOK.o k hlt) (zk1 HOK.o HALL.o k hlt)
     by_cases hrk:rowOk ms ss[k]=true
     ·have hrk':(zG (zl ss[k] ms) ss[k].fs.length).1=true:=hrk
      refine h.mono ?_;rintro e w5⟨v5,rfl,hb5,_⟩;have HY:Hid ((ss.take (k+1)).all (rowOk ms)=true/\Bw w w5):=⟨by rw[HTK.o];exact hrk,HBA.o.trans (hb5.mono HBA.o.size)⟩
      rw[hrk'];clear h hb5 hrk hrk' hck hcl;go_wp2
      exact⟨⟨k+1,by omega,by go_num,HY.o.1,HY.o.2⟩,zi hlt⟩
     ·have hrf:rowOk ms ss[k]=false:=by simpa using hrk
      have hrk':(zG (zl ss[k] ms) ss[k].fs.length).1=false:=hrf;refine h.mono ?_;rintro e w5⟨v5,rfl,hb5,_⟩;have HF:Hid (yj ss ms=false/\Bw w w5):=⟨HNO.o hrf,HBA.o.trans (hb5.mono HBA.o.size)⟩
      rw[hrk'];clear h hb5 hrk hrk' hck hcl;go_wp2
      go_ret;exact⟨by rw[HF.o.1];rfl,HF.o.2⟩
    ·have e:k=ss.length:=by omega
     have hall:=HA.o;rw[e,tOl (Nat.le_refl _)]at hall;have HF:Hid (yj ss ms=true):=by unfold Hid yj;rw[HALL.o,HOK.o,hall,decide_eq_true h12];rfl
     subst e;clear hall HA;go_wp2
     go_ret;exact⟨by rw[HF.o];rfl,HB.o⟩
section
variable {P:Program} (w:World)
theorem zin {o:Oper}{a:Act}{K:Act->World->Prop}{Q:Exit->Act->World->Prop}(s x:Operand)(t:TypeId)
 (ho:o.op=.call { callee:=.builtin .append,args:=#[s,x],argTypes:=#[t,t] })
 (base:Nat) (e:TypeId) (i:TypeInfo) (z:Value) (size bytes:Nat) (ht:P.underlying t=some (.slice e)) (hi:P.info? e=some i) (hz:i.zero=some z)
 (hsize:i.size=size) (hby:i.bytes=bytes) (hzs:z.cells.size=size) (hsz:0<size)
 (v:Value) (n:Nat) (xs:List Value) (hs:a.eval s=v) (hown:w.ownsRow base e size v n xs)
 (ad:Addr) (m c:Nat) (news:List Value) (hx:a.eval x=.l (some ad) m c) (hl:news.length=m*size) (hnews:∀j u,news[j]?=some u->w.cell? (ad.add j)=some u) (h1:∀u∈news,u.oneCell'=true)
 (h63:n+m<=maxLen) (hbytes:(n+m)*bytes<=140737488355328) (hbase:base<=w.heap.size)
 (h:∀v' w',w'.ownsRow base e size v' (n+m) (xs++news)->w.grownBy w' v.ownBlock->(v'.ownBlock=v.ownBlock \/ v'.ownBlock=some w.heap.size)->K (a.put o.dst v') w'):Oper.wp P o a w K Q:=by
 obtain⟨v',w',hr,h2,h3,_,h5⟩:=run_append_own_at (P:=P) w base t o.type e i z size bytes ht hi hz hsize hby hzs hsz v n xs hown ad m c news hl hnews h1 h63 hbytes hbase;have hk:=h v' w' h2 h3 h5;unfold Oper.wp;simp only[execOp,ho,resolve,invoke,builtin,Sem.run_bind,Sem.run_pure,Result.andThen_ok,List.map_toArray,List.map_cons,List.map_nil,hs,hx,hr];exact hk
end
section
variable {P:Program} {ops:Array Oper} {Q:Exit->Act->World->Prop} {md:Region.Mode} {S:World->Prop}
end
theorem zq9 (r:Rl)(a:OA)(cap:Nat)(w:World)(hw:yZ w a r.vs)(hl:r.vs.length<=1048576) :
 Calls Tryz.prog 73 #[.agg #[.l a r.vs.length cap,.s r.kd,.s r.tm,.s r.px]] w fun e w'=>∃a' cap',e=.returned (.agg #[.l a' r.vs.length cap',.s r.kd,.s r.tm,.s r.px])/\z8 w.heap.size w' a' r.vs/\Bw w w':=by
 by_cases h0:r.vs=[]
 ·have hn:r.vs.length=0:=by rw[h0];rfl
  rw[hn]
  rcases a with _|g
  all_goals
   go_in;go_wp2
   refine bodyPost_ret (v:=.agg #[.l (some (aD (w.heap.size+1+1) 0)) 0 0,.s r.kd,.s r.tm,.s r.px]) (by simp[results,Tryz.results73,go_sem]) rfl ⟨some (aD (w.heap.size+1+1) 0),0,rfl,Or.inr ⟨w.heap.size+1+1,#[],rfl,by omega,(zmi w _ _ _).2.2,fun i hi=>absurd hi (by rw[h0];simp)⟩,below3' _ _ _ _⟩
 ·obtain⟨b,off,rfl,_⟩:=hw.cells h0
  obtain⟨i0,hi,hz0,hz1,hz2⟩:=info_parts Tryz.zdo;have k0:=zK w (.cells #[.l (some (aD b off)) r.vs.length cap,.s r.kd,.s r.tm,.s r.px] 124) (.cells #[.l none 0 0,.s ⟨#[]⟩,.s ⟨#[]⟩,.s ⟨#[]⟩] 124);have hB0:=zo w (.cells #[.l (some (aD b off)) r.vs.length cap,.s r.kd,.s r.tm,.s r.px] 124) (.cells #[.l none 0 0,.s ⟨#[]⟩,.s ⟨#[]⟩,.s ⟨#[]⟩] 124);obtain⟨W,hW⟩:=xN ((w.alloc (.cells #[.l (some (aD b off)) r.vs.length cap,.s r.kd,.s r.tm,.s r.px] 124)).alloc (.cells #[.l none 0 0,.s ⟨#[]⟩,.s ⟨#[]⟩,.s ⟨#[]⟩] 124));have hz:W.heap.size=w.heap.size+1+1:=by rw[hW];simp
  go_in
  go_wp2_with (at_builtin;refine zcr ?_)
  rw[<- hW]at k0 hB0 ⊢;clear hW;have hba:=(bRf W.heap.size W).alloc (Nat.le_refl _) (.cells #[] 3);have hna:(W.alloc (.cells #[] 3)).ownsRow (w.heap.size+1+1) 3 1 (.l (some (aD (w.heap.size+1+1) 0)) 0 0) 0 []:=⟨rfl,Or.inr ⟨w.heap.size+1+1,0,#[],rfl,Nat.le_refl _,by rw[<- hz];exact(MapKept.heap_alloc W _).1,Nat.le_refl _,by simp[maxLen],rfl,rfl⟩⟩
  show wpList _ _ _ _ _ _
  refine wpList_append_own _ rfl (.tmp 3) (.tmp 5) 71 rfl (w.heap.size+1+1) 3 i0 (.i 0) 1 8 Tryz.underlying71 hi hz0 hz1 hz2 rfl (by decide) (.l (some (aD (w.heap.size+1+1) 0)) 0 0) 0 [] rfl hna (aD b off) r.vs.length cap (ints r.vs) rfl (by simp[ints]) (zm9 ((hw.mono hB0).mono hba)) zpB (by unfold maxLen;omega) (by omega) (by have:=hba.size;omega) ?_;intro v' w1 hown hgr _;simp only[Nat.zero_add,List.nil_append]at hown;obtain⟨a',cap',rfl,ho⟩:=z8.zbC hown;have hb1:Bw W w1:=hba.grown hgr (by have:=hba.size;omega) (fun k hk=>by have:=Option.some.inj (show some (w.heap.size+1+1)=some k from hk);omega);have K0:=(hb1.block _ (by omega)).trans k0.1;have K1:=(hb1.block _ (by omega)).trans k0.2;have HF:Hid (z8 (w.heap.size+1+1) w1 a' r.vs/\Bw w w1):=⟨ho,hB0.trans (hb1.mono (by omega))⟩
  have cQ:=fun j=>cell_of_block (o:=j) K0
  have fQ:=fun j=>zf (o:=j) K0
  have cR:=fun j=>cell_of_block (o:=j) K1
  have fR:=fun j=>zf (o:=j) K1
  have hsz:=hb1.size;clear hown hgr K0 K1 hb1 k0 hB0 ho hba hna;go_wp2
  refine bodyPost_ret (v:=.agg #[.l a' r.vs.length cap',.s r.kd,.s r.tm,.s r.px]) (by simp[results,Tryz.results73,go_sem,cR]) rfl ⟨a',cap',rfl,?_,?_⟩
  ·refine z8.low (lo:=w.heap.size+1+1) ?_ (by omega)
   iterate 4 refine z8.setCell ?_ _ (by show w.heap.size+1<_;omega) _
   refine z8.setCell ?_ _ (by show w.heap.size<_;omega) _;exact HF.o.1
  ·have h0:w.heap.size<=w.heap.size:=Nat.le_refl _
   have h1:w.heap.size<=w.heap.size+1:=Nat.le_succ _
   iterate 4 refine Below.setCell ?_ h1 _
   refine Below.setCell ?_ h0 _;exact HF.o.2
end Go.Proofs.YtjnpjkigofldlaaGreat
