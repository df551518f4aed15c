import Derived.Test.YtedangodjiolaaaGreatM17
import Derived.Shelf.Lay
import Derived.Shelf.LaySoft
import Derived.Shelf.LaysM
import Derived.Shelf.Small.Strs
import Derived.Test.YtedangodjiolaaaGreatM19
set_option maxHeartbeats 4000000
namespace Go.Proofs
open Go.Shelf
shelf_lay Lays.n106 Nm 106 at Tryz as YtedangodjiolaaaGreat.lays106
end Go.Proofs
namespace Go.Proofs.YtedangodjiolaaaGreat
open Go.RowKit
def key (a b:BA):Int:=Lib.compareBytes a.data.toList b.data.toList
theorem znG:∀a b:List UInt8,Lib.compareBytes a b=-1 \/ Lib.compareBytes a b=0 \/ Lib.compareBytes a b=1
 | [],[]=>by simp[Lib.compareBytes]
 | [],_ :: _=>by simp[Lib.compareBytes]
 | _ :: _,[]=>by simp[Lib.compareBytes]
 | a :: xs,b :: ys=>by
  simp only[Lib.compareBytes]
  split
  ·simp
  ·split
   ·simp
   ·exact znG xs ys
theorem zmJ:∀a b:List UInt8,Op.bytesLess a b=decide (Lib.compareBytes a b=-1)
 | [],[]=>by simp[Lib.compareBytes,Op.bytesLess]
 | [],_ :: _=>by simp[Lib.compareBytes,Op.bytesLess]
 | _ :: _,[]=>by simp[Lib.compareBytes,Op.bytesLess]
 | a :: xs,b :: ys=>by
  simp only[Lib.compareBytes,Op.bytesLess];rw[zmJ xs ys]
  by_cases h:a<b
  ·simp[h]
  ·by_cases h':b<a
   ·have hne:¬a=b:=fun e=>by subst e;exact h h'
    simp[h,h',hne]
   ·have he:a=b:=by
     have h1:¬a.toNat<b.toNat:=h;have h2:¬b.toNat<a.toNat:=h';exact UInt8.toNat_inj.1 (by omega)
    simp[he]
theorem znw:∀a b:List UInt8,Lib.compareBytes b a=- Lib.compareBytes a b
 | [],[]=>by simp[Lib.compareBytes]
 | [],_ :: _=>by simp[Lib.compareBytes]
 | _ :: _,[]=>by simp[Lib.compareBytes]
 | a :: xs,b :: ys=>by
  simp only[Lib.compareBytes]
  by_cases h:a<b
  ·have h':¬b<a:=fun h2=>absurd (UInt8.lt_trans h h2) (UInt8.lt_irrefl _)
   simp[h,h']
  ·by_cases h':b<a
   ·simp[h,h']
   ·simp[h,h',znw xs ys]
theorem zqr (a b:BA):key b a=- key a b:=znw _ _
theorem zj8 (a b:BA):key a b=-1 \/ key a b=0 \/ key a b=1:=znG _ _
theorem zeQ (a b:BA):less a b=decide (key a b=-1):=by
 unfold less key;rw[<- zmJ,ByteArray.toList_eq,ByteArray.toList_eq]
theorem zmy:∀a b:List UInt8,Lib.compareBytes a b=0↔a=b
 | [],[]=>by simp[Lib.compareBytes]
 | [],_ :: _=>by simp[Lib.compareBytes]
 | _ :: _,[]=>by simp[Lib.compareBytes]
 | a :: xs,b :: ys=>by
  simp only[Lib.compareBytes]
  by_cases h:a<b
  ·have hne:¬a=b:=fun e=>by subst e;exact UInt8.lt_irrefl _ h
   simp[h,hne]
  ·by_cases h':b<a
   ·have hne:¬a=b:=fun e=>by subst e;exact UInt8.lt_irrefl _ h'
    simp[h,h',hne]
   ·have he:a=b:=by
     have h1:¬a.toNat<b.toNat:=h;have h2:¬b.toNat<a.toNat:=h';exact UInt8.toNat_inj.1 (by omega)
    simp[he,zmy xs ys]
theorem zbU (a b:BA):key a b=0↔a=b:=by
 unfold key;rw[zmy]
 constructor
 ·intro h
  cases a;cases b
  simp only at h
  rw[Array.toList_inj.1 h]
 ·rintro rfl;rfl
def zc8 (vs:List Int):Int:=(vs.find? (fun v=>decide (¬v=0))).getD 0
theorem zlu (a b:Int):zc8 [a,b]=if a=0 then b else a:=by
 unfold zc8
 by_cases h:a=0
 ·by_cases h2:b=0 <;> simp[h,h2]
 ·simp[h]
theorem znj (a b c:Int):zc8 [a,b,c]=if a=0 then (if b=0 then c else b) else a:=by
 unfold zc8
 by_cases h:a=0
 ·by_cases h2:b=0
  ·by_cases h3:c=0 <;> simp[h,h2,h3]
  ·simp[h,h2]
 ·simp[h]
def key2 (a b c d:BA):Int:=if key a c=0 then key b d else key a c
def zcf (a b:Ob):Int:=key2 a.kd a.nm b.kd b.nm
def qO (a b:Lg):Int:=key2 a.tm a.rs b.tm b.rs
def zaA (a b:Pu):Int:=if key a.dr b.dr=0 then key2 a.tm a.rs b.tm b.rs else key a.dr b.dr
theorem zdd (a b:BA)(w:World):Calls Tryz.prog 105 #[.s a,.s b] w fun e w'=>e=.returned (.i (key a b))/\w'=w:=
 Any.strings_Compare lays106 a b w
theorem zlm (a:OA)(cap:Nat)(vs:List Int)(w:World)(hw:qR w a vs)(hl:vs.length<=100) :
 Calls Tryz.prog 205 #[.l a vs.length cap] w fun e w'=>e=.returned (.i (zc8 vs))/\w'=w:=by
 go_enter Tryz.func205,Tryz.ntmps205;go_wp2_with fail
 go_loopw [8] (fun i wr=>∃k:Nat,k<=vs.length/\i=.i k/\Hid (∀v∈vs.take k,v=0)/\wr=w) (fun i _=>vs.length-(intOf i).toNat)
 case atStart=>exact⟨0,Nat.zero_le _,rfl,fun v hv=>by simp at hv,rfl⟩
 case round=>
  obtain⟨k,hk,rfl,hz,rfl⟩:=hrel
  by_cases hlt:k<vs.length
  ·obtain⟨b,off,rfl,hb,hck⟩:=hw.load (bRf _ _) k hlt
   have hltI:(k:Int)<(vs.length:Int):=by omega
   clear hw
   by_cases h0:vs[k]=0
   ·have e0:(vs[k] != 0)=false:=by simpa using h0
    have HZ:Hid (∀v∈vs.take (k+1),v=0):=by
     intro v hv;rw[tSe hlt,List.mem_append,List.mem_singleton]at hv
     rcases hv with hv|hv
     ·exact hz.out v hv
     ·rw[hv];exact h0
    clear h0;go_wp2_with fail
    exact⟨⟨k+1,by omega,by go_num,HZ.o,trivial⟩,by simp[intOf];omega⟩
   ·have e0:(vs[k] != 0)=true:=by simpa using h0
    have HF:Hid (zc8 vs=vs[k]):=by
     unfold Hid zc8;have e:vs=vs.take k++vs[k] :: vs.drop (k+1):=by rw[<- List.drop_eq_getElem_cons hlt,List.take_append_drop]
     have hn:(vs.take k).find? (fun v=>decide (¬v=0))=none:=by
      rw[List.find?_eq_none];intro v hv;simp[hz.out v hv]
     have:vs.find? (fun v=>decide (¬v=0))=some vs[k]:=by
      rw[List.find?_eq_some_iff_append];refine⟨by simpa using h0,vs.take k,vs.drop (k+1),e,fun v hv=>by simp[hz.out v hv]⟩
     rw[this];rfl
    clear h0;go_wp2_with fail
    go_ret;exact⟨zl HF.o.symm,rfl⟩
  ·have HF:Hid (zc8 vs=0):=by
    unfold Hid zc8;have h:=hz.out;rw[tOl (by omega)]at h
    have:vs.find? (fun v=>decide (¬v=0))=none:=by
     rw[List.find?_eq_none];intro v hv;simp[h v hv]
    rw[this];rfl
   clear hw;go_wp2_with fail
   go_ret;exact⟨zl HF.o.symm,rfl⟩
end Go.Proofs.YtedangodjiolaaaGreat
namespace Go.Proofs.YtedangodjiolaaaGreat
open Go.RowKit
theorem zhP (s:BA):(0<qU s/\zaG s=qU s) \/ (¬0<qU s/\zaG s=0):=by
 unfold qU zaG
 by_cases h:zan s=true
 ·rw[if_pos h,if_pos h]
  have:=zc7 s h
  omega
 ·rw[if_neg h,if_neg h]
  omega
theorem zkJ (l:Lw)(la lb lc:OA)(lca lcb lcc:Nat)(o:Ob)(oa oa':OA)(ocap ocap':Nat)(res:BA)(w:World)(hl:yF w l la lb lc)(ho:j3 w o oa oa')(hc:¬(zG l.ss o=true/\res.toList.isEmpty=false)) :
 Calls Tryz.prog 132 #[.agg (l.cells la lb lc lca lcb lcc),.agg #[.s o.kd,.s o.nm,.s o.tm,.l oa o.vs.length ocap,.bool o.en,.l oa' o.hs.length ocap',.i o.vr],.s res] w fun e w'=>e=.returned (.i (qV l.ss o res))/\Bw w w':=by
 have HL:=hid hl;have HO:=hid ho;have HW:Hid (qV l.ss o res=0):=by unfold Hid qV;rw[if_neg hc]
 have HC:=hid hc;clear hl ho hc;unfold Lw.cells
 by_cases hk:zG l.ss o=true
 ·have he:res.toList.isEmpty=true:=by
   cases h:res.toList.isEmpty with
   | true=>rfl
   | false=>exact absurd ⟨hk,h⟩ HC.o
  have HK:=hid hk;clear hk;go_enter Tryz.func132,Tryz.ntmps132;go_wp2_with fail
  refine(jl _ _ l.ss o _ _ _ _ _ (HL.o.ss.mono (zx _ _ _)) (HO.o.mono (zx _ _ _)) HK.o).mono ?_;rintro e w1⟨fa,fcap,rfl,hfl,hb⟩;have HB1:Hid (Bw w w1):=(zx w _ _).trans (hb.mono (by simp;omega));clear hfl hb;go_wp2_with fail
  go_ret;exact⟨zl HW.o.symm,HB1.o⟩
 ·have HK:Hid (zG l.ss o=false):=by unfold Hid;simpa using hk
  clear hk;go_enter Tryz.func132,Tryz.ntmps132;go_wp2_with fail
  refine(zda _ _ l.ss o _ _ _ _ _ (HL.o.ss.mono (zx _ _ _)) (HO.o.mono (zx _ _ _)) HK.o).mono ?_;rintro e w1⟨v,rfl,hb⟩;have HB1:Hid (Bw w w1):=(zx w _ _).trans (hb.mono (by simp;omega));clear hb;go_wp2_with fail
  go_ret;exact⟨zl HW.o.symm,HB1.o⟩
theorem zjd (l:Lw)(la lb lc:OA)(lca lcb lcc:Nat)(o:Ob)(oa oa':OA)(ocap ocap':Nat)(res:BA)(w:World)(hl:yF w l la lb lc)(ho:j3 w o oa oa')(hc:zG l.ss o=true)(he:res.toList.isEmpty=false)(hlen:o.vs.length<=1048576) :
 Calls Tryz.prog 132 #[.agg (l.cells la lb lc lca lcb lcc),.agg #[.s o.kd,.s o.nm,.s o.tm,.l oa o.vs.length ocap,.bool o.en,.l oa' o.hs.length ocap',.i o.vr],.s res] w fun e w'=>e=.returned (.i (qV l.ss o res))/\Bw w w':=by
 have HL:=hid hl;have HO:=hid ho;have HW:Hid (qV l.ss o res=(if res=o.kd then 1 else 0)+zeb (shapeOf l.ss o.kd).fs o.vs res (shapeOf l.ss o.kd).fs.length):=by unfold Hid qV;rw[if_pos ⟨hc,he⟩]
 have HC:=hid hc;have HK:Hid (zC l.ss o.kd=true/\o.vs.length=(shapeOf l.ss o.kd).fs.length):=by unfold zG at hc;unfold Hid;simpa using hc
 have HN:=hid hlen;clear hl ho hc hlen;unfold Lw.cells;go_enter Tryz.func132,Tryz.ntmps132;go_wp2_with fail
 refine(jl _ _ l.ss o _ _ _ _ _ (HL.o.ss.mono (zx _ _ _)) (HO.o.mono (zx _ _ _)) HC.o).mono ?_;rintro e w1⟨fa,fcap,rfl,hfl,hb⟩;obtain⟨hX0,hY0⟩:=q9 w #[.l la l.ss.length lca,.l lb l.ms.length lcb,.l lc l.ts.length lcc] (oC o oa oa' ocap ocap') 43 154;have hY1:=za hY0 (by simp) hb;have hz1:w.heap.size+1<w1.heap.size:=by have:=hb.size;simp at this;omega
 have HB1:Hid (Bw w w1):=(zx w _ _).trans (hb.mono (by simp;omega));have HFl:=hid (hfl.mono hb);clear hfl hb hX0 hY0;obtain⟨S,HS⟩:∃S,Hid (S=shapeOf l.ss o.kd):=⟨_,rfl⟩
 rw[<- HS.o]at HFl HK HW ⊢;obtain⟨n0,hn0⟩:∃n0:Int,n0=if res=o.kd then 1 else 0:=⟨_,rfl⟩
 have hb0:0<=n0/\n0<=1:=by rw[hn0];split <;> omega
 rw[<- hn0]at HW;have HN0:=hid hn0;clear hn0
 by_cases hk:res=o.kd
 all_goals (
  first
  | (have hq:(res.toList == o.kd.toList)=true:=by rw[beq_toList];simpa using hk)
  | (have hq:(res.toList == o.kd.toList)=false:=by rw[beq_toList];simpa using hk)
  have HKE:=zjn hk;clear hk;go_wp2_with fail
  go_loopw [9,10] (fun nv iv wr=>∃(k:Nat) (s:Int),k<=S.fs.length/\iv=.i k/\nv=.i s/\Hid (s=n0+zeb S.fs o.vs res k/\Bw w1 wr)) (fun _ iv _=>S.fs.length-(intOf iv).toNat)
  case atStart=>exact⟨0,n0,Nat.zero_le _,rfl,by have:=HN0.o;first|(rw[if_pos HKE.o]at this;rw[this])|(rw[if_neg HKE.o]at this;rw[this]),by simp[zeb],bRf _ _⟩
  case round=>
   obtain⟨k,s,hk,rfl,rfl,HQ⟩:=hrel;have hsb:0<=s/\s<=1+k*10000000:=by have h1:=HQ.o.1;have h2:=zcX S.fs o.vs res k;omega
   have hkn:k<=1048576:=by have:=HN.o;have:=HK.o.2;omega
   by_cases hlt:k<S.fs.length
   ·obtain⟨b,off,rfl,hb,hr⟩:=HFl.o.rows (by intro e;rw[e]at hlt;simp at hlt)
    obtain⟨wa,wcap,hf⟩:=hr k hlt;obtain⟨c0,c1,c2,c3,c4,c5,c6,c7,c8,c9,c10⟩:=(hf.mono hb HQ.o.2).load;have hlv:k<o.vs.length:=by have:=HK.o.2;omega
    have hltI:(k:Int)<(S.fs.length:Int):=by omega
    have hlvI:(k:Int)<(o.vs.length:Int):=by omega
    obtain⟨vb,voff,rfl,hvb,hvc0⟩:=HO.o.vals.cells (by intro e;rw[e]at hlv;simp at hlv);have hvc:=((HB1.o.trans (HQ.o.2.mono HB1.o.size)).cell (p:=(aD vb (voff+k))) hvb).trans (hvc0 k hlv);have hvb':=nLt hvb (HB1.o.trans (HQ.o.2.mono HB1.o.size)).size;have hb':=nLt hb HQ.o.2.size;have hY:=za hY1 hz1 HQ.o.2;have hz:=nLt hz1 HQ.o.2.size;have HSt:Hid (zeb S.fs o.vs res (k+1)=zeb S.fs o.vs res k+yP S.fs[k] o.vs[k] res):=zoV S.fs o.vs res k hlt hlv;have HVs:Hid (o.vs[k].size<=maxLen):=HO.o.vals.small _ (List.getElem_mem _)
    have hnr:-1<=qU o.vs[k]/\qU o.vs[k]<=10000000:=by
     have h1:=zhP o.vs[k];have h2:=zed o.vs[k]
     have h3:qU o.vs[k]=-1 \/ 0<=qU o.vs[k]:=by
      unfold qU;split
      ·rename_i h;exact Or.inr (zc7 _ h)
      ·exact Or.inl rfl
     omega
    clear hf hr hvc0 c0 c2 c3 c4 c5 c6 c7 c8 c9;go_wp2_with fail
    refine(zd8 o.vs[k] _ HVs.o).mono ?_;rintro e w2⟨rfl,rfl⟩
    by_cases h1:S.fs[k].kd=1
    ·have e1:(S.fs[k].kd == 1)=true:=by simpa using h1
     by_cases h2:S.fs[k].wg=res
     ·have e2:(S.fs[k].wg.toList == res.toList)=true:=by rw[beq_toList];simpa using h2
      have HFw:Hid (yP S.fs[k] o.vs[k] res=zaG o.vs[k]):=by unfold Hid yP;rw[if_pos ⟨h1,h2⟩]
      clear h1 h2
      rcases zhP o.vs[k] with⟨hp,hd⟩|⟨hp,hd⟩
      ·have HD:=zjn hd
       have hpd:decide (0<qU o.vs[k])=true:=by simpa using hp
       clear hd;go_wp2_with fail
       first
        | exact⟨⟨k+1,s+qU o.vs[k],by omega,by go_num,by go_num,by rw[HSt.o,HFw.o,HQ.o.1,HD.o];omega,HQ.o.2⟩,zy hlt⟩
        | (go_quiet (fail);go_wp2_with fail;exact⟨⟨k+1,s+qU o.vs[k],by omega,by go_num,by go_num,by rw[HSt.o,HFw.o,HQ.o.1,HD.o];omega,below_drewN HQ.o.2 _⟩,zy hlt⟩)
      ·have HD:=zjn hd
       have hpd:decide (0<qU o.vs[k])=false:=by simpa using hp
       clear hd;go_wp2_with fail
       first
        | exact⟨⟨k+1,s,by omega,by go_num,rfl,by rw[HSt.o,HFw.o,HQ.o.1,HD.o];omega,HQ.o.2⟩,zy hlt⟩
        | (go_quiet (fail);go_wp2_with fail;exact⟨⟨k+1,s,by omega,by go_num,rfl,by rw[HSt.o,HFw.o,HQ.o.1,HD.o];omega,below_drewN HQ.o.2 _⟩,zy hlt⟩)
     ·have e2:(S.fs[k].wg.toList == res.toList)=false:=by rw[beq_toList];simpa using h2
      have HFw:Hid (yP S.fs[k] o.vs[k] res=0):=by unfold Hid yP;rw[if_neg (fun h=>h2 h.2)]
      clear h1 h2;go_wp2_with fail
      first
       | exact⟨⟨k+1,s,by omega,by go_num,rfl,by rw[HSt.o,HFw.o,HQ.o.1];omega,HQ.o.2⟩,zy hlt⟩
       | (go_quiet (fail);go_wp2_with fail;exact⟨⟨k+1,s,by omega,by go_num,rfl,by rw[HSt.o,HFw.o,HQ.o.1];omega,below_drewN HQ.o.2 _⟩,zy hlt⟩)
    ·have e1:(S.fs[k].kd == 1)=false:=by simpa using h1
     have HFw:Hid (yP S.fs[k] o.vs[k] res=0):=by unfold Hid yP;rw[if_neg (fun h=>h1 h.1)]
     clear h1;go_wp2_with fail
     first
      | exact⟨⟨k+1,s,by omega,by go_num,rfl,by rw[HSt.o,HFw.o,HQ.o.1];omega,HQ.o.2⟩,zy hlt⟩
      | (go_quiet (fail);go_wp2_with fail;exact⟨⟨k+1,s,by omega,by go_num,rfl,by rw[HSt.o,HFw.o,HQ.o.1];omega,below_drewN HQ.o.2 _⟩,zy hlt⟩)
   ·have e:k=S.fs.length:=by omega
    subst e;have HE:Hid (qV l.ss o res=s):=by unfold Hid;rw[HW.o,HQ.o.1]
    clear hlt hk;go_wp2_with fail
    go_ret;exact⟨zl HE.o.symm,HB1.o.trans (HQ.o.2.mono HB1.o.size)⟩)
theorem zjZ (l:Lw)(la lb lc:OA)(lca lcb lcc:Nat)(o:Ob)(oa oa':OA)(ocap ocap':Nat)(res:BA)(w:World)(hl:yF w l la lb lc)(ho:j3 w o oa oa')(hlen:o.vs.length<=1048576) :
 Calls Tryz.prog 241 #[.agg (l.cells la lb lc lca lcb lcc),.agg #[.s o.kd,.s o.nm,.s o.tm,.l oa o.vs.length ocap,.bool o.en,.l oa' o.hs.length ocap',.i o.vr],.s res] w fun e w'=>e=.returned (.i (qV l.ss o res))/\Bw w w':=by
 by_cases hc:zG l.ss o=true/\res.toList.isEmpty=false
 ·exact zi8 l la lb lc lca lcb lcc o oa oa' ocap ocap' res w hl ho hc.1 hc.2 hlen
 ·exact zkq l la lb lc lca lcb lcc o oa oa' ocap ocap' res w hl ho hc
theorem zi2 (l:Lw)(la lb lc:OA)(lca lcb lcc:Nat)(o:Ob)(oa oa':OA)(ocap ocap':Nat)(res:BA)(w:World)(hl:yF w l la lb lc)(ho:j3 w o oa oa')(hlen:o.vs.length<=1048576) :
 Calls Tryz.prog 132 #[.agg (l.cells la lb lc lca lcb lcc),.agg #[.s o.kd,.s o.nm,.s o.tm,.l oa o.vs.length ocap,.bool o.en,.l oa' o.hs.length ocap',.i o.vr],.s res] w fun e w'=>e=.returned (.i (qV l.ss o res))/\Bw w w':=by
 by_cases hc:zG l.ss o=true/\res.toList.isEmpty=false
 ·exact zjd l la lb lc lca lcb lcc o oa oa' ocap ocap' res w hl ho hc.1 hc.2 hlen
 ·exact zkJ l la lb lc lca lcb lcc o oa oa' ocap ocap' res w hl ho hc
end Go.Proofs.YtedangodjiolaaaGreat
namespace Go.Proofs.YtedangodjiolaaaGreat
open Go.ChangeShapes Go.WideShapes Go.ChangeAt Go.RowKit
theorem Tryz.zli:Tryz.prog.cellsOf 307=3:=by kernel_rfl
theorem Tryz.zoj:Tryz.prog.cellsOf 200=1:=by kernel_rfl
theorem Tryz.zll:Tryz.prog.cellsOf 202=18:=by kernel_rfl
section
variable {H:Type} {enc:TypeId × Value->H} {w:World} {base:Nat} {spare:Nat->Bool} {held:Bool}
theorem zpz {fuel:Nat}{cs:List Value}{x:DataW H × List MemPlace}(h:DataW.trod enc Tryz.prog w base spare held fuel 307 cs=some x) :
 ∃m:Wt,cs=m.cells.toList/\m.Small:=by
 have hlen:cs.length=3:=by
  obtain⟨_,_,_,_,hl,_,_⟩:=DataW.trod_struct Tryz.underlying307 h;rw[hl];exact Tryz.zli
 match cs,hlen with
 | [c0,c1,c2],_=>
  have hf:=jd Tryz.underlying307 h;obtain⟨_,_,f0⟩:=hf 0 9 0 c0 rfl Tryz.zL rfl;obtain⟨_,_,f1⟩:=hf 1 9 1 c1 rfl Tryz.zL rfl;obtain⟨_,_,f2⟩:=hf 2 3 2 c2 rfl Tryz.qY rfl;obtain⟨x0,e0,_,s0⟩:=DataW.trod_string Tryz.underlying9 f0;obtain⟨x1,e1,_,s1⟩:=DataW.trod_string Tryz.underlying9 f1;obtain⟨x2,e2,_,_⟩:=DataW.trod_int Tryz.underlying3 f2;simp only[List.cons.injEq,and_true]at e0 e1 e2;subst e0 e1 e2;exact⟨⟨x0,x1,x2⟩,rfl,s0,s1⟩
theorem znM {fuel:Nat}{cs:List Value}{x:DataW H × List MemPlace}(h:DataW.trod enc Tryz.prog w base spare held fuel 200 cs=some x) :
 ∃a cap ms,cs=[.l a (List.length ms) cap]/\zcs w a ms:=by
 obtain⟨a,len,cap,rfl,hm,hr⟩:=j6 Tryz.underlying200 Tryz.zli (by omega) h
 rcases Nat.eq_zero_or_pos len with h0|hp
 ·subst h0
  exact⟨a,cap,[],rfl,⟨by simp[maxLen],fun i h=>absurd h (by simp),fun h=>absurd rfl h⟩⟩
 ·obtain⟨b,off,rfl,hb,hrow⟩:=hr hp
  have hf:∀i,i<len->∃m:Wt,m.Small/\∀j,j<3->w.cell? (aD b (off+i*3+j))=m.cells[j]?:=by
   intro i hi;obtain⟨es,n,y,hel,hcell,hy⟩:=hrow i hi;obtain⟨m,rfl,hs⟩:=zpz hy;exact⟨m,hs,fun j hj=>by rw[hcell j hj];simp⟩
  obtain⟨ms,hl,hms⟩:=za1 len hf;exact⟨_,cap,ms,by rw[hl],⟨by omega,fun i hi=>(hms i hi).1,fun _=>⟨b,off,rfl,hb,fun i hi=>(hms i hi).2⟩⟩⟩
theorem zpl {fuel:Nat}{cs:List Value}{x:DataW H × List MemPlace}(h:DataW.trod enc Tryz.prog w base spare held fuel 202 cs=some x) :
 ∃(k:Sl) (a0 a1 a2 a3:OA) (q0 q1 q2 q3:Nat),cs=(k.cells a0 a1 a2 a3 q0 q1 q2 q3).toList/\zc3 w k a0 a1 a2 a3:=by
 have hlen:cs.length=18:=by
  obtain⟨_,_,_,_,hl,_,_⟩:=DataW.trod_struct Tryz.underlying202 h;rw[hl];exact Tryz.zll
 match cs,hlen with
 | [d0,c0,c1,c2,c3,c4,c5,c6,c7,c8,c9,c10,c11,c12,c13,c14,d2,d3],_=>
  have hf:=jd Tryz.underlying202 h;obtain⟨_,_,f0⟩:=hf 0 9 0 d0 rfl Tryz.zL rfl;obtain⟨_,_,f1⟩:=zc5 Tryz.underlying202 h 1 199 1 15 rfl Tryz.zmO;obtain⟨_,_,f2⟩:=hf 2 3 16 d2 rfl Tryz.qY rfl;obtain⟨_,_,f3⟩:=hf 3 200 17 d3 rfl Tryz.zoj rfl;obtain⟨dr,e0,_,s0⟩:=DataW.trod_string Tryz.underlying9 f0;obtain⟨x,a0,a1,a2,q0,q1,q2,e1,hx⟩:=zqB f1;obtain⟨gv,e2,_,_⟩:=DataW.trod_int Tryz.underlying3 f2;obtain⟨a3,q3,ws,e3,hw⟩:=znM f3;simp only[List.cons.injEq,and_true]at e0 e2 e3;subst e0 e2 e3;have er:[c0,c1,c2,c3,c4,c5,c6,c7,c8,c9,c10,c11,c12,c13,c14]=(x.cells a0 a1 a2 q0 q1 q2).toList:=e1;unfold Ak.cells at er;simp only[List.cons.injEq,and_true]at er;obtain⟨g0,g1,g2,g3,g4,g5,g6,g7,g8,g9,g10,g11,g12,g13,g14⟩:=er;subst g0 g1 g2 g3 g4 g5 g6 g7 g8 g9 g10 g11 g12 g13 g14;exact⟨⟨dr,x,gv,ws⟩,a0,a1,a2,a3,q0,q1,q2,q3,rfl,⟨s0,hx,hw⟩⟩
end
end Go.Proofs.YtedangodjiolaaaGreat
namespace Go.Proofs.YtedangodjiolaaaGreat
open Go.ChangeShapes Go.WideShapes Go.ChangeAt Go.RowKit
theorem Tryz.zhG:Tryz.prog.cellsOf 147=4:=by kernel_rfl
theorem Tryz.zkb:Tryz.prog.cellsOf 150=5:=by kernel_rfl
theorem Tryz.zjW:Tryz.prog.cellsOf 144=7:=by kernel_rfl
theorem Tryz.zho:Tryz.prog.cellsOf 32=7:=by kernel_rfl
theorem Tryz.zlY:Tryz.prog.cellsOf 27=1:=by kernel_rfl
theorem Tryz.zm1:Tryz.prog.cellsOf 28=1:=by kernel_rfl
theorem Tryz.zlJ:Tryz.prog.cellsOf 29=1:=by kernel_rfl
theorem Tryz.zm6:Tryz.prog.cellsOf 30=1:=by kernel_rfl
section
variable {H:Type} {enc:TypeId × Value->H} {w:World} {base:Nat} {spare:Nat->Bool} {held:Bool}
theorem zoR {P:Program}{t:TypeId}{fs:Array Field}{fuel:Nat}{cs:List Value}{x:DataW H × List MemPlace}(ht:P.underlying t=some (.struct fs))(h:DataW.trod enc P w base spare held fuel t cs=some x)
 (i tf off n:Nat) (hf:(fs[i]?).map (fun f=>(f.type,f.offset))=some (tf,off)) (hn:P.cellsOf tf=n):∃m y,DataW.trod enc P w base spare held m tf ((cs.drop off).take n)=some y:=by
 obtain⟨f,hf1,hf2⟩:=Option.map_eq_some_iff.1 hf;simp only[Prod.mk.injEq]at hf2;obtain⟨rfl,rfl⟩:=hf2;subst hn;exact zfR ht h i f hf1
theorem znE {fuel:Nat}{cs:List Value}{x:DataW H × List MemPlace}(h:DataW.trod enc Tryz.prog w base spare held fuel 147 cs=some x) :
 ∃m:Lg,cs=m.cells.toList/\m.Small:=by
 have hlen:cs.length=4:=by
  obtain⟨_,_,_,_,hl,_,_⟩:=DataW.trod_struct Tryz.underlying147 h;rw[hl];exact Tryz.zhG
 match cs,hlen with
 | [c0,c1,c2,c3],_=>
  have hf:=jd Tryz.underlying147 h;obtain⟨_,_,f0⟩:=hf 0 9 0 c0 rfl Tryz.zL rfl;obtain⟨_,_,f1⟩:=hf 1 9 1 c1 rfl Tryz.zL rfl;obtain⟨_,_,f2⟩:=hf 2 3 2 c2 rfl Tryz.qY rfl;obtain⟨_,_,f3⟩:=hf 3 3 3 c3 rfl Tryz.qY rfl;obtain⟨x0,e0,_,s0⟩:=DataW.trod_string Tryz.underlying9 f0;obtain⟨x1,e1,_,s1⟩:=DataW.trod_string Tryz.underlying9 f1;obtain⟨x2,e2,_,_⟩:=DataW.trod_int Tryz.underlying3 f2;obtain⟨x3,e3,_,_⟩:=DataW.trod_int Tryz.underlying3 f3;simp only[List.cons.injEq,and_true]at e0 e1 e2 e3;subst e0 e1 e2 e3;exact⟨⟨x0,x1,x2,x3⟩,rfl,s0,s1⟩
theorem zlM {fuel:Nat}{cs:List Value}{x:DataW H × List MemPlace}(h:DataW.trod enc Tryz.prog w base spare held fuel 29 cs=some x) :
 ∃a cap ms,cs=[.l a (List.length ms) cap]/\zcJ w a ms:=by
 obtain⟨a,len,cap,rfl,hm,hr⟩:=j6 Tryz.underlying29 Tryz.zhG (by omega) h
 rcases Nat.eq_zero_or_pos len with h0|hp
 ·subst h0
  exact⟨a,cap,[],rfl,⟨by simp[maxLen],fun i h=>absurd h (by simp),fun h=>absurd rfl h⟩⟩
 ·obtain⟨b,off,rfl,hb,hrow⟩:=hr hp
  have hf:∀i,i<len->∃m:Lg,m.Small/\∀j,j<4->w.cell? (aD b (off+i*4+j))=m.cells[j]?:=by
   intro i hi;obtain⟨es,n,y,hel,hcell,hy⟩:=hrow i hi;obtain⟨m,rfl,hs⟩:=znE hy;exact⟨m,hs,fun j hj=>by rw[hcell j hj];simp⟩
  obtain⟨ms,hl,hms⟩:=za1 len hf;exact⟨_,cap,ms,by rw[hl],⟨by omega,fun i hi=>(hms i hi).1,fun _=>⟨b,off,rfl,hb,fun i hi=>(hms i hi).2⟩⟩⟩
theorem zoE {fuel:Nat}{cs:List Value}{x:DataW H × List MemPlace}(h:DataW.trod enc Tryz.prog w base spare held fuel 150 cs=some x) :
 ∃m:Pu,cs=m.cells.toList/\m.Small:=by
 have hlen:cs.length=5:=by
  obtain⟨_,_,_,_,hl,_,_⟩:=DataW.trod_struct Tryz.underlying150 h;rw[hl];exact Tryz.zkb
 match cs,hlen with
 | [c0,c1,c2,c3,c4],_=>
  have hf:=jd Tryz.underlying150 h;obtain⟨_,_,f0⟩:=hf 0 9 0 c0 rfl Tryz.zL rfl;obtain⟨_,_,f1⟩:=hf 1 9 1 c1 rfl Tryz.zL rfl;obtain⟨_,_,f2⟩:=hf 2 9 2 c2 rfl Tryz.zL rfl;obtain⟨_,_,f3⟩:=hf 3 3 3 c3 rfl Tryz.qY rfl;obtain⟨_,_,f4⟩:=hf 4 3 4 c4 rfl Tryz.qY rfl;obtain⟨x0,e0,_,s0⟩:=DataW.trod_string Tryz.underlying9 f0;obtain⟨x1,e1,_,s1⟩:=DataW.trod_string Tryz.underlying9 f1;obtain⟨x2,e2,_,s2⟩:=DataW.trod_string Tryz.underlying9 f2;obtain⟨x3,e3,_,_⟩:=DataW.trod_int Tryz.underlying3 f3;obtain⟨x4,e4,_,_⟩:=DataW.trod_int Tryz.underlying3 f4;simp only[List.cons.injEq,and_true]at e0 e1 e2 e3 e4;subst e0 e1 e2 e3 e4;exact⟨⟨x0,x1,x2,x3,x4⟩,rfl,s0,s1,s2⟩
theorem zmr {fuel:Nat}{cs:List Value}{x:DataW H × List MemPlace}(h:DataW.trod enc Tryz.prog w base spare held fuel 30 cs=some x) :
 ∃a cap ms,cs=[.l a (List.length ms) cap]/\zdG w a ms:=by
 obtain⟨a,len,cap,rfl,hm,hr⟩:=j6 Tryz.underlying30 Tryz.zkb (by omega) h
 rcases Nat.eq_zero_or_pos len with h0|hp
 ·subst h0
  exact⟨a,cap,[],rfl,⟨by simp[maxLen],fun i h=>absurd h (by simp),fun h=>absurd rfl h⟩⟩
 ·obtain⟨b,off,rfl,hb,hrow⟩:=hr hp
  have hf:∀i,i<len->∃m:Pu,m.Small/\∀j,j<5->w.cell? (aD b (off+i*5+j))=m.cells[j]?:=by
   intro i hi;obtain⟨es,n,y,hel,hcell,hy⟩:=hrow i hi;obtain⟨m,rfl,hs⟩:=zoE hy;exact⟨m,hs,fun j hj=>by rw[hcell j hj];simp⟩
  obtain⟨ms,hl,hms⟩:=za1 len hf;exact⟨_,cap,ms,by rw[hl],⟨by omega,fun i hi=>(hms i hi).1,fun _=>⟨b,off,rfl,hb,fun i hi=>(hms i hi).2⟩⟩⟩
theorem zlW {fuel:Nat}{cs:List Value}{x:DataW H × List MemPlace}(h:DataW.trod enc Tryz.prog w base spare held fuel 27 cs=some x) :
 ∃a cap ms,cs=[.l a (List.length ms) cap]/\zcb w a ms:=by
 obtain⟨a,len,cap,rfl,hm,hr⟩:=j6 Tryz.underlying27 Tryz.zhY (by omega) h
 rcases Nat.eq_zero_or_pos len with h0|hp
 ·subst h0
  exact⟨a,cap,[],rfl,⟨by simp[maxLen],fun h=>absurd rfl h⟩⟩
 ·obtain⟨b,off,rfl,hb,hrow⟩:=hr hp
  have hf:∀i,i<len->∃o:Ob,∃a0 a1 c0 c1,zpc w b (off+i*7) o a0 a1 c0 c1:=by
   intro i hi;obtain⟨es,n,y,hel,hcell,hy⟩:=hrow i hi;obtain⟨o,a0,a1,c0,c1,rfl,hs⟩:=zmw hy;exact⟨o,a0,a1,c0,c1,hs.small,hs.vals,hs.holds,fun j hj=>by rw[hcell j hj];simp[Ob.row]⟩
  obtain⟨ms,hl,hms⟩:=za1 len hf;exact⟨_,cap,ms,by rw[hl],⟨by omega,fun _=>⟨b,off,rfl,hb,hms⟩⟩⟩
theorem zoq {fuel:Nat}{cs:List Value}{x:DataW H × List MemPlace}(h:DataW.trod enc Tryz.prog w base spare held fuel 144 cs=some x) :
 ∃(g:Gr) (a:OA) (cap:Nat),cs=(g.cells a cap).toList/\g.Small/\qR w a g.r.vs:=by
 have hlen:cs.length=7:=by
  obtain⟨_,_,_,_,hl,_,_⟩:=DataW.trod_struct Tryz.underlying144 h;rw[hl];exact Tryz.zjW
 match cs,hlen with
 | [c0,c1,c2,c3,c4,c5,c6],_=>
  have hf:=jd Tryz.underlying144 h;obtain⟨_,_,f0⟩:=hf 0 3 0 c0 rfl Tryz.qY rfl;obtain⟨_,_,f1⟩:=hf 1 9 1 c1 rfl Tryz.zL rfl;obtain⟨_,_,f2⟩:=hf 2 9 2 c2 rfl Tryz.zL rfl;obtain⟨_,_,f3⟩:=zoR Tryz.underlying144 h 3 142 3 4 rfl Tryz.zhq;obtain⟨x0,e0,_,_⟩:=DataW.trod_int Tryz.underlying3 f0;obtain⟨x1,e1,_,s1⟩:=DataW.trod_string Tryz.underlying9 f1;obtain⟨x2,e2,_,s2⟩:=DataW.trod_string Tryz.underlying9 f2;obtain⟨r,a,cap,e3,hs,hI⟩:=zlt f3;simp only[List.cons.injEq,and_true]at e0 e1 e2;subst e0 e1 e2;have e3':[c3,c4,c5,c6]=(r.cells a cap).toList:=e3;unfold Rl.cells at e3';simp only[List.cons.injEq,and_true]at e3';obtain⟨e3,e4,e5,e6⟩:=e3';subst e3 e4 e5 e6;exact⟨⟨x0,x1,x2,r⟩,a,cap,rfl,⟨s1,s2,hs⟩,hI⟩
theorem znk {fuel:Nat}{cs:List Value}{x:DataW H × List MemPlace}(h:DataW.trod enc Tryz.prog w base spare held fuel 28 cs=some x) :
 ∃a cap ms,cs=[.l a (List.length ms) cap]/\zcU w a ms:=by
 obtain⟨a,len,cap,rfl,hm,hr⟩:=j6 Tryz.underlying28 Tryz.zjW (by omega) h
 rcases Nat.eq_zero_or_pos len with h0|hp
 ·subst h0
  exact⟨a,cap,[],rfl,⟨by simp[maxLen],fun h=>absurd rfl h⟩⟩
 ·obtain⟨b,off,rfl,hb,hrow⟩:=hr hp
  have hf:∀i,i<len->∃g:Gr,∃a0 c0,zpT w b (off+i*7) g a0 c0:=by
   intro i hi;obtain⟨es,n,y,hel,hcell,hy⟩:=hrow i hi;obtain⟨g,a0,c0,rfl,hs,hI⟩:=zoq hy;exact⟨g,a0,c0,hs,hI,fun j hj=>by rw[hcell j hj];simp⟩
  obtain⟨ms,hl,hms⟩:=za1 len hf;exact⟨_,cap,ms,by rw[hl],⟨by omega,fun _=>⟨b,off,rfl,hb,hms⟩⟩⟩
theorem zlr {fuel:Nat}{cs:List Value}{x:DataW H × List MemPlace}(h:DataW.trod enc Tryz.prog w base spare held fuel 32 cs=some x) :
 ∃(b:Bk) (a0 a1 a2 a3:OA) (k0 k1 k2 k3:Nat),cs=(b.cells a0 a1 a2 a3 k0 k1 k2 k3).toList/\zak w b a0 a1 a2 a3:=by
 have hlen:cs.length=7:=by
  obtain⟨_,_,_,_,hl,_,_⟩:=DataW.trod_struct Tryz.underlying32 h;rw[hl];exact Tryz.zho
 match cs,hlen with
 | [c0,c1,c2,c3,c4,c5,c6],_=>
  have hf:=jd Tryz.underlying32 h;obtain⟨_,_,f0⟩:=hf 0 3 0 c0 rfl Tryz.qY rfl;obtain⟨_,_,f1⟩:=hf 1 3 1 c1 rfl Tryz.qY rfl;obtain⟨_,_,f2⟩:=hf 2 3 2 c2 rfl Tryz.qY rfl;obtain⟨_,_,f3⟩:=hf 3 27 3 c3 rfl Tryz.zlY rfl;obtain⟨_,_,f4⟩:=hf 4 28 4 c4 rfl Tryz.zm1 rfl;obtain⟨_,_,f5⟩:=hf 5 29 5 c5 rfl Tryz.zlJ rfl;obtain⟨_,_,f6⟩:=hf 6 30 6 c6 rfl Tryz.zm6 rfl;obtain⟨x0,e0,_,_⟩:=DataW.trod_int Tryz.underlying3 f0;obtain⟨x1,e1,_,_⟩:=DataW.trod_int Tryz.underlying3 f1;obtain⟨x2,e2,_,_⟩:=DataW.trod_int Tryz.underlying3 f2;obtain⟨a0,k0,os,e3,hO⟩:=zlW f3;obtain⟨a1,k1,gs,e4,hG⟩:=znk f4;obtain⟨a2,k2,ls,e5,hL⟩:=zlM f5;obtain⟨a3,k3,ps,e6,hP⟩:=zmr f6;simp only[List.cons.injEq,and_true]at e0 e1 e2 e3 e4 e5 e6;subst e0 e1 e2 e3 e4 e5 e6;exact⟨⟨x0,x1,x2,os,gs,ls,ps⟩,a0,a1,a2,a3,k0,k1,k2,k3,rfl,⟨hO,hG,hL,hP⟩⟩
end
end Go.Proofs.YtedangodjiolaaaGreat
