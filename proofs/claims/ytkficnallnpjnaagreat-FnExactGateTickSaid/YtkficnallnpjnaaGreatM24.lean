import Derived.Test.YtkficnallnpjnaaGreatM20
import Derived.Shelf.Lay
import Derived.Shelf.LaySoft
import Derived.Shelf.LaysM
import Derived.Shelf.Small.Strs
import Derived.Test.YtkficnallnpjnaaGreatM21
set_option maxHeartbeats 4000000
namespace Go.Proofs
open Go.Shelf
shelf_lay Lays.n106 Nm 106 at Tryz as YtkficnallnpjnaaGreat.lays106
end Go.Proofs
namespace Go.Proofs.YtkficnallnpjnaaGreat
open Go.RowKit
def key (a b:ByteArray):Int:=Lib.compareBytes a.data.toList b.data.toList
theorem znn:∀a b:List UInt8,Lib.compareBytes a b=-1 \/ Lib.compareBytes a b=0 \/ Lib.compareBytes a b=1
 | [],[]=>by simp[Lib.compareBytes]
 | [],_ :: _=>by simp[Lib.compareBytes]
 | _ :: _,[]=>by simp[Lib.compareBytes]
 | a :: xs,b :: ys=>by
  simp only[Lib.compareBytes]
  split
  ·simp
  ·split
   ·simp
   ·exact znn xs ys
theorem znj:∀a b:List UInt8,Op.bytesLess a b=decide (Lib.compareBytes a b=-1)
 | [],[]=>by simp[Lib.compareBytes,Op.bytesLess]
 | [],_ :: _=>by simp[Lib.compareBytes,Op.bytesLess]
 | _ :: _,[]=>by simp[Lib.compareBytes,Op.bytesLess]
 | a :: xs,b :: ys=>by
  simp only[Lib.compareBytes,Op.bytesLess];rw[znj xs ys]
  by_cases h:a<b
  ·simp[h]
  ·by_cases h':b<a
   ·have hne:¬a=b:=fun e=>by subst e;exact h h'
    simp[h,h',hne]
   ·have he:a=b:=by
     have h1:¬a.toNat<b.toNat:=h;have h2:¬b.toNat<a.toNat:=h';exact UInt8.toNat_inj.1 (by omega)
    simp[he]
theorem znk:∀a b:List UInt8,Lib.compareBytes b a=- Lib.compareBytes a b
 | [],[]=>by simp[Lib.compareBytes]
 | [],_ :: _=>by simp[Lib.compareBytes]
 | _ :: _,[]=>by simp[Lib.compareBytes]
 | a :: xs,b :: ys=>by
  simp only[Lib.compareBytes]
  by_cases h:a<b
  ·have h':¬b<a:=fun h2=>absurd (UInt8.lt_trans h h2) (UInt8.lt_irrefl _)
   simp[h,h']
  ·by_cases h':b<a
   ·simp[h,h']
   ·simp[h,h',znk xs ys]
theorem zqx (a b:ByteArray):key b a=- key a b:=znk _ _
theorem zmG (a b:ByteArray):key a b=-1 \/ key a b=0 \/ key a b=1:=znn _ _
theorem zjM (a b:ByteArray):less a b=decide (key a b=-1):=by
 unfold less key;rw[<- znj,ByteArray.toList_eq,ByteArray.toList_eq]
theorem znC:∀a b:List UInt8,Lib.compareBytes a b=0↔a=b
 | [],[]=>by simp[Lib.compareBytes]
 | [],_ :: _=>by simp[Lib.compareBytes]
 | _ :: _,[]=>by simp[Lib.compareBytes]
 | a :: xs,b :: ys=>by
  simp only[Lib.compareBytes]
  by_cases h:a<b
  ·have hne:¬a=b:=fun e=>by subst e;exact UInt8.lt_irrefl _ h
   simp[h,hne]
  ·by_cases h':b<a
   ·have hne:¬a=b:=fun e=>by subst e;exact UInt8.lt_irrefl _ h'
    simp[h,h',hne]
   ·have he:a=b:=by
     have h1:¬a.toNat<b.toNat:=h;have h2:¬b.toNat<a.toNat:=h';exact UInt8.toNat_inj.1 (by omega)
    simp[he,znC xs ys]
theorem zbC (a b:ByteArray):key a b=0↔a=b:=by
 unfold key;rw[znC]
 constructor
 ·intro h
  cases a;cases b
  simp only at h
  rw[Array.toList_inj.1 h]
 ·rintro rfl;rfl
def zc3 (vs:List Int):Int:=(vs.find? (fun v=>decide (¬v=0))).getD 0
theorem zk3 (a b:Int):zc3 [a,b]=if a=0 then b else a:=by
 unfold zc3
 by_cases h:a=0
 ·by_cases h2:b=0 <;> simp[h,h2]
 ·simp[h]
theorem znK (a b c:Int):zc3 [a,b,c]=if a=0 then (if b=0 then c else b) else a:=by
 unfold zc3
 by_cases h:a=0
 ·by_cases h2:b=0
  ·by_cases h3:c=0 <;> simp[h,h2,h3]
  ·simp[h,h2]
 ·simp[h]
def key2 (a b c d:ByteArray):Int:=if key a c=0 then key b d else key a c
def zb9 (a b:Ob):Int:=key2 a.kd a.nm b.kd b.nm
def qj (a b:Lg):Int:=key2 a.tm a.rs b.tm b.rs
def zas (a b:Pu):Int:=if key a.dr b.dr=0 then key2 a.tm a.rs b.tm b.rs else key a.dr b.dr
theorem zeH (a b:ByteArray)(w:World):Calls Tryz.prog 175 #[.string a,.string b] w fun e w'=>e=.returned (.int .i64 (key a b))/\w'=w:=
 Any.strings_Compare lays106 a b w
theorem zlr (a:Option Addr)(cap:Nat)(vs:List Int)(w:World)(hw:ql w a vs)(hl:vs.length<=100) :
 Calls Tryz.prog 174 #[.slice a vs.length cap] w fun e w'=>e=.returned (.int .i64 (zc3 vs))/\w'=w:=by
 go_enter Tryz.func174,Tryz.ntmps174;go_wp2_with fail
 go_loopw [8] (fun i wr=>∃k:Nat,k<=vs.length/\i=.int .i64 k/\Hid (∀v∈vs.take k,v=0)/\wr=w) (fun i _=>vs.length-(intOf i).toNat)
 case atStart=>exact⟨0,Nat.zero_le _,rfl,fun v hv=>by simp at hv,rfl⟩
 case round=>
  obtain⟨k,hk,rfl,hz,rfl⟩:=hrel
  by_cases hlt:k<vs.length
  ·obtain⟨b,off,rfl,hb,hck⟩:=hw.load (bRf _ _) k hlt
   have hltI:(k:Int)<(vs.length:Int):=by omega
   clear hw
   by_cases h0:vs[k]=0
   ·have e0:(vs[k] != 0)=false:=by simpa using h0
    have HZ:Hid (∀v∈vs.take (k+1),v=0):=by
     intro v hv;rw[tSe hlt,List.mem_append,List.mem_singleton]at hv
     rcases hv with hv|hv
     ·exact hz.out v hv
     ·rw[hv];exact h0
    clear h0;go_wp2_with fail
    exact⟨⟨k+1,by omega,by go_num,HZ.out,trivial⟩,by simp[intOf];omega⟩
   ·have e0:(vs[k] != 0)=true:=by simpa using h0
    have HF:Hid (zc3 vs=vs[k]):=by
     unfold Hid zc3;have e:vs=vs.take k++vs[k] :: vs.drop (k+1):=by rw[<- List.drop_eq_getElem_cons hlt,List.take_append_drop]
     have hn:(vs.take k).find? (fun v=>decide (¬v=0))=none:=by
      rw[List.find?_eq_none];intro v hv;simp[hz.out v hv]
     have:vs.find? (fun v=>decide (¬v=0))=some vs[k]:=by
      rw[List.find?_eq_some_iff_append];refine⟨by simpa using h0,vs.take k,vs.drop (k+1),e,fun v hv=>by simp[hz.out v hv]⟩
     rw[this];rfl
    clear h0;go_wp2_with fail
    go_ret;exact⟨zo HF.out.symm,rfl⟩
  ·have HF:Hid (zc3 vs=0):=by
    unfold Hid zc3;have h:=hz.out;rw[tOl (by omega)]at h
    have:vs.find? (fun v=>decide (¬v=0))=none:=by
     rw[List.find?_eq_none];intro v hv;simp[h v hv]
    rw[this];rfl
   clear hw;go_wp2_with fail
   go_ret;exact⟨zo HF.out.symm,rfl⟩
end Go.Proofs.YtkficnallnpjnaaGreat
namespace Go.Proofs.YtkficnallnpjnaaGreat
open Go.RowKit
theorem zhV (s:ByteArray):(0<qR s/\zay s=qR s) \/ (¬0<qR s/\zay s=0):=by
 unfold qR zay
 by_cases h:zak s=true
 ·rw[if_pos h,if_pos h]
  have:=zdd s h
  omega
 ·rw[if_neg h,if_neg h]
  omega
theorem zkP (l:Lw)(la lb lc:Option Addr)(lca lcb lcc:Nat)(o:Ob)(oa oa':Option Addr)(ocap ocap':Nat)(res:ByteArray)(w:World)(hl:jr w l la lb lc)(ho:jP w o oa oa')(hc:¬(zB l.ss o=true/\res.toList.isEmpty=false)) :
 Calls Tryz.prog 146 #[.agg (l.cells la lb lc lca lcb lcc),.agg #[.string o.kd,.string o.nm,.string o.tm,.slice oa o.vs.length ocap,.bool o.en,.slice oa' o.hs.length ocap',.int .i64 o.vr],.string res] w fun e w'=>e=.returned (.int .i64 (qQ l.ss o res))/\Below w.heap.size w w':=by
 have HL:=hid hl;have HO:=hid ho;have HW:Hid (qQ l.ss o res=0):=by unfold Hid qQ;rw[if_neg hc]
 have HC:=hid hc;clear hl ho hc;unfold Lw.cells
 by_cases hk:zB l.ss o=true
 ·have he:res.toList.isEmpty=true:=by
   cases h:res.toList.isEmpty with
   | true=>rfl
   | false=>exact absurd ⟨hk,h⟩ HC.out
  have HK:=hid hk;clear hk;go_enter Tryz.func146,Tryz.ntmps146;go_wp2_with fail
  refine(jc _ _ l.ss o _ _ _ _ _ (HL.out.ss.mono (zw _ _ _)) (HO.out.mono (zw _ _ _)) HK.out).mono ?_;rintro e w1⟨fa,fcap,rfl,hfl,hb⟩;have HB1:Hid (Below w.heap.size w w1):=(zw w _ _).trans (hb.mono (by simp;omega));clear hfl hb;go_wp2_with fail
  go_ret;exact⟨zo HW.out.symm,HB1.out⟩
 ·have HK:Hid (zB l.ss o=false):=by unfold Hid;simpa using hk
  clear hk;go_enter Tryz.func146,Tryz.ntmps146;go_wp2_with fail
  refine(zc2 _ _ l.ss o _ _ _ _ _ (HL.out.ss.mono (zw _ _ _)) (HO.out.mono (zw _ _ _)) HK.out).mono ?_;rintro e w1⟨v,rfl,hb⟩;have HB1:Hid (Below w.heap.size w w1):=(zw w _ _).trans (hb.mono (by simp;omega));clear hb;go_wp2_with fail
  go_ret;exact⟨zo HW.out.symm,HB1.out⟩
theorem zjD (l:Lw)(la lb lc:Option Addr)(lca lcb lcc:Nat)(o:Ob)(oa oa':Option Addr)(ocap ocap':Nat)(res:ByteArray)(w:World)(hl:jr w l la lb lc)(ho:jP w o oa oa')(hc:zB l.ss o=true)(he:res.toList.isEmpty=false)(hlen:o.vs.length<=1048576) :
 Calls Tryz.prog 146 #[.agg (l.cells la lb lc lca lcb lcc),.agg #[.string o.kd,.string o.nm,.string o.tm,.slice oa o.vs.length ocap,.bool o.en,.slice oa' o.hs.length ocap',.int .i64 o.vr],.string res] w fun e w'=>e=.returned (.int .i64 (qQ l.ss o res))/\Below w.heap.size w w':=by
 have HL:=hid hl;have HO:=hid ho;have HW:Hid (qQ l.ss o res=(if res=o.kd then 1 else 0)+zd6 (shapeOf l.ss o.kd).fs o.vs res (shapeOf l.ss o.kd).fs.length):=by unfold Hid qQ;rw[if_pos ⟨hc,he⟩]
 have HC:=hid hc;have HK:Hid (zJ l.ss o.kd=true/\o.vs.length=(shapeOf l.ss o.kd).fs.length):=by unfold zB at hc;unfold Hid;simpa using hc
 have HN:=hid hlen;clear hl ho hc hlen;unfold Lw.cells;go_enter Tryz.func146,Tryz.ntmps146;go_wp2_with fail
 refine(jc _ _ l.ss o _ _ _ _ _ (HL.out.ss.mono (zw _ _ _)) (HO.out.mono (zw _ _ _)) HC.out).mono ?_;rintro e w1⟨fa,fcap,rfl,hfl,hb⟩;obtain⟨hX0,hY0⟩:=qX w #[.slice la l.ss.length lca,.slice lb l.ms.length lcb,.slice lc l.ts.length lcc] (oC o oa oa' ocap ocap') 47 117;have hY1:=za hY0 (by simp) hb;have hz1:w.heap.size+1<w1.heap.size:=by have:=hb.size;simp at this;omega
 have HB1:Hid (Below w.heap.size w w1):=(zw w _ _).trans (hb.mono (by simp;omega));have HFl:=hid (hfl.mono hb);clear hfl hb hX0 hY0;obtain⟨S,HS⟩:∃S,Hid (S=shapeOf l.ss o.kd):=⟨_,rfl⟩
 rw[<- HS.out]at HFl HK HW ⊢;obtain⟨n0,hn0⟩:∃n0:Int,n0=if res=o.kd then 1 else 0:=⟨_,rfl⟩
 have hb0:0<=n0/\n0<=1:=by rw[hn0];split <;> omega
 rw[<- hn0]at HW;have HN0:=hid hn0;clear hn0
 by_cases hk:res=o.kd
 all_goals (
  first
  | (have hq:(res.toList == o.kd.toList)=true:=by rw[beq_toList];simpa using hk)
  | (have hq:(res.toList == o.kd.toList)=false:=by rw[beq_toList];simpa using hk)
  have HKE:=zjT hk;clear hk;go_wp2_with fail
  go_loopw [9,10] (fun nv iv wr=>∃(k:Nat) (s:Int),k<=S.fs.length/\iv=.int .i64 k/\nv=.int .i64 s/\Hid (s=n0+zd6 S.fs o.vs res k/\Below w1.heap.size w1 wr)) (fun _ iv _=>S.fs.length-(intOf iv).toNat)
  case atStart=>exact⟨0,n0,Nat.zero_le _,rfl,by have:=HN0.out;first|(rw[if_pos HKE.out]at this;rw[this])|(rw[if_neg HKE.out]at this;rw[this]),by simp[zd6],bRf _ _⟩
  case round=>
   obtain⟨k,s,hk,rfl,rfl,HQ⟩:=hrel;have hsb:0<=s/\s<=1+k*10000000:=by have h1:=HQ.out.1;have h2:=zcI S.fs o.vs res k;omega
   have hkn:k<=1048576:=by have:=HN.out;have:=HK.out.2;omega
   by_cases hlt:k<S.fs.length
   ·obtain⟨b,off,rfl,hb,hr⟩:=HFl.out.rows (by intro e;rw[e]at hlt;simp at hlt)
    obtain⟨wa,wcap,hf⟩:=hr k hlt;obtain⟨c0,c1,c2,c3,c4,c5,c6,c7,c8,c9,c10⟩:=(hf.mono hb HQ.out.2).load;have hlv:k<o.vs.length:=by have:=HK.out.2;omega
    have hltI:(k:Int)<(S.fs.length:Int):=by omega
    have hlvI:(k:Int)<(o.vs.length:Int):=by omega
    obtain⟨vb,voff,rfl,hvb,hvc0⟩:=HO.out.vals.cells (by intro e;rw[e]at hlv;simp at hlv);have hvc:=((HB1.out.trans (HQ.out.2.mono HB1.out.size)).cell (p:=⟨vb,voff+k,none⟩) hvb).trans (hvc0 k hlv);have hvb':=nLt hvb (HB1.out.trans (HQ.out.2.mono HB1.out.size)).size;have hb':=nLt hb HQ.out.2.size;have hY:=za hY1 hz1 HQ.out.2;have hz:=nLt hz1 HQ.out.2.size;have HSt:Hid (zd6 S.fs o.vs res (k+1)=zd6 S.fs o.vs res k+yK S.fs[k] o.vs[k] res):=zo9 S.fs o.vs res k hlt hlv;have HVs:Hid (o.vs[k].size<=maxLen):=HO.out.vals.small _ (List.getElem_mem _)
    have hnr:-1<=qR o.vs[k]/\qR o.vs[k]<=10000000:=by
     have h1:=zhV o.vs[k];have h2:=zdU o.vs[k]
     have h3:qR o.vs[k]=-1 \/ 0<=qR o.vs[k]:=by
      unfold qR;split
      ·rename_i h;exact Or.inr (zdd _ h)
      ·exact Or.inl rfl
     omega
    clear hf hr hvc0 c0 c2 c3 c4 c5 c6 c7 c8 c9;go_wp2_with fail
    refine(zea o.vs[k] _ HVs.out).mono ?_;rintro e w2⟨rfl,rfl⟩
    by_cases h1:S.fs[k].kd=1
    ·have e1:(S.fs[k].kd == 1)=true:=by simpa using h1
     by_cases h2:S.fs[k].wg=res
     ·have e2:(S.fs[k].wg.toList == res.toList)=true:=by rw[beq_toList];simpa using h2
      have HFw:Hid (yK S.fs[k] o.vs[k] res=zay o.vs[k]):=by unfold Hid yK;rw[if_pos ⟨h1,h2⟩]
      clear h1 h2
      rcases zhV o.vs[k] with⟨hp,hd⟩|⟨hp,hd⟩
      ·have HD:=zjT hd
       have hpd:decide (0<qR o.vs[k])=true:=by simpa using hp
       clear hd;go_wp2_with fail
       first
        | exact⟨⟨k+1,s+qR o.vs[k],by omega,by go_num,by go_num,by rw[HSt.out,HFw.out,HQ.out.1,HD.out];omega,HQ.out.2⟩,zq hlt⟩
        | (go_quiet (fail);go_wp2_with fail;exact⟨⟨k+1,s+qR o.vs[k],by omega,by go_num,by go_num,by rw[HSt.out,HFw.out,HQ.out.1,HD.out];omega,below_drewN HQ.out.2 _⟩,zq hlt⟩)
      ·have HD:=zjT hd
       have hpd:decide (0<qR o.vs[k])=false:=by simpa using hp
       clear hd;go_wp2_with fail
       first
        | exact⟨⟨k+1,s,by omega,by go_num,rfl,by rw[HSt.out,HFw.out,HQ.out.1,HD.out];omega,HQ.out.2⟩,zq hlt⟩
        | (go_quiet (fail);go_wp2_with fail;exact⟨⟨k+1,s,by omega,by go_num,rfl,by rw[HSt.out,HFw.out,HQ.out.1,HD.out];omega,below_drewN HQ.out.2 _⟩,zq hlt⟩)
     ·have e2:(S.fs[k].wg.toList == res.toList)=false:=by rw[beq_toList];simpa using h2
      have HFw:Hid (yK S.fs[k] o.vs[k] res=0):=by unfold Hid yK;rw[if_neg (fun h=>h2 h.2)]
      clear h1 h2;go_wp2_with fail
      first
       | exact⟨⟨k+1,s,by omega,by go_num,rfl,by rw[HSt.out,HFw.out,HQ.out.1];omega,HQ.out.2⟩,zq hlt⟩
       | (go_quiet (fail);go_wp2_with fail;exact⟨⟨k+1,s,by omega,by go_num,rfl,by rw[HSt.out,HFw.out,HQ.out.1];omega,below_drewN HQ.out.2 _⟩,zq hlt⟩)
    ·have e1:(S.fs[k].kd == 1)=false:=by simpa using h1
     have HFw:Hid (yK S.fs[k] o.vs[k] res=0):=by unfold Hid yK;rw[if_neg (fun h=>h1 h.1)]
     clear h1;go_wp2_with fail
     first
      | exact⟨⟨k+1,s,by omega,by go_num,rfl,by rw[HSt.out,HFw.out,HQ.out.1];omega,HQ.out.2⟩,zq hlt⟩
      | (go_quiet (fail);go_wp2_with fail;exact⟨⟨k+1,s,by omega,by go_num,rfl,by rw[HSt.out,HFw.out,HQ.out.1];omega,below_drewN HQ.out.2 _⟩,zq hlt⟩)
   ·have e:k=S.fs.length:=by omega
    subst e;have HE:Hid (qQ l.ss o res=s):=by unfold Hid;rw[HW.out,HQ.out.1]
    clear hlt hk;go_wp2_with fail
    go_ret;exact⟨zo HE.out.symm,HB1.out.trans (HQ.out.2.mono HB1.out.size)⟩)
theorem zj8 (l:Lw)(la lb lc:Option Addr)(lca lcb lcc:Nat)(o:Ob)(oa oa':Option Addr)(ocap ocap':Nat)(res:ByteArray)(w:World)(hl:jr w l la lb lc)(ho:jP w o oa oa')(hlen:o.vs.length<=1048576) :
 Calls Tryz.prog 227 #[.agg (l.cells la lb lc lca lcb lcc),.agg #[.string o.kd,.string o.nm,.string o.tm,.slice oa o.vs.length ocap,.bool o.en,.slice oa' o.hs.length ocap',.int .i64 o.vr],.string res] w fun e w'=>e=.returned (.int .i64 (qQ l.ss o res))/\Below w.heap.size w w':=by
 by_cases hc:zB l.ss o=true/\res.toList.isEmpty=false
 ·exact zka l la lb lc lca lcb lcc o oa oa' ocap ocap' res w hl ho hc.1 hc.2 hlen
 ·exact zkL l la lb lc lca lcb lcc o oa oa' ocap ocap' res w hl ho hc
theorem zjC (l:Lw)(la lb lc:Option Addr)(lca lcb lcc:Nat)(o:Ob)(oa oa':Option Addr)(ocap ocap':Nat)(res:ByteArray)(w:World)(hl:jr w l la lb lc)(ho:jP w o oa oa')(hlen:o.vs.length<=1048576) :
 Calls Tryz.prog 146 #[.agg (l.cells la lb lc lca lcb lcc),.agg #[.string o.kd,.string o.nm,.string o.tm,.slice oa o.vs.length ocap,.bool o.en,.slice oa' o.hs.length ocap',.int .i64 o.vr],.string res] w fun e w'=>e=.returned (.int .i64 (qQ l.ss o res))/\Below w.heap.size w w':=by
 by_cases hc:zB l.ss o=true/\res.toList.isEmpty=false
 ·exact zjD l la lb lc lca lcb lcc o oa oa' ocap ocap' res w hl ho hc.1 hc.2 hlen
 ·exact zkP l la lb lc lca lcb lcc o oa oa' ocap ocap' res w hl ho hc
end Go.Proofs.YtkficnallnpjnaaGreat
namespace Go.Proofs.YtkficnallnpjnaaGreat
open Go.ChangeShapes Go.WideShapes Go.ChangeAt Go.RowKit
theorem Tryz.zhR:Tryz.prog.cellsOf 111=4:=by kernel_rfl
theorem Tryz.zi9:Tryz.prog.cellsOf 113=5:=by kernel_rfl
theorem Tryz.zjw:Tryz.prog.cellsOf 108=7:=by kernel_rfl
theorem Tryz.zpT:Tryz.prog.cellsOf 32=7:=by kernel_rfl
theorem Tryz.zlL:Tryz.prog.cellsOf 27=1:=by kernel_rfl
theorem Tryz.zmX:Tryz.prog.cellsOf 28=1:=by kernel_rfl
theorem Tryz.zlW:Tryz.prog.cellsOf 29=1:=by kernel_rfl
theorem Tryz.znJ:Tryz.prog.cellsOf 30=1:=by kernel_rfl
section
variable {H:Type} {enc:TypeId × Value->H} {w:World} {base:Nat} {spare:Nat->Bool} {held:Bool}
theorem zoz {P:Program}{t:TypeId}{fs:Array Field}{fuel:Nat}{cs:List Value}{x:DataW H × List MemPlace}(ht:P.underlying t=some (.struct fs))(h:DataW.trod enc P w base spare held fuel t cs=some x)
 (i tf off n:Nat) (hf:(fs[i]?).map (fun f=>(f.type,f.offset))=some (tf,off)) (hn:P.cellsOf tf=n):∃m y,DataW.trod enc P w base spare held m tf ((cs.drop off).take n)=some y:=by
 obtain⟨f,hf1,hf2⟩:=Option.map_eq_some_iff.1 hf;simp only[Prod.mk.injEq]at hf2;obtain⟨rfl,rfl⟩:=hf2;subst hn;exact zkg ht h i f hf1
theorem znI {fuel:Nat}{cs:List Value}{x:DataW H × List MemPlace}(h:DataW.trod enc Tryz.prog w base spare held fuel 111 cs=some x) :
 ∃m:Lg,cs=m.cells.toList/\m.Small:=by
 have hlen:cs.length=4:=by
  obtain⟨_,_,_,_,hl,_,_⟩:=DataW.trod_struct Tryz.underlying111 h;rw[hl];exact Tryz.zhR
 match cs,hlen with
 | [c0,c1,c2,c3],_=>
  have hf:=zae Tryz.underlying111 h;obtain⟨_,_,f0⟩:=hf 0 9 0 c0 rfl Tryz.zS rfl;obtain⟨_,_,f1⟩:=hf 1 9 1 c1 rfl Tryz.zS rfl;obtain⟨_,_,f2⟩:=hf 2 3 2 c2 rfl Tryz.jU rfl;obtain⟨_,_,f3⟩:=hf 3 3 3 c3 rfl Tryz.jU rfl;obtain⟨x0,e0,_,s0⟩:=DataW.trod_string Tryz.underlying9 f0;obtain⟨x1,e1,_,s1⟩:=DataW.trod_string Tryz.underlying9 f1;obtain⟨x2,e2,_,_⟩:=DataW.trod_int Tryz.underlying3 f2;obtain⟨x3,e3,_,_⟩:=DataW.trod_int Tryz.underlying3 f3;simp only[List.cons.injEq,and_true]at e0 e1 e2 e3;subst e0 e1 e2 e3;exact⟨⟨x0,x1,x2,x3⟩,rfl,s0,s1⟩
theorem zl3 {fuel:Nat}{cs:List Value}{x:DataW H × List MemPlace}(h:DataW.trod enc Tryz.prog w base spare held fuel 29 cs=some x) :
 ∃a cap ms,cs=[.slice a (List.length ms) cap]/\zbG w a ms:=by
 obtain⟨a,len,cap,rfl,hm,hr⟩:=zaU Tryz.underlying29 Tryz.zhR (by omega) h
 rcases Nat.eq_zero_or_pos len with h0|hp
 ·subst h0
  exact⟨a,cap,[],rfl,⟨by simp[maxLen],fun i h=>absurd h (by simp),fun h=>absurd rfl h⟩⟩
 ·obtain⟨b,off,rfl,hb,hrow⟩:=hr hp
  have hf:∀i,i<len->∃m:Lg,m.Small/\∀j,j<4->w.cell? ⟨b,off+i*4+j,none⟩=m.cells[j]?:=by
   intro i hi;obtain⟨es,n,y,hel,hcell,hy⟩:=hrow i hi;obtain⟨m,rfl,hs⟩:=znI hy;exact⟨m,hs,fun j hj=>by rw[hcell j hj];simp⟩
  obtain⟨ms,hl,hms⟩:=zb0 len hf;exact⟨_,cap,ms,by rw[hl],⟨by omega,fun i hi=>(hms i hi).1,fun _=>⟨b,off,rfl,hb,fun i hi=>(hms i hi).2⟩⟩⟩
theorem zn3 {fuel:Nat}{cs:List Value}{x:DataW H × List MemPlace}(h:DataW.trod enc Tryz.prog w base spare held fuel 113 cs=some x) :
 ∃m:Pu,cs=m.cells.toList/\m.Small:=by
 have hlen:cs.length=5:=by
  obtain⟨_,_,_,_,hl,_,_⟩:=DataW.trod_struct Tryz.underlying113 h;rw[hl];exact Tryz.zi9
 match cs,hlen with
 | [c0,c1,c2,c3,c4],_=>
  have hf:=zae Tryz.underlying113 h;obtain⟨_,_,f0⟩:=hf 0 9 0 c0 rfl Tryz.zS rfl;obtain⟨_,_,f1⟩:=hf 1 9 1 c1 rfl Tryz.zS rfl;obtain⟨_,_,f2⟩:=hf 2 9 2 c2 rfl Tryz.zS rfl;obtain⟨_,_,f3⟩:=hf 3 3 3 c3 rfl Tryz.jU rfl;obtain⟨_,_,f4⟩:=hf 4 3 4 c4 rfl Tryz.jU rfl;obtain⟨x0,e0,_,s0⟩:=DataW.trod_string Tryz.underlying9 f0;obtain⟨x1,e1,_,s1⟩:=DataW.trod_string Tryz.underlying9 f1;obtain⟨x2,e2,_,s2⟩:=DataW.trod_string Tryz.underlying9 f2;obtain⟨x3,e3,_,_⟩:=DataW.trod_int Tryz.underlying3 f3;obtain⟨x4,e4,_,_⟩:=DataW.trod_int Tryz.underlying3 f4;simp only[List.cons.injEq,and_true]at e0 e1 e2 e3 e4;subst e0 e1 e2 e3 e4;exact⟨⟨x0,x1,x2,x3,x4⟩,rfl,s0,s1,s2⟩
theorem zm9 {fuel:Nat}{cs:List Value}{x:DataW H × List MemPlace}(h:DataW.trod enc Tryz.prog w base spare held fuel 30 cs=some x) :
 ∃a cap ms,cs=[.slice a (List.length ms) cap]/\zcb w a ms:=by
 obtain⟨a,len,cap,rfl,hm,hr⟩:=zaU Tryz.underlying30 Tryz.zi9 (by omega) h
 rcases Nat.eq_zero_or_pos len with h0|hp
 ·subst h0
  exact⟨a,cap,[],rfl,⟨by simp[maxLen],fun i h=>absurd h (by simp),fun h=>absurd rfl h⟩⟩
 ·obtain⟨b,off,rfl,hb,hrow⟩:=hr hp
  have hf:∀i,i<len->∃m:Pu,m.Small/\∀j,j<5->w.cell? ⟨b,off+i*5+j,none⟩=m.cells[j]?:=by
   intro i hi;obtain⟨es,n,y,hel,hcell,hy⟩:=hrow i hi;obtain⟨m,rfl,hs⟩:=zn3 hy;exact⟨m,hs,fun j hj=>by rw[hcell j hj];simp⟩
  obtain⟨ms,hl,hms⟩:=zb0 len hf;exact⟨_,cap,ms,by rw[hl],⟨by omega,fun i hi=>(hms i hi).1,fun _=>⟨b,off,rfl,hb,fun i hi=>(hms i hi).2⟩⟩⟩
theorem zlU {fuel:Nat}{cs:List Value}{x:DataW H × List MemPlace}(h:DataW.trod enc Tryz.prog w base spare held fuel 27 cs=some x) :
 ∃a cap ms,cs=[.slice a (List.length ms) cap]/\zbA w a ms:=by
 obtain⟨a,len,cap,rfl,hm,hr⟩:=zaU Tryz.underlying27 Tryz.zh4 (by omega) h
 rcases Nat.eq_zero_or_pos len with h0|hp
 ·subst h0
  exact⟨a,cap,[],rfl,⟨by simp[maxLen],fun h=>absurd rfl h⟩⟩
 ·obtain⟨b,off,rfl,hb,hrow⟩:=hr hp
  have hf:∀i,i<len->∃o:Ob,∃a0 a1 c0 c1,zpk w b (off+i*7) o a0 a1 c0 c1:=by
   intro i hi;obtain⟨es,n,y,hel,hcell,hy⟩:=hrow i hi;obtain⟨o,a0,a1,c0,c1,rfl,hs⟩:=znb hy;exact⟨o,a0,a1,c0,c1,hs.small,hs.vals,hs.holds,fun j hj=>by rw[hcell j hj];simp[Ob.row]⟩
  obtain⟨ms,hl,hms⟩:=zb0 len hf;exact⟨_,cap,ms,by rw[hl],⟨by omega,fun _=>⟨b,off,rfl,hb,hms⟩⟩⟩
theorem zoy {fuel:Nat}{cs:List Value}{x:DataW H × List MemPlace}(h:DataW.trod enc Tryz.prog w base spare held fuel 108 cs=some x) :
 ∃(g:Gr) (a:Option Addr) (cap:Nat),cs=(g.cells a cap).toList/\g.Small/\ql w a g.r.vs:=by
 have hlen:cs.length=7:=by
  obtain⟨_,_,_,_,hl,_,_⟩:=DataW.trod_struct Tryz.underlying108 h;rw[hl];exact Tryz.zjw
 match cs,hlen with
 | [c0,c1,c2,c3,c4,c5,c6],_=>
  have hf:=zae Tryz.underlying108 h;obtain⟨_,_,f0⟩:=hf 0 3 0 c0 rfl Tryz.jU rfl;obtain⟨_,_,f1⟩:=hf 1 9 1 c1 rfl Tryz.zS rfl;obtain⟨_,_,f2⟩:=hf 2 9 2 c2 rfl Tryz.zS rfl;obtain⟨_,_,f3⟩:=zoz Tryz.underlying108 h 3 106 3 4 rfl Tryz.zlb;obtain⟨x0,e0,_,_⟩:=DataW.trod_int Tryz.underlying3 f0;obtain⟨x1,e1,_,s1⟩:=DataW.trod_string Tryz.underlying9 f1;obtain⟨x2,e2,_,s2⟩:=DataW.trod_string Tryz.underlying9 f2;obtain⟨r,a,cap,e3,hs,hI⟩:=zpD f3;simp only[List.cons.injEq,and_true]at e0 e1 e2;subst e0 e1 e2;have e3':[c3,c4,c5,c6]=(r.cells a cap).toList:=e3;unfold Rl.cells at e3';simp only[List.cons.injEq,and_true]at e3';obtain⟨e3,e4,e5,e6⟩:=e3';subst e3 e4 e5 e6;exact⟨⟨x0,x1,x2,r⟩,a,cap,rfl,⟨s1,s2,hs⟩,hI⟩
theorem zm3 {fuel:Nat}{cs:List Value}{x:DataW H × List MemPlace}(h:DataW.trod enc Tryz.prog w base spare held fuel 28 cs=some x) :
 ∃a cap ms,cs=[.slice a (List.length ms) cap]/\zcf w a ms:=by
 obtain⟨a,len,cap,rfl,hm,hr⟩:=zaU Tryz.underlying28 Tryz.zjw (by omega) h
 rcases Nat.eq_zero_or_pos len with h0|hp
 ·subst h0
  exact⟨a,cap,[],rfl,⟨by simp[maxLen],fun h=>absurd rfl h⟩⟩
 ·obtain⟨b,off,rfl,hb,hrow⟩:=hr hp
  have hf:∀i,i<len->∃g:Gr,∃a0 c0,zp4 w b (off+i*7) g a0 c0:=by
   intro i hi;obtain⟨es,n,y,hel,hcell,hy⟩:=hrow i hi;obtain⟨g,a0,c0,rfl,hs,hI⟩:=zoy hy;exact⟨g,a0,c0,hs,hI,fun j hj=>by rw[hcell j hj];simp⟩
  obtain⟨ms,hl,hms⟩:=zb0 len hf;exact⟨_,cap,ms,by rw[hl],⟨by omega,fun _=>⟨b,off,rfl,hb,hms⟩⟩⟩
theorem zpJ {fuel:Nat}{cs:List Value}{x:DataW H × List MemPlace}(h:DataW.trod enc Tryz.prog w base spare held fuel 32 cs=some x) :
 ∃(b:Bk) (a0 a1 a2 a3:Option Addr) (k0 k1 k2 k3:Nat),cs=(b.cells a0 a1 a2 a3 k0 k1 k2 k3).toList/\q8 w b a0 a1 a2 a3:=by
 have hlen:cs.length=7:=by
  obtain⟨_,_,_,_,hl,_,_⟩:=DataW.trod_struct Tryz.underlying32 h;rw[hl];exact Tryz.zpT
 match cs,hlen with
 | [c0,c1,c2,c3,c4,c5,c6],_=>
  have hf:=zae Tryz.underlying32 h;obtain⟨_,_,f0⟩:=hf 0 3 0 c0 rfl Tryz.jU rfl;obtain⟨_,_,f1⟩:=hf 1 3 1 c1 rfl Tryz.jU rfl;obtain⟨_,_,f2⟩:=hf 2 3 2 c2 rfl Tryz.jU rfl;obtain⟨_,_,f3⟩:=hf 3 27 3 c3 rfl Tryz.zlL rfl;obtain⟨_,_,f4⟩:=hf 4 28 4 c4 rfl Tryz.zmX rfl;obtain⟨_,_,f5⟩:=hf 5 29 5 c5 rfl Tryz.zlW rfl;obtain⟨_,_,f6⟩:=hf 6 30 6 c6 rfl Tryz.znJ rfl;obtain⟨x0,e0,_,_⟩:=DataW.trod_int Tryz.underlying3 f0;obtain⟨x1,e1,_,_⟩:=DataW.trod_int Tryz.underlying3 f1;obtain⟨x2,e2,_,_⟩:=DataW.trod_int Tryz.underlying3 f2;obtain⟨a0,k0,os,e3,hO⟩:=zlU f3;obtain⟨a1,k1,gs,e4,hG⟩:=zm3 f4;obtain⟨a2,k2,ls,e5,hL⟩:=zl3 f5;obtain⟨a3,k3,ps,e6,hP⟩:=zm9 f6;simp only[List.cons.injEq,and_true]at e0 e1 e2 e3 e4 e5 e6;subst e0 e1 e2 e3 e4 e5 e6;exact⟨⟨x0,x1,x2,os,gs,ls,ps⟩,a0,a1,a2,a3,k0,k1,k2,k3,rfl,⟨hO,hG,hL,hP⟩⟩
end
end Go.Proofs.YtkficnallnpjnaaGreat
