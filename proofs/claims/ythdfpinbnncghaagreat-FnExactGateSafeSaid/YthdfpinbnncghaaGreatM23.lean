import Derived.Test.YthdfpinbnncghaaGreatM17
import Derived.Shelf.Lay
import Derived.Shelf.LaySoft
import Derived.Shelf.LaysM
import Derived.Shelf.Small.Strs
import Derived.Test.YthdfpinbnncghaaGreatM19
set_option maxHeartbeats 4000000
namespace Go.Proofs
open Go.Shelf
shelf_lay Lays.n106 Nm 106 at Tryz as YthdfpinbnncghaaGreat.lays106
end Go.Proofs
namespace Go.Proofs.YthdfpinbnncghaaGreat
open Go.RowKit
def key (a b:BA):Int:=Lib.compareBytes a.data.toList b.data.toList
theorem zn0:∀a b:List UInt8,Lib.compareBytes a b=-1 \/ Lib.compareBytes a b=0 \/ Lib.compareBytes a b=1
 | [],[]=>by simp[Lib.compareBytes]
 | [],_ :: _=>by simp[Lib.compareBytes]
 | _ :: _,[]=>by simp[Lib.compareBytes]
 | a :: xs,b :: ys=>by
  simp only[Lib.compareBytes]
  split
  ·simp
  ·split
   ·simp
   ·exact zn0 xs ys
theorem znh:∀a b:List UInt8,Op.bytesLess a b=decide (Lib.compareBytes a b=-1)
 | [],[]=>by simp[Lib.compareBytes,Op.bytesLess]
 | [],_ :: _=>by simp[Lib.compareBytes,Op.bytesLess]
 | _ :: _,[]=>by simp[Lib.compareBytes,Op.bytesLess]
 | a :: xs,b :: ys=>by
  simp only[Lib.compareBytes,Op.bytesLess];rw[znh xs ys]
  by_cases h:a<b
  ·simp[h]
  ·by_cases h':b<a
   ·have hne:¬a=b:=fun e=>by subst e;exact h h'
    simp[h,h',hne]
   ·have he:a=b:=by
     have h1:¬a.toNat<b.toNat:=h;have h2:¬b.toNat<a.toNat:=h';exact UInt8.toNat_inj.1 (by omega)
    simp[he]
theorem zob:∀a b:List UInt8,Lib.compareBytes b a=- Lib.compareBytes a b
 | [],[]=>by simp[Lib.compareBytes]
 | [],_ :: _=>by simp[Lib.compareBytes]
 | _ :: _,[]=>by simp[Lib.compareBytes]
 | a :: xs,b :: ys=>by
  simp only[Lib.compareBytes]
  by_cases h:a<b
  ·have h':¬b<a:=fun h2=>absurd (UInt8.lt_trans h h2) (UInt8.lt_irrefl _)
   simp[h,h']
  ·by_cases h':b<a
   ·simp[h,h']
   ·simp[h,h',zob xs ys]
theorem zrA (a b:BA):key b a=- key a b:=zob _ _
theorem zkd (a b:BA):key a b=-1 \/ key a b=0 \/ key a b=1:=zn0 _ _
theorem zeV (a b:BA):less a b=decide (key a b=-1):=by
 unfold less key;rw[<- znh,ByteArray.toList_eq,ByteArray.toList_eq]
theorem znc:∀a b:List UInt8,Lib.compareBytes a b=0↔a=b
 | [],[]=>by simp[Lib.compareBytes]
 | [],_ :: _=>by simp[Lib.compareBytes]
 | _ :: _,[]=>by simp[Lib.compareBytes]
 | a :: xs,b :: ys=>by
  simp only[Lib.compareBytes]
  by_cases h:a<b
  ·have hne:¬a=b:=fun e=>by subst e;exact UInt8.lt_irrefl _ h
   simp[h,hne]
  ·by_cases h':b<a
   ·have hne:¬a=b:=fun e=>by subst e;exact UInt8.lt_irrefl _ h'
    simp[h,h',hne]
   ·have he:a=b:=by
     have h1:¬a.toNat<b.toNat:=h;have h2:¬b.toNat<a.toNat:=h';exact UInt8.toNat_inj.1 (by omega)
    simp[he,znc xs ys]
theorem zbP (a b:BA):key a b=0↔a=b:=by
 unfold key;rw[znc]
 constructor
 ·intro h
  cases a;cases b
  simp only at h
  rw[Array.toList_inj.1 h]
 ·rintro rfl;rfl
def zdE (vs:List Int):Int:=(vs.find? (fun v=>decide (¬v=0))).getD 0
theorem zlH (a b:Int):zdE [a,b]=if a=0 then b else a:=by
 unfold zdE
 by_cases h:a=0
 ·by_cases h2:b=0 <;> simp[h,h2]
 ·simp[h]
theorem znj (a b c:Int):zdE [a,b,c]=if a=0 then (if b=0 then c else b) else a:=by
 unfold zdE
 by_cases h:a=0
 ·by_cases h2:b=0
  ·by_cases h3:c=0 <;> simp[h,h2,h3]
  ·simp[h,h2]
 ·simp[h]
def key2 (a b c d:BA):Int:=if key a c=0 then key b d else key a c
def zcB (a b:Ob):Int:=key2 a.kd a.nm b.kd b.nm
def q9 (a b:Lg):Int:=key2 a.tm a.rs b.tm b.rs
def zaF (a b:Pu):Int:=if key a.dr b.dr=0 then key2 a.tm a.rs b.tm b.rs else key a.dr b.dr
theorem zdr (a b:BA)(w:World):Calls Tryz.prog 176 #[.s a,.s b] w fun e w'=>e=.returned (.i (key a b))/\w'=w:=
 Any.strings_Compare lays106 a b w
theorem zlI (a:OA)(cap:Nat)(vs:List Int)(w:World)(hw:yJ w a vs)(hl:vs.length<=100) :
 Calls Tryz.prog 216 #[.l a vs.length cap] w fun e w'=>e=.returned (.i (zdE vs))/\w'=w:=by
 go_enter Tryz.func216,Tryz.ntmps216;go_wp2_with fail
 go_loopw [8] (fun i wr=>∃k:Nat,k<=vs.length/\i=.i k/\Hid (∀v∈vs.take k,v=0)/\wr=w) (fun i _=>vs.length-(intOf i).toNat)
 case atStart=>exact⟨0,Nat.zero_le _,rfl,fun v hv=>by simp at hv,rfl⟩
 case round=>
  obtain⟨k,hk,rfl,hz,rfl⟩:=hrel
  by_cases hlt:k<vs.length
  ·obtain⟨b,off,rfl,hb,hck⟩:=hw.load (bRf _ _) k hlt
   have hltI:(k:Int)<(vs.length:Int):=by omega
   clear hw
   by_cases h0:vs[k]=0
   ·have e0:(vs[k] != 0)=false:=by simpa using h0
    have HZ:Hid (∀v∈vs.take (k+1),v=0):=by
     intro v hv;rw[tSe hlt,List.mem_append,List.mem_singleton]at hv
     rcases hv with hv|hv
     ·exact hz.out v hv
     ·rw[hv];exact h0
    clear h0;go_wp2_with fail
    exact⟨⟨k+1,by omega,by go_num,HZ.o,trivial⟩,by simp[intOf];omega⟩
   ·have e0:(vs[k] != 0)=true:=by simpa using h0
    have HF:Hid (zdE vs=vs[k]):=by
     unfold Hid zdE;have e:vs=vs.take k++vs[k] :: vs.drop (k+1):=by rw[<- List.drop_eq_getElem_cons hlt,List.take_append_drop]
     have hn:(vs.take k).find? (fun v=>decide (¬v=0))=none:=by
      rw[List.find?_eq_none];intro v hv;simp[hz.out v hv]
     have:vs.find? (fun v=>decide (¬v=0))=some vs[k]:=by
      rw[List.find?_eq_some_iff_append];refine⟨by simpa using h0,vs.take k,vs.drop (k+1),e,fun v hv=>by simp[hz.out v hv]⟩
     rw[this];rfl
    clear h0;go_wp2_with fail
    go_ret;exact⟨zk HF.o.symm,rfl⟩
  ·have HF:Hid (zdE vs=0):=by
    unfold Hid zdE;have h:=hz.out;rw[tOl (by omega)]at h
    have:vs.find? (fun v=>decide (¬v=0))=none:=by
     rw[List.find?_eq_none];intro v hv;simp[h v hv]
    rw[this];rfl
   clear hw;go_wp2_with fail
   go_ret;exact⟨zk HF.o.symm,rfl⟩
end Go.Proofs.YthdfpinbnncghaaGreat
namespace Go.Proofs.YthdfpinbnncghaaGreat
open Go.RowKit
theorem zim (s:BA):(0<jg s/\zaJ s=jg s) \/ (¬0<jg s/\zaJ s=0):=by
 unfold jg zaJ
 by_cases h:zat s=true
 ·rw[if_pos h,if_pos h]
  have:=zdx s h
  omega
 ·rw[if_neg h,if_neg h]
  omega
theorem zkZ (l:Lw)(la lb lc:OA)(lca lcb lcc:Nat)(o:Ob)(oa oa':OA)(ocap ocap':Nat)(res:BA)(w:World)(hl:yH w l la lb lc)(ho:zab w o oa oa')(hc:¬(zH l.ss o=true/\res.toList.isEmpty=false)) :
 Calls Tryz.prog 143 #[.agg (l.cells la lb lc lca lcb lcc),.agg #[.s o.kd,.s o.nm,.s o.tm,.l oa o.vs.length ocap,.bool o.en,.l oa' o.hs.length ocap',.i o.vr],.s res] w fun e w'=>e=.returned (.i (je l.ss o res))/\Bw w w':=by
 have HL:=hid hl;have HO:=hid ho;have HW:Hid (je l.ss o res=0):=by unfold Hid je;rw[if_neg hc]
 have HC:=hid hc;clear hl ho hc;unfold Lw.cells
 by_cases hk:zH l.ss o=true
 ·have he:res.toList.isEmpty=true:=by
   cases h:res.toList.isEmpty with
   | true=>rfl
   | false=>exact absurd ⟨hk,h⟩ HC.o
  have HK:=hid hk;clear hk;go_enter Tryz.func143,Tryz.ntmps143;go_wp2_with fail
  refine(jE _ _ l.ss o _ _ _ _ _ (HL.o.ss.mono (zx _ _ _)) (HO.o.mono (zx _ _ _)) HK.o).mono ?_;rintro e w1⟨fa,fcap,rfl,hfl,hb⟩;have HB1:Hid (Bw w w1):=(zx w _ _).trans (hb.mono (by simp;omega));clear hfl hb;go_wp2_with fail
  go_ret;exact⟨zk HW.o.symm,HB1.o⟩
 ·have HK:Hid (zH l.ss o=false):=by unfold Hid;simpa using hk
  clear hk;go_enter Tryz.func143,Tryz.ntmps143;go_wp2_with fail
  refine(zdC _ _ l.ss o _ _ _ _ _ (HL.o.ss.mono (zx _ _ _)) (HO.o.mono (zx _ _ _)) HK.o).mono ?_;rintro e w1⟨v,rfl,hb⟩;have HB1:Hid (Bw w w1):=(zx w _ _).trans (hb.mono (by simp;omega));clear hb;go_wp2_with fail
  go_ret;exact⟨zk HW.o.symm,HB1.o⟩
theorem zkC (l:Lw)(la lb lc:OA)(lca lcb lcc:Nat)(o:Ob)(oa oa':OA)(ocap ocap':Nat)(res:BA)(w:World)(hl:yH w l la lb lc)(ho:zab w o oa oa')(hc:zH l.ss o=true)(he:res.toList.isEmpty=false)(hlen:o.vs.length<=1048576) :
 Calls Tryz.prog 143 #[.agg (l.cells la lb lc lca lcb lcc),.agg #[.s o.kd,.s o.nm,.s o.tm,.l oa o.vs.length ocap,.bool o.en,.l oa' o.hs.length ocap',.i o.vr],.s res] w fun e w'=>e=.returned (.i (je l.ss o res))/\Bw w w':=by
 have HL:=hid hl;have HO:=hid ho;have HW:Hid (je l.ss o res=(if res=o.kd then 1 else 0)+zes (shapeOf l.ss o.kd).fs o.vs res (shapeOf l.ss o.kd).fs.length):=by unfold Hid je;rw[if_pos ⟨hc,he⟩]
 have HC:=hid hc;have HK:Hid (zC l.ss o.kd=true/\o.vs.length=(shapeOf l.ss o.kd).fs.length):=by unfold zH at hc;unfold Hid;simpa using hc
 have HN:=hid hlen;clear hl ho hc hlen;unfold Lw.cells;go_enter Tryz.func143,Tryz.ntmps143;go_wp2_with fail
 refine(jE _ _ l.ss o _ _ _ _ _ (HL.o.ss.mono (zx _ _ _)) (HO.o.mono (zx _ _ _)) HC.o).mono ?_;rintro e w1⟨fa,fcap,rfl,hfl,hb⟩;obtain⟨hX0,hY0⟩:=jC w #[.l la l.ss.length lca,.l lb l.ms.length lcb,.l lc l.ts.length lcc] (oC o oa oa' ocap ocap') 44 145;have hY1:=za hY0 (by simp) hb;have hz1:w.heap.size+1<w1.heap.size:=by have:=hb.size;simp at this;omega
 have HB1:Hid (Bw w w1):=(zx w _ _).trans (hb.mono (by simp;omega));have HFl:=hid (hfl.mono hb);clear hfl hb hX0 hY0;obtain⟨S,HS⟩:∃S,Hid (S=shapeOf l.ss o.kd):=⟨_,rfl⟩
 rw[<- HS.o]at HFl HK HW ⊢;obtain⟨n0,hn0⟩:∃n0:Int,n0=if res=o.kd then 1 else 0:=⟨_,rfl⟩
 have hb0:0<=n0/\n0<=1:=by rw[hn0];split <;> omega
 rw[<- hn0]at HW;have HN0:=hid hn0;clear hn0
 by_cases hk:res=o.kd
 all_goals (
  first
  | (have hq:(res.toList == o.kd.toList)=true:=by rw[beq_toList];simpa using hk)
  | (have hq:(res.toList == o.kd.toList)=false:=by rw[beq_toList];simpa using hk)
  have HKE:=zkN hk;clear hk;go_wp2_with fail
  go_loopw [9,10] (fun nv iv wr=>∃(k:Nat) (s:Int),k<=S.fs.length/\iv=.i k/\nv=.i s/\Hid (s=n0+zes S.fs o.vs res k/\Bw w1 wr)) (fun _ iv _=>S.fs.length-(intOf iv).toNat)
  case atStart=>exact⟨0,n0,Nat.zero_le _,rfl,by have:=HN0.o;first|(rw[if_pos HKE.o]at this;rw[this])|(rw[if_neg HKE.o]at this;rw[this]),by simp[zes],bRf _ _⟩
  case round=>
   obtain⟨k,s,hk,rfl,rfl,HQ⟩:=hrel;have hsb:0<=s/\s<=1+k*10000000:=by have h1:=HQ.o.1;have h2:=zc2 S.fs o.vs res k;omega
   have hkn:k<=1048576:=by have:=HN.o;have:=HK.o.2;omega
   by_cases hlt:k<S.fs.length
   ·obtain⟨b,off,rfl,hb,hr⟩:=HFl.o.rows (by intro e;rw[e]at hlt;simp at hlt)
    obtain⟨wa,wcap,hf⟩:=hr k hlt;obtain⟨c0,c1,c2,c3,c4,c5,c6,c7,c8,c9,c10⟩:=(hf.mono hb HQ.o.2).load;have hlv:k<o.vs.length:=by have:=HK.o.2;omega
    have hltI:(k:Int)<(S.fs.length:Int):=by omega
    have hlvI:(k:Int)<(o.vs.length:Int):=by omega
    obtain⟨vb,voff,rfl,hvb,hvc0⟩:=HO.o.vals.cells (by intro e;rw[e]at hlv;simp at hlv);have hvc:=((HB1.o.trans (HQ.o.2.mono HB1.o.size)).cell (p:=(aD vb (voff+k))) hvb).trans (hvc0 k hlv);have hvb':=nLt hvb (HB1.o.trans (HQ.o.2.mono HB1.o.size)).size;have hb':=nLt hb HQ.o.2.size;have hY:=za hY1 hz1 HQ.o.2;have hz:=nLt hz1 HQ.o.2.size;have HSt:Hid (zes S.fs o.vs res (k+1)=zes S.fs o.vs res k+yS S.fs[k] o.vs[k] res):=zpY S.fs o.vs res k hlt hlv;have HVs:Hid (o.vs[k].size<=maxLen):=HO.o.vals.small _ (List.getElem_mem _)
    have hnr:-1<=jg o.vs[k]/\jg o.vs[k]<=10000000:=by
     have h1:=zim o.vs[k];have h2:=zeq o.vs[k]
     have h3:jg o.vs[k]=-1 \/ 0<=jg o.vs[k]:=by
      unfold jg;split
      ·rename_i h;exact Or.inr (zdx _ h)
      ·exact Or.inl rfl
     omega
    clear hf hr hvc0 c0 c2 c3 c4 c5 c6 c7 c8 c9;go_wp2_with fail
    refine(zen o.vs[k] _ HVs.o).mono ?_;rintro e w2⟨rfl,rfl⟩
    by_cases h1:S.fs[k].kd=1
    ·have e1:(S.fs[k].kd == 1)=true:=by simpa using h1
     by_cases h2:S.fs[k].wg=res
     ·have e2:(S.fs[k].wg.toList == res.toList)=true:=by rw[beq_toList];simpa using h2
      have HFw:Hid (yS S.fs[k] o.vs[k] res=zaJ o.vs[k]):=by unfold Hid yS;rw[if_pos ⟨h1,h2⟩]
      clear h1 h2
      rcases zim o.vs[k] with⟨hp,hd⟩|⟨hp,hd⟩
      ·have HD:=zkN hd
       have hpd:decide (0<jg o.vs[k])=true:=by simpa using hp
       clear hd;go_wp2_with fail
       first
        | exact⟨⟨k+1,s+jg o.vs[k],by omega,by go_num,by go_num,by rw[HSt.o,HFw.o,HQ.o.1,HD.o];omega,HQ.o.2⟩,zw hlt⟩
        | (go_quiet (fail);go_wp2_with fail;exact⟨⟨k+1,s+jg o.vs[k],by omega,by go_num,by go_num,by rw[HSt.o,HFw.o,HQ.o.1,HD.o];omega,below_drewN HQ.o.2 _⟩,zw hlt⟩)
      ·have HD:=zkN hd
       have hpd:decide (0<jg o.vs[k])=false:=by simpa using hp
       clear hd;go_wp2_with fail
       first
        | exact⟨⟨k+1,s,by omega,by go_num,rfl,by rw[HSt.o,HFw.o,HQ.o.1,HD.o];omega,HQ.o.2⟩,zw hlt⟩
        | (go_quiet (fail);go_wp2_with fail;exact⟨⟨k+1,s,by omega,by go_num,rfl,by rw[HSt.o,HFw.o,HQ.o.1,HD.o];omega,below_drewN HQ.o.2 _⟩,zw hlt⟩)
     ·have e2:(S.fs[k].wg.toList == res.toList)=false:=by rw[beq_toList];simpa using h2
      have HFw:Hid (yS S.fs[k] o.vs[k] res=0):=by unfold Hid yS;rw[if_neg (fun h=>h2 h.2)]
      clear h1 h2;go_wp2_with fail
      first
       | exact⟨⟨k+1,s,by omega,by go_num,rfl,by rw[HSt.o,HFw.o,HQ.o.1];omega,HQ.o.2⟩,zw hlt⟩
       | (go_quiet (fail);go_wp2_with fail;exact⟨⟨k+1,s,by omega,by go_num,rfl,by rw[HSt.o,HFw.o,HQ.o.1];omega,below_drewN HQ.o.2 _⟩,zw hlt⟩)
    ·have e1:(S.fs[k].kd == 1)=false:=by simpa using h1
     have HFw:Hid (yS S.fs[k] o.vs[k] res=0):=by unfold Hid yS;rw[if_neg (fun h=>h1 h.1)]
     clear h1;go_wp2_with fail
     first
      | exact⟨⟨k+1,s,by omega,by go_num,rfl,by rw[HSt.o,HFw.o,HQ.o.1];omega,HQ.o.2⟩,zw hlt⟩
      | (go_quiet (fail);go_wp2_with fail;exact⟨⟨k+1,s,by omega,by go_num,rfl,by rw[HSt.o,HFw.o,HQ.o.1];omega,below_drewN HQ.o.2 _⟩,zw hlt⟩)
   ·have e:k=S.fs.length:=by omega
    subst e;have HE:Hid (je l.ss o res=s):=by unfold Hid;rw[HW.o,HQ.o.1]
    clear hlt hk;go_wp2_with fail
    go_ret;exact⟨zk HE.o.symm,HB1.o.trans (HQ.o.2.mono HB1.o.size)⟩)
theorem zjF (l:Lw)(la lb lc:OA)(lca lcb lcc:Nat)(o:Ob)(oa oa':OA)(ocap ocap':Nat)(res:BA)(w:World)(hl:yH w l la lb lc)(ho:zab w o oa oa')(hlen:o.vs.length<=1048576) :
 Calls Tryz.prog 252 #[.agg (l.cells la lb lc lca lcb lcc),.agg #[.s o.kd,.s o.nm,.s o.tm,.l oa o.vs.length ocap,.bool o.en,.l oa' o.hs.length ocap',.i o.vr],.s res] w fun e w'=>e=.returned (.i (je l.ss o res))/\Bw w w':=by
 by_cases hc:zH l.ss o=true/\res.toList.isEmpty=false
 ·exact zjU l la lb lc lca lcb lcc o oa oa' ocap ocap' res w hl ho hc.1 hc.2 hlen
 ·exact zlb l la lb lc lca lcb lcc o oa oa' ocap ocap' res w hl ho hc
theorem zjJ (l:Lw)(la lb lc:OA)(lca lcb lcc:Nat)(o:Ob)(oa oa':OA)(ocap ocap':Nat)(res:BA)(w:World)(hl:yH w l la lb lc)(ho:zab w o oa oa')(hlen:o.vs.length<=1048576) :
 Calls Tryz.prog 143 #[.agg (l.cells la lb lc lca lcb lcc),.agg #[.s o.kd,.s o.nm,.s o.tm,.l oa o.vs.length ocap,.bool o.en,.l oa' o.hs.length ocap',.i o.vr],.s res] w fun e w'=>e=.returned (.i (je l.ss o res))/\Bw w w':=by
 by_cases hc:zH l.ss o=true/\res.toList.isEmpty=false
 ·exact zkC l la lb lc lca lcb lcc o oa oa' ocap ocap' res w hl ho hc.1 hc.2 hlen
 ·exact zkZ l la lb lc lca lcb lcc o oa oa' ocap ocap' res w hl ho hc
theorem zgW {r:Rl}(h:zQ r=true):yZ r.vs=true:=by
 unfold zQ at h;simp only[Bool.and_eq_true]at h;exact h.2.1
end Go.Proofs.YthdfpinbnncghaaGreat
namespace Go.Proofs.YthdfpinbnncghaaGreat
open Go.ChangeShapes Go.WideShapes Go.ChangeAt Go.RowKit
theorem Tryz.ziv:Tryz.prog.cellsOf 119=4:=by kernel_rfl
theorem Tryz.zkc:Tryz.prog.cellsOf 122=5:=by kernel_rfl
theorem Tryz.zjT:Tryz.prog.cellsOf 116=7:=by kernel_rfl
theorem Tryz.zhV:Tryz.prog.cellsOf 32=7:=by kernel_rfl
theorem Tryz.zmJ:Tryz.prog.cellsOf 27=1:=by kernel_rfl
theorem Tryz.znE:Tryz.prog.cellsOf 28=1:=by kernel_rfl
theorem Tryz.zmA:Tryz.prog.cellsOf 29=1:=by kernel_rfl
theorem Tryz.zoy:Tryz.prog.cellsOf 30=1:=by kernel_rfl
section
variable {H:Type} {enc:TypeId × Value->H} {w:World} {base:Nat} {spare:Nat->Bool} {held:Bool}
theorem zpl {P:Program}{t:TypeId}{fs:Array Field}{fuel:Nat}{cs:List Value}{x:DataW H × List MemPlace}(ht:P.underlying t=some (.struct fs))(h:DataW.trod enc P w base spare held fuel t cs=some x)
 (i tf off n:Nat) (hf:(fs[i]?).map (fun f=>(f.type,f.offset))=some (tf,off)) (hn:P.cellsOf tf=n):∃m y,DataW.trod enc P w base spare held m tf ((cs.drop off).take n)=some y:=by
 obtain⟨f,hf1,hf2⟩:=Option.map_eq_some_iff.1 hf;simp only[Prod.mk.injEq]at hf2;obtain⟨rfl,rfl⟩:=hf2;subst hn;exact zgi ht h i f hf1
theorem zm1 {fuel:Nat}{cs:List Value}{x:DataW H × List MemPlace}(h:DataW.trod enc Tryz.prog w base spare held fuel 119 cs=some x) :
 ∃m:Lg,cs=m.cells.toList/\m.Small:=by
 have hlen:cs.length=4:=by
  obtain⟨_,_,_,_,hl,_,_⟩:=DataW.trod_struct Tryz.underlying119 h;rw[hl];exact Tryz.ziv
 match cs,hlen with
 | [c0,c1,c2,c3],_=>
  have hf:=jo Tryz.underlying119 h;obtain⟨_,_,f0⟩:=hf 0 9 0 c0 rfl Tryz.zK rfl;obtain⟨_,_,f1⟩:=hf 1 9 1 c1 rfl Tryz.zK rfl;obtain⟨_,_,f2⟩:=hf 2 3 2 c2 rfl Tryz.jd rfl;obtain⟨_,_,f3⟩:=hf 3 3 3 c3 rfl Tryz.jd rfl;obtain⟨x0,e0,_,s0⟩:=DataW.trod_string Tryz.underlying9 f0;obtain⟨x1,e1,_,s1⟩:=DataW.trod_string Tryz.underlying9 f1;obtain⟨x2,e2,_,_⟩:=DataW.trod_int Tryz.underlying3 f2;obtain⟨x3,e3,_,_⟩:=DataW.trod_int Tryz.underlying3 f3;simp only[List.cons.injEq,and_true]at e0 e1 e2 e3;subst e0 e1 e2 e3;exact⟨⟨x0,x1,x2,x3⟩,rfl,s0,s1⟩
theorem zmm {fuel:Nat}{cs:List Value}{x:DataW H × List MemPlace}(h:DataW.trod enc Tryz.prog w base spare held fuel 29 cs=some x) :
 ∃a cap ms,cs=[.l a (List.length ms) cap]/\zc5 w a ms:=by
 obtain⟨a,len,cap,rfl,hm,hr⟩:=zad Tryz.underlying29 Tryz.ziv (by omega) h
 rcases Nat.eq_zero_or_pos len with h0|hp
 ·subst h0
  exact⟨a,cap,[],rfl,⟨by simp[maxLen],fun i h=>absurd h (by simp),fun h=>absurd rfl h⟩⟩
 ·obtain⟨b,off,rfl,hb,hrow⟩:=hr hp
  have hf:∀i,i<len->∃m:Lg,m.Small/\∀j,j<4->w.cell? (aD b (off+i*4+j))=m.cells[j]?:=by
   intro i hi;obtain⟨es,n,y,hel,hcell,hy⟩:=hrow i hi;obtain⟨m,rfl,hs⟩:=zm1 hy;exact⟨m,hs,fun j hj=>by rw[hcell j hj];simp⟩
  obtain⟨ms,hl,hms⟩:=za9 len hf;exact⟨_,cap,ms,by rw[hl],⟨by omega,fun i hi=>(hms i hi).1,fun _=>⟨b,off,rfl,hb,fun i hi=>(hms i hi).2⟩⟩⟩
theorem zps {fuel:Nat}{cs:List Value}{x:DataW H × List MemPlace}(h:DataW.trod enc Tryz.prog w base spare held fuel 122 cs=some x) :
 ∃m:Pu,cs=m.cells.toList/\m.Small:=by
 have hlen:cs.length=5:=by
  obtain⟨_,_,_,_,hl,_,_⟩:=DataW.trod_struct Tryz.underlying122 h;rw[hl];exact Tryz.zkc
 match cs,hlen with
 | [c0,c1,c2,c3,c4],_=>
  have hf:=jo Tryz.underlying122 h;obtain⟨_,_,f0⟩:=hf 0 9 0 c0 rfl Tryz.zK rfl;obtain⟨_,_,f1⟩:=hf 1 9 1 c1 rfl Tryz.zK rfl;obtain⟨_,_,f2⟩:=hf 2 9 2 c2 rfl Tryz.zK rfl;obtain⟨_,_,f3⟩:=hf 3 3 3 c3 rfl Tryz.jd rfl;obtain⟨_,_,f4⟩:=hf 4 3 4 c4 rfl Tryz.jd rfl;obtain⟨x0,e0,_,s0⟩:=DataW.trod_string Tryz.underlying9 f0;obtain⟨x1,e1,_,s1⟩:=DataW.trod_string Tryz.underlying9 f1;obtain⟨x2,e2,_,s2⟩:=DataW.trod_string Tryz.underlying9 f2;obtain⟨x3,e3,_,_⟩:=DataW.trod_int Tryz.underlying3 f3;obtain⟨x4,e4,_,_⟩:=DataW.trod_int Tryz.underlying3 f4;simp only[List.cons.injEq,and_true]at e0 e1 e2 e3 e4;subst e0 e1 e2 e3 e4;exact⟨⟨x0,x1,x2,x3,x4⟩,rfl,s0,s1,s2⟩
theorem znV {fuel:Nat}{cs:List Value}{x:DataW H × List MemPlace}(h:DataW.trod enc Tryz.prog w base spare held fuel 30 cs=some x) :
 ∃a cap ms,cs=[.l a (List.length ms) cap]/\zdV w a ms:=by
 obtain⟨a,len,cap,rfl,hm,hr⟩:=zad Tryz.underlying30 Tryz.zkc (by omega) h
 rcases Nat.eq_zero_or_pos len with h0|hp
 ·subst h0
  exact⟨a,cap,[],rfl,⟨by simp[maxLen],fun i h=>absurd h (by simp),fun h=>absurd rfl h⟩⟩
 ·obtain⟨b,off,rfl,hb,hrow⟩:=hr hp
  have hf:∀i,i<len->∃m:Pu,m.Small/\∀j,j<5->w.cell? (aD b (off+i*5+j))=m.cells[j]?:=by
   intro i hi;obtain⟨es,n,y,hel,hcell,hy⟩:=hrow i hi;obtain⟨m,rfl,hs⟩:=zps hy;exact⟨m,hs,fun j hj=>by rw[hcell j hj];simp⟩
  obtain⟨ms,hl,hms⟩:=za9 len hf;exact⟨_,cap,ms,by rw[hl],⟨by omega,fun i hi=>(hms i hi).1,fun _=>⟨b,off,rfl,hb,fun i hi=>(hms i hi).2⟩⟩⟩
theorem zmD {fuel:Nat}{cs:List Value}{x:DataW H × List MemPlace}(h:DataW.trod enc Tryz.prog w base spare held fuel 27 cs=some x) :
 ∃a cap ms,cs=[.l a (List.length ms) cap]/\zcx w a ms:=by
 obtain⟨a,len,cap,rfl,hm,hr⟩:=zad Tryz.underlying27 Tryz.zie (by omega) h
 rcases Nat.eq_zero_or_pos len with h0|hp
 ·subst h0
  exact⟨a,cap,[],rfl,⟨by simp[maxLen],fun h=>absurd rfl h⟩⟩
 ·obtain⟨b,off,rfl,hb,hrow⟩:=hr hp
  have hf:∀i,i<len->∃o:Ob,∃a0 a1 c0 c1,zqN w b (off+i*7) o a0 a1 c0 c1:=by
   intro i hi;obtain⟨es,n,y,hel,hcell,hy⟩:=hrow i hi;obtain⟨o,a0,a1,c0,c1,rfl,hs⟩:=zm9 hy;exact⟨o,a0,a1,c0,c1,hs.small,hs.vals,hs.holds,fun j hj=>by rw[hcell j hj];simp[Ob.row]⟩
  obtain⟨ms,hl,hms⟩:=za9 len hf;exact⟨_,cap,ms,by rw[hl],⟨by omega,fun _=>⟨b,off,rfl,hb,hms⟩⟩⟩
theorem zpr {fuel:Nat}{cs:List Value}{x:DataW H × List MemPlace}(h:DataW.trod enc Tryz.prog w base spare held fuel 116 cs=some x) :
 ∃(g:Gr) (a:OA) (cap:Nat),cs=(g.cells a cap).toList/\g.Small/\yJ w a g.r.vs:=by
 have hlen:cs.length=7:=by
  obtain⟨_,_,_,_,hl,_,_⟩:=DataW.trod_struct Tryz.underlying116 h;rw[hl];exact Tryz.zjT
 match cs,hlen with
 | [c0,c1,c2,c3,c4,c5,c6],_=>
  have hf:=jo Tryz.underlying116 h;obtain⟨_,_,f0⟩:=hf 0 3 0 c0 rfl Tryz.jd rfl;obtain⟨_,_,f1⟩:=hf 1 9 1 c1 rfl Tryz.zK rfl;obtain⟨_,_,f2⟩:=hf 2 9 2 c2 rfl Tryz.zK rfl;obtain⟨_,_,f3⟩:=zpl Tryz.underlying116 h 3 114 3 4 rfl Tryz.zhR;obtain⟨x0,e0,_,_⟩:=DataW.trod_int Tryz.underlying3 f0;obtain⟨x1,e1,_,s1⟩:=DataW.trod_string Tryz.underlying9 f1;obtain⟨x2,e2,_,s2⟩:=DataW.trod_string Tryz.underlying9 f2;obtain⟨r,a,cap,e3,hs,hI⟩:=zlS f3;simp only[List.cons.injEq,and_true]at e0 e1 e2;subst e0 e1 e2;have e3':[c3,c4,c5,c6]=(r.cells a cap).toList:=e3;unfold Rl.cells at e3';simp only[List.cons.injEq,and_true]at e3';obtain⟨e3,e4,e5,e6⟩:=e3';subst e3 e4 e5 e6;exact⟨⟨x0,x1,x2,r⟩,a,cap,rfl,⟨s1,s2,hs⟩,hI⟩
theorem zog {fuel:Nat}{cs:List Value}{x:DataW H × List MemPlace}(h:DataW.trod enc Tryz.prog w base spare held fuel 28 cs=some x) :
 ∃a cap ms,cs=[.l a (List.length ms) cap]/\zbN w a ms:=by
 obtain⟨a,len,cap,rfl,hm,hr⟩:=zad Tryz.underlying28 Tryz.zjT (by omega) h
 rcases Nat.eq_zero_or_pos len with h0|hp
 ·subst h0
  exact⟨a,cap,[],rfl,⟨by simp[maxLen],fun h=>absurd rfl h⟩⟩
 ·obtain⟨b,off,rfl,hb,hrow⟩:=hr hp
  have hf:∀i,i<len->∃g:Gr,∃a0 c0,zrK w b (off+i*7) g a0 c0:=by
   intro i hi;obtain⟨es,n,y,hel,hcell,hy⟩:=hrow i hi;obtain⟨g,a0,c0,rfl,hs,hI⟩:=zpr hy;exact⟨g,a0,c0,hs,hI,fun j hj=>by rw[hcell j hj];simp⟩
  obtain⟨ms,hl,hms⟩:=za9 len hf;exact⟨_,cap,ms,by rw[hl],⟨by omega,fun _=>⟨b,off,rfl,hb,hms⟩⟩⟩
theorem zhz {fuel:Nat}{cs:List Value}{x:DataW H × List MemPlace}(h:DataW.trod enc Tryz.prog w base spare held fuel 32 cs=some x) :
 ∃(b:Bk) (a0 a1 a2 a3:OA) (k0 k1 k2 k3:Nat),cs=(b.cells a0 a1 a2 a3 k0 k1 k2 k3).toList/\jU w b a0 a1 a2 a3:=by
 have hlen:cs.length=7:=by
  obtain⟨_,_,_,_,hl,_,_⟩:=DataW.trod_struct Tryz.underlying32 h;rw[hl];exact Tryz.zhV
 match cs,hlen with
 | [c0,c1,c2,c3,c4,c5,c6],_=>
  have hf:=jo Tryz.underlying32 h;obtain⟨_,_,f0⟩:=hf 0 3 0 c0 rfl Tryz.jd rfl;obtain⟨_,_,f1⟩:=hf 1 3 1 c1 rfl Tryz.jd rfl;obtain⟨_,_,f2⟩:=hf 2 3 2 c2 rfl Tryz.jd rfl;obtain⟨_,_,f3⟩:=hf 3 27 3 c3 rfl Tryz.zmJ rfl;obtain⟨_,_,f4⟩:=hf 4 28 4 c4 rfl Tryz.znE rfl;obtain⟨_,_,f5⟩:=hf 5 29 5 c5 rfl Tryz.zmA rfl;obtain⟨_,_,f6⟩:=hf 6 30 6 c6 rfl Tryz.zoy rfl;obtain⟨x0,e0,_,_⟩:=DataW.trod_int Tryz.underlying3 f0;obtain⟨x1,e1,_,_⟩:=DataW.trod_int Tryz.underlying3 f1;obtain⟨x2,e2,_,_⟩:=DataW.trod_int Tryz.underlying3 f2;obtain⟨a0,k0,os,e3,hO⟩:=zmD f3;obtain⟨a1,k1,gs,e4,hG⟩:=zog f4;obtain⟨a2,k2,ls,e5,hL⟩:=zmm f5;obtain⟨a3,k3,ps,e6,hP⟩:=znV f6;simp only[List.cons.injEq,and_true]at e0 e1 e2 e3 e4 e5 e6;subst e0 e1 e2 e3 e4 e5 e6;exact⟨⟨x0,x1,x2,os,gs,ls,ps⟩,a0,a1,a2,a3,k0,k1,k2,k3,rfl,⟨hO,hG,hL,hP⟩⟩
end
end Go.Proofs.YthdfpinbnncghaaGreat
namespace Go.Proofs.YthdfpinbnncghaaGreat
open Go.ChangeShapes Go.WideShapes Go.ChangeAt Go.RowKit
theorem Tryz.zlQ:Tryz.prog.cellsOf 318=3:=by kernel_rfl
theorem Tryz.zph:Tryz.prog.cellsOf 214=1:=by kernel_rfl
theorem Tryz.zlO:Tryz.prog.cellsOf 216=18:=by kernel_rfl
section
variable {H:Type} {enc:TypeId × Value->H} {w:World} {base:Nat} {spare:Nat->Bool} {held:Bool}
theorem zqR {fuel:Nat}{cs:List Value}{x:DataW H × List MemPlace}(h:DataW.trod enc Tryz.prog w base spare held fuel 318 cs=some x) :
 ∃m:Wt,cs=m.cells.toList/\m.Small:=by
 have hlen:cs.length=3:=by
  obtain⟨_,_,_,_,hl,_,_⟩:=DataW.trod_struct Tryz.underlying318 h;rw[hl];exact Tryz.zlQ
 match cs,hlen with
 | [c0,c1,c2],_=>
  have hf:=jo Tryz.underlying318 h;obtain⟨_,_,f0⟩:=hf 0 9 0 c0 rfl Tryz.zK rfl;obtain⟨_,_,f1⟩:=hf 1 9 1 c1 rfl Tryz.zK rfl;obtain⟨_,_,f2⟩:=hf 2 3 2 c2 rfl Tryz.jd rfl;obtain⟨x0,e0,_,s0⟩:=DataW.trod_string Tryz.underlying9 f0;obtain⟨x1,e1,_,s1⟩:=DataW.trod_string Tryz.underlying9 f1;obtain⟨x2,e2,_,_⟩:=DataW.trod_int Tryz.underlying3 f2;simp only[List.cons.injEq,and_true]at e0 e1 e2;subst e0 e1 e2;exact⟨⟨x0,x1,x2⟩,rfl,s0,s1⟩
theorem zpa {fuel:Nat}{cs:List Value}{x:DataW H × List MemPlace}(h:DataW.trod enc Tryz.prog w base spare held fuel 214 cs=some x) :
 ∃a cap ms,cs=[.l a (List.length ms) cap]/\zc8 w a ms:=by
 obtain⟨a,len,cap,rfl,hm,hr⟩:=zad Tryz.underlying214 Tryz.zlQ (by omega) h
 rcases Nat.eq_zero_or_pos len with h0|hp
 ·subst h0
  exact⟨a,cap,[],rfl,⟨by simp[maxLen],fun i h=>absurd h (by simp),fun h=>absurd rfl h⟩⟩
 ·obtain⟨b,off,rfl,hb,hrow⟩:=hr hp
  have hf:∀i,i<len->∃m:Wt,m.Small/\∀j,j<3->w.cell? (aD b (off+i*3+j))=m.cells[j]?:=by
   intro i hi;obtain⟨es,n,y,hel,hcell,hy⟩:=hrow i hi;obtain⟨m,rfl,hs⟩:=zqR hy;exact⟨m,hs,fun j hj=>by rw[hcell j hj];simp⟩
  obtain⟨ms,hl,hms⟩:=za9 len hf;exact⟨_,cap,ms,by rw[hl],⟨by omega,fun i hi=>(hms i hi).1,fun _=>⟨b,off,rfl,hb,fun i hi=>(hms i hi).2⟩⟩⟩
theorem zqI {fuel:Nat}{cs:List Value}{x:DataW H × List MemPlace}(h:DataW.trod enc Tryz.prog w base spare held fuel 216 cs=some x) :
 ∃(k:Sl) (a0 a1 a2 a3:OA) (q0 q1 q2 q3:Nat),cs=(k.cells a0 a1 a2 a3 q0 q1 q2 q3).toList/\zdo w k a0 a1 a2 a3:=by
 have hlen:cs.length=18:=by
  obtain⟨_,_,_,_,hl,_,_⟩:=DataW.trod_struct Tryz.underlying216 h;rw[hl];exact Tryz.zlO
 match cs,hlen with
 | [d0,c0,c1,c2,c3,c4,c5,c6,c7,c8,c9,c10,c11,c12,c13,c14,d2,d3],_=>
  have hf:=jo Tryz.underlying216 h;obtain⟨_,_,f0⟩:=hf 0 9 0 d0 rfl Tryz.zK rfl;obtain⟨_,_,f1⟩:=zdD Tryz.underlying216 h 1 213 1 15 rfl Tryz.znq;obtain⟨_,_,f2⟩:=hf 2 3 16 d2 rfl Tryz.jd rfl;obtain⟨_,_,f3⟩:=hf 3 214 17 d3 rfl Tryz.zph rfl;obtain⟨dr,e0,_,s0⟩:=DataW.trod_string Tryz.underlying9 f0;obtain⟨x,a0,a1,a2,q0,q1,q2,e1,hx⟩:=zqX f1;obtain⟨gv,e2,_,_⟩:=DataW.trod_int Tryz.underlying3 f2;obtain⟨a3,q3,ws,e3,hw⟩:=zpa f3;simp only[List.cons.injEq,and_true]at e0 e2 e3;subst e0 e2 e3;have er:[c0,c1,c2,c3,c4,c5,c6,c7,c8,c9,c10,c11,c12,c13,c14]=(x.cells a0 a1 a2 q0 q1 q2).toList:=e1;unfold Ak.cells at er;simp only[List.cons.injEq,and_true]at er;obtain⟨g0,g1,g2,g3,g4,g5,g6,g7,g8,g9,g10,g11,g12,g13,g14⟩:=er;subst g0 g1 g2 g3 g4 g5 g6 g7 g8 g9 g10 g11 g12 g13 g14;exact⟨⟨dr,x,gv,ws⟩,a0,a1,a2,a3,q0,q1,q2,q3,rfl,⟨s0,hx,hw⟩⟩
end
end Go.Proofs.YthdfpinbnncghaaGreat
