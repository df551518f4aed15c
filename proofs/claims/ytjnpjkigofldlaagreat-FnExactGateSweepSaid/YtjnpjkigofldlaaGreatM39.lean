import Derived.Test.YtjnpjkigofldlaaGreatM37
import Derived.Test.YtjnpjkigofldlaaGreatM35
import Derived.WalkMore
import Derived.Test.YtjnpjkigofldlaaGreatM38
set_option maxRecDepth 20000
set_option maxHeartbeats 4000000
namespace Go.Proofs.YtjnpjkigofldlaaGreat
open Go.RowKit
variable {ss:List Shp}{ms:List Mnd}{fs:List Fld}{vs:List BA}{os:List Ob}{k:Nat}
def zbl (ss:List Shp)(m:Mnd):Bool:=zF ss m.kd&&zee (shapeOf ss m.kd).fs m
def zcz (ms:List Mnd)(s:Shp):Bool:=decide ((yx s ms s.fs.length).length=s.fs.length)
def jl (ss:List Shp)(ms:List Mnd):Bool:=zQ ss&&decide (ms.length<=12)&&ms.all (zbl ss)&&ss.all (zcz ms)
theorem zn9 (a:OA)(cap:Nat)(ss:List Shp)(m:Mnd)(w:World)(hw:yU w a ss)(hm:m.Small) :
 Calls Tryz.prog 157 #[.l a ss.length cap,.agg m.cells] w fun e w'=>e=.returned (.bool (zbl ss m))/\Bw w w':=by
 by_cases hk:zF ss m.kd=true
 ·refine(zog a cap ss m w hw hm hk).mono ?_
  rintro e w'⟨rfl,hb⟩;exact⟨by unfold zbl;rw[hk];rfl,hb⟩
 ·have hkf:zF ss m.kd=false:=by simpa using hk
  have HF:Hid (zbl ss m=false):=by unfold Hid zbl;rw[hkf];rfl
  unfold Mnd.cells;have hba:=(bRf w.heap.size w).alloc (Nat.le_refl _) (.cells #[.s m.kd,.s m.fd,.s m.wh,.s m.wi,.s m.pt,.s m.fr] 132);go_in;go_wp2_with fail
  refine(zgS _ _ _ _ _ (hw.mono hba) hkf).mono ?_;rintro e w1⟨rfl,rfl⟩;go_wp2
  go_ret;exact⟨by rw[HF.o];rfl,hba⟩
theorem ze2 (a a':OA)(cap cap':Nat)(ss:List Shp)(ms:List Mnd)(w:World)(hw:yU w a ss)(hm:qQ w a' ms) :
 Calls Tryz.prog 113 #[.l a ss.length cap,.l a' ms.length cap'] w fun e w'=>e=.returned (.bool (jl ss ms))/\Bw w w':=by
 have HW:=yB hw hm;have hl:=hw.len;have hml:=hm.len;unfold maxLen at hl hml;clear hw hm
 by_cases hok:zQ ss=true
 rotate_left
 ·have hokf:zQ ss=false:=by simpa using hok
  have HF:Hid (jl ss ms=false):=by unfold Hid jl;rw[hokf];simp
  go_in;go_wp2_with fail
  have h:=zb9 a cap ss w HW.o.1;rw[hokf]at h;refine h.mono ?_;rintro e w1⟨rfl,hb1⟩;clear h;go_wp2
  go_ret;exact⟨by rw[HF.o];rfl,hb1⟩
 have HOK:=hid hok
 by_cases h12:ms.length<=12
 rotate_left
 ·have HF:Hid (jl ss ms=false):=by unfold Hid jl;rw[decide_eq_false h12];simp
  go_in;go_wp2_with fail
  have h:=zb9 a cap ss w HW.o.1;rw[hok]at h;refine h.mono ?_;rintro e w1⟨rfl,hb1⟩;clear h hok;go_wp2
  go_ret;exact⟨by rw[HF.o];rfl,hb1⟩
 have h12I:(ms.length:Int)<=12:=by omega
 go_in;go_wp2_with fail
 have h:=zb9 a cap ss w HW.o.1;rw[hok]at h;refine h.mono ?_;rintro e w1⟨rfl,hb1⟩;have HB1:=hid hb1;clear h hok hb1;go_wp2
 go_loopw [5] (fun iv wr=>∃k:Nat,k<=ms.length/\iv=.i k/\(ms.take k).all (zbl ss)=true/\Bw w wr) (fun iv _=>ms.length-(intOf iv).toNat)
 case atStart=>exact⟨0,Nat.zero_le _,rfl,rfl,HB1.o⟩
 case round=>
  obtain⟨k,hk,rfl,hall,hB⟩:=hrel;have HB:=hid hB;have HA:=hid hall;clear hall hB
  by_cases hlt:k<ms.length
  ·obtain⟨b,off,rfl,hb,c0,c1,c2,c3,c4,c5⟩:=HW.o.2.load HB.o k hlt
   have hltI:(k:Int)<(ms.length:Int):=by omega
   have HSM:=hid (HW.o.2.small k hlt)
   have HTK:Hid ((ms.take (k+1)).all (zbl ss)=zbl ss ms[k]):=by
    unfold Hid;rw[tSe hlt,List.all_append,HA.o];simp
   have HNO:Hid (zbl ss ms[k]=false->jl ss ms=false):=by
    intro h
    have:ms.all (zbl ss)=false:=by rw[List.all_eq_false];exact⟨_,List.getElem_mem hlt,by rw[h];simp⟩
    unfold jl;rw[this];simp
   go_wp2_with fail
   have h:=zn9 a cap ss ms[k] wr (HW.o.1.mono HB.o) HSM.o
   rcases hh:zbl ss ms[k] with _|_
   ·rw[hh]at h
    refine h.mono ?_;rintro e w3⟨rfl,hb3⟩;have HF:=yB (HNO.o hh) (HB.o.trans (hb3.mono HB.o.size));clear h hb3 hh c0 c1 c2 c3 c4 c5;go_wp2
    go_ret;exact⟨by rw[HF.o.1];rfl,HF.o.2⟩
   ·rw[hh]at h
    refine h.mono ?_;rintro e w3⟨rfl,hb3⟩;have HY:Hid ((ms.take (k+1)).all (zbl ss)=true/\Bw w w3):=⟨by rw[HTK.o];exact hh,HB.o.trans (hb3.mono HB.o.size)⟩
    clear h hb3 hh c0 c1 c2 c3 c4 c5;go_wp2
    exact⟨⟨k+1,by omega,by go_num,HY.o.1,HY.o.2⟩,zi hlt⟩
  ·have e:k=ms.length:=by omega
   have hall:=HA.o;rw[e,tOl (Nat.le_refl _)]at hall;have HALL:=hid hall;subst e;clear hall HA;go_wp2_with fail
   have HBw:=hid HB.o;clear HB
   go_loopw [6] (fun iv wq=>∃k:Nat,k<=ss.length/\iv=.i k/\(ss.take k).all (zcz ms)=true/\Bw w wq) (fun iv _=>ss.length-(intOf iv).toNat)
   case atStart=>exact⟨0,Nat.zero_le _,rfl,rfl,HBw.o⟩
   case round=>
    obtain⟨k,hk,rfl,hall,hB⟩:=hrel;have HB:=hid hB;have HA:=hid hall;clear hall hB
    by_cases hlt:k<ss.length
    ·obtain⟨b,off,rfl,hb,hr⟩:=HW.o.1.rows (by rintro rfl;simp at hlt)
     obtain⟨fa,fcap,hs0⟩:=hr k hlt;have HSI:Hid (∀W,Bw w W->zmU W b (off+k*2) ss[k] fa fcap):=fun W hbb=>hs0.mono hb hbb
     have hck:=(HSI.o _ HB.o).kind;have hcl:=(HSI.o _ HB.o).list;have hltI:(k:Int)<(ss.length:Int):=by omega
     have HTK:Hid ((ss.take (k+1)).all (zcz ms)=zcz ms ss[k]):=by
      unfold Hid;rw[tSe hlt,List.all_append,HA.o];simp
     have HNO:Hid (zcz ms ss[k]=false->jl ss ms=false):=by
      intro h
      have:ss.all (zcz ms)=false:=by rw[List.all_eq_false];exact⟨_,List.getElem_mem hlt,by rw[h];simp⟩
      unfold jl;rw[this];simp
     have HFW:=hid (zgv HOK.o k hlt);clear hr hs0;go_wp2_with fail
     have hbc:=HB.o.drew;have hL:=(⟨(HSI.o _ hbc).kind,(HSI.o _ hbc).list⟩:_/\_)
     go_region_held3 (fun w'=>w'.cell? (aD b (off+k*2))=some (.s ss[k].kd)/\w'.cell? (aD b (off+k*2+1))=some (.l fa ss[k].fs.length fcap)) (exact hL) (first
      | (go_at_call 158;refine(zmS fa a' fcap cap' ss[k] ms _ (by exact(HSI.o _ hbc).zdE) (by exact HW.o.2.mono hbc) h12 HFW.o).mono ?_;rintro e w5⟨v5,rfl,hrow,hb5⟩;obtain⟨ra,rcap,rfl⟩:=yY hrow;have hbc:=hbc.trans (hb5.mono hbc.size);have hL:=(⟨(HSI.o _ hbc).kind,(HSI.o _ hbc).list⟩:_/\_);clear hb5 hrow))
     by_cases hrk:(yx ss[k] ms ss[k].fs.length).length=ss[k].fs.length
     ·have hrI:(((yx ss[k] ms ss[k].fs.length).length:Int) != (ss[k].fs.length:Int))=false:=by rw[hrk];simp
      have HY:Hid ((ss.take (k+1)).all (zcz ms)=true):=by unfold Hid;rw[HTK.o];unfold zcz;exact decide_eq_true hrk
      clear hrk;go_wp2
      exact⟨⟨k+1,by omega,by go_num,HY.o,hbc⟩,zi hlt⟩
     ·have hrI:(((yx ss[k] ms ss[k].fs.length).length:Int) != (ss[k].fs.length:Int))=true:=by rw[bne_iff_ne];omega
      have HF:Hid (jl ss ms=false):=HNO.o (by unfold zcz;exact decide_eq_false hrk);clear hrk;go_wp2
      go_ret;exact⟨by rw[HF.o];rfl,hbc⟩
    ·have e:k=ss.length:=by omega
     have hall:=HA.o;rw[e,tOl (Nat.le_refl _)]at hall;have HF:Hid (jl ss ms=true):=by unfold Hid jl;rw[HALL.o,HOK.o,hall,decide_eq_true h12];rfl
     subst e;clear hall HA;go_wp2
     go_ret;exact⟨by rw[HF.o];rfl,HB.o⟩
theorem ztM (ws:List BA)(v:BA):has ws v=true↔v∈ws:=by
 unfold has;rw[List.any_eq_true]
 constructor
 ·rintro⟨x,hx,he⟩
  have:x=v:=by simpa using he
  rw[<- this];exact hx
 ·intro h;exact⟨v,h,by simp⟩
theorem zp6 (h:zQ ss=true)(i:Nat)(hi:i<ss.length)(j:Nat)(hj:j<ss[i].fs.length):zfw ss ss[i].fs j=true:=by
 have h1:=zie h i hi;unfold yR at h1;rw[getD_at ss i _ hi]at h1;simp only[Bool.and_eq_true]at h1;have h2:=h1.2;unfold yS at h2;simp only[Bool.and_eq_true]at h2;exact zgn hj h2.2
theorem zoT (h:zQ ss=true)(i:Nat)(hi:i<ss.length)(j:Nat)(hj:j<ss[i].fs.length):isSet ss[i].fs[j].nm=true:=by
 have h1:=zp6 h i hi j hj;rw[zhn _ _ _ hj]at h1;simp only[Bool.and_eq_true]at h1;have h2:=h1.1.1;rw[zsC];intro e;rw[e]at h2
 revert h2
 decide
theorem zfJ (h:zQ ss=true)(i:Nat)(hi:i<ss.length)(j k:Nat)(hj:j<k)(hk:k<ss[i].fs.length):(ss[i].fs[j]'(by omega)).nm≠ss[i].fs[k].nm:=by
 have h1:=zp6 h i hi k hk;rw[zhn _ _ _ hk]at h1;simp only[Bool.and_eq_true,Bool.not_eq_true']at h1;have h2:=h1.1.2;intro e;unfold hasName at h2;rw[List.any_eq_false]at h2
 have hm:ss[i].fs[j]'(by omega)∈ss[i].fs.take k:=by
  rw[List.mem_iff_getElem];exact⟨j,by simp;omega,by simp⟩
 exact h2 _ hm (by simpa using e)
theorem zsK (h:zQ ss=true)(i:Nat)(hi:i<ss.length)(j k:Nat)(hj:j<ss[i].fs.length)(hk:k<ss[i].fs.length)(e:za9 ss[i] j=za9 ss[i] k):j=k:=by
 unfold za9 at e;rw[getD_at _ _ _ hj,getD_at _ _ _ hk]at e
 rcases Nat.lt_trichotomy j k with h1|h1|h1
 ·exact absurd e (zfJ h i hi j k h1 hk)
 ·exact h1
 ·exact absurd e.symm (zfJ h i hi k j h1 hj)
theorem zsd (h:zQ ss=true)(m:Mnd):j5 ss m=zbl ss m:=by
 unfold j5 zbl
 by_cases hk:zF ss m.kd=true
 ·rw[hk,Bool.true_and,Bool.true_and]
  unfold zF at hk;rw[List.any_eq_true]at hk;obtain⟨x,hx,he⟩:=hk;obtain⟨i,hi,rfl⟩:=List.mem_iff_getElem.1 hx;have hkd:ss[i].kd=m.kd:=by simpa using he
  rw[<- hkd,zeh h i hi];unfold za2 zee
  by_cases hp:plain ss[i].fs m.fd=true
  ·have hfd:isSet m.fd=true:=by
    rcases jX ss[i].fs m.fd with⟨_,h2⟩|⟨k,hk',_,h2,_⟩
    ·rw[zbm h2]at hp;cases hp
    ·rw[<- h2];exact zoT h i hi k hk'
   have hne:∀v,isSet v=false->v≠m.fd:=fun v hv e=>by rw[e,hfd]at hv;cases hv
   rw[hp,Bool.true_and,Bool.true_and]
   have e:(zT m).all (jV ss[i].fs m)=((!isSet m.wh||plain ss[i].fs m.wh)&&(!isSet m.fr||plain ss[i].fs m.fr)&&!decide (m.wh=m.fd)&&!decide (m.fr=m.fd)):=by
    unfold zT;rw[List.all_filter];unfold jV
    rcases hw:isSet m.wh with _|_ <;> rcases hf:isSet m.fr with _|_
    ·simp[hw,hf,hne _ hw,hne _ hf]
    ·simp[hw,hf,hne _ hw]
     cases plain ss[i].fs m.fr <;> simp
    ·simp[hw,hf,hne _ hf]
     cases plain ss[i].fs m.wh <;> simp
    ·simp[hw,hf]
     cases plain ss[i].fs m.wh <;> cases plain ss[i].fs m.fr <;> simp
   rw[e]
  ·have hpf:plain ss[i].fs m.fd=false:=by simpa using hp
   rw[hpf];simp
 ·have hkf:zF ss m.kd=false:=by simpa using hk
  rw[hkf];rfl
theorem zqI (h:zQ ss=true)(hm:ms.all (j5 ss)=true)(i:Nat)(hi:i<ss.length)(row:List Nat)(hrow:∀q∈row,q<ss[i].fs.length)(j:Nat)(hj:j<ss[i].fs.length) :
 jB ss[i] ms (row.map (za9 ss[i])) j=ready (zl ss[i] ms) row j:=by
 have hmem:∀q,q<ss[i].fs.length->(has (row.map (za9 ss[i])) (za9 ss[i] q)=true↔q∈row):=by
  intro q hq;rw[ztM,List.mem_map]
  constructor
  ·rintro⟨p,hp,e⟩
   rw[<- zsK h i hi p q (hrow p hp) hq e];exact hp
  ·intro hp;exact⟨q,hp,rfl⟩
 rw[Bool.eq_iff_iff,ziH];unfold jB;rw[Bool.and_eq_true,Bool.not_eq_true',<- Bool.not_eq_true,hmem j hj];refine and_congr Iff.rfl ?_;unfold zcE;rw[List.all_eq_true]
 -- what a mend that turns j reads
 have hread:∀m∈ms,turns m ss[i] j=true->∀v∈zT m,∃q,q<ss[i].fs.length/\yh ss[i].fs v=(q:Int)/\za9 ss[i] q=v:=by
  intro m hmm ht v hv;unfold turns at ht;simp only[Bool.and_eq_true,decide_eq_true_eq]at ht;have h1:=List.all_eq_true.1 hm m hmm;unfold j5 at h1;rw[ht.1,zeh h i hi]at h1;simp only[Bool.and_eq_true]at h1;have h2:=h1.2;unfold za2 at h2;simp only[Bool.and_eq_true]at h2;have h3:=List.all_eq_true.1 h2.1.2 v hv;unfold jV at h3;simp only[Bool.and_eq_true]at h3
  rcases jX ss[i].fs v with⟨_,h5⟩|⟨k,hk,h4,h5,_⟩
  ·rw[zbm h5]at h3;exact absurd h3.2 (by simp)
  ·exact⟨k,hk,h4,by unfold za9;rw[getD_at _ _ _ hk];exact h5⟩
 have hR:∀m,qA ss[i].kd (za9 ss[i] j) (row.map (za9 ss[i])) m=true↔(turns m ss[i] j=true->∀v∈zT m,has (row.map (za9 ss[i])) v=true):=by
  intro m;have e1:turns m ss[i] j=(decide (m.kd=ss[i].kd)&&decide (m.fd=za9 ss[i] j)):=rfl;unfold qA;rw[<- e1]
  rcases turns m ss[i] j with _|_
  ·simp
  ·unfold zT
   rcases hw:isSet m.wh with _|_ <;> rcases hf:isSet m.fr with _|_ <;> simp[hw,hf]
 constructor
 ·intro hall q hq
  unfold zl at hq;obtain⟨x,hx,rfl⟩:=List.mem_map.1 hq;unfold yC at hx;obtain⟨m,hmm,hx⟩:=List.mem_flatMap.1 hx
  by_cases ht:turns m ss[i] j=true
  ·rw[if_pos ht]at hx
   obtain⟨v,hv,rfl⟩:=List.mem_map.1 hx;obtain⟨q,hq,e1,e2⟩:=hread m hmm ht v hv
   have:=(hR m).1 (hall m hmm) ht v hv
   rw[e1,Int.toNat_natCast];rw[<- e2]at this;exact(hmem q hq).1 this
  ·rw[if_neg ht]at hx;cases hx
 ·intro hall m hmm
  rw[hR];intro ht v hv;obtain⟨q,hq,e1,e2⟩:=hread m hmm ht v hv;rw[<- e2,hmem q hq];refine hall q ?_;unfold zl;rw[List.mem_map];refine⟨(q:Int),?_,Int.toNat_natCast _⟩;unfold yC;rw[List.mem_flatMap];refine⟨m,hmm,?_⟩;rw[if_pos ht,List.mem_map];exact⟨v,hv,e1⟩
theorem find_congr {α:Type}{f g:α->Bool}:∀ {l:List α},(∀x∈l,f x=g x)->l.find? f=l.find? g
 | [],_=>rfl
 | a :: l,h=>by
  have h1:=h a (by simp);have h2:=find_congr (f:=f) (g:=g) (l:=l) (fun x hx=>h x (by simp[hx]));rw[List.find?_cons,List.find?_cons,h1,h2]
theorem zeg {ss:List Shp}{ms:List Mnd}(h:zQ ss=true)(hm:ms.all (j5 ss)=true)(i:Nat)(hi:i<ss.length):∀k,yx ss[i] ms k=(greedy (zl ss[i] ms) ss[i].fs.length k).map (za9 ss[i])
 | 0=>rfl
 | k+1=>by
  show zfc ss[i] ms (yx ss[i] ms k)=(more (zl ss[i] ms) ss[i].fs.length (greedy (zl ss[i] ms) ss[i].fs.length k)).map (za9 ss[i])
  rw[zeg h hm i hi k];have hpart:=zco (zl ss[i] ms) ss[i].fs.length k
  have e:(List.range ss[i].fs.length).find? (jB ss[i] ms ((greedy (zl ss[i] ms) ss[i].fs.length k).map (za9 ss[i])))=pick (zl ss[i] ms) ss[i].fs.length (greedy (zl ss[i] ms) ss[i].fs.length k):=by
   unfold pick
   apply find_congr
   intro x hx;exact zqI h hm i hi _ hpart.mem x (List.mem_range.1 hx)
  unfold zfc more;rw[e]
  cases pick (zl ss[i] ms) ss[i].fs.length (greedy (zl ss[i] ms) ss[i].fs.length k) with
  | none=>rfl
  | some q=>simp
theorem zo3 (h:zQ ss=true)(hm:ms.all (j5 ss)=true)(i:Nat)(hi:i<ss.length):rowOk ms ss[i]=zcz ms ss[i]:=by
 unfold rowOk zcz;rw[zeg h hm i hi,List.length_map];refine zjm (fun p hp q hq=>?_);unfold zl at hq;obtain⟨x,hx,rfl⟩:=List.mem_map.1 hq
 have:=zk1 h hm i hi p hp x hx
 omega
theorem zhv (ss:List Shp)(ms:List Mnd):yj ss ms=jl ss ms:=by
 unfold yj jl
 by_cases h:zQ ss=true
 ·have e1:ms.all (zbl ss)=ms.all (j5 ss):=by congr 1;funext m;exact(zsd h m).symm
  rw[e1,h]
  by_cases hm:ms.all (j5 ss)=true
  ·have e2:ss.all (rowOk ms)=ss.all (zcz ms):=by
    rw[Bool.eq_iff_iff,List.all_eq_true,List.all_eq_true]
    constructor
    ·intro ha x hx
     obtain⟨i,hi,rfl⟩:=List.mem_iff_getElem.1 hx;rw[<- zo3 h hm i hi];exact ha _ hx
    ·intro ha x hx
     obtain⟨i,hi,rfl⟩:=List.mem_iff_getElem.1 hx;rw[zo3 h hm i hi];exact ha _ hx
   rw[e2];cases decide (ms.length<=12) <;> simp
  ·have hmf:ms.all (j5 ss)=false:=by simpa using hm
   rw[hmf];simp
 ·have hf:zQ ss=false:=by simpa using h
  rw[hf];simp
def qX (fs:List Fld)(vs:List BA)(v:BA):BA:=match fs.findIdx? (fun f=>decide (f.nm=v)) with|some j=>vs.getD j ByteArray.empty|none=>ByteArray.empty
def gives (s:Shp)(vs:List BA)(p:Nat)(m:Mnd):Option BA:=
 if turns m s p=true/\¬(isSet m.wh=true/\qX s.fs vs m.wh≠m.wi) then
  if isSet m.fr=true then (if isSet (qX s.fs vs m.fr)=true then some (qX s.fs vs m.fr) else none) else some m.pt
 else none
def decided (s:Shp)(ms:List Mnd)(p:Nat)(vs:List BA):BA:=(ms.findSome? (gives s vs p)).getD (vs.getD p ByteArray.empty)
theorem zg3 {v:BA}{j:Nat}(h:yh fs v=(j:Int)):qX fs vs v=vs.getD j ByteArray.empty:=by
 unfold yh at h;unfold qX
 cases hf:fs.findIdx? (fun f=>decide (f.nm=v)) with
 | none=>rw[hf]at h;simp at h
 | some k=>
  rw[hf]at h
  have:k=j:=by simp only at h;omega
  rw[this]
theorem zgz {v:BA}(h:yh fs v=-1):qX fs vs v=ByteArray.empty:=by
 unfold yh at h;unfold qX
 cases hf:fs.findIdx? (fun f=>decide (f.nm=v)) with
 | none=>rfl
 | some k=>rw[hf]at h;simp only at h;omega
theorem zfz {α β:Type}{f g:α->Option β}:∀ {l:List α},(∀x∈l,f x=g x)->l.findSome? f=l.findSome? g
 | [],_=>rfl
 | a :: l,h=>by
  have h1:=h a (by simp);have h2:=zfz (f:=f) (g:=g) (l:=l) (fun x hx=>h x (by simp[hx]));rw[List.findSome?_cons,List.findSome?_cons,h1,h2]
theorem zmW {us:List BA}{q:Nat}(e:us[q]?=vs[q]?):us.getD q ByteArray.empty=vs.getD q ByteArray.empty:=by
 rw[List.getD_eq_getElem?_getD,List.getD_eq_getElem?_getD,e]
theorem zp4 (s:Shp)(ms:List Mnd)(p:Nat)(us vs:List BA)(hr:∀q∈zl s ms p,us[q]?=vs[q]?):ms.findSome? (gives s us p)=ms.findSome? (gives s vs p):=by
 apply zfz
 intro m hmm;unfold gives
 by_cases ht:turns m s p=true
 ·have hread:∀v∈zT m,qX s.fs us v=qX s.fs vs v:=by
   intro v hv'
   rcases jX s.fs v with⟨h1,_⟩|⟨k,_,h1,_⟩
   ·rw[zgz h1,zgz h1]
   ·rw[zg3 h1,zg3 h1]
    apply zmW
    apply hr
    unfold zl;rw[List.mem_map];refine⟨(k:Int),?_,Int.toNat_natCast _⟩;unfold yC;rw[List.mem_flatMap];refine⟨m,hmm,?_⟩;rw[if_pos ht,List.mem_map];exact⟨v,hv',h1⟩
  have hw:isSet m.wh=true->qX s.fs us m.wh=qX s.fs vs m.wh:=fun hs=>hread _ (by unfold zT;rw[List.mem_filter];exact⟨by simp,hs⟩)
  have hf:isSet m.fr=true->qX s.fs us m.fr=qX s.fs vs m.fr:=fun hs=>hread _ (by unfold zT;rw[List.mem_filter];exact⟨by simp,hs⟩)
  have c1:(isSet m.wh=true/\qX s.fs us m.wh≠m.wi)↔(isSet m.wh=true/\qX s.fs vs m.wh≠m.wi):=by
   constructor
   ·rintro⟨a,b⟩;exact⟨a,by rw[<- hw a];exact b⟩
   ·rintro⟨a,b⟩;exact⟨a,by rw[hw a];exact b⟩
  have c2:(if isSet m.fr=true then (if isSet (qX s.fs us m.fr)=true then some (qX s.fs us m.fr) else none) else some m.pt)=(if isSet m.fr=true then (if isSet (qX s.fs vs m.fr)=true then some (qX s.fs vs m.fr) else none) else some m.pt):=by
   by_cases hsf:isSet m.fr=true
   ·rw[hf hsf]
   ·rw[if_neg hsf,if_neg hsf]
  rw[c2]
  by_cases hc:turns m s p=true/\¬(isSet m.wh=true/\qX s.fs us m.wh≠m.wi)
  ·have hc':turns m s p=true/\¬(isSet m.wh=true/\qX s.fs vs m.wh≠m.wi):=⟨hc.1,fun h'=>hc.2 (c1.2 h')⟩
   rw[if_pos hc,if_pos hc']
  ·have hc':¬(turns m s p=true/\¬(isSet m.wh=true/\qX s.fs vs m.wh≠m.wi)):=fun h'=>hc ⟨h'.1,fun h''=>h'.2 (c1.1 h'')⟩
   rw[if_neg hc,if_neg hc']
 ·simp[ht]
theorem zlM (s:Shp)(ms:List Mnd):zt2 (zl s ms) s.fs.length (decided s ms):=by
 intro p _ us vs _ _ hr hown;unfold decided;rw[zp4 s ms p us vs hr,zmW hown]
theorem zc2 (s:Shp)(vs:List BA)(v:BA)(fa va:OA)(fcap vcap:Nat)(w:World)(hf:yw w fa s.fs)(hv:zD w va vs)(hc:vs.length=s.fs.length) :
 Calls Tryz.prog 252 #[.agg #[.s s.kd,.l fa s.fs.length fcap],.l va vs.length vcap,.s v] w fun e w'=>e=.returned (.s (qX s.fs vs v))/\Bw w w':=by
 have hl:=hv.len;unfold maxLen at hl;have hba:=(bRf w.heap.size w).alloc (Nat.le_refl _) (.cells #[.s s.kd,.l fa s.fs.length fcap] 130)
 rcases jX s.fs v with⟨h1,_⟩|⟨i,hi,h1,_⟩
 ·have HV:Hid (qX s.fs vs v=ByteArray.empty):=zgz h1
  go_in;go_wp2_with fail
  have h:=jd fa fcap s.fs v _ (hf.mono hba);rw[h1]at h;refine h.mono ?_;rintro e w1⟨rfl,hb1⟩;clear h;go_wp2
  go_ret;exact⟨by rw[HV.o];rfl,hba.trans (hb1.mono hba.size)⟩
 ·have hiv:i<vs.length:=by omega
  have HV:Hid (qX s.fs vs v=vs[i]):=by unfold Hid;rw[zg3 h1,getD_at _ _ _ hiv]
  obtain⟨b,off,rfl,hb,hcell⟩:=hv.cells (by rintro rfl;simp at hiv);go_in;go_wp2_with fail
  have h:=jd fa fcap s.fs v _ (hf.mono hba);rw[h1]at h;refine h.mono ?_;rintro e w1⟨rfl,hb1⟩;have hB1:Bw w w1:=hba.trans (hb1.mono hba.size);have hci:w1.cell? (aD b (off+i))=some (.s vs[i]):=(hB1.cell (p:=(aD b (off+i))) hb).trans (hcell i hiv);have hiI:(i:Int)<(vs.length:Int):=by omega
  have hi0:decide ((i:Int)<0)=false:=by simp
  clear h hcell hba hb1;go_wp2
  go_ret;exact⟨by rw[HV.o];rfl,hB1⟩
theorem zh5 (s:Shp)(ms:List Mnd)(vs:List BA)(p:Nat)(fa ma va:OA)(fcap mcap vcap:Nat)(w:World)(hf:yw w fa s.fs)(hm:qQ w ma ms)(hv:zD w va vs)(hc:vs.length=s.fs.length)(hp:p<s.fs.length) :
 Calls Tryz.prog 251 #[.agg #[.s s.kd,.l fa s.fs.length fcap],.l ma ms.length mcap,.l va vs.length vcap,.i p] w fun e w'=>e=.returned (.s (decided s ms p vs))/\Bw w w':=by
 have hpv:p<vs.length:=by omega
 have hl:=hv.len;have hml:=hm.len;unfold maxLen at hl hml;have HH:=j3 hf hm hv hc;obtain⟨b,off,rfl,hb,hcell⟩:=hv.cells (by rintro rfl;simp at hpv);have hcp:=hcell p hpv;have hpI:(p:Int)<(vs.length:Int):=by omega
 clear hf hm hv hcell hc;go_in;go_wp2_with fail
 go_step3
 go_wp2_with fail
 go_step3
 go_wp2
 go_loopw [9,19] (fun v0 iv wr=>∃k:Nat,v0=.s vs[p]/\k<=ms.length/\iv=.i k/\(ms.take k).findSome? (gives s vs p)=none/\Below (w.heap.size+1) (w.alloc (.cells #[.s s.kd,.l fa s.fs.length fcap] 130)) wr) (fun _ iv _=>ms.length-(intOf iv).toNat)
 case atStart=>exact⟨0,rfl,Nat.zero_le _,rfl,rfl,bRf _ _⟩
 case round=>
  obtain⟨k,rfl,hk,rfl,hnone,hBw⟩:=hrel;have HB:Hid (Bw w wr/\Below (w.heap.size+1) (w.alloc (.cells #[.s s.kd,.l fa s.fs.length fcap] 130)) wr):=⟨(bAl _ _).trans (hBw.mono (by omega)),hBw⟩
  have hzr:w.heap.size<wr.heap.size:=by have:=hBw.size;simp at this;omega
  have hXr:∀j,wr.cell? (aD w.heap.size j)=(#[.s s.kd,.l fa s.fs.length fcap]:AV)[j]?:=fun j=>cell_of_block ((hBw.block w.heap.size (by omega)).trans (alloc_at _ _))
  have HN:=hid hnone;clear hnone hBw
  by_cases hlt:k<ms.length
  ·obtain⟨mb,moff,rfl,hmb,c0,c1,c2,c3,c4,c5⟩:=HH.o.2.1.load HB.o.1 k hlt
   have hltI:(k:Int)<(ms.length:Int):=by omega
   have hba:=(bRf wr.heap.size wr).alloc (Nat.le_refl _) (.cells #[.s ms[k].kd,.s ms[k].fd,.s ms[k].wh,.s ms[k].wi,.s ms[k].pt,.s ms[k].fr] 132);have HBA:=hid (HB.o.1.trans (hba.mono HB.o.1.size));go_wp2_with fail
   have HNX:Hid (gives s vs p ms[k]=none->(ms.take (k+1)).findSome? (gives s vs p)=none):=by
    intro h;rw[tSe hlt,List.findSome?_append,HN.o]
    simp[h]
   have HSX:Hid (∀x,gives s vs p ms[k]=some x->decided s ms p vs=x):=by
    intro x h;unfold decided
    have e:ms.findSome? (gives s vs p)=some x:=by
     conv=>lhs;rw[<- List.take_append_drop k ms,List.drop_eq_getElem_cons hlt]
     rw[List.findSome?_append,HN.o,List.findSome?_cons,h]
     rfl
    rw[e];rfl
   refine(zc2 s vs ms[k].fr fa _ fcap vcap _ (HH.o.1.mono HBA.o) (HH.o.2.2.1.mono HBA.o) HH.o.2.2.2).mono ?_;rintro e w3⟨rfl,hb3⟩;have HB3:=hid (hba.trans (hb3.mono hba.size));have hXm:=za (zI wr _ _) (by simp) hb3;have hzm:wr.heap.size<w3.heap.size:=by have:=hb3.size;simp at this;omega
   have hXs:=za hXr hzr HB3.o;have HBW3:=hid (HB.o.1.trans (HB3.o.mono HB.o.1.size));clear hba hb3 hXr c0 c1 c2 c3 c4 c5;go_wp2_with fail
   have h:=zna ms[k] s fa fcap p w3 (HH.o.1.mono HBW3.o) hp
   rcases htt:turns ms[k] s p with _|_
   ·have HG:Hid (gives s vs p ms[k]=none):=by unfold Hid gives;simp[htt]
    rw[htt]at h;refine h.mono ?_;rintro e w4⟨rfl,hb4⟩;have HBX:=hid (HB.o.2.trans ((HB3.o.trans (hb4.mono HB3.o.size)).mono hzr));clear h hb4;clear htt hXm hXs;go_wp2
    exact⟨⟨k+1,rfl,by omega,by go_num,HNX.o HG.o,HBX.o⟩,zi hlt⟩
   rw[htt]at h;refine h.mono ?_;rintro e w4⟨rfl,hb4⟩;have HB4:=hid (HB3.o.trans (hb4.mono HB3.o.size));have hXm4:=za hXm hzm hb4;have hzm4:=nLt hzm hb4.size;have hXs4:=za hXs (Nat.lt_trans hzr hzm) hb4;have HBW4:=hid (HB.o.1.trans (HB4.o.mono HB.o.1.size));clear h hb4 hXm hXs
   rcases hwh:ms[k].wh.toList.isEmpty with _|_
   ·by_cases ev:qX s.fs vs ms[k].wh=ms[k].wi
    ·have hev:((qX s.fs vs ms[k].wh).toList == ms[k].wi.toList)=true:=by rw[beq_toList];simpa using ev
     have HEV:Hid (qX s.fs vs ms[k].wh=ms[k].wi):=ev;clear ev;go_wp2_with fail
     have hbd:Bw w4 w4.drew:=(bRf _ _).drew;have hXm5:=za hXm4 hzm4 hbd;have hXs5:=za hXs4 (Nat.lt_trans hzr hzm4) hbd;have hbc:=HBW4.o.drew
     go_region_held3 (fun w'=>(∀j,w'.cell? (aD wr.heap.size j)=(#[.s ms[k].kd,.s ms[k].fd,.s ms[k].wh,.s ms[k].wi,.s ms[k].pt,.s ms[k].fr]:AV)[j]?)/\∀j,w'.cell? (aD w.heap.size j)=(#[.s s.kd,.l fa s.fs.length fcap]:AV)[j]?) (exact⟨hXm5,hXs5⟩) (first
      | (go_at_call 252;refine(zc2 s vs ms[k].wh fa _ fcap vcap _ (by exact HH.o.1.mono hbc) (by exact HH.o.2.2.1.mono hbc) HH.o.2.2.2).mono ?_;rintro e w5⟨rfl,hb5⟩;have hbd:=hbd.trans (hb5.mono hbd.size);have hbc:=hbc.trans (hb5.mono hbc.size);have hXm5:=za hXm4 hzm4 hbd;have hXs5:=za hXs4 (Nat.lt_trans hzr hzm4) hbd;clear hb5))
     have HBX:=hid (HB.o.2.trans ((HB4.o.trans (hbd.mono HB4.o.size)).mono hzr));have HBY:Hid (Bw w w5):=hbc;clear hbd hbc hXm4 hXs4
     rcases hfr:ms[k].fr.toList.isEmpty with _|_
     ·rcases hF:(qX s.fs vs ms[k].fr).toList.isEmpty with _|_
      ·have HG:Hid (gives s vs p ms[k]=some (qX s.fs vs ms[k].fr)):=by unfold Hid gives isSet;simp[HEV.o, *]
       clear htt;go_wp2_with fail
       rw[Exit.noGoto_ret];go_ret;exact⟨by rw[HSX.o _ HG.o];rfl,HBY.o⟩
      ·have HG:Hid (gives s vs p ms[k]=none):=by unfold Hid gives isSet;simp[HEV.o, *]
       clear htt;go_wp2
       exact⟨⟨k+1,rfl,by omega,by go_num,HNX.o HG.o,HBX.o⟩,zi hlt⟩
     ·have HG:Hid (gives s vs p ms[k]=some ms[k].pt):=by unfold Hid gives isSet;simp[HEV.o, *]
      clear htt;go_wp2_with fail
      rw[Exit.noGoto_ret];go_ret;exact⟨by rw[HSX.o _ HG.o];rfl,HBY.o⟩
    ·have hev:((qX s.fs vs ms[k].wh).toList == ms[k].wi.toList)=false:=by rw[beq_toList];simpa using ev
     have HG:Hid (gives s vs p ms[k]=none):=by unfold Hid gives isSet;simp[*]
     clear ev;go_wp2_with fail
     have hbd:Bw w4 w4.drew:=(bRf _ _).drew;have hXm5:=za hXm4 hzm4 hbd;have hXs5:=za hXs4 (Nat.lt_trans hzr hzm4) hbd;have hbc:=HBW4.o.drew
     go_region_held3 (fun w'=>(∀j,w'.cell? (aD wr.heap.size j)=(#[.s ms[k].kd,.s ms[k].fd,.s ms[k].wh,.s ms[k].wi,.s ms[k].pt,.s ms[k].fr]:AV)[j]?)/\∀j,w'.cell? (aD w.heap.size j)=(#[.s s.kd,.l fa s.fs.length fcap]:AV)[j]?) (exact⟨hXm5,hXs5⟩) (first
      | (go_at_call 252;refine(zc2 s vs ms[k].wh fa _ fcap vcap _ (by exact HH.o.1.mono hbc) (by exact HH.o.2.2.1.mono hbc) HH.o.2.2.2).mono ?_;rintro e w5⟨rfl,hb5⟩;have hbd:=hbd.trans (hb5.mono hbd.size);have hbc:=hbc.trans (hb5.mono hbc.size);have hXm5:=za hXm4 hzm4 hbd;have hXs5:=za hXs4 (Nat.lt_trans hzr hzm4) hbd;clear hb5))
     have HBX:=hid (HB.o.2.trans ((HB4.o.trans (hbd.mono HB4.o.size)).mono hzr));have HBY:=hid hbc;clear hbd hbc hXm4 hXs4;clear htt;go_wp2
     exact⟨⟨k+1,rfl,by omega,by go_num,HNX.o HG.o,HBX.o⟩,zi hlt⟩
   ·have HBX:=hid (HB.o.2.trans (HB4.o.mono hzr))
    have HBY:=hid HBW4.o
    rcases hfr:ms[k].fr.toList.isEmpty with _|_
    ·rcases hF:(qX s.fs vs ms[k].fr).toList.isEmpty with _|_
     ·have HG:Hid (gives s vs p ms[k]=some (qX s.fs vs ms[k].fr)):=by unfold Hid gives isSet;simp[*]
      clear htt;go_wp2_with fail
      go_quiet (fail)
      go_wp2_with fail
      rw[Exit.noGoto_ret];go_ret;exact⟨by rw[HSX.o _ HG.o];rfl,below_drewN HBY.o _⟩
     ·have HG:Hid (gives s vs p ms[k]=none):=by unfold Hid gives isSet;simp[*]
      clear htt;go_wp2_with fail
      go_quiet (fail)
      go_wp2
      exact⟨⟨k+1,rfl,by omega,by go_num,HNX.o HG.o,below_drewN HBX.o _⟩,zi hlt⟩
    ·have HG:Hid (gives s vs p ms[k]=some ms[k].pt):=by unfold Hid gives isSet;simp[*]
     clear htt;go_wp2_with fail
     go_quiet (fail)
     go_wp2_with fail
     rw[Exit.noGoto_ret];go_ret;exact⟨by rw[HSX.o _ HG.o];rfl,below_drewN HBY.o _⟩
  ·have e:k=ms.length:=by omega
   have hn:=HN.o;rw[e,tOl (Nat.le_refl _)]at hn;have HD:Hid (decided s ms p vs=vs[p]):=by unfold Hid decided;rw[hn,getD_at _ _ _ hpv];rfl
   subst e;clear hn HN;go_wp2_with fail
   rw[Exit.noGoto_ret];go_ret;exact⟨by rw[HD.o];rfl,HB.o.1⟩
open Go
theorem zpV (v:BA)(hv:∀x∈vs,x.size<=maxLen):(qX fs vs v).size<=maxLen:=by
 have he:ByteArray.empty.size<=maxLen:=by show 0<=_;exact Nat.zero_le _
 unfold qX
 split
 ·rename_i j _
  rw[List.getD_eq_getElem?_getD]
  cases h:vs[j]? with
  | none=>exact he
  | some x=>exact hv x (List.mem_of_getElem? h)
 ·exact he
theorem zmk {s:Shp}(p:Nat)(hm:∀i (h:i<ms.length),ms[i].Small)(hv:∀x∈vs,x.size<=maxLen):(decided s ms p vs).size<=maxLen:=by
 unfold decided
 cases hf:ms.findSome? (gives s vs p) with
 | none=>
  show(vs.getD p ByteArray.empty).size<=maxLen
  rw[List.getD_eq_getElem?_getD]
  cases h:vs[p]? with
  | none=>show 0<=_;exact Nat.zero_le _
  | some x=>exact hv x (List.mem_of_getElem? h)
 | some x=>
  show x.size<=maxLen
  obtain⟨m,hmm,hg⟩:=List.exists_of_findSome?_eq_some hf;obtain⟨i,hi,rfl⟩:=List.mem_iff_getElem.1 hmm;unfold gives at hg
  split at hg
  ·split at hg
   ·split at hg
    ·rw[<- Option.some.inj hg];exact zpV _ hv
    ·cases hg
   ·rw[<- Option.some.inj hg];exact(hm i hi).pt
  ·cases hg
theorem zch {s:Shp}{ms:List Mnd}(hm:∀i (h:i<ms.length),ms[i].Small):∀(row:List Nat) (vs:List BA),(∀x∈vs,x.size<=maxLen)->∀x∈zY (decided s ms) row vs,x.size<=maxLen
 | [],_,hv=>hv
 | p :: row,vs,hv=>by
  refine zch hm row (vs.set p (decided s ms p vs)) (fun x hx=>?_)
  rcases List.mem_or_eq_of_mem_set hx with h|h
  ·exact hv x h
  ·rw[h];exact zmk p hm hv
theorem zjJ (a c:OA)(ca cc:Nat)(xs ys:List BA)(w:World)(hx:zD w a xs)(hy:zD w c ys)(hl:xs.length<=1048576)(hl':ys.length<=1048576) :
 Calls Tryz.prog 226 #[.l a xs.length ca,.l c ys.length cc] w fun e w'=>e=.returned (.bool (decide (xs=ys)))/\Bw w w':=by
 obtain⟨r,hr⟩:=xN (decide (xs=ys));rw[<- hr];have HR:Hid (r=decide (xs=ys)):=hr;have HX:Hid (zD w a xs/\zD w c ys):=⟨hx,hy⟩
 clear hr hx hy
 by_cases hn:xs.length=ys.length
 rotate_left
 ·have HF:Hid (r=false):=by unfold Hid;rw[HR.o,decide_eq_false_iff_not];intro e;exact hn (by rw[e])
  have e1:((xs.length:Int) != (ys.length:Int))=true:=by simp;omega
  clear hn;go_in;go_wp2
  go_ret;exact⟨ze HF.o.symm,bRf _ _⟩
 have e1:((xs.length:Int) != (ys.length:Int))=false:=by simp;omega
 have HN:Hid (xs.length=ys.length):=hn;clear hn;go_in;go_wp2
 go_loopw [13] (fun iv wr=>∃k:Nat,k<=xs.length/\iv=.i k/\Hid ((∀i (h:i<xs.length) (h':i<ys.length),i<k->xs[i]=ys[i])/\Bw w wr)) (fun iv _=>xs.length-(intOf iv).toNat)
 case atStart=>exact⟨0,Nat.zero_le _,rfl,fun i h h' hk=>by omega,bRf _ _⟩
 case round=>
  obtain⟨k,hk,rfl,HQ⟩:=hrel;have hkn:k<=1048576:=by omega
  by_cases hlt:k<xs.length
  ·have hlt':k<ys.length:=by have:=HN.o;omega
   obtain⟨p,po,rfl,hp,hpc⟩:=HX.o.1.cells (by intro e;rw[e]at hlt;simp at hlt);obtain⟨q,qo,rfl,hq,hqc⟩:=HX.o.2.cells (by intro e;rw[e]at hlt';simp at hlt');have c1:=(HQ.o.2.cell (p:=(aD p (po+k))) hp).trans (hpc k hlt);have c2:=(HQ.o.2.cell (p:=(aD q (qo+k))) hq).trans (hqc k hlt');have hltI:(k:Int)<(xs.length:Int):=by omega
   have hltI':(k:Int)<(ys.length:Int):=by omega
   have hp':p<wr.heap.size:=nLt hp HQ.o.2.size;have hq':q<wr.heap.size:=nLt hq HQ.o.2.size;have HB:Hid (Bw w wr):=HQ.o.2;clear hpc hqc
   by_cases he:xs[k]=ys[k]
   ·have e2:(xs[k].toList == ys[k].toList)=true:=by rw[beq_toList];simpa using he
    have HA:Hid (∀i (h:i<xs.length) (h':i<ys.length),i<k+1->xs[i]=ys[i]):=by
     intro i h h' hi
     rcases Nat.eq_or_lt_of_le (Nat.le_of_lt_succ hi) with e|h2
     ·subst e;exact he
     ·exact HQ.o.1 i h h' h2
    clear he HQ;go_wp2_with fail
    go_quiet (fail)
    go_wp2
    exact⟨⟨k+1,by omega,by go_num,HA.o,below_drewN HB.o _⟩,zi hlt⟩
   ·have e2:(xs[k].toList == ys[k].toList)=false:=by rw[beq_toList];simpa using he
    have HF:Hid (r=false):=by
     unfold Hid;rw[HR.o,decide_eq_false_iff_not];intro e;subst e;exact he rfl
    clear he HQ;go_wp2_with fail
    go_quiet (fail)
    go_wp2
    go_ret;exact⟨ze HF.o.symm,below_drewN HB.o _⟩
  ·have HF:Hid (r=true):=by
    unfold Hid;rw[HR.o,decide_eq_true_eq];exact List.ext_getElem HN.o fun i h h'=>HQ.o.1 i h h' (by omega)
   have HB:Hid (Bw w wr):=HQ.o.2;clear HQ;go_wp2
   go_ret;exact⟨ze HF.o.symm,HB.o⟩
theorem zH.new (w:World):zH (w.alloc (.map #[] 0)) w.heap.size (fun _ _=>none):=
 ⟨⟨#[],0,Array.getElem?_push_size,fun x hx=>(by simp at hx),fun a b v h=>(by cases h),fun i j x y hx=>(by simp at hx)⟩,fun es c h=>by
  have e:(w.alloc (.map #[] 0)).heap[w.heap.size]?=some (.map #[] 0):=Array.getElem?_push_size;rw[e]at h
  cases h
  exact⟨fun x hx=>(by simp at hx),by simp⟩⟩
theorem zeA.below {r B:Nat}{w0 w w':World}(h:zeA r w w')(hb:Below B w0 w)(hr:B<=r):Below B w0 w':=
 ⟨h.os.trans hb.os,h.tape.trans hb.tape,h.output.trans hb.output,by rw[h.size];exact hb.size,fun k hk=>(h.out k (by omega)).trans (hb.block k hk)⟩
theorem jr (o:Ob)(a0 a1:OA)(c0 c1:Nat)(w:World):Calls Tryz.prog 91 #[.agg (oC o a0 a1 c0 c1)] w fun e w'=>e=.returned (y8 o.kd o.nm)/\Bw w w':=by
 unfold y8;go_in;go_wp2
 refine bodyPost_ret (v:=.agg #[.s o.kd,.s o.nm]) (by simp[results,Tryz.results91,go_sem]) rfl ⟨rfl,?_⟩
 first|exact zo _ _ _|exact((zo _ _ _).setCell (by simp) _).setCell (by simp) _|exact((zo _ _ _).setCell (by show _<=_+1;omega) _).setCell (by show _<=_+1;omega) _
structure zbR (f:BA->BA->Option Int)(os:List Ob)(k:Nat):Prop where
 has:∀p q,(f p q).isSome=(os.take k).any (jC p q)
 at_:∀p q v,f p q=some v->∃i,∃h:i<os.length,v=(i:Int)/\os[i].kd=p/\os[i].nm=q
theorem zbR.put {f:BA->BA->Option Int}(h:zbR f os k)(hlt:k<os.length):zbR (fun p q=>if p=os[k].kd/\q=os[k].nm then some (k:Int) else f p q) os (k+1):=by
 refine⟨fun p q=>?_,fun p q v hv=>?_⟩
 ·rw[tSe hlt,List.any_append,<- h.has p q]
  simp only[List.any_cons,List.any_nil,Bool.or_false]
  by_cases e:p=os[k].kd/\q=os[k].nm
  ·rw[if_pos e]
   unfold jC
   simp[e.1,e.2]
  ·rw[if_neg e]
   have:jC p q os[k]=false:=by
    unfold jC;rw[Bool.and_eq_false_iff,decide_eq_false_iff_not,decide_eq_false_iff_not]
    by_cases e1:os[k].kd=p
    ·exact Or.inr fun e2=>e ⟨e1.symm,e2.symm⟩
    ·exact Or.inl e1
   rw[this,Bool.or_false]
 ·by_cases e:p=os[k].kd/\q=os[k].nm
  ·rw[if_pos e]at hv
   exact⟨k,hlt,(Option.some.inj hv).symm,e.1.symm,e.2.symm⟩
  ·rw[if_neg e]at hv
   exact h.at_ p q v hv
theorem zeZ (a:OA)(cap:Nat)(os:List Ob)(w:World)(hw:zby w a os)(hl:os.length<=1048576) :
 Calls Tryz.prog 144 #[.l a os.length cap] w fun e w'=>(∃f,e=.returned (.map (some w.heap.size))/\zH w' w.heap.size f/\zbR f os os.length)/\Bw w w':=by
 have HW:=hid hw;have hmk:∀w:World,(Instr.makeMap 142 none).run Tryz.prog w=.ok (.map (some w.heap.size)) (w.alloc (.map #[] 0)):=fun w=>by kernel_rfl
 clear hw;go_in;go_wp2_with fail
 clear hmk
 go_loopw [9] (fun iv wr=>∃k:Nat,k<=os.length/\iv=.i k/\Hid ((∃f,zH wr w.heap.size f/\zbR f os k)/\Bw w wr)) (fun iv _=>os.length-(intOf iv).toNat)
 case atStart=>exact⟨0,Nat.zero_le _,rfl,⟨_,zH.new w,⟨fun p q=>by simp,fun p q v h=>by cases h⟩⟩,bAl _ _⟩
 case round=>
  obtain⟨k,hk,rfl,HX⟩:=hrel;obtain⟨⟨f,hf,hc⟩,hB⟩:=HX.o;have hkn:k<=1048576:=by omega
  by_cases hlt:k<os.length
  ·obtain⟨ob,off,v0,v1,q0,q1,rfl,hob,hsm,hl0,hl1,d0,d1,d2,d3,d4,d5,d6⟩:=HW.o.load hB k hlt
   have hltI:(k:Int)<(os.length:Int):=by omega
   have hob':=nLt hob hB.size;have HKn:=hid hsm;have HPf:=zao hf hc hB;clear hf hc hB HX hsm hl0 hl1;go_wp2_with fail
   refine(jr os[k] v0 v1 q0 q1 _).mono ?_;rintro e w1⟨rfl,hb1⟩;have hBa:=(HPf.o.2.2.alloc HPf.o.2.2.size (.cells (oC os[k] v0 v1 q0 q1) 116))
   have hf1:zH w1 w.heap.size f:=(HPf.o.1.mono (bAl _ _)).mono hb1;obtain⟨w2,hup,hf2,hp2⟩:=hf1.upd zaw Tryz.underlying142 os[k].kd os[k].nm HKn.o.kd HKn.o.nm (k:Int)
   have HC:Hid ((∃f,zH w2 w.heap.size f/\zbR f os (k+1))/\Bw w w2):=
    ⟨⟨_,hf2,HPf.o.2.1.put hlt⟩,hp2.below (hBa.trans (hb1.mono hBa.size)) (Nat.le_refl _)⟩
   clear hf1 hf2 hp2 hb1 hBa;go_wp2
   exact⟨⟨k+1,by omega,by go_num,HC.o⟩,zi hlt⟩
  ·have e:k=os.length:=by omega
   subst e;have HE:Hid (∃f,zH wr w.heap.size f/\zbR f os os.length):=⟨f,hf,hc⟩
   have HB:=hid hB;clear hf hc hB HX hlt hk;go_wp2
   go_ret;obtain⟨f,h1,h2⟩:=HE.o;exact⟨⟨f,rfl,h1,h2⟩,HB.o⟩
theorem zh1 (a:OA)(cap:Nat)(os:List Ob)(w:World)(hw:zby w a os)(hl:os.length<=1048576) :
 Calls Tryz.prog 144 #[.l a os.length cap] w fun e w'=>(∃f,e=.returned (.map (some w.heap.size))/\zH w' w.heap.size f/\∀p q,(f p q).isSome=os.any (jC p q))/\Bw w w':=by
 refine(zeZ a cap os w hw hl).mono ?_;rintro e w'⟨⟨f,he,hf,hp⟩,hb⟩;exact⟨⟨f,he,hf,fun p q=>by rw[hp.has p q,tOl (Nat.le_refl _)]⟩,hb⟩
theorem zeD (r:Nat)(f:BA->BA->Option Int)(p q:BA)(w:World)(hM:zH w r f)(hp:p.size<=maxLen)(hq:q.size<=maxLen) :
 Calls Tryz.prog 95 #[.map (some r),y8 p q] w fun e w'=>e=.returned (.bool (f p q).isSome)/\Bw w w':=by
 have hb:Bw w (w.alloc (.cells #[.s p,.s q] 152)):=bAl _ _;have hlk:=(hM.mono hb).look zaw Tryz.underlying143 p q hp hq true;unfold y8 at hlk ⊢;simp only[if_true]at hlk;have HB:Hid (Bw w (w.alloc (.cells #[.s p,.s q] 152))):=hb;clear hb hM
 cases hs:(f p q).isSome with
 | false=>
  rw[hs]at hlk;go_in;go_wp2
  go_ret;exact⟨rfl,HB.o⟩
 | true=>
  rw[hs]at hlk;go_in;go_wp2
  go_ret;exact⟨rfl,HB.o⟩
def zbj (f:BA->BA->Option Int)(os:List Ob)(k:Nat):Prop:=∀p q,(f p q).isSome=(os.take k).any fun o=>o.en&&jC p q o
theorem zbj.put {f:BA->BA->Option Int}(h:zbj f os k)(hlt:k<os.length)(he:os[k].en=true)(v:Int):zbj (fun p q=>if p=os[k].kd/\q=os[k].nm then some v else f p q) os (k+1):=by
 intro p q;rw[tSe hlt,List.any_append,<- h p q];simp only[List.any_cons,List.any_nil,Bool.or_false,he,Bool.true_and]
 by_cases e:p=os[k].kd/\q=os[k].nm
 ·rw[if_pos e]
  unfold jC
  simp[e.1,e.2]
 ·rw[if_neg e]
  have:jC p q os[k]=false:=by
   unfold jC;rw[Bool.and_eq_false_iff,decide_eq_false_iff_not,decide_eq_false_iff_not]
   by_cases e1:os[k].kd=p
   ·exact Or.inr fun e2=>e ⟨e1.symm,e2.symm⟩
   ·exact Or.inl e1
  rw[this,Bool.or_false]
theorem zbj.skip {f:BA->BA->Option Int}(h:zbj f os k)(hlt:k<os.length)(he:os[k].en=false):zbj f os (k+1):=by
 intro p q;rw[tSe hlt,List.any_append,<- h p q]
 simp[he]
theorem zge (b:Bk)(a0 a1 a2 a3:OA)(c0 c1 c2 c3:Nat)(w:World)(hb:qj w b a0 a1 a2 a3)(hl:b.os.length<=1048576) :
 Calls Tryz.prog 83 #[.agg (bC b a0 a1 a2 a3 c0 c1 c2 c3)] w fun e w'=>(∃r f,e=.returned (.map (some r))/\w.heap.size<=r/\zH w' r f/\zbj f b.os b.os.length)/\Bw w w':=by
 have HW:Hid (qj w b a0 a1 a2 a3):=hb;have hmk:∀w:World,(Instr.makeMap 143 none).run Tryz.prog w=.ok (.map (some w.heap.size)) (w.alloc (.map #[] 0)):=fun w=>by kernel_rfl
 clear hb;go_in;go_wp2_with fail
 have hX:=zI w (bC b a0 a1 a2 a3 c0 c1 c2 c3) 40;have HB0:Hid (Bw w (w.alloc (.cells (bC b a0 a1 a2 a3 c0 c1 c2 c3) 40))):=bAl _ _;obtain⟨W0,hW0⟩:=xN (w.alloc (.cells (bC b a0 a1 a2 a3 c0 c1 c2 c3) 40));have hz0:w.heap.size<W0.heap.size:=by rw[hW0];simp
 have HWe:Hid (W0.heap.size=w.heap.size+1):=by rw[Hid,hW0];simp
 rw[<- hW0]at HB0 hX;have hXm:=za hX hz0 ((bRf W0.heap.size W0).alloc (Nat.le_refl _) (.map #[] 0));have hzm:w.heap.size<(W0.alloc (.map #[] 0)).heap.size:=Nat.lt_trans hz0 (by simp)
 (try rw[<- hW0])
 (try rw[<- HWe.o])
 clear hW0
 (try go_wp2_with fail)
 clear hmk hXm hzm
 go_loopw [10] (fun iv wr=>∃k:Nat,k<=b.os.length/\iv=.i k/\Hid ((∃f,zH wr W0.heap.size f/\zbj f b.os k)/\Bw W0 wr)) (fun iv _=>b.os.length-(intOf iv).toNat)
 case atStart=>exact⟨0,Nat.zero_le _,rfl,⟨_,zH.new W0,fun p q=>by simp⟩,bAl _ _⟩
 case round=>
  obtain⟨k,hk,rfl,HX⟩:=hrel;obtain⟨⟨f,hf,hc⟩,hB⟩:=HX.o;have hkn:k<=1048576:=by omega
  by_cases hlt:k<b.os.length
  ·obtain⟨ob,off,v0,v1,q0,q1,rfl,hob,hsm,hl0,hl1,d0,d1,d2,d3,d4,d5,d6⟩:=HW.o.os.load (HB0.o.trans (hB.mono HB0.o.size)) k hlt
   have hltI:(k:Int)<(b.os.length:Int):=by omega
   have hob':ob<wr.heap.size:=nLt hob (HB0.o.trans (hB.mono HB0.o.size)).size;have HKn:Hid (b.os[k].Small):=hsm;have HPf:Hid (zH wr W0.heap.size f/\zbj f b.os k/\Bw W0 wr):=⟨hf,hc,hB⟩
   clear hf hc hB HX hsm hl0 hl1
   cases he:b.os[k].en with
   | false=>
    rw[he]at d4
    have HC:Hid ((∃f,zH (wr.alloc (.cells #[.s b.os[k].kd,.s b.os[k].nm,.s b.os[k].tm,.l v0 b.os[k].vs.length q0,.bool false,.l v1 b.os[k].hs.length q1,.i b.os[k].vr] 116)) W0.heap.size f/\zbj f b.os (k+1))/\Bw W0 (wr.alloc (.cells #[.s b.os[k].kd,.s b.os[k].nm,.s b.os[k].tm,.l v0 b.os[k].vs.length q0,.bool false,.l v1 b.os[k].hs.length q1,.i b.os[k].vr] 116))):=
     ⟨⟨f,HPf.o.1.mono (bAl _ _),HPf.o.2.1.skip hlt he⟩,HPf.o.2.2.alloc HPf.o.2.2.size _⟩
    go_wp2
    exact⟨⟨k+1,by omega,by go_num,HC.o⟩,zi hlt⟩
   | true=>
    have hk7:=jr b.os[k] v0 v1 q0 q1 (wr.alloc (.cells #[.s b.os[k].kd,.s b.os[k].nm,.s b.os[k].tm,.l v0 b.os[k].vs.length q0,.bool true,.l v1 b.os[k].hs.length q1,.i b.os[k].vr] 116));unfold oC at hk7;rw[he]at d4 hk7;go_wp2_with fail
    refine hk7.mono ?_;rintro e w1⟨rfl,hb1⟩;have hBa:=(HPf.o.2.2.alloc HPf.o.2.2.size (.cells #[.s b.os[k].kd,.s b.os[k].nm,.s b.os[k].tm,.l v0 b.os[k].vs.length q0,.bool true,.l v1 b.os[k].hs.length q1,.i b.os[k].vr] 116))
    have hf1:zH w1 W0.heap.size f:=(HPf.o.1.mono (bAl _ _)).mono hb1;obtain⟨w2,hup,hf2,hp2⟩:=hf1.upd zaw Tryz.underlying143 b.os[k].kd b.os[k].nm HKn.o.kd HKn.o.nm (k:Int)
    have HC:Hid ((∃f,zH w2 W0.heap.size f/\zbj f b.os (k+1))/\Bw W0 w2):=
     ⟨⟨_,hf2,HPf.o.2.1.put hlt he k⟩,hp2.below (hBa.trans (hb1.mono hBa.size)) (Nat.le_refl _)⟩
    clear hf1 hf2 hp2 hb1 hBa hk7;go_wp2
    exact⟨⟨k+1,by omega,by go_num,HC.o⟩,zi hlt⟩
  ·have e:k=b.os.length:=by omega
   subst e;have HE:Hid ((∃f,zH wr W0.heap.size f/\zbj f b.os b.os.length)/\Bw w wr):=⟨⟨f,hf,hc⟩,HB0.o.trans (hB.mono HB0.o.size)⟩
   clear hf hc hB HX hlt hk;go_wp2
   go_ret;obtain⟨⟨f,h1,h2⟩,h3⟩:=HE.o;exact⟨⟨_,f,rfl,Nat.le_of_lt hz0,h1,h2⟩,h3⟩
def zcv (l:Lw):Bool:=yj l.ss l.ms&&zbP l.ts
theorem zmo (l:Lw)(a b c:OA)(ca cb cc:Nat)(w:World)(hl:qp w l a b c)(hf:l.Few) :
 Calls Tryz.prog 81 #[.agg (l.cells a b c ca cb cc)] w fun e w'=>e=.returned (.bool (zcv l))/\Bw w w':=by
 have HL:Hid (qp w l a b c):=hl;have HF:Hid l.Few:=hf;clear hl hf;unfold Lw.cells
 by_cases h1:yj l.ss l.ms=true
 ·have HQ:Hid (zcv l=zbP l.ts):=by unfold Hid zcv;rw[h1];rfl
  have HM:Hid (yj l.ss l.ms=true):=h1;clear h1;go_in;go_wp2_with fail
  refine(zw HM.o (zeV _ _ _ _ l.ss l.ms _ (HL.o.ss.mono (bAl _ _)) (HL.o.ms.mono (bAl _ _)) HF.o.ms)).mono ?_;rintro e w1⟨rfl,hb⟩;have hX1:=za (zI w (lC l a b c ca cb cc) 47) (by simp) hb;have hz1:w.heap.size<w1.heap.size:=by have:=hb.size;simp at this;omega
  have hB1:Bw w w1:=(bAl _ _).trans (hb.mono (by simp));clear hb;go_wp2_with fail
  refine(zjN _ _ l.ts _ (HL.o.ts.mono hB1)).mono ?_;rintro e w2⟨rfl,hb⟩;have hB2:=hB1.trans (hb.mono hB1.size);clear hb hX1 hz1 hB1;go_wp2
  go_ret;exact⟨ze HQ.o.symm,hB2⟩
 ·have h1':yj l.ss l.ms=false:=by simpa using h1
  have HQ:Hid (zcv l=false):=by unfold Hid zcv;rw[h1'];rfl
  have HM:Hid (yj l.ss l.ms=false):=h1';clear h1 h1';go_in;go_wp2_with fail
  refine(zw HM.o (zeV _ _ _ _ l.ss l.ms _ (HL.o.ss.mono (bAl _ _)) (HL.o.ms.mono (bAl _ _)) HF.o.ms)).mono ?_;rintro e w1⟨rfl,hb⟩;have hB1:Bw w w1:=(bAl _ _).trans (hb.mono (by simp));clear hb;go_wp2
  go_ret;exact⟨ze HQ.o.symm,hB1⟩
theorem zlQ (l:Lw)(a b c:OA)(ca cb cc:Nat)(w:World)(hl:qp w l a b c) :
 Calls Tryz.prog 62 #[.agg (l.cells a b c ca cb cc)] w fun e w'=>e=.returned (.bool (zcv l))/\Bw w w':=by
 have HL:Hid (qp w l a b c):=hl;clear hl;unfold Lw.cells
 by_cases h1:yj l.ss l.ms=true
 ·have HQ:Hid (zcv l=zaW l.ts):=by unfold Hid zcv;rw[h1,znR];rfl
  have HM:Hid (jl l.ss l.ms=true):=by unfold Hid;rw[<- zhv];exact h1
  clear h1;go_in;go_wp2_with fail
  refine(zw HM.o (ze2 _ _ _ _ l.ss l.ms _ (HL.o.ss.mono (bAl _ _)) (HL.o.ms.mono (bAl _ _)))).mono ?_;rintro e w1⟨rfl,hb⟩;have hX1:=za (zI w (lC l a b c ca cb cc) 47) (by simp) hb;have hz1:w.heap.size<w1.heap.size:=by have:=hb.size;simp at this;omega
  have hB1:Bw w w1:=(bAl _ _).trans (hb.mono (by simp));clear hb;go_wp2_with fail
  refine(zjj _ _ l.ts _ (HL.o.ts.mono hB1)).mono ?_;rintro e w2⟨rfl,hb⟩;have hB2:=hB1.trans (hb.mono hB1.size);clear hb hX1 hz1 hB1;go_wp2
  go_ret;exact⟨ze HQ.o.symm,hB2⟩
 ·have h1':yj l.ss l.ms=false:=by simpa using h1
  have HQ:Hid (zcv l=false):=by unfold Hid zcv;rw[h1'];rfl
  have HM:Hid (jl l.ss l.ms=false):=by unfold Hid;rw[<- zhv];exact h1'
  clear h1 h1';go_in;go_wp2_with fail
  refine(zw HM.o (ze2 _ _ _ _ l.ss l.ms _ (HL.o.ss.mono (bAl _ _)) (HL.o.ms.mono (bAl _ _)))).mono ?_;rintro e w1⟨rfl,hb⟩;have hB1:Bw w w1:=(bAl _ _).trans (hb.mono (by simp));clear hb;go_wp2
  go_ret;exact⟨ze HQ.o.symm,hB1⟩
end Go.Proofs.YtjnpjkigofldlaaGreat
