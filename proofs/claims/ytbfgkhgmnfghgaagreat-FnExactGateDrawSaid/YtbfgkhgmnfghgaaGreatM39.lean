import Derived.Test.YtbfgkhgmnfghgaaGreatM38
set_option maxHeartbeats 4000000
namespace Go.Proofs.YtbfgkhgmnfghgaaGreat
theorem zrI (ws:List BA)(v:BA):has ws v=true↔v∈ws:=by
 unfold has;rw[List.any_eq_true]
 constructor
 ·rintro⟨x,hx,he⟩
  have:x=v:=by simpa using he
  rw[<- this];exact hx
 ·intro h;exact⟨v,h,by simp⟩
theorem zn3 {ss:List Shp}(h:zZ ss=true)(i:Nat)(hi:i<ss.length)(j:Nat)(hj:j<ss[i].fs.length):zfi ss ss[i].fs j=true:=by
 have h1:=zhA h i hi;unfold y8 at h1;rw[getD_at ss i _ hi]at h1;simp only[Bool.and_eq_true]at h1;have h2:=h1.2;unfold ql at h2;simp only[Bool.and_eq_true]at h2;exact zih hj h2.2
theorem znf {ss:List Shp}(h:zZ ss=true)(i:Nat)(hi:i<ss.length)(j:Nat)(hj:j<ss[i].fs.length):isSet ss[i].fs[j].nm=true:=by
 have h1:=zn3 h i hi j hj;rw[zjo _ _ _ hj]at h1;simp only[Bool.and_eq_true]at h1;have h2:=h1.1.1;rw[zpX];intro e;rw[e]at h2
 revert h2
 decide
theorem zfj {ss:List Shp}(h:zZ ss=true)(i:Nat)(hi:i<ss.length)(j k:Nat)(hj:j<k)(hk:k<ss[i].fs.length):(ss[i].fs[j]'(by omega)).nm≠ss[i].fs[k].nm:=by
 have h1:=zn3 h i hi k hk;rw[zjo _ _ _ hk]at h1;simp only[Bool.and_eq_true,Bool.not_eq_true']at h1;have h2:=h1.1.2;intro e;unfold hasName at h2;rw[List.any_eq_false]at h2
 have hm:ss[i].fs[j]'(by omega)∈ss[i].fs.take k:=by
  rw[List.mem_iff_getElem];exact⟨j,by simp;omega,by simp⟩
 exact h2 _ hm (by simpa using e)
theorem zq5 {ss:List Shp}(h:zZ ss=true)(i:Nat)(hi:i<ss.length)(j k:Nat)(hj:j<ss[i].fs.length)(hk:k<ss[i].fs.length)(e:zba ss[i] j=zba ss[i] k):j=k:=by
 unfold zba at e;rw[getD_at _ _ _ hj,getD_at _ _ _ hk]at e
 rcases Nat.lt_trichotomy j k with h1|h1|h1
 ·exact absurd e (zfj h i hi j k h1 hk)
 ·exact h1
 ·exact absurd e.symm (zfj h i hi k j h1 hj)
theorem zp3 {ss:List Shp}(h:zZ ss=true)(m:Mnd):j4 ss m=zbq ss m:=by
 unfold j4 zbq
 by_cases hk:zJ ss m.kd=true
 ·rw[hk,Bool.true_and,Bool.true_and]
  unfold zJ at hk;rw[List.any_eq_true]at hk;obtain⟨x,hx,he⟩:=hk;obtain⟨i,hi,rfl⟩:=List.mem_iff_getElem.1 hx;have hkd:ss[i].kd=m.kd:=by simpa using he
  rw[<- hkd,zey h i hi];unfold za4 yF
  by_cases hp:plain ss[i].fs m.fd=true
  ·have hfd:isSet m.fd=true:=by
    rcases jE ss[i].fs m.fd with⟨_,h2⟩|⟨k,hk',_,h2,_⟩
    ·rw[zaJ h2]at hp;cases hp
    ·rw[<- h2];exact znf h i hi k hk'
   have hne:∀v,isSet v=false->v≠m.fd:=fun v hv e=>by rw[e,hfd]at hv;cases hv
   rw[hp,Bool.true_and,Bool.true_and]
   have e:(zP m).all (jY ss[i].fs m)=((!isSet m.wh||plain ss[i].fs m.wh)&&(!isSet m.fr||plain ss[i].fs m.fr)&&!decide (m.wh=m.fd)&&!decide (m.fr=m.fd)):=by
    unfold zP;rw[List.all_filter];unfold jY
    rcases hw:isSet m.wh with _|_ <;> rcases hf:isSet m.fr with _|_
    ·simp[hw,hf,hne _ hw,hne _ hf]
    ·simp[hw,hf,hne _ hw]
     cases plain ss[i].fs m.fr <;> simp
    ·simp[hw,hf,hne _ hf]
     cases plain ss[i].fs m.wh <;> simp
    ·simp[hw,hf]
     cases plain ss[i].fs m.wh <;> cases plain ss[i].fs m.fr <;> simp
   rw[e]
  ·have hpf:plain ss[i].fs m.fd=false:=by simpa using hp
   rw[hpf];simp
 ·have hkf:zJ ss m.kd=false:=by simpa using hk
  rw[hkf];rfl
theorem zow {ss:List Shp}{ms:List Mnd}(h:zZ ss=true)(hm:ms.all (j4 ss)=true)(i:Nat)(hi:i<ss.length)(row:List Nat)(hrow:∀q∈row,q<ss[i].fs.length)(j:Nat)(hj:j<ss[i].fs.length) :
 jF ss[i] ms (row.map (zba ss[i])) j=ready (zm ss[i] ms) row j:=by
 have hmem:∀q,q<ss[i].fs.length->(has (row.map (zba ss[i])) (zba ss[i] q)=true↔q∈row):=by
  intro q hq;rw[zrI,List.mem_map]
  constructor
  ·rintro⟨p,hp,e⟩
   rw[<- zq5 h i hi p q (hrow p hp) hq e];exact hp
  ·intro hp;exact⟨q,hp,rfl⟩
 rw[Bool.eq_iff_iff,zhv];unfold jF;rw[Bool.and_eq_true,Bool.not_eq_true',<- Bool.not_eq_true,hmem j hj];refine and_congr Iff.rfl ?_;unfold zcx;rw[List.all_eq_true]
 -- what a mend that turns j reads
 have hread:∀m∈ms,turns m ss[i] j=true->∀v∈zP m,∃q,q<ss[i].fs.length/\zR ss[i].fs v=(q:Int)/\zba ss[i] q=v:=by
  intro m hmm ht v hv;unfold turns at ht;simp only[Bool.and_eq_true,decide_eq_true_eq]at ht;have h1:=List.all_eq_true.1 hm m hmm;unfold j4 at h1;rw[ht.1,zey h i hi]at h1;simp only[Bool.and_eq_true]at h1;have h2:=h1.2;unfold za4 at h2;simp only[Bool.and_eq_true]at h2;have h3:=List.all_eq_true.1 h2.1.2 v hv;unfold jY at h3;simp only[Bool.and_eq_true]at h3
  rcases jE ss[i].fs v with⟨_,h5⟩|⟨k,hk,h4,h5,_⟩
  ·rw[zaJ h5]at h3;exact absurd h3.2 (by simp)
  ·exact⟨k,hk,h4,by unfold zba;rw[getD_at _ _ _ hk];exact h5⟩
 have hR:∀m,qE ss[i].kd (zba ss[i] j) (row.map (zba ss[i])) m=true↔(turns m ss[i] j=true->∀v∈zP m,has (row.map (zba ss[i])) v=true):=by
  intro m;have e1:turns m ss[i] j=(decide (m.kd=ss[i].kd)&&decide (m.fd=zba ss[i] j)):=rfl;unfold qE;rw[<- e1]
  rcases turns m ss[i] j with _|_
  ·simp
  ·unfold zP
   rcases hw:isSet m.wh with _|_ <;> rcases hf:isSet m.fr with _|_ <;> simp[hw,hf]
 constructor
 ·intro hall q hq
  unfold zm at hq;obtain⟨x,hx,rfl⟩:=List.mem_map.1 hq;unfold yA at hx;obtain⟨m,hmm,hx⟩:=List.mem_flatMap.1 hx
  by_cases ht:turns m ss[i] j=true
  ·rw[if_pos ht]at hx
   obtain⟨v,hv,rfl⟩:=List.mem_map.1 hx;obtain⟨q,hq,e1,e2⟩:=hread m hmm ht v hv
   have:=(hR m).1 (hall m hmm) ht v hv
   rw[e1,Int.toNat_natCast];rw[<- e2]at this;exact(hmem q hq).1 this
  ·rw[if_neg ht]at hx;cases hx
 ·intro hall m hmm
  rw[hR];intro ht v hv;obtain⟨q,hq,e1,e2⟩:=hread m hmm ht v hv;rw[<- e2,hmem q hq];refine hall q ?_;unfold zm;rw[List.mem_map];refine⟨(q:Int),?_,Int.toNat_natCast _⟩;unfold yA;rw[List.mem_flatMap];refine⟨m,hmm,?_⟩;rw[if_pos ht,List.mem_map];exact⟨v,hv,e1⟩
theorem find_congr {α:Type}{f g:α->Bool}:∀ {l:List α},(∀x∈l,f x=g x)->l.find? f=l.find? g
 | [],_=>rfl
 | a :: l,h=>by
  have h1:=h a (by simp);have h2:=find_congr (f:=f) (g:=g) (l:=l) (fun x hx=>h x (by simp[hx]));rw[List.find?_cons,List.find?_cons,h1,h2]
theorem zeD {ss:List Shp}{ms:List Mnd}(h:zZ ss=true)(hm:ms.all (j4 ss)=true)(i:Nat)(hi:i<ss.length):∀k,yj ss[i] ms k=(greedy (zm ss[i] ms) ss[i].fs.length k).map (zba ss[i])
 | 0=>rfl
 | k+1=>by
  show zfs ss[i] ms (yj ss[i] ms k)=(more (zm ss[i] ms) ss[i].fs.length (greedy (zm ss[i] ms) ss[i].fs.length k)).map (zba ss[i])
  rw[zeD h hm i hi k];have hpart:=zcm (zm ss[i] ms) ss[i].fs.length k
  have e:(List.range ss[i].fs.length).find? (jF ss[i] ms ((greedy (zm ss[i] ms) ss[i].fs.length k).map (zba ss[i])))=pick (zm ss[i] ms) ss[i].fs.length (greedy (zm ss[i] ms) ss[i].fs.length k):=by
   unfold pick
   apply find_congr
   intro x hx;exact zow h hm i hi _ hpart.mem x (List.mem_range.1 hx)
  unfold zfs more;rw[e]
  cases pick (zm ss[i] ms) ss[i].fs.length (greedy (zm ss[i] ms) ss[i].fs.length k) with
  | none=>rfl
  | some q=>simp
theorem znh {ss:List Shp}{ms:List Mnd}(h:zZ ss=true)(hm:ms.all (j4 ss)=true)(i:Nat)(hi:i<ss.length):rowOk ms ss[i]=zcw ms ss[i]:=by
 unfold rowOk zcw;rw[zeD h hm i hi,List.length_map];refine ziQ (fun p hp q hq=>?_);unfold zm at hq;obtain⟨x,hx,rfl⟩:=List.mem_map.1 hq
 have:=zj6 h hm i hi p hp x hx
 omega
theorem zg1 (ss:List Shp)(ms:List Mnd):yB ss ms=jr ss ms:=by
 unfold yB jr
 by_cases h:zZ ss=true
 ·have e1:ms.all (zbq ss)=ms.all (j4 ss):=by congr 1;funext m;exact(zp3 h m).symm
  rw[e1,h]
  by_cases hm:ms.all (j4 ss)=true
  ·have e2:ss.all (rowOk ms)=ss.all (zcw ms):=by
    rw[Bool.eq_iff_iff,List.all_eq_true,List.all_eq_true]
    constructor
    ·intro ha x hx
     obtain⟨i,hi,rfl⟩:=List.mem_iff_getElem.1 hx;rw[<- znh h hm i hi];exact ha _ hx
    ·intro ha x hx
     obtain⟨i,hi,rfl⟩:=List.mem_iff_getElem.1 hx;rw[znh h hm i hi];exact ha _ hx
   rw[e2];cases decide (ms.length<=12) <;> simp
  ·have hmf:ms.all (j4 ss)=false:=by simpa using hm
   rw[hmf];simp
 ·have hf:zZ ss=false:=by simpa using h
  rw[hf];simp
end Go.Proofs.YtbfgkhgmnfghgaaGreat
namespace Go.Proofs.YtbfgkhgmnfghgaaGreat
open Go.RowKit
theorem zjj (a c:OA)(ca cc:Nat)(xs ys:List BA)(w:World)(hx:zG w a xs)(hy:zG w c ys)(hl:xs.length<=1048576)(hl':ys.length<=1048576) :
 Calls Tryz.prog 212 #[.l a xs.length ca,.l c ys.length cc] w fun e w'=>e=.returned (.bool (decide (xs=ys)))/\Bw w w':=by
 obtain⟨r,hr⟩:=nm (decide (xs=ys));rw[<- hr];have HR:Hid (r=decide (xs=ys)):=hr;have HX:Hid (zG w a xs/\zG w c ys):=⟨hx,hy⟩
 clear hr hx hy
 by_cases hn:xs.length=ys.length
 rotate_left
 ·have HF:Hid (r=false):=by unfold Hid;rw[HR.o,decide_eq_false_iff_not];intro e;exact hn (by rw[e])
  have e1:((xs.length:Int) != (ys.length:Int))=true:=by simp;omega
  clear hn;go_enter Tryz.func212,Tryz.ntmps212;go_wp2_with fail
  go_ret;exact⟨ze HF.o.symm,bRf _ _⟩
 have e1:((xs.length:Int) != (ys.length:Int))=false:=by simp;omega
 have HN:Hid (xs.length=ys.length):=hn;clear hn;go_enter Tryz.func212,Tryz.ntmps212;go_wp2_with fail
 go_loopw [13] (fun iv wr=>∃k:Nat,k<=xs.length/\iv=.i k/\Hid ((∀i (h:i<xs.length) (h':i<ys.length),i<k->xs[i]=ys[i])/\Bw w wr)) (fun iv _=>xs.length-(intOf iv).toNat)
 case atStart=>exact⟨0,Nat.zero_le _,rfl,fun i h h' hk=>by omega,bRf _ _⟩
 case round=>
  obtain⟨k,hk,rfl,HQ⟩:=hrel;have hkn:k<=1048576:=by omega
  by_cases hlt:k<xs.length
  ·have hlt':k<ys.length:=by have:=HN.o;omega
   obtain⟨p,po,rfl,hp,hpc⟩:=HX.o.1.cells (by intro e;rw[e]at hlt;simp at hlt);obtain⟨q,qo,rfl,hq,hqc⟩:=HX.o.2.cells (by intro e;rw[e]at hlt';simp at hlt');have c1:=(HQ.o.2.cell (p:=(aD p (po+k))) hp).trans (hpc k hlt);have c2:=(HQ.o.2.cell (p:=(aD q (qo+k))) hq).trans (hqc k hlt');have hltI:(k:Int)<(xs.length:Int):=by omega
   have hltI':(k:Int)<(ys.length:Int):=by omega
   have hp':p<wr.heap.size:=nLt hp HQ.o.2.size;have hq':q<wr.heap.size:=nLt hq HQ.o.2.size;have HB:Hid (Bw w wr):=HQ.o.2;clear hpc hqc
   by_cases he:xs[k]=ys[k]
   ·have e2:(xs[k].toList == ys[k].toList)=true:=by rw[beq_toList];simpa using he
    have HA:Hid (∀i (h:i<xs.length) (h':i<ys.length),i<k+1->xs[i]=ys[i]):=by
     intro i h h' hi
     rcases Nat.eq_or_lt_of_le (Nat.le_of_lt_succ hi) with e|h2
     ·subst e;exact he
     ·exact HQ.o.1 i h h' h2
    clear he HQ;go_wp2_with fail
    go_quiet (fail)
    go_wp2_with fail
    exact⟨⟨k+1,by omega,by go_num,HA.o,below_drewN HB.o _⟩,zn hlt⟩
   ·have e2:(xs[k].toList == ys[k].toList)=false:=by rw[beq_toList];simpa using he
    have HF:Hid (r=false):=by
     unfold Hid;rw[HR.o,decide_eq_false_iff_not];intro e;subst e;exact he rfl
    clear he HQ;go_wp2_with fail
    go_quiet (fail)
    go_wp2_with fail
    go_ret;exact⟨ze HF.o.symm,below_drewN HB.o _⟩
  ·have HF:Hid (r=true):=by
    unfold Hid;rw[HR.o,decide_eq_true_eq];exact List.ext_getElem HN.o fun i h h'=>HQ.o.1 i h h' (by omega)
   have HB:Hid (Bw w wr):=HQ.o.2;clear HQ;go_wp2_with fail
   go_ret;exact⟨ze HF.o.symm,HB.o⟩
theorem yV.new (w:World):yV (w.alloc (.map #[] 0)) w.heap.size (fun _ _=>none):=
 ⟨⟨#[],0,Array.getElem?_push_size,fun x hx=>(by simp at hx),fun a b v h=>(by cases h),fun i j x y hx=>(by simp at hx)⟩,fun es c h=>by
  have e:(w.alloc (.map #[] 0)).heap[w.heap.size]?=some (.map #[] 0):=Array.getElem?_push_size;rw[e]at h
  cases h
  exact⟨fun x hx=>(by simp at hx),by simp⟩⟩
theorem zhx.below {r B:Nat}{w0 w w':World}(h:zhx r w w')(hb:Below B w0 w)(hr:B<=r):Below B w0 w':=
 ⟨h.os.trans hb.os,h.tape.trans hb.tape,h.output.trans hb.output,by rw[h.size];exact hb.size,fun k hk=>(h.out k (by omega)).trans (hb.block k hk)⟩
theorem zkV (o:Ob)(a0 a1:OA)(c0 c1:Nat)(w:World):Calls Tryz.prog 210 #[.agg #[.s o.kd,.s o.nm,.s o.tm,.l a0 o.vs.length c0,.bool o.en,.l a1 o.hs.length c1,.i o.vr]] w fun e w'=>e=.returned (qC o.kd o.nm)/\Bw w w':=by
 unfold qC;go_enter Tryz.func210,Tryz.ntmps210;go_wp2_with fail
 refine bodyPost_ret (v:=.agg #[.s o.kd,.s o.nm]) (by simp[results,Tryz.results210,go_sem]) rfl ⟨rfl,?_⟩
 first|exact zw _ _ _|exact((zw _ _ _).setCell (by simp) _).setCell (by simp) _|exact((zw _ _ _).setCell (by show _<=_+1;omega) _).setCell (by show _<=_+1;omega) _
structure zcV (f:BA->BA->Option Int)(os:List Ob)(k:Nat):Prop where
 has:∀p q,(f p q).isSome=(os.take k).any (zb7 p q)
 at_:∀p q v,f p q=some v->∃i,∃h:i<os.length,v=(i:Int)/\os[i].kd=p/\os[i].nm=q
theorem zcV.put {f:BA->BA->Option Int}{os:List Ob}{k:Nat}(h:zcV f os k)(hlt:k<os.length):zcV (fun p q=>if p=os[k].kd/\q=os[k].nm then some (k:Int) else f p q) os (k+1):=by
 refine⟨fun p q=>?_,fun p q v hv=>?_⟩
 ·rw[tSe hlt,List.any_append,<- h.has p q]
  simp only[List.any_cons,List.any_nil,Bool.or_false]
  by_cases e:p=os[k].kd/\q=os[k].nm
  ·rw[if_pos e]
   unfold zb7
   simp[e.1,e.2]
  ·rw[if_neg e]
   have:zb7 p q os[k]=false:=by
    unfold zb7;rw[Bool.and_eq_false_iff,decide_eq_false_iff_not,decide_eq_false_iff_not]
    by_cases e1:os[k].kd=p
    ·exact Or.inr fun e2=>e ⟨e1.symm,e2.symm⟩
    ·exact Or.inl e1
   rw[this,Bool.or_false]
 ·by_cases e:p=os[k].kd/\q=os[k].nm
  ·rw[if_pos e]at hv
   exact⟨k,hlt,(Option.some.inj hv).symm,e.1.symm,e.2.symm⟩
  ·rw[if_neg e]at hv
   exact h.at_ p q v hv
theorem ziN (a:OA)(cap:Nat)(os:List Ob)(w:World)(hw:zbC w a os)(hl:os.length<=1048576) :
 Calls Tryz.prog 167 #[.l a os.length cap] w fun e w'=>(∃f,e=.returned (.map (some w.heap.size))/\yV w' w.heap.size f/\zcV f os os.length)/\Bw w w':=by
 have HW:=hid hw;have hmk:∀w:World,(Instr.makeMap 217 none).run Tryz.prog w=.ok (.map (some w.heap.size)) (w.alloc (.map #[] 0)):=fun w=>by kernel_rfl
 clear hw;go_enter Tryz.func167,Tryz.ntmps167;go_wp2_with fail
 clear hmk
 go_loopw [9] (fun iv wr=>∃k:Nat,k<=os.length/\iv=.i k/\Hid ((∃f,yV wr w.heap.size f/\zcV f os k)/\Bw w wr)) (fun iv _=>os.length-(intOf iv).toNat)
 case atStart=>exact⟨0,Nat.zero_le _,rfl,⟨_,yV.new w,⟨fun p q=>by simp,fun p q v h=>by cases h⟩⟩,bAl _ _⟩
 case round=>
  obtain⟨k,hk,rfl,HX⟩:=hrel;obtain⟨⟨f,hf,hc⟩,hB⟩:=HX.o;have hkn:k<=1048576:=by omega
  by_cases hlt:k<os.length
  ·obtain⟨ob,off,v0,v1,q0,q1,rfl,hob,hsm,hl0,hl1,d0,d1,d2,d3,d4,d5,d6⟩:=HW.o.load hB k hlt
   have hltI:(k:Int)<(os.length:Int):=by omega
   have hob':=nLt hob hB.size;have HKn:=hid hsm;have HPf:=za6 hf hc hB;clear hf hc hB HX hsm hl0 hl1;go_wp2_with fail
   refine(zkV os[k] v0 v1 q0 q1 _).mono ?_;rintro e w1⟨rfl,hb1⟩;have hBa:=(HPf.o.2.2.alloc HPf.o.2.2.size (.cells #[.s os[k].kd,.s os[k].nm,.s os[k].tm,.l v0 os[k].vs.length q0,.bool os[k].en,.l v1 os[k].hs.length q1,.i os[k].vr] 123))
   have hf1:yV w1 w.heap.size f:=(HPf.o.1.mono (bAl _ _)).mono hb1;obtain⟨w2,hup,hf2,hp2⟩:=hf1.upd zkd Tryz.underlying217 os[k].kd os[k].nm HKn.o.kd HKn.o.nm (k:Int)
   have HC:Hid ((∃f,yV w2 w.heap.size f/\zcV f os (k+1))/\Bw w w2):=
    ⟨⟨_,hf2,HPf.o.2.1.put hlt⟩,hp2.below (hBa.trans (hb1.mono hBa.size)) (Nat.le_refl _)⟩
   clear hf1 hf2 hp2 hb1 hBa;go_wp2_with fail
   exact⟨⟨k+1,by omega,by go_num,HC.o⟩,zn hlt⟩
  ·have e:k=os.length:=by omega
   subst e;have HE:Hid (∃f,yV wr w.heap.size f/\zcV f os os.length):=⟨f,hf,hc⟩
   have HB:=hid hB;clear hf hc hB HX hlt hk;go_wp2_with fail
   go_ret;obtain⟨f,h1,h2⟩:=HE.o;exact⟨⟨f,rfl,h1,h2⟩,HB.o⟩
theorem zhw (a:OA)(cap:Nat)(os:List Ob)(w:World)(hw:zbC w a os)(hl:os.length<=1048576) :
 Calls Tryz.prog 167 #[.l a os.length cap] w fun e w'=>(∃f,e=.returned (.map (some w.heap.size))/\yV w' w.heap.size f/\∀p q,(f p q).isSome=os.any (zb7 p q))/\Bw w w':=by
 refine(ziN a cap os w hw hl).mono ?_;rintro e w'⟨⟨f,he,hf,hp⟩,hb⟩;exact⟨⟨f,he,hf,fun p q=>by rw[hp.has p q,tOl (Nat.le_refl _)]⟩,hb⟩
theorem zbu.from {w:World}{a:OA}{xs:List Lg}(h:zbu w a xs)(hne:xs.length≠0):∃p,a=some p/\∀j u,(xs.flatMap Lg.row)[j]?=some u->w.cell? (p.add j)=some u:=by
 obtain⟨b,off,rfl,_⟩:=h.rows (fun e=>hne (by rw[e];rfl));exact⟨_,rfl,zq8 h⟩
theorem zaP.from {w:World}{a:OA}{xs:List Pu}(h:zaP w a xs)(hne:xs.length≠0):∃p,a=some p/\∀j u,(xs.flatMap Pu.row)[j]?=some u->w.cell? (p.add j)=some u:=by
 obtain⟨b,off,rfl,_⟩:=h.rows (fun e=>hne (by rw[e];rfl));exact⟨_,rfl,zqT h⟩
set_option maxRecDepth 20000 in
theorem zmi (b:Bk)(a0 a1 a2 a3:OA)(c0 c1 c2 c3:Nat)(w:World)(hl:jk w b a0 a1 a2 a3)(hf:b.Few) :
 Calls Tryz.prog 37 #[.agg #[.i b.now,.i b.tick,.i b.given,.l a0 b.os.length c0,.l a1 b.gs.length c1,.l a2 b.ls.length c2,.l a3 b.ps.length c3]] w fun e w'=>∃own d0 d1 d2 d3 e0 e1 e2 e3,e=.returned (.agg #[.i b.now,.i b.tick,.i b.given,.l d0 b.os.length e0,.l d1 b.gs.length e1,.l d2 b.ls.length e2,.l d3 b.ps.length e3])/\BkL (w.heap.size+1+1) w'.heap.size w' own b d0 d1 d2 d3/\(zdl (w.heap.size+1+1) w' own (.l d2 b.ls.length e2) b.ls/\zcq (w.heap.size+1+1) w' own (.l d3 b.ps.length e3) b.ps)/\Bw w w':=by
 obtain⟨i2,hi2,hzi2,hsi2,hbi2⟩:=info_parts Tryz.zry;obtain⟨i3,hi3,hzi3,hsi3,hbi3⟩:=info_parts Tryz.zgb;have HI2:=zbT hi2 hzi2 hsi2 hbi2;have HI3:=zbT hi3 hzi3 hsi3 hbi3;have HL:=hid hl;have HF:=hid hf;clear hl hf hi2 hzi2 hsi2 hbi2 hi3 hzi3 hsi3 hbi3;have k0:=zS w (.cells (bC b a0 a1 a2 a3 c0 c1 c2 c3) 40) (.cells bZ 40);have hB0:=zw w (.cells (bC b a0 a1 a2 a3 c0 c1 c2 c3) 40) (.cells bZ 40);obtain⟨W0,hW0⟩:=nm ((w.alloc (.cells (bC b a0 a1 a2 a3 c0 c1 c2 c3) 40)).alloc (.cells bZ 40));have hz0:W0.heap.size=w.heap.size+1+1:=by rw[hW0];simp
 go_enter Tryz.func37,Tryz.ntmps37;go_wp2_with fail
 rw[<- hW0]at k0 hB0 ⊢;clear hW0;refine(zn7 (fun _=>(9,0,0)) a0 c0 b.os W0 (HL.o.os.mono hB0) HF.o.os.1 HF.o.os.2).mono ?_;rintro e w1⟨v0,own1,rfl,hw1,hr1,hb1⟩;obtain⟨d0,e0,rfl,hn1⟩:=hr1.lie;rw[hz0]at hw1 hn1;have kX:=(hb1.block w.heap.size (by omega)).trans k0.1;have kR:=(hb1.block (w.heap.size+1) (by omega)).trans k0.2;have hz1:=hb1.size;have HB1:=hid (hB0.trans (hb1.mono (by omega)));have HN1:=yU hn1 hw1;clear hr1 hn1 hw1 hb1 k0 hB0;have cX:=fun j=>cell_of_block (o:=j) kX
 have fX:=fun j=>zf (o:=j) kX
 have hzz1:w.heap.size<w1.heap.size:=by omega
 have kX1:=zi (o:=3) kX (.l d0 b.os.length e0);have kR1:=(zD (w:=w1) (o:=3) (v:=.l d0 b.os.length e0) (show w.heap.size+1≠w.heap.size by omega)).trans kR;have HB1':=hid (HB1.o.setCell (p:=(aD w.heap.size 3)) (Nat.le_refl _) (.l d0 b.os.length e0));have HK1:=yU kX1 kR1;have HN1':Hid (zby (w.heap.size+1+1) (w1.setCell (aD w.heap.size 3) (.l d0 b.os.length e0)) own1 d0 b.os.length (zaW b.os)):=HN1.o.1.left ((Left.refl (fun k=>k=w.heap.size) w1).set rfl _ _) (fun k h1 h2=>by subst h2;rw[HN1.o.2 _ (by omega)]at h1;simp at h1);have hsz1:(w1.setCell (aD w.heap.size 3) (.l d0 b.os.length e0)).heap.size=w1.heap.size:=World.size_setCell _ _ _;clear kX kR kX1 kR1;go_wp2_with fail
 generalize w1.setCell (aD w.heap.size 3) (.l d0 b.os.length e0)=W1 at *
 clear cX fX HB1;refine(zm2 own1 a1 c1 b.gs W1 (HL.o.gs.mono HB1'.out) HF.o.gs.1 HF.o.gs.2).mono ?_;rintro e w2⟨v1,own2,rfl,hw2,hr2,hb2⟩;obtain⟨d1,e1,rfl,hn2⟩:=hr2.lie;have HW2:Hid (∀k,k<w.heap.size+1+1->own2 k=(9,0,0)):=fun k hk=>(hw2 k (by omega)).trans (HN1.o.2 k hk)
 have hz2:=hb2.size;have HN2:Hid (zby (w.heap.size+1+1) w2 own2 d0 b.os.length (zaW b.os)/\zcs (w.heap.size+1+1) w2 own2 d1 b.gs.length (zcl b.gs)):=⟨(HN1'.out.own (fun k hk _=>hw2 k hk)).mono hb2,hn2.low (by omega)⟩
 have kX:=(hb2.block w.heap.size (by omega)).trans HK1.o.1;have kR:=(hb2.block (w.heap.size+1) (by omega)).trans HK1.o.2;have HB2:=hid (HB1'.out.trans (hb2.mono HB1'.out.size));clear hr2 hn2 hw2 hb2 HN1 HN1' HK1 HB1';have cX:=fun j=>cell_of_block (o:=j) kX
 have fX:=fun j=>zf (o:=j) kX
 have hzz2:w.heap.size<w2.heap.size:=by omega
 have kX1:=zi (o:=4) kX (.l d1 b.gs.length e1);have kR1:=(zD (w:=w2) (o:=4) (v:=.l d1 b.gs.length e1) (show w.heap.size+1≠w.heap.size by omega)).trans kR;have HB2':=hid (HB2.o.setCell (p:=(aD w.heap.size 4)) (Nat.le_refl _) (.l d1 b.gs.length e1));have HK2:=yU kX1 kR1;have hLs:=(Left.refl (fun k=>k=w.heap.size) w2).set (b:=w.heap.size) rfl 4 (.l d1 b.gs.length e1);have HN2':=yU (HN2.o.1.left hLs (fun k h1 h2=>by subst h2;rw[HW2.o _ (by omega)]at h1;simp at h1)) (HN2.o.2.left hLs (fun k h1 h2=>by subst h2;rw[HW2.o _ (by omega)]at h1;simp at h1));have hsz2:(w2.setCell (aD w.heap.size 4) (.l d1 b.gs.length e1)).heap.size=w2.heap.size:=World.size_setCell _ _ _;have cXX:=fun j=>cell_of_block (o:=j) kX1
 clear kX kR kX1 kR1 hLs
 go_wp2_with (at_builtin;refine zcn ?_)
 generalize w2.setCell (aD w.heap.size 4) (.l d1 b.gs.length e1)=W2 at *
 clear cX fX HB2 HN2 cXX
 show wpList _ _ _ _ _ _
 refine zeg rfl (.const (.l none 0 0)) (.tmp 12) 37 rfl 68 i2 (.agg #[.s ByteArray.empty,.s ByteArray.empty,.i 0,.i 0]) 4 48 Tryz.underlying37 HI2.o.1 HI2.o.2.1 HI2.o.2.2.1 HI2.o.2.2.2 rfl (by decide) rfl a2 b.ls.length c2 (b.ls.flatMap Lg.row) rfl (zbN _ 4 (fun _=>rfl) _) (fun h=>(HL.o.ls.mono HB2'.out).from h) zpE (by have:=HF.o.ls;unfold maxLen;omega) (by have:=HF.o.ls;omega) ?_;intro v2 w3 hown hb3;obtain⟨d2,e2,rfl⟩:=jc hown;obtain⟨own3,he3⟩:∃own3:Nat->Lb,own3=fun k=>if k<W2.heap.size then own2 k else (2,0,0):=⟨_,rfl⟩
 have hw3:∀k,k<W2.heap.size->own3 k=own2 k:=fun k hk=>by rw[he3];exact if_pos hk
 have hR3:zdl W2.heap.size w3 own3 (.l d2 b.ls.length e2) b.ls:=⟨hown,fun k hk=>by rw[he3];exact if_neg (by have:=(hown.lt k hk).1;omega)⟩
 obtain⟨d2',e2',h9,hn3⟩:=hR3.lie
 cases h9
 have HRL:=hid (hR3.low (lo':=(w.heap.size+1+1)) (by omega));have HW3:Hid (∀k,k<w.heap.size+1+1->own3 k=(9,0,0)):=fun k hk=>(hw3 k (by omega)).trans (HW2.o k hk)
 have hz3:=hb3.size;have HN3:Hid (zby (w.heap.size+1+1) w3 own3 d0 b.os.length (zaW b.os)/\zcs (w.heap.size+1+1) w3 own3 d1 b.gs.length (zcl b.gs)/\zcA (w.heap.size+1+1) w3 own3 d2 b.ls.length (zep b.ls)):=⟨(HN2'.out.1.own (fun k hk _=>hw3 k hk)).mono hb3,(HN2'.out.2.own (fun k hk _=>hw3 k hk)).mono hb3,hn3.low (by omega)⟩
 have kX:=(hb3.block w.heap.size (by omega)).trans HK2.o.1;have kR:=(hb3.block (w.heap.size+1) (by omega)).trans HK2.o.2;have HB3:=hid (HB2'.out.trans (hb3.mono HB2'.out.size));clear hR3 hn3 hw3 he3 hown hb3 HN2' HK2 HB2' HW2;have cX:=fun j=>cell_of_block (o:=j) kX
 have fX:=fun j=>zf (o:=j) kX
 have hzz3:w.heap.size<w3.heap.size:=by omega
 have kX1:=zi (o:=5) kX (.l d2 b.ls.length e2);have kR1:=(zD (w:=w3) (o:=5) (v:=.l d2 b.ls.length e2) (show w.heap.size+1≠w.heap.size by omega)).trans kR;have HB3':=hid (HB3.o.setCell (p:=(aD w.heap.size 5)) (Nat.le_refl _) (.l d2 b.ls.length e2));have HK3:=yU kX1 kR1;have hLs:=(Left.refl (fun k=>k=w.heap.size) w3).set (b:=w.heap.size) rfl 5 (.l d2 b.ls.length e2);have HN3':=za6 (HN3.o.1.left hLs (fun k h1 h2=>by subst h2;rw[HW3.o _ (by omega)]at h1;simp at h1)) (HN3.o.2.1.left hLs (fun k h1 h2=>by subst h2;rw[HW3.o _ (by omega)]at h1;simp at h1)) (HN3.o.2.2.left hLs (fun k h1 h2=>by subst h2;rw[HW3.o _ (by omega)]at h1;simp at h1));have HRL':=hid (HRL.o.left hLs (fun k h1 h2=>by subst h2;rw[HW3.o _ (by omega)]at h1;simp at h1));have hsz3:(w3.setCell (aD w.heap.size 5) (.l d2 b.ls.length e2)).heap.size=w3.heap.size:=World.size_setCell _ _ _;have cXX:=fun j=>cell_of_block (o:=j) kX1
 clear kX kR kX1 kR1 hLs
 go_wp2_with (at_builtin;refine zcn ?_)
 generalize w3.setCell (aD w.heap.size 5) (.l d2 b.ls.length e2)=W3 at *
 clear cX fX HB3 HN3 cXX
 show wpList _ _ _ _ _ _
 refine zeg rfl (.const (.l none 0 0)) (.tmp 16) 38 rfl 70 i3 (.agg #[.s ByteArray.empty,.s ByteArray.empty,.s ByteArray.empty,.i 0,.i 0]) 5 64 Tryz.underlying38 HI3.o.1 HI3.o.2.1 HI3.o.2.2.1 HI3.o.2.2.2 rfl (by decide) rfl a3 b.ps.length c3 (b.ps.flatMap Pu.row) rfl (zbN _ 5 (fun _=>rfl) _) (fun h=>(HL.o.ps.mono HB3'.out).from h) zbF (by have:=HF.o.ps;unfold maxLen;omega) (by have:=HF.o.ps;omega) ?_;intro v3 w4 hown hb4;obtain⟨d3,e3,rfl⟩:=jc hown;obtain⟨own4,he4⟩:∃own4:Nat->Lb,own4=fun k=>if k<W3.heap.size then own3 k else if k<w4.heap.size then (3,0,0) else (9,0,0):=⟨_,rfl⟩
 have hw4:∀k,k<W3.heap.size->own4 k=own3 k:=fun k hk=>by rw[he4];exact if_pos hk
 have hR4:zcq W3.heap.size w4 own4 (.l d3 b.ps.length e3) b.ps:=⟨hown,fun k hk=>by have h8:=hown.lt k hk;rw[he4];show(if _ then _ else _)=_;rw[if_neg (by omega),if_pos h8.2]⟩
 obtain⟨d3',e3',h9,hn4⟩:=hR4.lie
 cases h9
 have hz4:=hb4.size
 have HW4:Hid (∀k,(k<w.heap.size+1+1 \/ w4.heap.size<=k)->own4 k=(9,0,0)):=by
  rintro k (hk|hk)
  ·exact(hw4 k (by omega)).trans (HW3.o k hk)
  ·rw[he4];show(if _ then _ else _)=_;rw[if_neg (by omega),if_neg (by omega)]
 have HRR:Hid (zdl (w.heap.size+1+1) w4 own4 (.l d2 b.ls.length e2) b.ls/\zcq (w.heap.size+1+1) w4 own4 (.l d3 b.ps.length e3) b.ps):=⟨(HRL'.out.own (fun k hk _=>hw4 k hk)).left (Left.of_below (fun _=>False) hb4) (fun _ _ h=>h),hR4.low (by omega)⟩
 have HN4:Hid (BkL (w.heap.size+1+1) w4.heap.size w4 own4 b d0 d1 d2 d3):=⟨(HN3'.out.1.own (fun k hk _=>hw4 k hk)).mono hb4,(HN3'.out.2.1.own (fun k hk _=>hw4 k hk)).mono hb4,(HN3'.out.2.2.own (fun k hk _=>hw4 k hk)).mono hb4,hn4.low (by omega),fun k hk=>by rw[HW4.o k hk],by omega,Nat.le_refl _⟩
 have kX:=(hb4.block w.heap.size (by omega)).trans HK3.o.1;have kR:=(hb4.block (w.heap.size+1) (by omega)).trans HK3.o.2;have HB4:=hid (HB3'.out.trans (hb4.mono HB3'.out.size));clear hR4 hn4 hw4 he4 hown hb4 HN3' HK3 HB3' HW3;have cX:=fun j=>cell_of_block (o:=j) kX
 have fX:=fun j=>zf (o:=j) kX
 have cR:=fun j=>cell_of_block (o:=j) kR
 have fR:=fun j=>zf (o:=j) kR
 have hzz4:w.heap.size<w4.heap.size:=by omega
 have hzz5:w.heap.size+1<w4.heap.size:=by omega
 clear kX kR;go_wp2_with fail
 refine bodyPost_ret (v:=.agg #[.i b.now,.i b.tick,.i b.given,.l d0 b.os.length e0,.l d1 b.gs.length e1,.l d2 b.ls.length e2,.l d3 b.ps.length e3]) (by simp[results,Tryz.results37,go_sem,cR]) rfl ⟨own4,d0,d1,d2,d3,e0,e1,e2,e3,rfl,?_⟩
 ·have hL0:=Left.refl (fun k=>k=w.heap.size \/ k=w.heap.size+1) w4
  have hL:=(((((((hL0.set (b:=w.heap.size) (Or.inl rfl) 6 (.l d3 b.ps.length e3)).set (b:=w.heap.size+1) (Or.inr rfl) 0 (.i b.now)).set (b:=w.heap.size+1) (Or.inr rfl) 1 (.i b.tick)).set (b:=w.heap.size+1) (Or.inr rfl) 2 (.i b.given)).set (b:=w.heap.size+1) (Or.inr rfl) 3 (.l d0 b.os.length e0)).set (b:=w.heap.size+1) (Or.inr rfl) 4 (.l d1 b.gs.length e1)).set (b:=w.heap.size+1) (Or.inr rfl) 5 (.l d2 b.ls.length e2)).set (b:=w.heap.size+1) (Or.inr rfl) 6 (.l d3 b.ps.length e3);have h8:=BkF.left HN4.o hL (fun k hk h2=>by rw[HW4.o k (Or.inl (by omega))]at hk;simp at hk);simp only[World.size_setCell];refine⟨h8,⟨HRR.o.1.left hL (fun k hk h2=>by rw[HW4.o k (Or.inl (by omega))]at hk;simp at hk),HRR.o.2.left hL (fun k hk h2=>by rw[HW4.o k (Or.inl (by omega))]at hk;simp at hk)⟩,?_⟩;have h0:w.heap.size<=w.heap.size:=Nat.le_refl _;have h1:w.heap.size<=w.heap.size+1:=Nat.le_succ _
  iterate 7 refine Below.setCell ?_ h1 _
  refine Below.setCell ?_ h0 _;exact HB4.o
section
variable {P:Program} (w:World)
theorem zib {o:Oper}{a:Act}{K:Act->World->Prop}{Q:Exit->Act->World->Prop}(s x:Operand)(t:TypeId)
 (ho:o.op=.call { callee:=.builtin .append,args:=#[s,x],argTypes:=#[t,t] })
 (base:Nat) (e:TypeId) (i:TypeInfo) (z:Value) (size bytes:Nat) (ht:P.underlying t=some (.slice e)) (hi:P.info? e=some i) (hz:i.zero=some z)
 (hsize:i.size=size) (hby:i.bytes=bytes) (hzs:z.cells.size=size) (hsz:0<size)
 (v:Value) (n:Nat) (xs:List Value) (hs:a.eval s=v) (hown:w.ownsRow base e size v n xs)
 (ad:Addr) (m c:Nat) (news:List Value) (hx:a.eval x=.l (some ad) m c) (hl:news.length=m*size) (hnews:∀j u,news[j]?=some u->w.cell? (ad.add j)=some u) (h1:∀u∈news,u.oneCell'=true)
 (h63:n+m<=maxLen) (hbytes:(n+m)*bytes<=140737488355328) (hbase:base<=w.heap.size)
 (h:∀v' w',w'.ownsRow base e size v' (n+m) (xs++news)->w.grownBy w' v.ownBlock->(v'.ownBlock=v.ownBlock \/ v'.ownBlock=some w.heap.size)->K (a.put o.dst v') w'):Oper.wp P o a w K Q:=by
 obtain⟨v',w',hr,h2,h3,_,h5⟩:=run_append_own_at (P:=P) w base t o.type e i z size bytes ht hi hz hsize hby hzs hsz v n xs hown ad m c news hl hnews h1 h63 hbytes hbase;have hk:=h v' w' h2 h3 h5;unfold Oper.wp;simp only[execOp,ho,resolve,invoke,builtin,Sem.run_bind,Sem.run_pure,Result.andThen_ok,List.map_toArray,List.map_cons,List.map_nil,hs,hx,hr];exact hk
end
section
variable {P:Program} {ops:Array Oper} {Q:Exit->Act->World->Prop} {md:Region.Mode} {S:World->Prop}
theorem zrg {i j:Nat}{oi oj:Oper}{fuel:Nat}{listed:Array Bool}{a:Act}{w:World}(hi:nth ops.toList i=some oi)(hj:nth ops.toList j=some oj)
 (h1:∀K:Act->World->Prop,Shut (∀a w,S w->(S w->wpAnyH P md ops Q S fuel (listed.setIfInBounds i true) a w)->K a w)->Oper.wp P oi a w K Q)
 (h2:∀K:Act->World->Prop,Shut (∀a w,S w->(S w->wpAnyH P md ops Q S fuel (listed.setIfInBounds j true) a w)->K a w)->Oper.wp P oj a w K Q)
 (hr:Region.ready md ops listed=[i,j]:=by kernel_rfl) (hwi:Region.wanted oi (yielded ops a.tmps)=true:=by rfl) (hwj:Region.wanted oj (yielded ops a.tmps)=true:=by rfl):wpAnyH P md ops Q S (fuel+1) listed a w:=
 wpAnyH_ready hr (by simp) (AllReadyH.cons (zki hi) (fun K hK=>by rw[if_pos hwi];exact h1 K hK) (AllReadyH.cons (zki hj) (fun K hK=>by rw[if_pos hwj];exact h2 K hK) AllReadyH.nil))
end
set_option maxRecDepth 20000 in
theorem zpi (r:Rl)(a:OA)(cap:Nat)(w:World)(hw:qp w a r.vs)(hl:r.vs.length<=1048576) :
 Calls Tryz.prog 69 #[.agg #[.l a r.vs.length cap,.s r.kd,.s r.tm,.s r.px]] w fun e w'=>∃a' cap',e=.returned (.agg #[.l a' r.vs.length cap',.s r.kd,.s r.tm,.s r.px])/\yu w.heap.size w' a' r.vs/\Bw w w':=by
 by_cases h0:r.vs=[]
 ·have hn:r.vs.length=0:=by rw[h0];rfl
  rw[hn]
  rcases a with _|g
  all_goals
   go_enter Tryz.func69,Tryz.ntmps69;go_wp2_with fail
   refine bodyPost_ret (v:=.agg #[.l (some (aD (w.heap.size+1+1) 0)) 0 0,.s r.kd,.s r.tm,.s r.px]) (by simp[results,Tryz.results69,go_sem]) rfl ⟨some (aD (w.heap.size+1+1) 0),0,rfl,Or.inr ⟨w.heap.size+1+1,#[],rfl,by omega,(zny w _ _ _).2.2,fun i hi=>absurd hi (by rw[h0];simp)⟩,below3' _ _ _ _⟩
 ·obtain⟨b,off,rfl,_⟩:=hw.cells h0
  obtain⟨i0,hi,hz0,hz1,hz2⟩:=info_parts Tryz.zhi;have k0:=zS w (.cells #[.l (some (aD b off)) r.vs.length cap,.s r.kd,.s r.tm,.s r.px] 125) (.cells #[.l none 0 0,.s ⟨#[]⟩,.s ⟨#[]⟩,.s ⟨#[]⟩] 125);have hB0:=zw w (.cells #[.l (some (aD b off)) r.vs.length cap,.s r.kd,.s r.tm,.s r.px] 125) (.cells #[.l none 0 0,.s ⟨#[]⟩,.s ⟨#[]⟩,.s ⟨#[]⟩] 125);obtain⟨W,hW⟩:=nm ((w.alloc (.cells #[.l (some (aD b off)) r.vs.length cap,.s r.kd,.s r.tm,.s r.px] 125)).alloc (.cells #[.l none 0 0,.s ⟨#[]⟩,.s ⟨#[]⟩,.s ⟨#[]⟩] 125));have hz:W.heap.size=w.heap.size+1+1:=by rw[hW];simp
  go_enter Tryz.func69,Tryz.ntmps69
  go_wp2_with (at_builtin;refine zcn ?_)
  rw[<- hW]at k0 hB0 ⊢;clear hW;have hba:=(bRf W.heap.size W).alloc (Nat.le_refl _) (.cells #[] 3);have hna:(W.alloc (.cells #[] 3)).ownsRow (w.heap.size+1+1) 3 1 (.l (some (aD (w.heap.size+1+1) 0)) 0 0) 0 []:=⟨rfl,Or.inr ⟨w.heap.size+1+1,0,#[],rfl,Nat.le_refl _,by rw[<- hz];exact(MapKept.heap_alloc W _).1,Nat.le_refl _,by simp[maxLen],rfl,rfl⟩⟩
  show wpList _ _ _ _ _ _
  refine wpList_append_own _ rfl (.tmp 3) (.tmp 5) 112 rfl (w.heap.size+1+1) 3 i0 (.i 0) 1 8 Tryz.underlying112 hi hz0 hz1 hz2 rfl (by decide) (.l (some (aD (w.heap.size+1+1) 0)) 0 0) 0 [] rfl hna (aD b off) r.vs.length cap (ints r.vs) rfl (by simp[ints]) (zlw ((hw.mono hB0).mono hba)) zng (by unfold maxLen;omega) (by omega) (by have:=hba.size;omega) ?_;intro v' w1 hown hgr _;simp only[Nat.zero_add,List.nil_append]at hown;obtain⟨a',cap',rfl,ho⟩:=yu.zdK hown;have hb1:Bw W w1:=hba.grown hgr (by have:=hba.size;omega) (fun k hk=>by have:=Option.some.inj (show some (w.heap.size+1+1)=some k from hk);omega);have K0:=(hb1.block _ (by omega)).trans k0.1;have K1:=(hb1.block _ (by omega)).trans k0.2;have HF:Hid (yu (w.heap.size+1+1) w1 a' r.vs/\Bw w w1):=⟨ho,hB0.trans (hb1.mono (by omega))⟩
  have cQ:=fun j=>cell_of_block (o:=j) K0
  have fQ:=fun j=>zf (o:=j) K0
  have cR:=fun j=>cell_of_block (o:=j) K1
  have fR:=fun j=>zf (o:=j) K1
  have hsz:=hb1.size;clear hown hgr K0 K1 hb1 k0 hB0 ho hba hna;go_wp2_with fail
  refine bodyPost_ret (v:=.agg #[.l a' r.vs.length cap',.s r.kd,.s r.tm,.s r.px]) (by simp[results,Tryz.results69,go_sem,cR]) rfl ⟨a',cap',rfl,?_,?_⟩
  ·refine yu.low (lo:=w.heap.size+1+1) ?_ (by omega)
   iterate 4 refine yu.setCell ?_ _ (by show w.heap.size+1<_;omega) _
   refine yu.setCell ?_ _ (by show w.heap.size<_;omega) _;exact HF.o.1
  ·have h0:w.heap.size<=w.heap.size:=Nat.le_refl _
   have h1:w.heap.size<=w.heap.size+1:=Nat.le_succ _
   iterate 4 refine Below.setCell ?_ h1 _
   refine Below.setCell ?_ h0 _;exact HF.o.2
set_option maxRecDepth 100000 in
theorem zkh (lo g n c i vb m mc:Nat)(xs vs:List Value)(w:World)(h:w.ownsRow lo 70 5 (.l (some (aD g 0)) n c) n xs)(hi:i<n)(hm:m=1)(hroom:n+m<=c)(hv:w.heap[vb]?=some (.cells vs.toArray 70))(hvl:vs.length=5)(hvb:vb≠g)(h1c:∀v∈xs,v.oneCell'=true)(h1v:∀v∈vs,v.oneCell'=true) :
 Calls Tryz.prog 137 #[.l (some (aD g 0)) n c,.i i,.l (some (aD vb 0)) m mc] w fun e w'=>e=.returned (.l (some (aD g 0)) (n+m) c)/\w'=(w.drew.setCells g ((i+m)*5) (xs.drop (i*5))).setCells g (i*5) vs:=by
 obtain⟨i0,hi0,hz0,hzs,hzb⟩:=info_parts Tryz.zgb;have hsz:(Tryz.prog.info? 70).map (·.size)=some 5:=by rw[hi0];simp[hzs]
 obtain⟨cur,hlo,hg,hnc,hmx,hcz,hxl,htk⟩:∃cur:AV,lo<=g/\w.heap[g]?=some (.cells cur 70)/\n<=c/\c<=maxLen/\cur.size=c*5/\xs.length=n*5/\cur.toList.take (n*5)=xs:=by
  rcases h with⟨hl,⟨h3,_⟩|⟨g',cap',cur,h3,hlo,hg,hn,hmm,hs,ht⟩⟩
  ·cases h3
  ·cases h3;exact⟨cur,hlo,hg,hn,hmm,hs,hl,ht⟩
 have hcs:∀j v,xs[j]?=some v->w.cell? (aD g j)=some v:=fun j v hj=>by
  have hlt:=(List.getElem?_eq_some_iff.1 hj).1;rw[cell_of_block hg,<- hj,<- htk,List.getElem?_take_of_lt (by omega),Array.getElem?_toList]
 have hvs:∀j v,vs[j]?=some v->w.cell? (aD vb j)=some v:=fun j v hj=>by rw[cell_of_block hv];simpa using hj
 have hdl:(xs.drop (i*5)).length=(n-i)*5:=by rw[List.length_drop,hxl];omega
 have h1d:∀v∈xs.drop (i*5),v.oneCell'=true:=fun v hv=>h1c v (List.mem_of_mem_drop hv)
 unfold maxLen at hmx;have hz1:¬((m:Int)=0):=by omega
 have hz2:¬((i:Int)=(n:Int)):=by omega
 have hov:∀lb cb,(callFunc 184 #[.l (some (aD vb 0)) m mc,.l (some (aD g ((i+m)*5))) lb cb]).run Tryz.prog w=.ok (.value (.bool false)) w:=fun lb cb=>by
  rw[run_callFunc_extern Tryz.func184 (by kernel_rfl) (by kernel_rfl) (by kernel_rfl) (e:=Extern.SlicesOverlaps.overlaps #[38,38] #[4]) (by kernel_rfl),Lib.run_overlaps_apart w 38 4 70 Tryz.underlying38 5 (fun w=>by simp[sizeOf,typeInfo,hi0,hzs,go_sem,Result.andThen]) (aD vb 0) (aD g ((i+m)*5)) m mc lb cb hvb 70 70 vs.length cur.size (by simp[World.shape?,hv]) (by simp[World.shape?,hg]) (by omega) (zf hv) (zf hv)]
  rfl
 have hw1:IntKind.i64.wrap ((i:Int)+(m:Int))=(i:Int)+(m:Int):=by rw[IntKind.wrap_i64];omega
 have hb1:(0:Int)<=(i:Int)+(m:Int):=by omega
 have hin:i<=n:=by omega
 have htn:((i:Int)+(m:Int)).toNat=i+m:=by omega
 have hb2:¬(c=i+m):=by omega
 have hb3:(i:Int)<=(n:Int)+(m:Int):=by omega
 have hb4:¬(c=i):=by omega
 have hd:w.drew.heap[g]?=some (.cells cur 70):=hg
 have hcp1:∀ty dc sc,(Builtin.copy_ #[38,38] ty #[.l (some (aD g ((i+m)*5))) (n+m-(i+m)) dc,.l (some (aD g (i*5))) (n+m-i) sc]).run Tryz.prog w.drew=.ok (goInt ((n-i:Nat))) (w.drew.setCells g ((i+m)*5) (xs.drop (i*5))):=fun ty dc sc=>
  zcf w.drew _ _ ty 70 5 g ((i+m)*5) (n+m-(i+m)) dc (aD g (i*5)) (n+m-i) sc (n-i) (xs.drop (i*5)) Tryz.underlying38 hsz (by simp only[Nat.min_def];split <;> omega) hdl
   (fun j v hj=>by rw[Addr.add_lit];exact hcs (i*5+j) v (by rwa [List.getElem?_drop]at hj))
   (fun j hj=>by rw[cell_of_block hd,Array.getElem?_eq_getElem (by omega)];rfl) (fun j hj=>zf hd) h1d
 obtain⟨W1,hW1⟩:=nm (w.drew.setCells g ((i+m)*5) (xs.drop (i*5)))
 have HG1:Hid (∃C,W1.heap[g]?=some (.cells C 70)/\C.size=c*5):=by
  obtain⟨C1,e1,e2,_,_⟩:=jN (xs.drop (i*5)) ((i+m)*5) w.drew cur hd (by omega);exact⟨C1,by rw[hW1];exact e1,by omega⟩
 have hcp2:∀(W:World),(∀x,W.cell? x=W1.cell? x)->(∀x,W.frozen? x=W1.frozen? x)->∀ty dc,(Builtin.copy_ #[38,38] ty #[.l (some (aD g (i*5))) (n+m-i) dc,.l (some (aD vb 0)) m mc]).run Tryz.prog W=.ok (goInt m) (W.setCells g (i*5) vs):=fun W hWc hWf ty dc=>by
  obtain⟨C1,e1,e2⟩:=HG1.o
  exact zcf W _ _ ty 70 5 g (i*5) (n+m-i) dc (aD vb 0) m mc m vs Tryz.underlying38 hsz (by simp only[Nat.min_def];split <;> omega) (by omega)
   (fun j v hj=>by
    rw[Addr.add_lit,hWc,Nat.zero_add,hW1,World.cell?_setCells_out g _ _ _ _ (fun h _=>absurd h hvb)];exact hvs j v hj)
   (fun j hj=>by rw[hWc,cell_of_block e1,Array.getElem?_eq_getElem (by omega)];rfl) (fun j hj=>by rw[hWf];exact zf e1) h1v
 rw[<- hW1]at hcp1;have HW:Hid (W1=w.drew.setCells g ((i+m)*5) (xs.drop (i*5))):=hW1;clear hW1 hm hd hcz htk hcs hvs hdl h1d hxl h;go_enter Tryz.func137,Tryz.ntmps137
 go_wp2_with (simp only[hov])
 go_region_law (refine zg9 rfl (.tmp 73) (.tmp 76) 38 38 rfl (by simp[Act.eval,Act.put];rfl) (by simp[Act.eval,Act.put];rfl) (hcp1 _ _ _) ?_)
 go_wp2_with (at_builtin;refine zc5 rfl _ _ 38 38 rfl rfl rfl (hcp2 _ (fun _=>rfl) (fun _=>rfl) _ _) ?_)
 go_ret;exact⟨rfl,by rw[HW.o]⟩
set_option maxRecDepth 100000 in
theorem zkX (lo g n c i vb m mc:Nat)(xs vs:List Value)(w:World)(h:w.ownsRow lo 70 5 (.l (some (aD g 0)) n c) n xs)(hi:i<n)(hm:m=1)(hroom:c<n+m)(hbig:n<=1000)(hv:w.heap[vb]?=some (.cells vs.toArray 70))(hvl:vs.length=5)(h1c:∀v∈xs,v.oneCell'=true)(h1v:∀v∈vs,v.oneCell'=true) :
 Calls Tryz.prog 137 #[.l (some (aD g 0)) n c,.i i,.l (some (aD vb 0)) m mc] w fun e w'=>∃G ROW,e=.returned (.l (some (aD w.heap.size 0)) (n+m) G)/\n+m<=G/\G<=maxLen/\ROW.size=G*5/\(∀j,j<i*5->ROW[j]?=xs[j]?)/\w'=(((w.alloc (.cells ROW 70)).drew.setCells w.heap.size (i*5) vs).drew).setCells w.heap.size ((i+m)*5) (xs.drop (i*5)):=by
 obtain⟨i0,hi0,hz0,hzs,hzb⟩:=info_parts Tryz.zgb;have hsz:(Tryz.prog.info? 70).map (·.size)=some 5:=by rw[hi0];simp[hzs]
 obtain⟨cur,hlo,hg,hnc,hmx,hcz,hxl,htk⟩:∃cur:AV,lo<=g/\w.heap[g]?=some (.cells cur 70)/\n<=c/\c<=maxLen/\cur.size=c*5/\xs.length=n*5/\cur.toList.take (n*5)=xs:=by
  rcases h with⟨hl,⟨h3,_⟩|⟨g',cap',cur,h3,hlo,hg,hn,hmm,hs,ht⟩⟩
  ·cases h3
  ·cases h3;exact⟨cur,hlo,hg,hn,hmm,hs,hl,ht⟩
 have hcs:∀j v,xs[j]?=some v->w.cell? (aD g j)=some v:=fun j v hj=>by
  have hlt:=(List.getElem?_eq_some_iff.1 hj).1;rw[cell_of_block hg,<- hj,<- htk,List.getElem?_take_of_lt (by omega),Array.getElem?_toList]
 have hvs:∀j v,vs[j]?=some v->w.cell? (aD vb j)=some v:=fun j v hj=>by rw[cell_of_block hv];simpa using hj
 have hdl:(xs.drop (i*5)).length=(n-i)*5:=by rw[List.length_drop,hxl];omega
 have h1d:∀v∈xs.drop (i*5),v.oneCell'=true:=fun v hv=>h1c v (List.mem_of_mem_drop hv)
 unfold maxLen at hmx;have hz1:¬((m:Int)=0):=by omega
 have hz2:¬((i:Int)=(n:Int)):=by omega
 have hz3:(c:Int)<(n:Int)+(m:Int):=by omega
 have hbw:g<w.heap.size:=(gES hg).1;have hvw:vb<w.heap.size:=(gES hv).1;have hkk:(n:Int)+(m:Int)-(i:Int)=((n+m-i:Nat):Int):=by omega
 have hik:i+(n+m-i)=n+m:=by omega
 have htl:(xs.take (i*5)).length=i*5:=by rw[List.length_take,hxl];omega
 have hold:(Builtin.firstCells i0.size i (.l (some (aD g 0)) i c)).run Tryz.prog w.drew=.ok (xs.take (i*5)).toArray w.drew:=by
  rw[hzs]
  exact run_firstCells_some w.drew 5 i (aD g 0) i c (xs.take (i*5)) (by rw[htl]) (fun j v hj=>by
   rw[Addr.add_lit,Nat.zero_add];rw[List.getElem?_take]at hj
   split at hj
   ·exact hcs j v hj
   ·cases hj)
 obtain⟨G,hG⟩:=nm (grownCap w (n+m) c 70);have hGn:n+m<=G:=by rw[hG];exact grownCap_ge w _ _ _
 have hG63:G<=maxLen:=by rw[hG];exact grownCap_le_maxLen w (n+m) c 70 (by unfold maxLen;omega)
 obtain⟨ROW,hROW⟩:∃ROW:AV,ROW=(xs.take (i*5)).toArray++Builtin.zeroCells (.agg #[.s ByteArray.empty,.s ByteArray.empty,.s ByteArray.empty,.i 0,.i 0]:Value).cells (n+m-i)++Builtin.zeroCells (.agg #[.s ByteArray.empty,.s ByteArray.empty,.s ByteArray.empty,.i 0,.i 0]:Value).cells (G-(n+m)):=⟨_,rfl⟩
 have hrz:∀ty,(Builtin.append_ #[38,3] ty #[.l (some (aD g 0)) i c,.i ((n:Int)+(m:Int)-(i:Int))]).run Tryz.prog w =
  .ok (.l (some (aD w.heap.size 0)) (n+m) G) (w.drew.alloc (.cells ROW 70)):=fun ty=>by
  have h:=Lib.run_append_grow_zeros w 38 3 ty 70 i0 _ .i64 .i64 Tryz.underlying38 Tryz.underlying3 hi0 hz0 (some (aD g 0)) i c (xs.take (i*5)) hold (n+m-i) (by omega) (by omega) (by omega) (by omega) (by rw[hzb];omega) (by rw[hzb,hik];exact growslice_fits hroom (by omega));rw[hik]at h;rw[hkk,hROW,hG];exact h
 have hRl:ROW.size=G*5:=by
  rw[hROW]
  simp[Builtin.zeroCells,Value.cells]
  omega
 have hRx:∀j,j<i*5->ROW[j]?=xs[j]?:=fun j hj=>by
  rw[hROW,Array.append_assoc,Array.getElem?_append_left (by simpa using (by omega:j<(xs.take (i*5)).length)),List.getElem?_toArray,List.getElem?_take_of_lt hj]
 obtain⟨W1,hW1⟩:=nm (w.drew.alloc (.cells ROW 70));rw[<- hW1]at hrz;have hN:W1.heap[w.heap.size]?=some (.cells ROW 70):=by rw[hW1];exact(MapKept.heap_alloc w.drew _).1
 have hOb:∀k j v,k<w.heap.size->w.cell? (aD k j)=some v->W1.cell? (aD k j)=some v:=fun k j v hk h=>by rw[hW1,World.cell?_alloc_past (w:=w.drew) _ k j hk];exact h
 have hcpA:∀(W:World),(∀x,W.cell? x=W1.cell? x)->(∀x,W.frozen? x=W1.frozen? x)->∀ty dc,(Builtin.copy_ #[38,38] ty #[.l (some (aD w.heap.size (i*5))) (n+m-i) dc,.l (some (aD vb 0)) m mc]).run Tryz.prog W=.ok (goInt m) (W.setCells w.heap.size (i*5) vs):=fun W hWc hWf ty dc=>
  zcf W _ _ ty 70 5 w.heap.size (i*5) (n+m-i) dc (aD vb 0) m mc m vs Tryz.underlying38 hsz (by simp only[Nat.min_def];split <;> omega) (by omega)
   (fun j v hj=>by rw[Addr.add_lit,hWc,Nat.zero_add];exact hOb _ _ v hvw (hvs j v hj))
   (fun j hj=>by rw[hWc,cell_of_block hN,Array.getElem?_eq_getElem (by omega)];rfl) (fun j hj=>by rw[hWf];exact zf hN) h1v
 obtain⟨C1,e1,e2,_,_⟩:=jN vs (i*5) W1 ROW hN (by omega);have hbN:g≠w.heap.size:=by omega
 have hcpB:∀(W:World),(∀x,W.cell? x=(W1.setCells w.heap.size (i*5) vs).cell? x)->(∀x,W.frozen? x=(W1.setCells w.heap.size (i*5) vs).frozen? x)->∀ty dc sc,(Builtin.copy_ #[38,38] ty #[.l (some (aD w.heap.size ((i+m)*5))) (n+m-(i+m)) dc,.l (some (aD g (i*5))) (n-i) sc]).run Tryz.prog W=.ok (goInt ((n-i:Nat))) (W.setCells w.heap.size ((i+m)*5) (xs.drop (i*5))):=fun W hWc hWf ty dc sc=>
  zcf W _ _ ty 70 5 w.heap.size ((i+m)*5) (n+m-(i+m)) dc (aD g (i*5)) (n-i) sc (n-i) (xs.drop (i*5)) Tryz.underlying38 hsz (by simp only[Nat.min_def];split <;> omega) hdl
   (fun j v hj=>by
    rw[Addr.add_lit,hWc,World.cell?_setCells_out _ _ _ _ _ (fun h _=>absurd h hbN)];exact hOb _ _ v hbw (hcs (i*5+j) v (by rwa [List.getElem?_drop]at hj)))
   (fun j hj=>by rw[hWc,cell_of_block e1,Array.getElem?_eq_getElem (by omega)];rfl)
   (fun j hj=>by rw[hWf];exact zf e1) h1d
 subst hW1;have hE1:∀x,((w.alloc (.cells ROW 70)).drew).cell? x=(w.drew.alloc (.cells ROW 70)).cell? x:=fun x=>rfl
 have hE2:∀x,((w.alloc (.cells ROW 70)).drew).frozen? x=(w.drew.alloc (.cells ROW 70)).frozen? x:=fun x=>rfl
 have hF1:∀x,(((w.alloc (.cells ROW 70)).drew.setCells w.heap.size (i*5) vs).drew).cell? x=((w.drew.alloc (.cells ROW 70)).setCells w.heap.size (i*5) vs).cell? x:=fun x=>rfl
 have hF2:∀x,(((w.alloc (.cells ROW 70)).drew.setCells w.heap.size (i*5) vs).drew).frozen? x=((w.drew.alloc (.cells ROW 70)).setCells w.heap.size (i*5) vs).frozen? x:=fun x=>rfl
 have HX:=zbT hGn hG63 hRl hRx;unfold maxLen at hG63;have hGi:¬(G=i):=by omega
 have hGim:¬(G=i+m):=by omega
 have hci:¬(c=i):=by omega
 have hw1:IntKind.i64.wrap ((i:Int)+(m:Int))=(i:Int)+(m:Int):=by rw[IntKind.wrap_i64];omega
 have hb1:(0:Int)<=(i:Int)+(m:Int):=by omega
 have hin:i<=n:=by omega
 have htn:((i:Int)+(m:Int)).toNat=i+m:=by omega
 have hb3:(i:Int)<=(n:Int):=by omega
 clear hkk hik hold hROW hG hRl hm hN e1 e2 hOb hcz htk hcs hvs hdl h1d hxl h hRx htl;go_enter Tryz.func137,Tryz.ntmps137
 go_wp2_with (first
  | (at_builtin;refine Lib.wpList_append_run _ rfl _ _ _ _ rfl _ _ rfl rfl _ _ (hrz _) ?_)
  | (at_builtin;refine zc5 rfl _ _ 38 38 rfl rfl rfl (hcpA _ hE1 hE2 _ _) ?_)
  | (at_builtin;refine zc5 rfl _ _ 38 38 rfl rfl rfl (hcpB _ (fun _=>rfl) (fun _=>rfl) _ _ _) ?_))
 go_region_law (refine zg9 rfl (.tmp 50) (.tmp 53) 38 38 rfl (by simp[Act.eval,Act.put];rfl) (by simp[Act.eval,Act.put];rfl) (hcpB _ hF1 hF2 _ _ _) ?_)
 go_wp2
 go_ret;exact⟨G,ROW,rfl,HX.o.1,HX.o.2.1,HX.o.2.2.1,HX.o.2.2.2,rfl⟩
set_option maxRecDepth 100000 in
theorem zms (lo n c vb m mc:Nat)(a:OA)(xs vs:List Value)(w:World)(h:w.ownsRow lo 70 5 (.l a n c) n xs)(hm:m=1)(hbig:n<=1000)(hlo:lo<=w.heap.size)(hv:w.heap[vb]?=some (.cells vs.toArray 70))(hvl:vs.length=5)(h1v:∀v∈vs,v.oneCell'=true) :
 Calls Tryz.prog 137 #[.l a n c,.i n,.l (some (aD vb 0)) m mc] w fun e w'=>∃v,e=.returned v/\w'.ownsRow lo 70 5 v (n+m) (xs++vs)/\w.grownBy w' (Value.slice a n c).ownBlock/\(v.ownBlock=(Value.slice a n c).ownBlock \/ v.ownBlock=some w.heap.size):=by
 obtain⟨i0,hi0,hz0,hzs,hzb⟩:=info_parts Tryz.zgb;have hvs:∀j v,vs[j]?=some v->w.cell? (((aD vb 0):Addr).add j)=some v:=fun j v hj=>by rw[Addr.add_lit,Nat.zero_add,cell_of_block hv];simpa using hj
 have hz1:¬((m:Int)=0):=by omega
 have hvl':vs.length=m*5:=by omega
 have hml:n+m<=maxLen:=by unfold maxLen;omega
 have hby:(n+m)*64<=140737488355328:=by omega
 have HO:=hid h;clear hm
 rcases h with⟨hl,⟨h3,h0⟩|⟨g,cap',cur,h3,_,hg,hnc,hmx,hs,ht⟩⟩
 ·cases h3
  clear hl;go_enter Tryz.func137,Tryz.ntmps137
  go_wp2_with (at_builtin;refine wpList_append_own_at _ rfl (.tmp 23) (.tmp 24) 38 rfl lo 70 i0 (.agg #[.s ByteArray.empty,.s ByteArray.empty,.s ByteArray.empty,.i 0,.i 0]) 5 64 Tryz.underlying38 hi0 hz0 hzs hzb rfl (by decide) (.l none 0 0) 0 xs rfl HO.o (aD vb 0) m mc vs rfl hvl' hvs h1v hml hby hlo ?_;intro v' w' hown hgr _ hat;have HR:=za6 hown hgr hat;clear hown hgr hat)
  go_ret;have hR:=HR.o;rw[Nat.zero_add]at hR;exact⟨v',rfl,hR⟩
 ·cases h3
  unfold maxLen at hmx;clear hl hs ht;go_enter Tryz.func137,Tryz.ntmps137
  go_wp2_with (at_builtin;refine wpList_append_own_at _ rfl (.tmp 23) (.tmp 24) 38 rfl lo 70 i0 (.agg #[.s ByteArray.empty,.s ByteArray.empty,.s ByteArray.empty,.i 0,.i 0]) 5 64 Tryz.underlying38 hi0 hz0 hzs hzb rfl (by decide) (.l (some (aD g 0)) n c) n xs rfl HO.o (aD vb 0) m mc vs rfl hvl' hvs h1v hml hby hlo ?_;intro v' w' hown hgr _ hat;have HR:=za6 hown hgr hat;clear hown hgr hat)
  all_goals go_ret
  all_goals exact⟨v',rfl,HR.o⟩
theorem zmJ (lo n c i vb mc:Nat)(a:OA)(xs vs:List Value)(w:World)(h:w.ownsRow lo 70 5 (.l a n c) n xs)(hi:i<=n)(hbig:n<=1000)(hlo:lo<=w.heap.size)(hv:w.heap[vb]?=some (.cells vs.toArray 70))(hvl:vs.length=5)(hvb:∀q,(Value.slice a n c).ownBlock=some q->vb≠q)(h1c:∀v∈xs,v.oneCell'=true)(h1v:∀v∈vs,v.oneCell'=true) :
 Calls Tryz.prog 137 #[.l a n c,.i i,.l (some (aD vb 0)) 1 mc] w fun e w'=>∃v,e=.returned v/\w'.ownsRow lo 70 5 v (n+1) (xs.take (i*5)++(vs++xs.drop (i*5)))/\w.grownBy w' (Value.slice a n c).ownBlock/\(v.ownBlock=(Value.slice a n c).ownBlock \/ v.ownBlock=some w.heap.size):=by
 by_cases hin:i=n
 ·subst hin
  refine(zms lo i c vb 1 mc a xs vs w h rfl hbig hlo hv hvl h1v).mono ?_;rintro e w'⟨v,he,ho,hr⟩;have hl:=h.1;refine⟨v,he,?_,hr⟩;rw[tOl (by omega),List.drop_eq_nil_of_le (by omega),List.append_nil];exact ho
 ·have hlt:i<n:=by omega
  have HO:=hid h
  rcases h with⟨hl,⟨h3,h0⟩|⟨g,cap',cur,h3,hg0,hg,hnc,hmx,hs,ht⟩⟩
  ·omega
  cases h3
  have hvg:=hvb g rfl
  have hlen:(xs.take (i*5)++(vs++xs.drop (i*5))).length=(n+1)*5:=by
   rw[List.length_append,List.length_append,List.length_take,List.length_drop,hl,hvl];omega
  by_cases hroom:n+1<=c
  ·refine(zkh lo g n c i vb 1 mc xs vs w HO.o hlt rfl hroom hv hvl hvg h1c h1v).mono ?_
   rintro e w'⟨rfl,hw⟩;obtain⟨C,hC,hCz,hCt⟩:=zm0 (W:=w') (w:=w.drew) (p:=i*5) (m:=n*5) (s:=5) hg ht hl (by omega) (by omega) hvl (by rw[hw,show(i+1)*5=i*5+5 by omega]);refine⟨_,rfl,⟨hlen,Or.inr ⟨g,c,C,rfl,hg0,hC,hroom,hmx,by omega,?_⟩⟩,?_,Or.inl rfl⟩
   ·rw[show(n+1)*5=n*5+5 by omega];exact hCt
   ·rw[hw]
    exact zaj (Or.inl rfl) _ _ _ (zaj (Or.inl rfl) _ _ _ ⟨rfl,rfl,rfl,Nat.le_refl _,fun _ _ _=>rfl⟩)
  ·refine(zkX lo g n c i vb 1 mc xs vs w HO.o hlt rfl (by omega) hbig hv hvl h1c h1v).mono ?_
   rintro e w'⟨G,ROW,rfl,hG1,hG2,hRz,hRx,hw⟩;obtain⟨C,hC,hCz,hCt⟩:=zoW (W:=w') (w:=(w.alloc (.cells ROW 70)).drew.drew) (g:=w.heap.size) (p:=i*5) (m:=n*5) (s:=5) (by exact(MapKept.heap_alloc w _).1) hRx hl (by omega) (by omega) hvl (by rw[hw,zdj,show(i+1)*5=i*5+5 by omega]);refine⟨_,rfl,⟨hlen,Or.inr ⟨w.heap.size,G,C,rfl,hlo,hC,hG1,hG2,by omega,?_⟩⟩,?_,Or.inr rfl⟩
   ·rw[show(n+1)*5=n*5+5 by omega];exact hCt
   ·rw[hw]
    refine zaj (Or.inr (Nat.le_refl _)) _ _ _ ?_;rw[zdj];refine zaj (Or.inr (Nat.le_refl _)) _ _ _ ⟨rfl,rfl,rfl,?_,fun k hk _=>?_⟩
    ·show w.heap.size<=(w.alloc _).heap.size
     simp
    ·exact(MapKept.heap_alloc w (.cells ROW 70)).2 k hk
theorem zl1 (lo:Nat)(own:Nat->Lb)(a:OA)(cap:Nat)(ms:List Pu)(k:Nat)(x:Pu)(vb mc:Nat)(w:World)(h:zcq lo w own (.l a ms.length cap) ms)(hk:k<=ms.length)(hl:ms.length<=1000)(hlo:lo<=w.heap.size)(hv:w.heap[vb]?=some (.cells x.row.toArray 70))(ho:(own vb).1≠3) :
 Calls Tryz.prog 137 #[.l a ms.length cap,.i k,.l (some (aD vb 0)) 1 mc] w fun e w'=>∃v own',e=.returned v/\(∀q,q<w.heap.size->own' q=own q)/\zcq lo w' own' v (ms.take k++x :: ms.drop k)/\Left (fun q=>(own q).1=3) w w':=by
 refine(zmJ lo ms.length cap k vb mc a _ x.row w h.1 hk hl hlo hv rfl (fun q hq e=>ho (by rw[e,h.2 q hq])) zbF (fun u hu=>zbF (xs:=[x]) u (by simpa using hu))).mono ?_;rintro e w'⟨v,rfl,hown,hgr,hat⟩;have e1:(ms.take k++x :: ms.drop k).length=ms.length+1:=by rw[List.length_append,List.length_take,List.length_cons,List.length_drop];omega
 have e2:(ms.flatMap Pu.row).take (k*5)=(ms.take k).flatMap Pu.row/\(ms.flatMap Pu.row).drop (k*5)=(ms.drop k).flatMap Pu.row:=by
  have hk':((ms.take k).flatMap Pu.row).length=k*5:=by rw[zbN _ 5 (fun _=>rfl),List.length_take,Nat.min_eq_left hk]
  have e:ms.flatMap Pu.row=(ms.take k).flatMap Pu.row++(ms.drop k).flatMap Pu.row:=by rw[<- List.flatMap_append,List.take_append_drop]
  constructor
  ·rw[e,<- hk',List.take_left]
  ·rw[e,<- hk',List.drop_left]
 refine⟨v,fun q=>if q<w.heap.size then own q else (3,0,0),rfl,fun q hq=>if_pos hq,⟨?_,fun q hq=>?_⟩,(Left.refl _ _).grown hgr (fun q hq=>by show(own q).1=3;rw[h.2 q hq])⟩
 ·rw[e1,List.flatMap_append,List.flatMap_cons,<- e2.1,<- e2.2];exact hown
 ·rcases hat with e|e
  ·have h1:=(h.1.lt q (e ▸ hq)).2
   show(if _ then _ else _)=_
   rw[if_pos h1];exact h.2 q (e ▸ hq)
  ·rw[hq]at e
   obtain rfl:q=w.heap.size:=by simpa using e
   show(if _ then _ else _)=_
   rw[if_neg (by omega)]
end Go.Proofs.YtbfgkhgmnfghgaaGreat
