import Derived.ProofKit
import Derived.Deep.RegionHeld3
import Derived.TacticsInMore
import Derived.Test.YtnapmdofidgliaaGreatChecked
import Derived.Test.YtnapmdofidgliaaGreatRows
import Derived.OpenShut
import Derived.Test.YtnapmdofidgliaaGreatM01
namespace Go.Proofs.YtnapmdofidgliaaGreat
structure Far where
 far:Nat->Option Bool
 row:List Nat
def Far.under (s:Far)(p:Nat):Far:=⟨fun q=>if q=p then some false else s.far q,s.row⟩
def Far.behind (s:Far)(p:Nat):Far:=⟨fun q=>if q=p then some true else s.far q,s.row++[p]⟩
def zu (d:Nat->Far->Bool × Far):List Nat->Far->Bool × Far
 | [],s=>(true,s)
 | q :: qs,s=>if (d q s).1 then zu d qs (d q s).2 else (false,(d q s).2)
def down (rd:Nat->List Nat):Nat->Nat->Far->Bool × Far
 | 0,_,s=>(false,s)
 | f+1,p,s=>
  match s.far p with
  | some b=>(b,s)
  | none=>
   if (zu (down rd f) (rd p) (s.under p)).1 then (true,(zu (down rd f) (rd p) (s.under p)).2.behind p)
   else (false,(zu (down rd f) (rd p) (s.under p)).2)
def jR:Far:=⟨fun _=>none,[]⟩
def zH (rd:Nat->List Nat)(n:Nat):Bool × Far:=zu (down rd (n+1)) (List.range n) jR
def open' (n:Nat)(s:Far):Nat:=((List.range n).filter fun q=>(s.far q).isNone).length
structure ziV (s t:Far):Prop where
 met:∀q,(s.far q).isSome->t.far q=s.far q
 only:∀q,t.far q=some false->s.far q=some false
theorem ziV.refl (s:Far):ziV s s:=⟨fun _ _=>rfl,fun _ h=>h⟩
theorem ziV.trans {s t u:Far}(h:ziV s t)(k:ziV t u):ziV s u:=
 ⟨fun q hq=>by rw[k.met q (by rw[h.met q hq];exact hq),h.met q hq],fun q hq=>h.only q (k.only q hq)⟩
theorem zga {n p:Nat}{s:Far}(hp:p<n)(hn:s.far p=none):open' n (s.under p)<open' n s:=by
 unfold open'
 have hsub:∀q,((s.under p).far q).isNone=true->(s.far q).isNone=true:=by
  intro q hq;unfold Far.under at hq
  simp only at hq
  by_cases h:q=p
  ·rw[if_pos h]at hq;simp at hq
  ·rwa [if_neg h]at hq
 have key:∀l:List Nat,p∈l->(l.filter fun q=>((s.under p).far q).isNone).length<(l.filter fun q=>(s.far q).isNone).length:=by
  intro l
  induction l with
  | nil=>intro h;cases h
  | cons a l ih=>
   intro h
   have hle:(l.filter fun q=>((s.under p).far q).isNone).length<=(l.filter fun q=>(s.far q).isNone).length:=by
    clear ih h
    induction l with
    | nil=>exact Nat.le_refl _
    | cons b l ih=>
     by_cases hb:((s.under p).far b).isNone=true
     ·rw[List.filter_cons_of_pos (by simpa using hb),List.filter_cons_of_pos (by simpa using hsub b hb)]
      simp only[List.length_cons];omega
     ·rw[List.filter_cons_of_neg (by simpa using hb)]
      by_cases hb2:(s.far b).isNone=true
      ·rw[List.filter_cons_of_pos (by simpa using hb2)];simp only[List.length_cons];omega
      ·rw[List.filter_cons_of_neg (by simpa using hb2)];exact ih
   by_cases hap:a=p
   ·subst hap
    rw[List.filter_cons_of_neg (by simp[Far.under]),List.filter_cons_of_pos (by simp[hn])];simp only[List.length_cons];omega
   ·have hm:p∈l:=by
     rcases List.mem_cons.1 h with h'|h'
     ·exact absurd h'.symm hap
     ·exact h'
    have:=ih hm
    by_cases hb:((s.under p).far a).isNone=true
    ·rw[List.filter_cons_of_pos (by simpa using hb),List.filter_cons_of_pos (by simpa using hsub a hb)]
     simp only[List.length_cons];omega
    ·rw[List.filter_cons_of_neg (by simpa using hb)]
     by_cases hb2:(s.far a).isNone=true
     ·rw[List.filter_cons_of_pos (by simpa using hb2)];simp only[List.length_cons];omega
     ·rw[List.filter_cons_of_neg (by simpa using hb2)];exact this
 exact key _ (List.mem_range.2 hp)
theorem zk7 {n:Nat}{s t:Far}(h:∀q,(s.far q).isSome->(t.far q).isSome):open' n t<=open' n s:=by
 unfold open'
 generalize List.range n=l
 induction l with
 | nil=>exact Nat.le_refl _
 | cons b l ih=>
  by_cases hb:(t.far b).isNone=true
  ·have hs:(s.far b).isNone=true:=by
    rcases hsb:s.far b with _|v
    ·rfl
    ·have:=h b (by rw[hsb];rfl)
     rw[Option.isNone_iff_eq_none]at hb;rw[hb]at this;cases this
   rw[List.filter_cons_of_pos (by simpa using hb),List.filter_cons_of_pos (by simpa using hs)];simp only[List.length_cons];omega
  ·rw[List.filter_cons_of_neg (by simpa using hb)]
   by_cases hb2:(s.far b).isNone=true
   ·rw[List.filter_cons_of_pos (by simpa using hb2)];simp only[List.length_cons];omega
   ·rw[List.filter_cons_of_neg (by simpa using hb2)];exact ih
theorem znh (rd:Nat->List Nat):∀f p s q,(s.far q).isSome->((down rd f p s).2.far q).isSome:=by
 intro f
 induction f with
 | zero=>intro p s q h;exact h
 | succ f ih=>
  intro p s q h;unfold down
  rcases hp:s.far p with _|b
  ·simp only
   have hl:∀(l:List Nat) (t:Far),(t.far q).isSome->((zu (down rd f) l t).2.far q).isSome:=by
    intro l
    induction l with
    | nil=>intro t ht;exact ht
    | cons a l il=>
     intro t ht;unfold zu
     split
     ·exact il _ (ih _ _ _ ht)
     ·exact ih _ _ _ ht
   have h1:((s.under p).far q).isSome:=by
    unfold Far.under;simp only
    split
    ·rfl
    ·exact h
   split
   ·unfold Far.behind;simp only
    split
    ·rfl
    ·exact hl _ _ h1
   ·exact hl _ _ h1
  ·exact h
theorem zmv (rd:Nat->List Nat)(f:Nat)(q:Nat):∀(l:List Nat) (t:Far),(t.far q).isSome->((zu (down rd f) l t).2.far q).isSome:=by
 intro l
 induction l with
 | nil=>intro t ht;exact ht
 | cons a l il=>
  intro t ht;unfold zu
  split
  ·exact il _ (znh _ _ _ _ _ ht)
  ·exact znh _ _ _ _ _ ht
structure zdG (rd:Nat->List Nat)(s:Far):Prop where
 mem:∀q,q∈s.row↔s.far q=some true
 nodup:s.row.Nodup
 ahead:∀i (h:i<s.row.length),∀q∈rd (s.row[i]),∃j,∃hj:j<i,s.row[j]'(by omega)=q
theorem zdG.under {rd:Nat->List Nat}{s:Far}(h:zdG rd s){p:Nat}(hp:s.far p=none):zdG rd (s.under p):=by
 refine⟨fun q=>?_,h.nodup,h.ahead⟩;unfold Far.under;simp only
 by_cases hq:q=p
 ·rw[if_pos hq];subst hq
  constructor
  ·intro hm;rw[h.mem,hp]at hm;cases hm
  ·intro hm;cases hm
 ·rw[if_neg hq];exact h.mem q
theorem zdG.behind {rd:Nat->List Nat}{s:Far}(h:zdG rd s){p:Nat}(hp:s.far p=some false)(hr:∀q∈rd p,s.far q=some true):zdG rd (s.behind p):=by
 have hnm:p ∉ s.row:=fun hm=>by rw[h.mem,hp]at hm;cases hm
 refine⟨fun q=>?_,?_,fun i hi q hq=>?_⟩
 ·unfold Far.behind;simp only[List.mem_append,List.mem_singleton]
  by_cases hq:q=p
  ·simp[hq]
  ·rw[if_neg hq,h.mem];simp[hq]
 ·unfold Far.behind;simp only
  rw[List.nodup_append];exact⟨h.nodup,by simp,fun a ha b hb=>by rw[List.mem_singleton]at hb;subst hb;exact fun e=>hnm (e ▸ ha)⟩
 ·have hlen:(s.behind p).row.length=s.row.length+1:=by simp[Far.behind]
  rcases Nat.lt_or_ge i s.row.length with hlt|hge
  ·have e:(s.behind p).row[i]=s.row[i]:=by simp[Far.behind,List.getElem_append_left hlt]
   rw[e]at hq;obtain⟨j,hj,hjq⟩:=h.ahead i hlt q hq;refine⟨j,hj,?_⟩;rw[<- hjq];simp only[Far.behind];rw[List.getElem_append_left (by omega)]
  ·have ei:i=s.row.length:=by omega
   subst ei;have e:(s.behind p).row[s.row.length]=p:=by simp[Far.behind]
   rw[e]at hq;have hm:=(h.mem q).2 (hr q hq);obtain⟨j,hj,hjq⟩:=List.mem_iff_getElem.1 hm;refine⟨j,hj,?_⟩;rw[<- hjq];simp only[Far.behind];rw[List.getElem_append_left hj]
theorem zpH (rd:Nat->List Nat):∀f p s,zdG rd s->(down rd f p s).1=true->zdG rd (down rd f p s).2/\ziV s (down rd f p s).2/\(down rd f p s).2.far p=some true:=by
 intro f
 induction f with
 | zero=>intro p s _ h;cases h
 | succ f ih=>
  have hl:∀(l:List Nat) (t:Far),zdG rd t->(zu (down rd f) l t).1=true->zdG rd (zu (down rd f) l t).2/\ziV t (zu (down rd f) l t).2/\∀q∈l,(zu (down rd f) l t).2.far q=some true:=by
   intro l
   induction l with
   | nil=>intro t ht _;exact⟨ht,ziV.refl _,fun q hq=>by cases hq⟩
   | cons a l il=>
    intro t ht h;unfold zu at h ⊢
    by_cases ha:(down rd f a t).1=true
    ·rw[if_pos ha]at h ⊢
     obtain⟨r1,g1,f1⟩:=ih a t ht ha;obtain⟨r2,g2,f2⟩:=il _ r1 h;refine⟨r2,g1.trans g2,fun q hq=>?_⟩
     rcases List.mem_cons.1 hq with rfl|hq
     ·rw[g2.met _ (by rw[f1];rfl),f1]
     ·exact f2 q hq
    ·rw[if_neg ha]at h;cases h
  intro p s hs h;unfold down at h ⊢
  rcases hp:s.far p with _|b
  ·rw[hp]at h
   simp only at h ⊢
   by_cases hc:(zu (down rd f) (rd p) (s.under p)).1=true
   ·rw[if_pos hc]
    obtain⟨r1,g1,f1⟩:=hl _ _ (hs.under hp) hc;have hpu:(s.under p).far p=some false:=by simp[Far.under]
    have hp1:(zu (down rd f) (rd p) (s.under p)).2.far p=some false:=by rw[g1.met p (by rw[hpu];rfl),hpu]
    refine⟨r1.behind hp1 f1,⟨fun q hq=>?_,fun q hq=>?_⟩,by simp[Far.behind]⟩
    ·have hqp:q≠p:=by rintro rfl;rw[hp]at hq;cases hq
     have h1:(s.under p).far q=s.far q:=by simp[Far.under,hqp]
     simp only[Far.behind,if_neg hqp];rw[g1.met q (by rw[h1];exact hq),h1]
    ·simp only[Far.behind]at hq
     by_cases hqp:q=p
     ·rw[if_pos hqp]at hq;cases hq
     ·rw[if_neg hqp]at hq
      have:=g1.only q hq
      simpa[Far.under,hqp] using this
   ·rw[if_neg hc]at h;cases h
  ·rw[hp]at h
   simp only at h ⊢
   subst h;exact⟨hs,ziV.refl _,hp⟩
theorem zkV (rd:Nat->List Nat)(f:Nat):∀(l:List Nat) (t:Far),zdG rd t->(zu (down rd f) l t).1=true->zdG rd (zu (down rd f) l t).2/\ziV t (zu (down rd f) l t).2/\∀q∈l,(zu (down rd f) l t).2.far q=some true:=by
 intro l
 induction l with
 | nil=>intro t ht _;exact⟨ht,ziV.refl _,fun q hq=>by cases hq⟩
 | cons a l il=>
  intro t ht h;unfold zu at h ⊢
  by_cases ha:(down rd f a t).1=true
  ·rw[if_pos ha]at h ⊢
   obtain⟨r1,g1,f1⟩:=zpH rd f a t ht ha;obtain⟨r2,g2,f2⟩:=il _ r1 h;refine⟨r2,g1.trans g2,fun q hq=>?_⟩
   rcases List.mem_cons.1 hq with rfl|hq
   ·rw[g2.met _ (by rw[f1];rfl),f1]
   ·exact f2 q hq
  ·rw[if_neg ha]at h;cases h
def zj8 (rd:Nat->List Nat)(n:Nat)(rk:Nat->Nat):Prop:=(∀p,p<n->rk p<n)/\∀p,p<n->∀q∈rd p,q<n/\rk q<rk p
theorem znT {rd:Nat->List Nat}{n:Nat}{rk:Nat->Nat}(hr:zj8 rd n rk):∀f p s,p<n->rk p<f->(∀q,s.far q=some false->rk p<rk q) ->
 (down rd f p s).1=true/\∀q,(down rd f p s).2.far q=some false->s.far q=some false:=by
 intro f
 induction f with
 | zero=>intro p s _ h;omega
 | succ f ih=>
  intro p s hp hf hu
  have hl:∀(l:List Nat) (t:Far),(∀q∈l,q<n/\rk q<f)->(∀a∈l,∀q,t.far q=some false->rk a<rk q) ->
   (zu (down rd f) l t).1=true/\∀q,(zu (down rd f) l t).2.far q=some false->t.far q=some false:=by
   intro l
   induction l with
   | nil=>intro t _ _;exact⟨rfl,fun q h=>h⟩
   | cons a l il=>
    intro t h1 h2;obtain⟨ha1,ha2⟩:=h1 a (by simp);obtain⟨hd,hk⟩:=ih a t ha1 ha2 (h2 a (by simp));unfold zu;rw[if_pos hd];obtain⟨he,hm⟩:=il _ (fun q hq=>h1 q (by simp[hq])) (fun b hb q hq=>h2 b (by simp[hb]) q (hk q hq));exact⟨he,fun q hq=>hk q (hm q hq)⟩
  unfold down
  rcases hfp:s.far p with _|b
  ·simp only
   have hsmall:=hr.2 p hp
   obtain⟨hc,hm⟩:=hl (rd p) (s.under p) (fun q hq=>⟨(hsmall q hq).1,by have:=(hsmall q hq).2;omega⟩) (fun a ha q hq=>by
    have h1:=(hsmall a ha).2;simp only[Far.under]at hq
    by_cases hqp:q=p
    ·subst hqp;exact h1
    ·rw[if_neg hqp]at hq;have:=hu q hq;omega)
   rw[if_pos hc];refine⟨rfl,fun q hq=>?_⟩;simp only[Far.behind]at hq
   by_cases hqp:q=p
   ·rw[if_pos hqp]at hq;cases hq
   ·rw[if_neg hqp]at hq
    have:=hm q hq
    simpa[Far.under,hqp] using this
  ·simp only
   cases b with
   | true=>exact⟨rfl,fun q h=>h⟩
   | false=>exact absurd (hu p hfp) (by omega)
theorem zj0 {rd:Nat->List Nat}{n:Nat}{rk:Nat->Nat}(hr:zj8 rd n rk):(zH rd n).1=true:=by
 unfold zH
 have key:∀(l:List Nat) (t:Far),(∀q∈l,q<n)->(∀q,t.far q≠some false)->(zu (down rd (n+1)) l t).1=true:=by
  intro l
  induction l with
  | nil=>intro t _ _;rfl
  | cons a l il=>
   intro t h1 h2;have ha:=h1 a (by simp);obtain⟨hd,hk⟩:=znT hr (n+1) a t ha (by have:=hr.1 a ha;omega) (fun q hq=>absurd hq (h2 q));unfold zu;rw[if_pos hd];exact il _ (fun q hq=>h1 q (by simp[hq])) (fun q hq=>h2 q (hk q hq))
 exact key _ _ (fun q hq=>List.mem_range.1 hq) (fun q h=>by cases h)
theorem zmY (rd:Nat->List Nat):zdG rd jR:=⟨fun q=>by simp[jR],by simp[jR],fun i h=>by simp[jR]at h⟩
end Go.Proofs.YtnapmdofidgliaaGreat
namespace Go.Proofs.YtnapmdofidgliaaGreat
open Go.RowKit
def nth:List Oper->Nat->Option Oper
 | [],_=>none
 | o :: _,0=>some o
 | _ :: l,n+1=>nth l n
theorem zqd:∀(l:List Oper) (i:Nat),nth l i=l[i]?
 | [],_=>by simp[nth]
 | _ :: _,0=>by simp[nth]
 | _ :: l,n+1=>by simp[nth,zqd l n]
section
variable {P:Program} {ops:Array Oper} {Q:Exit->Act->World->Prop} {md:Region.Mode} {S:World->Prop}
theorem zoa {i:Nat}{oi:Oper}(hi:nth ops.toList i=some oi):ops[i]?=some oi:=by
 rw[zqd]at hi;simpa using hi
theorem zq0 {i:Nat}{oi:Oper}{v:Value}{fuel:Nat}{listed:Array Bool}{a:Act}{w:World}(hi:nth ops.toList i=some oi)
 (hs:Region.noSelect ops=true) (hf:Region.free md ops listed i=true) (hr:(Region.ready md ops listed).contains i=true)
 (hQ:∀c a w,Q (.panic c) (a.put oi.dst v) w->Q (.panic c) a w) (hw:Region.wanted oi (yielded ops a.tmps)=true) (hS:S w)
 (hy:∀w,S w->(execOp a.eval oi).run P w=.ok (.value v) w)
 (h:wpAnyH P md ops Q S fuel (listed.setIfInBounds i true) (a.put oi.dst v) w):wpAnyH P md ops Q S (fuel+1) listed a w:=
 wpAnyH_take (zoa hi) hs hf hr hQ (Or.inl ⟨hw,hy⟩) hS h
theorem zqY {i:Nat}{oi:Oper}{fuel:Nat}{listed:Array Bool}{a:Act}{w:World}(hi:nth ops.toList i=some oi)
 (hs:Region.noSelect ops=true) (hf:Region.free md ops listed i=true) (hr:(Region.ready md ops listed).contains i=true)
 (hQ:∀c a w,Q (.panic c) (a.put oi.dst undef) w->Q (.panic c) a w) (hw:Region.wanted oi (yielded ops a.tmps)=false) (hS:S w)
 (h:wpAnyH P md ops Q S fuel (listed.setIfInBounds i true) (a.put oi.dst undef) w):wpAnyH P md ops Q S (fuel+1) listed a w:=
 wpAnyH_take (zoa hi) hs hf hr hQ (Or.inr ⟨hw,rfl⟩) hS h
theorem zq7 {i:Nat}{oi:Oper}{fuel:Nat}{listed:Array Bool}{a:Act}{w:World}(hi:nth ops.toList i=some oi)
 (hr:Region.ready md ops listed=[i]) (hw:Region.wanted oi (yielded ops a.tmps)=true)
 (h:∀K:Act->World->Prop,Shut (∀a w,S w->(S w->wpAnyH P md ops Q S fuel (listed.setIfInBounds i true) a w)->K a w)->Oper.wp P oi a w K Q):wpAnyH P md ops Q S (fuel+1) listed a w:=
 wpAnyH_ready hr (by simp) (AllReadyH.cons (zoa hi) (fun K hK=>by rw[if_pos hw];exact h K hK) AllReadyH.nil)
end
end Go.Proofs.YtnapmdofidgliaaGreat
namespace Go.Proofs.YtnapmdofidgliaaGreat
theorem zlS {F:Fence}{n:Nat}{P:Program}{id:Nat}{ops:Array Oper}{b:Bool}{Q:Exit->Act->World->Prop}{a:Act}{w:World}(R:Act->World->Prop)(h1:(Code.region id ops b).wpIn F n P (fun e a' w'=>e=.normal/\R a' w') a w)(h2:∀a' w',R a' w'->Q .normal a' w'):(Code.region id ops b).wpIn F n P Q a w:=
 Code.wpIn_mono (fun e a' w' ⟨he,hr⟩=>by subst he;exact h2 a' w' hr) h1
theorem zn0 {F:Fence}{n:Nat}{P:Program}{id:Nat}{ops:Array Oper}{b:Bool}{Q:Exit->Act->World->Prop}{a:Act}{w:World}(R:Act->World->Prop)(h1:(Code.region id ops b).wpIn F n P (Exit.then R (fun _ _ _=>False)) a w)(h2:∀a' w',R a' w'->Q .normal a' w'):(Code.region id ops b).wpIn F n P Q a w:=
 Code.wpIn_mono (fun e a' w' hr=>by cases e <;> first|exact h2 a' w' hr|exact False.elim hr) h1
end Go.Proofs.YtnapmdofidgliaaGreat
namespace Go.Proofs.YtnapmdofidgliaaGreat.LawDoomed
open Go.ChangeShapes Go.WideShapes Go.ChangeAt Go.RowKit
theorem kInPlace:(Rows.fnExactGateDoomedRow.inPlace == Tryz.pinned.checked.prog.inPlace 3)=true:=by kernel_rfl
theorem kUnfol:(Rows.fnExactGateDoomedRow.unfollowed == Tryz.pinned.checked.prog.unfollowed 3)=true:=by kernel_rfl
end Go.Proofs.YtnapmdofidgliaaGreat.LawDoomed
