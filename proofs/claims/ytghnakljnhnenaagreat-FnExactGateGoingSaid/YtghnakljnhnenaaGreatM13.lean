import Derived.ProofKit
import Derived.Test.YtghnakljnhnenaaGreatM12
import Derived.Maps.AppendAt
import Derived.Laws.EntriesVeiled
set_option maxHeartbeats 4000000
namespace Go.Proofs.YtghnakljnhnenaaGreat.Gate
structure Far where
 far:Nat->Option Bool
 row:List Nat
def Far.under (s:Far) (p:Nat):Far:=⟨fun q=>if q=p then some false else s.far q,s.row⟩
def Far.behind (s:Far) (p:Nat):Far:=⟨fun q=>if q=p then some true else s.far q,s.row ++ [p]⟩
def zo (d:Nat->Far->Bool × Far):List Nat->Far->Bool × Far
 | [],s=>(true,s)
 | q :: qs,s=>if (d q s).1 then zo d qs (d q s).2 else (false,(d q s).2)
def down (rd:Nat->List Nat):Nat->Nat->Far->Bool × Far
 | 0,_,s=>(false,s)
 | f+1,p,s =>
  match s.far p with
  | some b=>(b,s)
  | none =>
   if (zo (down rd f) (rd p) (s.under p)).1 then (true,(zo (down rd f) (rd p) (s.under p)).2.behind p)
   else (false,(zo (down rd f) (rd p) (s.under p)).2)
def je:Far:=⟨fun _=>none,[]⟩
def zI (rd:Nat->List Nat) (n:Nat):Bool × Far:=zo (down rd (n+1)) (List.range n) je
def open' (n:Nat) (s:Far):Nat:=((List.range n).filter fun q=>(s.far q).isNone).length
structure zhO (s t:Far):Prop where
 met:∀ q,(s.far q).isSome->t.far q=s.far q
 only:∀ q,t.far q=some false->s.far q=some false
theorem zhO.refl (s:Far):zhO s s:=⟨fun _ _=>rfl,fun _ h=>h⟩
theorem zhO.trans {s t u:Far} (h:zhO s t) (k:zhO t u):zhO s u :=
 ⟨fun q hq=>by rw [k.met q (by rw [h.met q hq];exact hq),h.met q hq],fun q hq=>h.only q (k.only q hq)⟩
theorem zfq {n p:Nat} {s:Far} (hp:p < n) (hn:s.far p=none):open' n (s.under p) < open' n s:=by
 unfold open'
 have hsub:∀ q,((s.under p).far q).isNone=true->(s.far q).isNone=true:=by
  intro q hq;unfold Far.under at hq
  simp only at hq
  by_cases h:q=p
  ·rw [if_pos h] at hq;simp at hq
  ·rwa [if_neg h] at hq
 have key:∀ l:List Nat,p ∈ l->(l.filter fun q=>((s.under p).far q).isNone).length < (l.filter fun q=>(s.far q).isNone).length:=by
  intro l
  induction l with
  | nil=>intro h;cases h
  | cons a l ih =>
   intro h
   have hle:(l.filter fun q=>((s.under p).far q).isNone).length<=(l.filter fun q=>(s.far q).isNone).length:=by
    clear ih h
    induction l with
    | nil=>exact Nat.le_refl _
    | cons b l ih =>
     by_cases hb:((s.under p).far b).isNone=true
     ·rw [List.filter_cons_of_pos (by simpa using hb),List.filter_cons_of_pos (by simpa using hsub b hb)]
      simp only [List.length_cons];omega
     ·rw [List.filter_cons_of_neg (by simpa using hb)]
      by_cases hb2:(s.far b).isNone=true
      ·rw [List.filter_cons_of_pos (by simpa using hb2)];simp only [List.length_cons];omega
      ·rw [List.filter_cons_of_neg (by simpa using hb2)];exact ih
   by_cases hap:a=p
   ·subst hap
    rw [List.filter_cons_of_neg (by simp [Far.under]),List.filter_cons_of_pos (by simp [hn])];simp only [List.length_cons];omega
   ·have hm:p ∈ l:=by
     rcases List.mem_cons.1 h with h' | h'
     ·exact absurd h'.symm hap
     ·exact h'
    have:=ih hm
    by_cases hb:((s.under p).far a).isNone=true
    ·rw [List.filter_cons_of_pos (by simpa using hb),List.filter_cons_of_pos (by simpa using hsub a hb)]
     simp only [List.length_cons];omega
    ·rw [List.filter_cons_of_neg (by simpa using hb)]
     by_cases hb2:(s.far a).isNone=true
     ·rw [List.filter_cons_of_pos (by simpa using hb2)];simp only [List.length_cons];omega
     ·rw [List.filter_cons_of_neg (by simpa using hb2)];exact this
 exact key _ (List.mem_range.2 hp)
theorem zku {n:Nat} {s t:Far} (h:∀ q,(s.far q).isSome->(t.far q).isSome):open' n t<=open' n s:=by
 unfold open'
 generalize List.range n=l
 induction l with
 | nil=>exact Nat.le_refl _
 | cons b l ih =>
  by_cases hb:(t.far b).isNone=true
  ·have hs:(s.far b).isNone=true:=by
    rcases hsb:s.far b with _ | v
    ·rfl
    ·have:=h b (by rw [hsb];rfl)
     rw [Option.isNone_iff_eq_none] at hb;rw [hb] at this;cases this
   rw [List.filter_cons_of_pos (by simpa using hb),List.filter_cons_of_pos (by simpa using hs)];simp only [List.length_cons];omega
  ·rw [List.filter_cons_of_neg (by simpa using hb)]
   by_cases hb2:(s.far b).isNone=true
   ·rw [List.filter_cons_of_pos (by simpa using hb2)];simp only [List.length_cons];omega
   ·rw [List.filter_cons_of_neg (by simpa using hb2)];exact ih
theorem zmU (rd:Nat->List Nat):∀ f p s q,(s.far q).isSome->((down rd f p s).2.far q).isSome:=by
 intro f
 induction f with
 | zero=>intro p s q h;exact h
 | succ f ih =>
  intro p s q h;unfold down
  rcases hp:s.far p with _ | b
  ·simp only
   have hl:∀ (l:List Nat) (t:Far),(t.far q).isSome->((zo (down rd f) l t).2.far q).isSome:=by
    intro l
    induction l with
    | nil=>intro t ht;exact ht
    | cons a l il =>
     intro t ht;unfold zo
     split
     ·exact il _ (ih _ _ _ ht)
     ·exact ih _ _ _ ht
   have h1:((s.under p).far q).isSome:=by
    unfold Far.under;simp only
    split
    ·rfl
    ·exact h
   split
   ·unfold Far.behind;simp only
    split
    ·rfl
    ·exact hl _ _ h1
   ·exact hl _ _ h1
  ·exact h
theorem zlH (rd:Nat->List Nat) (f:Nat) (q:Nat):∀ (l:List Nat) (t:Far),(t.far q).isSome->((zo (down rd f) l t).2.far q).isSome:=by
 intro l
 induction l with
 | nil=>intro t ht;exact ht
 | cons a l il =>
  intro t ht;unfold zo
  split
  ·exact il _ (zmU _ _ _ _ _ ht)
  ·exact zmU _ _ _ _ _ ht
structure zdl (rd:Nat->List Nat) (s:Far):Prop where
 mem:∀ q,q ∈ s.row ↔ s.far q=some true
 nodup:s.row.Nodup
 ahead:∀ i (h:i < s.row.length),∀ q ∈ rd (s.row[i]),∃ j,∃ hj:j < i,s.row[j]'(by omega)=q
theorem zdl.under {rd:Nat->List Nat} {s:Far} (h:zdl rd s) {p:Nat} (hp:s.far p=none):zdl rd (s.under p):=by
 refine ⟨fun q=>?_,h.nodup,h.ahead⟩;unfold Far.under;simp only
 by_cases hq:q=p
 ·rw [if_pos hq];subst hq
  constructor
  ·intro hm;rw [h.mem,hp] at hm;cases hm
  ·intro hm;cases hm
 ·rw [if_neg hq];exact h.mem q
theorem zdl.behind {rd:Nat->List Nat} {s:Far} (h:zdl rd s) {p:Nat} (hp:s.far p=some false) (hr:∀ q ∈ rd p,s.far q=some true):zdl rd (s.behind p):=by
 have hnm:p ∉ s.row:=fun hm=>by rw [h.mem,hp] at hm;cases hm
 refine ⟨fun q=>?_,?_,fun i hi q hq=>?_⟩
 ·unfold Far.behind;simp only [List.mem_append,List.mem_singleton]
  by_cases hq:q=p
  ·simp [hq]
  ·rw [if_neg hq,h.mem];simp [hq]
 ·unfold Far.behind;simp only
  rw [List.nodup_append];exact ⟨h.nodup,by simp,fun a ha b hb=>by rw [List.mem_singleton] at hb;subst hb;exact fun e=>hnm (e ▸ ha)⟩
 ·have hlen:(s.behind p).row.length=s.row.length+1:=by simp [Far.behind]
  rcases Nat.lt_or_ge i s.row.length with hlt | hge
  ·have e:(s.behind p).row[i]=s.row[i]:=by simp [Far.behind,List.getElem_append_left hlt]
   rw [e] at hq;obtain ⟨j,hj,hjq⟩:=h.ahead i hlt q hq;refine ⟨j,hj,?_⟩;rw [<- hjq];simp only [Far.behind];rw [List.getElem_append_left (by omega)]
  ·have ei:i=s.row.length:=by omega
   subst ei;have e:(s.behind p).row[s.row.length]=p:=by simp [Far.behind]
   rw [e] at hq;have hm:=(h.mem q).2 (hr q hq);obtain ⟨j,hj,hjq⟩:=List.mem_iff_getElem.1 hm;refine ⟨j,hj,?_⟩;rw [<- hjq];simp only [Far.behind];rw [List.getElem_append_left hj]
theorem zo3 (rd:Nat->List Nat):∀ f p s,zdl rd s->(down rd f p s).1=true->zdl rd (down rd f p s).2/\zhO s (down rd f p s).2/\(down rd f p s).2.far p=some true:=by
 intro f
 induction f with
 | zero=>intro p s _ h;cases h
 | succ f ih =>
  have hl:∀ (l:List Nat) (t:Far),zdl rd t->(zo (down rd f) l t).1=true->zdl rd (zo (down rd f) l t).2/\zhO t (zo (down rd f) l t).2/\∀ q ∈ l,(zo (down rd f) l t).2.far q=some true:=by
   intro l
   induction l with
   | nil=>intro t ht _;exact ⟨ht,zhO.refl _,fun q hq=>by cases hq⟩
   | cons a l il =>
    intro t ht h;unfold zo at h ⊢
    by_cases ha:(down rd f a t).1=true
    ·rw [if_pos ha] at h ⊢
     obtain ⟨r1,g1,f1⟩:=ih a t ht ha;obtain ⟨r2,g2,f2⟩:=il _ r1 h;refine ⟨r2,g1.trans g2,fun q hq=>?_⟩
     rcases List.mem_cons.1 hq with rfl | hq
     ·rw [g2.met _ (by rw [f1];rfl),f1]
     ·exact f2 q hq
    ·rw [if_neg ha] at h;cases h
  intro p s hs h;unfold down at h ⊢
  rcases hp:s.far p with _ | b
  ·rw [hp] at h
   simp only at h ⊢
   by_cases hc:(zo (down rd f) (rd p) (s.under p)).1=true
   ·rw [if_pos hc]
    obtain ⟨r1,g1,f1⟩:=hl _ _ (hs.under hp) hc;have hpu:(s.under p).far p=some false:=by simp [Far.under]
    have hp1:(zo (down rd f) (rd p) (s.under p)).2.far p=some false:=by rw [g1.met p (by rw [hpu];rfl),hpu]
    refine ⟨r1.behind hp1 f1,⟨fun q hq=>?_,fun q hq=>?_⟩,by simp [Far.behind]⟩
    ·have hqp:q ≠ p:=by rintro rfl;rw [hp] at hq;cases hq
     have h1:(s.under p).far q=s.far q:=by simp [Far.under,hqp]
     simp only [Far.behind,if_neg hqp];rw [g1.met q (by rw [h1];exact hq),h1]
    ·simp only [Far.behind] at hq
     by_cases hqp:q=p
     ·rw [if_pos hqp] at hq;cases hq
     ·rw [if_neg hqp] at hq
      have:=g1.only q hq
      simpa [Far.under,hqp] using this
   ·rw [if_neg hc] at h;cases h
  ·rw [hp] at h
   simp only at h ⊢
   subst h;exact ⟨hs,zhO.refl _,hp⟩
theorem zjR (rd:Nat->List Nat) (f:Nat):∀ (l:List Nat) (t:Far),zdl rd t->(zo (down rd f) l t).1=true->zdl rd (zo (down rd f) l t).2/\zhO t (zo (down rd f) l t).2/\∀ q ∈ l,(zo (down rd f) l t).2.far q=some true:=by
 intro l
 induction l with
 | nil=>intro t ht _;exact ⟨ht,zhO.refl _,fun q hq=>by cases hq⟩
 | cons a l il =>
  intro t ht h;unfold zo at h ⊢
  by_cases ha:(down rd f a t).1=true
  ·rw [if_pos ha] at h ⊢
   obtain ⟨r1,g1,f1⟩:=zo3 rd f a t ht ha;obtain ⟨r2,g2,f2⟩:=il _ r1 h;refine ⟨r2,g1.trans g2,fun q hq=>?_⟩
   rcases List.mem_cons.1 hq with rfl | hq
   ·rw [g2.met _ (by rw [f1];rfl),f1]
   ·exact f2 q hq
  ·rw [if_neg ha] at h;cases h
def zjc (rd:Nat->List Nat) (n:Nat) (rk:Nat->Nat):Prop:=(∀ p,p < n->rk p < n)/\∀ p,p < n->∀ q ∈ rd p,q < n/\rk q < rk p
theorem zmK {rd:Nat->List Nat} {n:Nat} {rk:Nat->Nat} (hr:zjc rd n rk):∀ f p s,p < n->rk p < f->(∀ q,s.far q=some false->rk p < rk q) ->
 (down rd f p s).1=true/\∀ q,(down rd f p s).2.far q=some false->s.far q=some false:=by
 intro f
 induction f with
 | zero=>intro p s _ h;omega
 | succ f ih =>
  intro p s hp hf hu
  have hl:∀ (l:List Nat) (t:Far),(∀ q ∈ l,q < n/\rk q < f)->(∀ a ∈ l,∀ q,t.far q=some false->rk a < rk q) ->
   (zo (down rd f) l t).1=true/\∀ q,(zo (down rd f) l t).2.far q=some false->t.far q=some false:=by
   intro l
   induction l with
   | nil=>intro t _ _;exact ⟨rfl,fun q h=>h⟩
   | cons a l il =>
    intro t h1 h2;obtain ⟨ha1,ha2⟩:=h1 a (by simp);obtain ⟨hd,hk⟩:=ih a t ha1 ha2 (h2 a (by simp));unfold zo;rw [if_pos hd];obtain ⟨he,hm⟩:=il _ (fun q hq=>h1 q (by simp [hq])) (fun b hb q hq=>h2 b (by simp [hb]) q (hk q hq));exact ⟨he,fun q hq=>hk q (hm q hq)⟩
  unfold down
  rcases hfp:s.far p with _ | b
  ·simp only
   have hsmall:=hr.2 p hp
   obtain ⟨hc,hm⟩:=hl (rd p) (s.under p) (fun q hq=>⟨(hsmall q hq).1,by have:=(hsmall q hq).2;omega⟩) (fun a ha q hq=>by
    have h1:=(hsmall a ha).2;simp only [Far.under] at hq
    by_cases hqp:q=p
    ·subst hqp;exact h1
    ·rw [if_neg hqp] at hq;have:=hu q hq;omega)
   rw [if_pos hc];refine ⟨rfl,fun q hq=>?_⟩;simp only [Far.behind] at hq
   by_cases hqp:q=p
   ·rw [if_pos hqp] at hq;cases hq
   ·rw [if_neg hqp] at hq
    have:=hm q hq
    simpa [Far.under,hqp] using this
  ·simp only
   cases b with
   | true=>exact ⟨rfl,fun q h=>h⟩
   | false=>exact absurd (hu p hfp) (by omega)
theorem zjG {rd:Nat->List Nat} {n:Nat} {rk:Nat->Nat} (hr:zjc rd n rk):(zI rd n).1=true:=by
 unfold zI
 have key:∀ (l:List Nat) (t:Far),(∀ q ∈ l,q < n)->(∀ q,t.far q ≠ some false)->(zo (down rd (n+1)) l t).1=true:=by
  intro l
  induction l with
  | nil=>intro t _ _;rfl
  | cons a l il =>
   intro t h1 h2;have ha:=h1 a (by simp);obtain ⟨hd,hk⟩:=zmK hr (n+1) a t ha (by have:=hr.1 a ha;omega) (fun q hq=>absurd hq (h2 q));unfold zo;rw [if_pos hd];exact il _ (fun q hq=>h1 q (by simp [hq])) (fun q hq=>h2 q (hk q hq))
 exact key _ _ (fun q hq=>List.mem_range.1 hq) (fun q h=>by cases h)
theorem zmN (rd:Nat->List Nat):zdl rd je:=⟨fun q=>by simp [je],by simp [je],fun i h=>by simp [je] at h⟩
end Go.Proofs.YtghnakljnhnenaaGreat.Gate
namespace Go.Proofs.YtghnakljnhnenaaGreat.Gate
structure zjU (rd:Nat->List Nat) (n:Nat) (row:List Nat):Prop where
 nodup:row.Nodup
 mem:∀ q,q ∈ row ↔ q < n
 ahead:∀ r1 p r2,row=r1 ++ p :: r2->∀ q ∈ rd p,q ∈ r1
theorem zbA {α:Type} [DecidableEq α]:∀ (l m:List α),l.Nodup->(∀ x ∈ l,x ∈ m)->l.length<=m.length:=by
 intro l
 induction l with
 | nil=>intro m _ _;exact Nat.zero_le _
 | cons a l ih =>
  intro m hn hm;rw [List.nodup_cons] at hn;have ha:=hm a (by simp)
  have h1:=ih (m.erase a) hn.2 (fun x hx=>by
   have hne:x ≠ a:=by rintro rfl;exact hn.1 hx
   exact (List.mem_erase_of_ne hne).2 (hm x (by simp [hx])))
  rw [List.length_erase_of_mem ha] at h1
  have:0 < m.length:=List.length_pos_of_mem ha
  simp only [List.length_cons];omega
theorem zpJ {n:Nat} {l:List Nat} (hn:l.Nodup) (hm:∀ x ∈ l,x < n) (hl:l.length=n) (q:Nat) (hq:q < n):q ∈ l:=by
 by_cases h:q ∈ l
 ·exact h
 ·exfalso
  have:=zbA (q :: l) (List.range n) (List.nodup_cons.2 ⟨h,hn⟩) (fun x hx=>by
   rcases List.mem_cons.1 hx with rfl | hx
   ·exact List.mem_range.2 hq
   ·exact List.mem_range.2 (hm x hx))
  simp only [List.length_cons,List.length_range] at this;omega
theorem zh3 {r1 r2:List Nat} {p q:Nat} (hq:q ∈ r1) (hp:p ∉ r1):(r1 ++ p :: r2).idxOf q < (r1 ++ p :: r2).idxOf p:=by
 have h1:∀ (l:List Nat),q ∈ l->(l ++ p :: r2).idxOf q < l.length:=by
  intro l
  induction l with
  | nil=>intro h;cases h
  | cons a l ih =>
   intro h
   by_cases ha:a=q
   ·subst ha;simp
   ·have hm:q ∈ l:=by
     rcases List.mem_cons.1 h with h' | h'
     ·exact absurd h'.symm ha
     ·exact h'
    have:=ih hm
    rw [List.cons_append,List.idxOf_cons,List.length_cons,beq_false_of_ne ha,cond_false];omega
 have h2:∀ (l:List Nat),p ∉ l->l.length<=(l ++ p :: r2).idxOf p:=by
  intro l
  induction l with
  | nil=>intro _;exact Nat.zero_le _
  | cons a l ih =>
   intro h;rw [List.mem_cons] at h
   have:=ih (fun hm=>h (Or.inr hm))
   rw [List.cons_append,List.idxOf_cons,List.length_cons,beq_false_of_ne (fun e=>h (Or.inl (Eq.symm e))),cond_false];omega
 exact nLt (h1 r1 hq) (h2 r1 hp)
theorem zjU.zk0 {rd:Nat->List Nat} {n:Nat} {row:List Nat} (h:zjU rd n row):zjc rd n (fun p=>row.idxOf p):=by
 have hlen:row.length<=n:=by
  have:=zbA row (List.range n) h.nodup (fun x hx=>List.mem_range.2 ((h.mem x).1 hx))
  simpa using this
 refine ⟨fun p hp=>nLt (List.idxOf_lt_length_of_mem ((h.mem p).2 hp)) hlen,fun p hp q hq=>?_⟩;have hpm:=(h.mem p).2 hp;obtain ⟨r1,r2,e⟩:=List.append_of_mem hpm;have hq1:=h.ahead r1 p r2 e q hq;have hnd:=h.nodup;rw [e] at hnd
 have hp1:p ∉ r1:=by
  intro hm;rw [List.nodup_append] at hnd;exact hnd.2.2 p hm p (by simp) rfl
 refine ⟨(h.mem q).1 (by rw [e];simp [hq1]),?_⟩;simp only [e];exact zh3 hq1 hp1
theorem zdO {rd:Nat->List Nat} {n:Nat} (hrd:∀ p,p < n->∀ q ∈ rd p,q < n) (h:(zI rd n).1=true):zjU rd n (zI rd n).2.row:=by
 have hfar:∀ q,((zI rd n).2.far q).isSome->q < n:=by
  have hd:∀ f p s,p < n->(∀ q,(s.far q).isSome->q < n)->∀ q,((down rd f p s).2.far q).isSome->q < n:=by
   intro f
   induction f with
   | zero=>intro p s _ hs q hq;exact hs q hq
   | succ f ih =>
    intro p s hp hs q hq
    have hl:∀ (l:List Nat) (t:Far),(∀ a ∈ l,a < n)->(∀ q,(t.far q).isSome->q < n)->∀ q,((zo (down rd f) l t).2.far q).isSome->q < n:=by
     intro l
     induction l with
     | nil=>intro t _ ht q hq;exact ht q hq
     | cons a l il =>
      intro t ha ht q hq;unfold zo at hq;have h1:=ih a t (ha a (by simp)) ht
      split at hq
      ·exact il _ (fun b hb=>ha b (by simp [hb])) h1 q hq
      ·exact h1 q hq
    have hu:∀ q,((s.under p).far q).isSome->q < n:=by
     intro q hq
     by_cases hqp:q=p
     ·omega
     ·simp only [Far.under,if_neg hqp] at hq;exact hs q hq
    unfold down at hq
    rcases hfp:s.far p with _ | b
    ·rw [hfp] at hq
     simp only at hq
     split at hq
     ·by_cases hqp:q=p
      ·omega
      ·simp only [Far.behind,if_neg hqp] at hq
       exact hl _ _ (hrd p hp) hu q hq
     ·exact hl _ _ (hrd p hp) hu q hq
    ·rw [hfp] at hq;exact hs q hq
  have hl:∀ (l:List Nat) (t:Far),(∀ a ∈ l,a < n)->(∀ q,(t.far q).isSome->q < n)->∀ q,((zo (down rd (n+1)) l t).2.far q).isSome->q < n:=by
   intro l
   induction l with
   | nil=>intro t _ ht q hq;exact ht q hq
   | cons a l il =>
    intro t ha ht q hq;unfold zo at hq;have h1:=hd (n+1) a t (ha a (by simp)) ht
    split at hq
    ·exact il _ (fun b hb=>ha b (by simp [hb])) h1 q hq
    ·exact h1 q hq
  exact hl _ _ (fun a ha=>List.mem_range.1 ha) (fun q hq=>by cases hq)
 obtain ⟨r,_,hall⟩:=zjR rd (n+1) (List.range n) je (zmN rd) h;refine ⟨r.nodup,fun q=>⟨fun hq=>hfar q (by have h2:=(r.mem q).1 hq;unfold zI;rw [h2];rfl),fun hq=>(r.mem q).2 (hall q (List.mem_range.2 hq))⟩,fun r1 p r2 e q hq=>?_⟩;have e':(zo (down rd (n+1)) (List.range n) je).2.row=r1 ++ p :: r2:=e;have hi:r1.length < (zo (down rd (n+1)) (List.range n) je).2.row.length:=by rw [e'];simp
 have hx:(zo (down rd (n+1)) (List.range n) je).2.row[r1.length]=p:=by
  have:(zo (down rd (n+1)) (List.range n) je).2.row[r1.length]?=some p:=by rw [e'];simp
  rw [List.getElem?_eq_getElem hi] at this;exact Option.some.inj this
 obtain ⟨j,hj,hjq⟩:=r.ahead r1.length hi q (by rw [hx];exact hq)
 have:(zo (down rd (n+1)) (List.range n) je).2.row[j]?=some q:=by rw [List.getElem?_eq_getElem (by omega),hjq]
 rw [e',List.getElem?_append_left hj] at this;exact List.mem_of_getElem? this
def ready (rd:Nat->List Nat) (row:List Nat) (i:Nat):Bool:=!decide (i ∈ row) && (rd i).all fun q=>decide (q ∈ row)
def pick (rd:Nat->List Nat) (n:Nat) (row:List Nat):Option Nat:=(List.range n).find? (ready rd row)
def more (rd:Nat->List Nat) (n:Nat) (row:List Nat):List Nat:=match pick rd n row with | none=>row | some i=>row ++ [i]
def greedy (rd:Nat->List Nat) (n:Nat):Nat->List Nat
 | 0=>[]
 | k+1=>more rd n (greedy rd n k)
structure Part (rd:Nat->List Nat) (n:Nat) (row:List Nat):Prop where
 nodup:row.Nodup
 mem:∀ q ∈ row,q < n
 ahead:∀ r1 p r2,row=r1 ++ p :: r2->∀ q ∈ rd p,q ∈ r1
theorem zgK {rd:Nat->List Nat} {row:List Nat} {i:Nat}:ready rd row i=true ↔ i ∉ row/\∀ q ∈ rd i,q ∈ row:=by
 unfold ready;simp
theorem zno {r1 r2 row:List Nat} {p i:Nat} (e:row ++ [i]=r1 ++ p :: r2):(r2=[]/\p=i/\r1=row) \/ ∃ r3,r2=r3 ++ [i]/\row=r1 ++ p :: r3:=by
 rcases List.eq_nil_or_concat r2 with rfl | ⟨r3,b,rfl⟩
 ·left
  have h2:=List.append_inj' e rfl;exact ⟨rfl,by simpa using h2.2.symm,h2.1.symm⟩
 ·right
  rw [List.concat_eq_append] at e ⊢;have e2:row ++ [i]=(r1 ++ p :: r3) ++ [b]:=by rw [e];simp
  have h2:=List.append_inj' e2 rfl;exact ⟨r3,by simpa using h2.2.symm,h2.1⟩
theorem Part.more {rd:Nat->List Nat} {n:Nat} {row:List Nat} (h:Part rd n row):Part rd n (more rd n row):=by
 unfold Gate.more
 rcases hp:pick rd n row with _ | i
 ·exact h
 ·unfold pick at hp
  have hi:=List.find?_some hp;have hin:=List.mem_of_find?_eq_some hp;rw [zgK] at hi;refine ⟨?_,fun q hq=>?_,fun r1 p r2 e q hq=>?_⟩
  ·rw [List.nodup_append]
   exact ⟨h.nodup,by simp,fun a ha b hb=>by rw [List.mem_singleton] at hb;subst hb;exact fun e=>hi.1 (e ▸ ha)⟩
  ·rcases List.mem_append.1 hq with hq | hq
   ·exact h.mem q hq
   ·rw [List.mem_singleton] at hq;subst hq;exact List.mem_range.1 hin
  ·rcases zno e with ⟨_,rfl,rfl⟩ | ⟨r3,_,e3⟩
   ·exact hi.2 q hq
   ·exact h.ahead r1 p r3 e3 q hq
theorem zce (rd:Nat->List Nat) (n:Nat):∀ k,Part rd n (greedy rd n k)
 | 0=>⟨by simp [greedy],fun q hq=>by simp [greedy] at hq,fun r1 p r2 e=>by simp [greedy] at e⟩
 | k+1=>(zce rd n k).more
theorem Part.zo7 {rd:Nat->List Nat} {n:Nat} {row:List Nat} (h:Part rd n row) (hl:row.length=n):zjU rd n row :=
 ⟨h.nodup,fun q=>⟨h.mem q,zpJ h.nodup h.mem hl q⟩,h.ahead⟩
theorem zoZ {rd:Nat->List Nat} {n:Nat} {rk:Nat->Nat} (hr:zjc rd n rk) (row:List Nat):∀ r p,p < n->p ∉ row->rk p<=r->∃ i,pick rd n row=some i:=by
 intro r
 have fin:∀ p,p < n->p ∉ row->(∀ q ∈ rd p,q ∈ row)->∃ i,pick rd n row=some i:=by
  intro p hp hm ha
  have:(pick rd n row).isSome:=by
   unfold pick;rw [List.find?_isSome];exact ⟨p,List.mem_range.2 hp,zgK.2 ⟨hm,ha⟩⟩
  exact Option.isSome_iff_exists.1 this
 induction r with
 | zero =>
  intro p hp hm hk;refine fin p hp hm (fun q hq=>?_)
  have:=(hr.2 p hp q hq).2;omega
 | succ r ih =>
  intro p hp hm hk
  by_cases ha:∀ q ∈ rd p,q ∈ row
  ·exact fin p hp hm ha
  ·have:∃ q,q ∈ rd p/\q ∉ row:=by
    by_cases h:∃ q,q ∈ rd p/\q ∉ row
    ·exact h
    ·exact absurd (fun q hq=>Classical.byContradiction fun hn=>h ⟨q,hq,hn⟩) ha
   obtain ⟨q,hq,hqm⟩:=this;have h1:=hr.2 p hp q hq;exact ih q h1.1 hqm (by omega)
theorem zhB {rd:Nat->List Nat} {n:Nat} {rk:Nat->Nat} (hr:zjc rd n rk):∀ k,k<=n->(greedy rd n k).length=k:=by
 intro k
 induction k with
 | zero=>intro _;rfl
 | succ k ih =>
  intro hk;have hl:=ih (by omega);have hpart:=zce rd n k
  have:∃ p,p < n/\p ∉ greedy rd n k:=by
   by_cases h:∃ p,p < n/\p ∉ greedy rd n k
   ·exact h
   ·exfalso
    have:=zbA (List.range n) (greedy rd n k) List.nodup_range (fun x hx=>Classical.byContradiction fun hn=>h ⟨x,List.mem_range.1 hx,hn⟩)
    simp only [List.length_range] at this;omega
  obtain ⟨p,hp,hm⟩:=this;obtain ⟨i,hi⟩:=zoZ hr (greedy rd n k) (rk p) p hp hm (Nat.le_refl _)
  show (more rd n (greedy rd n k)).length=k+1
  unfold more;rw [hi];simp [hl]
theorem zid {rd:Nat->List Nat} {n:Nat} (hrd:∀ p,p < n->∀ q ∈ rd p,q < n):(zI rd n).1=decide ((greedy rd n n).length=n):=by
 by_cases h:(zI rd n).1=true
 ·rw [h];exact (decide_eq_true (zhB (zdO hrd h).zk0 n (Nat.le_refl _))).symm
 ·have hf:(zI rd n).1=false:=by simpa using h
  rw [hf]
  symm
  rw [decide_eq_false_iff_not];intro hl;exact h (zjG ((zce rd n n).zo7 hl).zk0)
def yg {α:Type} (D:Nat->List α->α) (row:List Nat) (vs:List α):List α:=row.foldl (fun us p=>us.set p (D p us)) vs
theorem jQ {α:Type} (D:Nat->List α->α):∀ (row:List Nat) (vs:List α),(yg D row vs).length=vs.length:=by
 intro row
 induction row with
 | nil=>intro vs;rfl
 | cons a l ih=>intro vs;show (yg D l (vs.set a (D a vs))).length=_;rw [ih];simp
theorem zes {α:Type} (D:Nat->List α->α) (p:Nat):∀ (row:List Nat) (vs:List α),p ∉ row->(yg D row vs)[p]?=vs[p]?:=by
 intro row
 induction row with
 | nil=>intro vs _;rfl
 | cons a l ih =>
  intro vs h;rw [List.mem_cons] at h
  show (yg D l (vs.set a (D a vs)))[p]?=_
  rw [ih _ (fun hm=>h (Or.inr hm)),List.getElem?_set_ne (fun e=>h (Or.inl e.symm))]
theorem zcD {α:Type} (D:Nat->List α->α) (r1 r2:List Nat) (vs:List α):yg D (r1 ++ r2) vs=yg D r2 (yg D r1 vs):=by
 unfold yg;rw [List.foldl_append]
theorem znj {α:Type} (D:Nat->List α->α) (r1 r2:List Nat) (p:Nat) (vs:List α) (hp:p < vs.length) (h2:p ∉ r2):(yg D (r1 ++ p :: r2) vs)[p]?=some (D p (yg D r1 vs)):=by
 rw [zcD]
 show (yg D r2 ((yg D r1 vs).set p (D p (yg D r1 vs))))[p]?=_
 rw [zes D p r2 _ h2,List.getElem?_set_self (by rw [jQ];exact hp)]
def zp5 {α:Type} (rd:Nat->List Nat) (n:Nat) (D:Nat->List α->α):Prop:=∀ p,p < n->∀ us vs:List α,us.length=n->vs.length=n->(∀ q ∈ rd p,us[q]?=vs[q]?)->us[p]?=vs[p]?->D p us=D p vs
theorem zgC {α:Type} {D:Nat->List α->α} {rd:Nat->List Nat} {n:Nat} {row:List Nat} (h:zjU rd n row) (vs:List α) (hl:vs.length=n) (p:Nat) (hp:p < n) :
 ∃ us:List α,us.length=n/\(yg D row vs)[p]?=some (D p us)/\us[p]?=vs[p]?/\∀ q ∈ rd p,us[q]?=(yg D row vs)[q]?:=by
 obtain ⟨r1,r2,e⟩:=List.append_of_mem ((h.mem p).2 hp);have hnd:=h.nodup;rw [e,List.nodup_append] at hnd;have hp1:p ∉ r1:=fun hm=>hnd.2.2 p hm p (by simp) rfl
 have hp2:p ∉ r2:=(List.nodup_cons.1 hnd.2.1).1;refine ⟨yg D r1 vs,by rw [jQ,hl],by rw [e];exact znj D r1 r2 p vs (by omega) hp2,zes D p r1 vs hp1,fun q hq=>?_⟩;have hq1:=h.ahead r1 p r2 e q hq;have hq2:q ∉ p :: r2:=fun hm=>hnd.2.2 q hq1 q hm rfl
 rw [e,zcD,zes D q _ _ hq2]
theorem zmS {α:Type} {D:Nat->List α->α} {rd:Nat->List Nat} {n:Nat} {r r':List Nat} (h:zjU rd n r) (h':zjU rd n r') (hD:zp5 rd n D) (vs:List α) (hl:vs.length=n):yg D r vs=yg D r' vs:=by
 have hr:=h.zk0
 have key:∀ k p,p < n->r.idxOf p < k->(yg D r vs)[p]?=(yg D r' vs)[p]?:=by
  intro k
  induction k with
  | zero=>intro p _ hk;omega
  | succ k ih =>
   intro p hp hk;obtain ⟨us,u1,u2,u3,u4⟩:=zgC (D:=D) h vs hl p hp;obtain ⟨us',u1',u2',u3',u4'⟩:=zgC (D:=D) h' vs hl p hp;rw [u2,u2']
   congr 1
   refine hD p hp us us' u1 u1' (fun q hq=>?_) (u3.trans u3'.symm);have h1:=hr.2 p hp q hq;have h2:r.idxOf q < r.idxOf p:=h1.2;rw [u4 q hq,u4' q hq];exact ih q h1.1 (by omega)
 apply List.ext_getElem?
 intro p
 rcases Nat.lt_or_ge p n with hp | hp
 ·exact key (r.idxOf p+1) p hp (Nat.lt_succ_self _)
 ·rw [List.getElem?_eq_none (by rw [jQ,hl];exact hp),List.getElem?_eq_none (by rw [jQ,hl];exact hp)]
end Go.Proofs.YtghnakljnhnenaaGreat.Gate
namespace Go.Proofs.YtghnakljnhnenaaGreat
open Go.RowKit
namespace Gate
def zl (s:Shp) (ms:List Mnd) (p:Nat):List Nat:=(zY s ms p).map Int.toNat
def zfn (S:Far):Int->Option Int:=fun q=>if 0<=q then (S.far q.toNat).map fun b=>if b=true then 2 else 1 else none
theorem zn6 (S:Far) (i:Nat):(fun q:Int=>if q=(i:Int) then some 1 else zfn S q)=zfn (S.under i):=by
 funext q
 by_cases h:q=(i:Int)
 ·subst h;simp [zfn,Far.under]
 ·rw [if_neg h]
  unfold zfn Far.under
  by_cases h0:0<=q
  ·have:q.toNat ≠ i:=by omega
   simp [h0,this]
  ·simp [h0]
theorem zmF (S:Far) (i:Nat):(fun q:Int=>if q=(i:Int) then some 2 else zfn S q)=zfn (S.behind i):=by
 funext q
 by_cases h:q=(i:Int)
 ·subst h;simp [zfn,Far.behind]
 ·rw [if_neg h]
  unfold zfn Far.behind
  by_cases h0:0<=q
  ·have:q.toNat ≠ i:=by omega
   simp [h0,this]
  ·simp [h0]
theorem zp0 (S:Far) (i:Nat):zfn S (i:Int)=(S.far i).map fun b=>if b=true then 2 else 1:=by
 unfold zfn;simp
theorem za9 (d:Nat->Far->Bool × Far):∀ (l:List Nat) (q:Nat) (t:Far),zo d (l ++ [q]) t=if (zo d l t).1=true then d q (zo d l t).2 else zo d l t
 | [],q,t=>by
  show (if (d q t).1=true then zo d [] (d q t).2 else (false,(d q t).2))=d q t
  by_cases h:(d q t).1=true
  ·rw [if_pos h];show (true,(d q t).2)=d q t;rw [<- h]
  ·rw [if_neg h]
   have:(d q t).1=false:=by simpa using h
   rw [<- this]
 | a :: l,q,t=>by
  show (if (d a t).1=true then zo d (l ++ [q]) (d a t).2 else (false,(d a t).2))=_
  by_cases h:(d a t).1=true
  ·have e:zo d (a :: l) t=zo d l (d a t).2:=by show (if (d a t).1=true then _ else _)=_;rw [if_pos h]
   rw [if_pos h,e];exact za9 d l q _
  ·have e:zo d (a :: l) t=(false,(d a t).2):=by show (if (d a t).1=true then _ else _)=_;rw [if_neg h]
   rw [if_neg h,e];rfl
theorem zcM (d:Nat->Far->Bool × Far):∀ (l r:List Nat) (t:Far),(zo d l t).1=false->(zo d (l ++ r) t).1=false
 | [],r,t,h=>by cases h
 | a :: l,r,t,h=>by
  show (if (d a t).1=true then zo d (l ++ r) (d a t).2 else (false,(d a t).2)).1=false
  by_cases hc:(d a t).1=true
  ·have e:zo d (a :: l) t=zo d l (d a t).2:=by show (if (d a t).1=true then _ else _)=_;rw [if_pos hc]
   rw [e] at h;rw [if_pos hc];exact zcM d l r _ h
  ·rw [if_neg hc]
theorem zo2 {rd:Nat->List Nat} {n:Nat} (hrd:∀ p,p < n->∀ q ∈ rd p,q < n):∀ f p S,p < n->(down rd f p S).1=true->(down rd f p S).2.row.length+open' n (down rd f p S).2<=S.row.length+open' n S:=by
 intro f
 induction f with
 | zero=>intro p S _ h;cases h
 | succ f ih =>
  have hl:∀ (l:List Nat) (t:Far),(∀ a ∈ l,a < n)->(zo (down rd f) l t).1=true->(zo (down rd f) l t).2.row.length+open' n (zo (down rd f) l t).2<=t.row.length+open' n t:=by
   intro l
   induction l with
   | nil=>intro t _ _;exact Nat.le_refl _
   | cons a l il =>
    intro t ha h;unfold zo at h ⊢
    by_cases hc:(down rd f a t).1=true
    ·rw [if_pos hc] at h ⊢
     exact Nat.le_trans (il _ (fun b hb=>ha b (by simp [hb])) h) (ih a t (ha a (by simp)) hc)
    ·rw [if_neg hc] at h;cases h
  intro p S hp h;unfold down at h ⊢
  rcases hf:S.far p with _ | b
  ·rw [hf] at h
   simp only at h ⊢
   by_cases hc:(zo (down rd f) (rd p) (S.under p)).1=true
   ·rw [if_pos hc]
    have h1:=hl _ _ (hrd p hp) hc;have h2:=zfq hp hf
    have h3:open' n ((zo (down rd f) (rd p) (S.under p)).2.behind p)<=open' n (zo (down rd f) (rd p) (S.under p)).2:=by
     apply zku
     intro q hq;simp only [Far.behind]
     split
     ·rfl
     ·exact hq
    have h4:((zo (down rd f) (rd p) (S.under p)).2.behind p).row.length=(zo (down rd f) (rd p) (S.under p)).2.row.length+1:=by simp [Far.behind]
    have h5:(S.under p).row=S.row:=rfl;rw [h5] at h1
    simp only
    omega
   ·rw [if_neg hc] at h;cases h
  ·exact Nat.le_refl _
theorem zff {rd:Nat->List Nat} {n:Nat} (hrd:∀ p,p < n->∀ q ∈ rd p,q < n) (f:Nat):∀ (l:List Nat) (t:Far),(∀ a ∈ l,a < n)->(zo (down rd f) l t).1=true->(zo (down rd f) l t).2.row.length+open' n (zo (down rd f) l t).2<=t.row.length+open' n t:=by
 intro l
 induction l with
 | nil=>intro t _ _;exact Nat.le_refl _
 | cons a l il =>
  intro t ha h;unfold zo at h ⊢
  by_cases hc:(down rd f a t).1=true
  ·rw [if_pos hc] at h ⊢
   exact Nat.le_trans (il _ (fun b hb=>ha b (by simp [hb])) h) (zo2 hrd f a t (ha a (by simp)) hc)
  ·rw [if_neg hc] at h;cases h
end Gate
def zc8 (l:List Nat):List Value:=l.map fun q:Nat=>Value.int .i64 (q:Int)
theorem zbv {w:World} {b:Nat} {X:Array Value} {t:TypeId} (h:w.heap[b]?=some (.cells X t)):∀ j,w.cell? ⟨b,j,none⟩=X[j]?:=fun _=>cell_of_block h
theorem zgx {w:World} {b:Nat} {X:Array Value} {t:TypeId} (h:w.heap[b]?=some (.cells X t)):∀ j,w.frozen? ⟨b,j,none⟩=false:=fun _=>zi h
structure WalkC where
 s:Shp
 ms:List Mnd
 w0:World
 ma:Option Addr
 fa:Option Addr
 mcap:Nat
 fcap:Nat
 bm:Nat
 bs:Nat
 p:Nat
 mr:Nat
 lo:Nat
structure WalkC.Ok (c:WalkC):Prop where
 mnds:yY c.w0 c.ma c.ms
 zdk:zP c.w0 c.fa c.s.fs
 few:c.ms.length<=1048576
 fewf:c.s.fs.length<=6
 reads:∀ q,q < c.s.fs.length->∀ x ∈ Gate.zY c.s c.ms q,0<=x/\x < c.s.fs.length
 bp:c.w0.heap.size<=c.p
 bmr:c.w0.heap.size<=c.mr
 plo:c.p < c.lo
 mlo:c.mr < c.lo
 bml:c.bm < c.lo
 bsl:c.bs < c.lo
 pm:c.p ≠ c.mr
 bmp:c.bm ≠ c.p
 bmm:c.bm ≠ c.mr
 bsp:c.bs ≠ c.p
 bsm:c.bs ≠ c.mr
def WalkC.fn (c:WalkC):Value:=.func (.func 187) #[] #[.pointer (some ⟨c.bm,0,none⟩),.pointer (some ⟨c.bs,0,none⟩)]
structure qP (c:WalkC) (w:World) (S:Gate.Far) (v:Value):Prop where
 base:Below c.w0.heap.size c.w0 w
 cm:w.cell? ⟨c.bm,0,none⟩=some (.slice c.ma c.ms.length c.mcap)
 cs:∀ j,w.cell? ⟨c.bs,j,none⟩=(#[.string c.s.kd,.slice c.fa c.s.fs.length c.fcap]:Array Value)[j]?
 size:c.lo<=w.heap.size
 cells:w.heap[c.p]?=some (.cells #[c.fn,.map (some c.mr),v] 268)
 row:w.ownsRow c.lo 3 1 v S.row.length (zc8 S.row)
 map:zbs w c.mr (Gate.zfn S)
structure Moves (c:WalkC) (v:Value) (w:World) (v':Value) (w':World):Prop where
 size:w.heap.size<=w'.heap.size
 out:∀ k,k < w.heap.size->k ≠ c.p->k ≠ c.mr->v.ownBlock ≠ some k->w'.heap[k]?=w.heap[k]?
 own:v'.ownBlock=v.ownBlock \/ ∃ g,v'.ownBlock=some g/\w.heap.size<=g
theorem Moves.refl (c:WalkC) (v:Value) (w:World):Moves c v w v w:=⟨Nat.le_refl _,fun _ _ _ _ _=>rfl,Or.inl rfl⟩
theorem Moves.trans {c:WalkC} {v v1 v2:Value} {w w1 w2:World} (h:Moves c v w v1 w1) (k:Moves c v1 w1 v2 w2):Moves c v w v2 w2:=by
 refine ⟨Nat.le_trans h.size k.size,fun i hi hp hm hv=>?_,?_⟩
 ·rw [k.out i (nLt hi h.size) hp hm ?_,h.out i hi hp hm hv]
  rcases h.own with e | ⟨g,e,hg⟩
  ·rw [e];exact hv
  ·rw [e];intro e';cases e';omega
 ·rcases k.own with e | ⟨g,e,hg⟩
  ·rw [e];exact h.own
  ·exact Or.inr ⟨g,e,Nat.le_trans h.size hg⟩
theorem zg9 {w w':World} {b j:Nat} (h:w'.heap[b]?=w.heap[b]?):w'.cell? ⟨b,j,none⟩=w.cell? ⟨b,j,none⟩:=by unfold World.cell?;rw [h]
theorem qP.next {c:WalkC} {w w':World} {S S':Gate.Far} {v v':Value} (hc:c.Ok) (h:qP c w S v) (os:w'.os=w.os) (tape:w'.tape=w.tape) (output:w'.output=w.output) (size:w.heap.size<=w'.heap.size)
 (out:∀ k,k < c.lo->k ≠ c.p->k ≠ c.mr->w'.heap[k]?=w.heap[k]?)
 (cells:w'.heap[c.p]?=some (.cells #[c.fn,.map (some c.mr),v'] 268)) (row:w'.ownsRow c.lo 3 1 v' S'.row.length (zc8 S'.row)) (map:zbs w' c.mr (Gate.zfn S')):qP c w' S' v':=by
 have hb:=h.base.size;have h1:=hc.bp;have h2:=hc.plo;have h3:=hc.bmr;refine ⟨⟨os.trans h.base.os,tape.trans h.base.tape,output.trans h.base.output,Nat.le_trans hb size,fun k hk=>?_⟩,?_,fun j=>?_,Nat.le_trans h.size size,cells,row,map⟩
 ·rw [out k (by omega) (by omega) (by omega)];exact h.base.block k hk
 ·rw [zg9 (out c.bm hc.bml hc.bmp hc.bmm)];exact h.cm
 ·rw [zg9 (out c.bs hc.bsl hc.bsp hc.bsm)];exact h.cs j
theorem qP.mark {c:WalkC} {w:World} {S:Gate.Far} {v:Value} (hc:c.Ok) (h:qP c w S v) (i:Nat) (x:Int) :
 ∃ w',(Instr.mapUpdate 266 (.map (some c.mr)) (.int .i64 i) (.int .i64 x)).run Tryz.prog w = .ok () w'/\(∀ S':Gate.Far,S'.row=S.row->(fun q:Int=>if q=(i:Int) then some x else Gate.zfn S q)=Gate.zfn S'->qP c w' S' v)/\Moves c v w v w':=by
 obtain ⟨w',hrun,hmap,hput⟩:=h.map.upd i x;have hlt:=h.map.lt;refine ⟨w',hrun,fun S' hr hf=>?_,Nat.le_of_eq hput.size.symm,fun k _ _ hm _=>hput.out k hm,Or.inl rfl⟩
 have hrow:w'.ownsRow c.lo 3 1 v S'.row.length (zc8 S'.row):=by
  rw [hr];exact zao h.row fun g hg=>hput.out g (by have:=(h.row.lt g hg).1;have:=hc.mlo;omega)
 exact h.next hc hput.os hput.tape hput.output (Nat.le_of_eq hput.size.symm) (fun k _ _ hm=>hput.out k hm) ((hput.out c.p hc.pm).trans h.cells) hrow (by rw [<- hf];exact hmap)
theorem WalkC.Ok.rd {c:WalkC} (hc:c.Ok):∀ p,p < c.s.fs.length->∀ q ∈ Gate.zl c.s c.ms p,q < c.s.fs.length:=by
 intro p hp q hq;unfold Gate.zl at hq;obtain ⟨x,hx,rfl⟩:=List.mem_map.1 hq
 have:=hc.reads p hp x hx
 omega
theorem qP.later {c:WalkC} {w w':World} {S:Gate.Far} {v:Value} (hc:c.Ok) (h:qP c w S v) (hb:Below w.heap.size w w'):qP c w' S v/\Moves c v w v w':=by
 have hs:=h.size;have hp:=hc.plo;have hm:=hc.mlo;exact ⟨h.next hc hb.os hb.tape hb.output hb.size (fun k hk _ _=>hb.block k (by omega)) ((hb.block c.p (by omega)).trans h.cells) (yO h.row hb) (h.map.mono (hb.block c.mr (by omega))),hb.size,fun k hk _ _ _=>hb.block k hk,Or.inl rfl⟩
theorem qP.zlp {c:WalkC} {w:World} {S:Gate.Far} {v:Value} (h:qP c w S v):∀ j,w.cell? ⟨c.p,j,none⟩=(#[.func (.func 187) #[] #[.pointer (some ⟨c.bm,0,none⟩),.pointer (some ⟨c.bs,0,none⟩)],.map (some c.mr),v]:Array Value)[j]?:=fun _=>cell_of_block h.cells
theorem zg0 {p:Prop} (h:Hid p):p:=h
set_option maxRecDepth 20000 in
theorem zpF (c:WalkC) (hc:c.Ok):∀ (f i:Nat) (S:Gate.Far) (v:Value) (w:World),i < c.s.fs.length->Gate.open' c.s.fs.length S < f->S.row.length+Gate.open' c.s.fs.length S<=6->qP c w S v ->
 Calls Tryz.prog 206 #[.pointer (some ⟨c.p,0,none⟩),.int .i64 i] w fun e w'=>∃ v',e = .returned (.bool (Gate.down (Gate.zl c.s c.ms) f i S).1)/\Below c.w0.heap.size c.w0 w'/\((Gate.down (Gate.zl c.s c.ms) f i S).1=true->qP c w' (Gate.down (Gate.zl c.s c.ms) f i S).2 v'/\Moves c v w v' w'):=by
 intro f
 induction f with
 | zero=>intro i S v w _ h _ _;omega
 | succ f ih =>
  intro i S v w hi hopen hsix hW;have HI:Hid (∀ (i:Nat) (S:Gate.Far) (v:Value) (w:World),i < c.s.fs.length->Gate.open' c.s.fs.length S < f->S.row.length+Gate.open' c.s.fs.length S<=6->qP c w S v->Calls Tryz.prog 206 #[.pointer (some ⟨c.p,0,none⟩),.int .i64 i] w fun e w'=>∃ v',e = .returned (.bool (Gate.down (Gate.zl c.s c.ms) f i S).1)/\Below c.w0.heap.size c.w0 w'/\((Gate.down (Gate.zl c.s c.ms) f i S).1=true->qP c w' (Gate.down (Gate.zl c.s c.ms) f i S).2 v'/\Moves c v w v' w')):=ih;clear ih;obtain ⟨i0,hi0,hz0,hz1',hz2⟩:=info_parts Tryz.zfS;have hpc:=hW.zlp;have hlook:=hW.map.look (i:Int);rw [Gate.zp0] at hlook;have HW:Hid (qP c w S v):=hW;have HO:Hid (Gate.open' c.s.fs.length S < f+1):=hopen;clear hW hopen
  rcases hfar:S.far i with _ | b
  ·rw [hfar] at hlook
   have hlook':(Instr.lookup 266 (.map (some c.mr)) (.int .i64 (i:Int)) true).run Tryz.prog w = .ok (.tuple #[.int .i64 0,.bool false]) w:=hlook;obtain ⟨w1,hrun,hmk,hmv⟩:=HW.out.mark hc i 1;have hW1:=hmk (S.under i) rfl (Gate.zn6 S i);have hpc1:=hW1.zlp;have HW1:Hid (qP c w1 (S.under i) v/\Moves c v w v w1):=⟨hW1,hmv⟩
   clear hlook hmk hmv hW1;go_enter Tryz.func206,Tryz.ntmps206;go_wp2_with fail
   refine (zl1 c.s c.ms i c.bm c.bs c.ma c.fa c.mcap c.fcap w1 (hc.mnds.mono HW1.out.1.base) (hc.zdk.mono HW1.out.1.base) hi hc.few (nLt hc.bsl HW1.out.1.size) HW1.out.1.cm HW1.out.1.cs).mono ?_;rintro e w2 ⟨rv,rfl,hrow,hb2⟩;obtain ⟨ra,rcap,rfl⟩:=yV hrow;have hW2:=HW1.out.1.later hc hb2;have HW2:Hid (qP c w2 (S.under i) v/\Moves c v w v w2):=⟨hW2.1,HW1.out.2.trans hW2.2⟩
   have HR2:Hid (w2.ownsRow w1.heap.size 3 1 (.slice ra (Gate.zY c.s c.ms i).length rcap) (Gate.zY c.s c.ms i).length (ints (Gate.zY c.s c.ms i))):=hrow;have HRL:Hid ((Gate.zY c.s c.ms i).length<=2097152):=by have h1:=Gate.zg8 c.s i c.ms;have:=hc.few;show _<=_;omega
   have HAP:Hid (∀ g,v.ownBlock=some g->(Value.slice ra (Gate.zY c.s c.ms i).length rcap).ownBlock ≠ some g):=by
    intro g hg he;have h1:=(HW1.out.1.row.lt g hg).2;have h2:=(hrow.lt g he).1;omega
   have HLO:Hid (c.lo<=w1.heap.size):=HW1.out.1.size;have HOU:Hid (Gate.open' c.s.fs.length (S.under i) < f):=by have h1:=Gate.zfq hi hfar;have h2:=HO.out;show _ < _;omega
   have HDN:Hid ((Gate.down (Gate.zl c.s c.ms) (f+1) i S)=if (Gate.zo (Gate.down (Gate.zl c.s c.ms) f) ((Gate.zl c.s c.ms) i) (S.under i)).1=true then (true,(Gate.zo (Gate.down (Gate.zl c.s c.ms) f) ((Gate.zl c.s c.ms) i) (S.under i)).2.behind i) else (false,(Gate.zo (Gate.down (Gate.zl c.s c.ms) f) ((Gate.zl c.s c.ms) i) (S.under i)).2)):=by
    unfold Hid;rw [Gate.down,hfar]
   clear hW2 hrow hb2 hpc hpc1 hlook' hrun;go_wp2_with fail
   go_loopw [33] (fun iv wr=>∃ (j:Nat) (v1:Value),j<=(Gate.zY c.s c.ms i).length/\iv = .int .i64 j/\(Gate.zo (Gate.down (Gate.zl c.s c.ms) f) (((Gate.zl c.s c.ms) i).take j) (S.under i)).1=true/\qP c wr (Gate.zo (Gate.down (Gate.zl c.s c.ms) f) (((Gate.zl c.s c.ms) i).take j) (S.under i)).2 v1/\Moves c v w v1 wr/\wr.ownsRow w1.heap.size 3 1 (.slice ra (Gate.zY c.s c.ms i).length rcap) (Gate.zY c.s c.ms i).length (ints (Gate.zY c.s c.ms i))/\(∀ g,v1.ownBlock=some g->(Value.slice ra (Gate.zY c.s c.ms i).length rcap).ownBlock ≠ some g)) (fun iv _=>(Gate.zY c.s c.ms i).length - (intOf iv).toNat)
   case atStart=>exact ⟨0,v,Nat.zero_le _,rfl,rfl,HW2.out.1,HW2.out.2,HR2.out,HAP.out⟩
   case round =>
    obtain ⟨j,v1,hj,rfl,hD,hWr,hMr,hRr,hAp⟩:=hrel;have HWr:Hid (qP c wr (Gate.zo (Gate.down (Gate.zl c.s c.ms) f) (((Gate.zl c.s c.ms) i).take j) (S.under i)).2 v1/\Moves c v w v1 wr/\wr.ownsRow w1.heap.size 3 1 (.slice ra (Gate.zY c.s c.ms i).length rcap) (Gate.zY c.s c.ms i).length (ints (Gate.zY c.s c.ms i))/\(∀ g,v1.ownBlock=some g->(Value.slice ra (Gate.zY c.s c.ms i).length rcap).ownBlock ≠ some g)):=⟨hWr,hMr,hRr,hAp⟩
    have HD:Hid ((Gate.zo (Gate.down (Gate.zl c.s c.ms) f) (((Gate.zl c.s c.ms) i).take j) (S.under i)).1=true):=hD;clear hWr hMr hRr hAp hD
    have HSX:Hid ((Gate.zo (Gate.down (Gate.zl c.s c.ms) f) (((Gate.zl c.s c.ms) i).take j) (S.under i)).2.row.length+Gate.open' c.s.fs.length (Gate.zo (Gate.down (Gate.zl c.s c.ms) f) (((Gate.zl c.s c.ms) i).take j) (S.under i)).2<=6):=by
     have h1:=Gate.zff hc.rd f _ (S.under i) (fun a ha=>hc.rd i hi a (List.mem_of_mem_take ha)) HD.out;have h2:=Gate.zfq hi hfar;have h3:(S.under i).row=S.row:=rfl;rw [h3] at h1
     show _<=_
     omega
    by_cases hjl:j < (Gate.zY c.s c.ms i).length
    ·obtain ⟨q,hq,hqn⟩:∃ q:Nat,(Gate.zY c.s c.ms i)[j]=(q:Int)/\q < c.s.fs.length:=by
      have h1:=hc.reads i hi _ (List.getElem_mem hjl);exact ⟨((Gate.zY c.s c.ms i)[j]).toNat,by omega,by omega⟩
     have HTK:Hid (((Gate.zl c.s c.ms) i).take (j+1)=((Gate.zl c.s c.ms) i).take j ++ [q]):=by
      have hjl':j < ((Gate.zl c.s c.ms) i).length:=by unfold Gate.zl;rw [List.length_map];exact hjl
      unfold Hid;rw [tSe hjl']
      have:((Gate.zl c.s c.ms) i)[j]=q:=by simp [Gate.zl,hq]
      rw [this]
     obtain ⟨g,rfl,hcell⟩:∃ g,ra=some ⟨g,0,none⟩/\wr.cell? ⟨g,j,none⟩=some (.int .i64 (q:Int)):=by
      obtain ⟨_,⟨h0,h1⟩ | ⟨g,cap,cur,h0,h1⟩⟩:=id HWr.out.2.2.1
      ·rw [h1] at hjl;exact absurd hjl (by omega)
      ·cases h0
       refine ⟨g,rfl,?_⟩;rw [HWr.out.2.2.1.cellAt j (by omega)]
       simp [ints,hjl,hq]
     have hjI:(j:Int) < ((Gate.zY c.s c.ms i).length:Int):=by omega
     have HOP:Hid (Gate.open' c.s.fs.length (Gate.zo (Gate.down (Gate.zl c.s c.ms) f) (((Gate.zl c.s c.ms) i).take j) (S.under i)).2 < f):=by
      have h1:=Gate.zku (n:=c.s.fs.length) (s:=S.under i) (t:=(Gate.zo (Gate.down (Gate.zl c.s c.ms) f) (((Gate.zl c.s c.ms) i).take j) (S.under i)).2) (fun q' hq'=>Gate.zlH _ _ q' _ _ hq');have h2:=HOU.out
      show _ < _
      omega
     go_wp2_with fail
     refine (HI.out q _ v1 wr hqn HOP.out HSX.out HWr.out.1).mono ?_;rintro e w3 ⟨v3,rfl,hb3,hyes⟩
     by_cases hd:(Gate.down (Gate.zl c.s c.ms) f q (Gate.zo (Gate.down (Gate.zl c.s c.ms) f) (((Gate.zl c.s c.ms) i).take j) (S.under i)).2).1=true
     ·have HS:Hid ((Gate.zo (Gate.down (Gate.zl c.s c.ms) f) (((Gate.zl c.s c.ms) i).take (j+1)) (S.under i))=Gate.down (Gate.zl c.s c.ms) f q (Gate.zo (Gate.down (Gate.zl c.s c.ms) f) (((Gate.zl c.s c.ms) i).take j) (S.under i)).2):=by unfold Hid;rw [HTK.out,Gate.za9,if_pos HD.out]
      have hy:=hyes hd;have HY:Hid (qP c w3 (Gate.down (Gate.zl c.s c.ms) f q (Gate.zo (Gate.down (Gate.zl c.s c.ms) f) (((Gate.zl c.s c.ms) i).take j) (S.under i)).2).2 v3/\Moves c v1 wr v3 w3):=hy;have HDD:Hid ((Gate.down (Gate.zl c.s c.ms) f q (Gate.zo (Gate.down (Gate.zl c.s c.ms) f) (((Gate.zl c.s c.ms) i).take j) (S.under i)).2).1=true):=hd;rw [hd];clear hyes hy hb3 hd hcell;go_wp2_with fail
      have hg1:=HWr.out.2.2.1.lt g rfl;have hap:v1.ownBlock ≠ some g:=fun h=>HWr.out.2.2.2 g h rfl
      refine ⟨⟨j+1,v3,by omega,by rw [wrap_one (by have:=HRL.out;omega)],by rw [HS.out];exact HDD.out,by rw [HS.out];exact HY.out.1,HWr.out.2.1.trans HY.out.2,?_,?_⟩,jr hjl (by have:=HRL.out;omega)⟩
      ·refine zao HWr.out.2.2.1 (fun g' hg'=>?_)
       cases hg'
       exact HY.out.2.out g hg1.2 (by have:=hc.plo;have:=HLO.out;omega) (by have:=hc.mlo;have:=HLO.out;omega) hap
      ·intro g' hg' he
       have e0:g=g':=Option.some.inj he;subst e0
       rcases HY.out.2.own with e | ⟨g2,e,h2⟩
       ·rw [e] at hg';exact hap hg'
       ·have e2:g2=g:=Option.some.inj (e.symm.trans hg')
        have h3:=hg1.2;omega
     ·have hdf:(Gate.down (Gate.zl c.s c.ms) f q (Gate.zo (Gate.down (Gate.zl c.s c.ms) f) (((Gate.zl c.s c.ms) i).take j) (S.under i)).2).1=false:=by simpa using hd
      have HF:Hid ((Gate.down (Gate.zl c.s c.ms) (f+1) i S).1=false):=by
       have h1:(Gate.zo (Gate.down (Gate.zl c.s c.ms) f) (((Gate.zl c.s c.ms) i).take (j+1)) (S.under i)).1=false:=by rw [HTK.out,Gate.za9,if_pos HD.out];exact hdf
       have h2:=Gate.zcM (Gate.down (Gate.zl c.s c.ms) f) (((Gate.zl c.s c.ms) i).take (j+1)) (((Gate.zl c.s c.ms) i).drop (j+1)) (S.under i) h1;rw [List.take_append_drop] at h2;unfold Hid;rw [HDN.out,if_neg (by rw [h2];simp)]
      rw [hdf];have HB3:Hid (Below c.w0.heap.size c.w0 w3):=hb3;clear hyes hb3 hcell hd hdf;go_wp2_with fail
      go_ret;exact ⟨v3,by rw [HF.out];rfl,HB3.out,fun h=>by rw [HF.out] at h;cases h⟩
    ·have e:j=(Gate.zY c.s c.ms i).length:=by omega
     have hall:((Gate.zl c.s c.ms) i).take j=(Gate.zl c.s c.ms) i:=tOl (by unfold Gate.zl;rw [List.length_map];omega);rw [hall] at HWr HD HSX;have HRES:Hid ((Gate.down (Gate.zl c.s c.ms) (f+1) i S)=(true,(Gate.zo (Gate.down (Gate.zl c.s c.ms) f) ((Gate.zl c.s c.ms) i) (S.under i)).2.behind i)):=by unfold Hid;rw [HDN.out,if_pos HD.out]
     clear HDN HD hall
     revert HWr HRES HSX
     generalize (Gate.zo (Gate.down (Gate.zl c.s c.ms) f) ((Gate.zl c.s c.ms) i) (S.under i)).2=D
     intro HWr HSX HRES;obtain ⟨w3,hrun3,hmk3,hmv3⟩:=HWr.out.1.mark hc i 2;have hW3:=hmk3 ⟨(D.behind i).far,D.row⟩ rfl (by rw [Gate.zmF];rfl);have HW3:Hid (qP c w3 ⟨(D.behind i).far,D.row⟩ v1/\Moves c v w v1 w3):=⟨hW3,HWr.out.2.1.trans hmv3⟩
     have hpcr:=HWr.out.1.zlp;have hpc3:=hW3.zlp;have hpf3:∀ k,w3.frozen? ⟨c.p,k,none⟩=false:=zgx hW3.cells;have HDL:Hid (D.row.length<=6):=by have:=HSX.out;show _<=_;omega
     have hp3:c.p < w3.heap.size:=nLt hc.plo hW3.size;clear hmk3 hmv3 hW3 HWr;subst e;have HGE:Hid (∀ g,v1.ownBlock=some g->c.lo<=g/\g < w3.heap.size):=HW3.out.1.row.lt
     go_wp2_with (at_builtin;refine zg0 ?_)
     show wpList _ _ _ _ _ _
     refine wpList_append_own_at _ rfl (.tmp 51) (.tmp 53) 35 rfl c.lo 3 i0 (.int .i64 0) 1 8 Tryz.underlying35 hi0 hz0 hz1' hz2 rfl (by decide) v1 _ _ rfl (HW3.out.1.row.alloc _) ⟨w3.heap.size,0,none⟩ 1 1 [.int .i64 (i:Int)] rfl rfl (zca _ _ _) (by intro u hu;simp at hu;subst hu;rfl) (by have:=HDL.out;show D.row.length+1<=2 ^ 63 - 1;omega) (by have:=HDL.out;show (D.row.length+1) * 8<=140737488355328;omega) (by have:=HW3.out.1.size;simp;omega) ?_;intro vN w4 hownN hgr _ hat;obtain ⟨va,vcap,rfl⟩:=yV hownN;have hown':w4.ownsRow c.lo 3 1 (.slice va (D.row.length+1) vcap) (D.row.length+1) (zc8 D.row ++ [.int .i64 (i:Int)]):=hownN;clear hownN;have hp4:w4.heap[c.p]?=some (.cells #[c.fn,.map (some c.mr),v1] 268):=(zaI hgr (by simp;omega) (fun g hg=>by have:=(HGE.out g hg).1;have:=hc.plo;omega)).trans ((Below.heap_alloc _ _ _ hp3).trans HW3.out.1.cells);have hpc4:=zbv hp4;have hpf4:=zgx hp4;have HP4:Hid (w4.heap[c.p]?=some (.cells #[c.fn,.map (some c.mr),v1] 268)):=hp4;have HG4:Hid ((w3.alloc (.cells #[.int .i64 (i:Int)] 3)).grownBy w4 v1.ownBlock/\((Value.slice va (D.row.length+1) vcap).ownBlock=v1.ownBlock \/ (Value.slice va (D.row.length+1) vcap).ownBlock=some (w3.heap.size+1))):=(by refine ⟨hgr,?_⟩;simpa using hat)
     have HO4:Hid (w4.ownsRow c.lo 3 1 (.slice va (D.row.length+1) vcap) (D.row.length+1) (zc8 D.row ++ [.int .i64 (i:Int)])):=hown';clear hp4 hgr hat hown';go_wp2_with fail
     have hgb:∀ k,k < w3.heap.size->(∀ g,v1.ownBlock=some g->k ≠ g)->w4.heap[k]?=w3.heap[k]?:=fun k hk hne=>(zaI HG4.out.1 (by simp;omega) hne).trans (Below.heap_alloc _ _ _ hk)
     have hsz4:w3.heap.size < w4.heap.size:=by have:=HG4.out.1.size;simp at this;omega
     have hv4:∀ g,(Value.slice va (D.row.length+1) vcap).ownBlock=some g->c.lo<=g:=fun g hg=>(HO4.out.lt g hg).1
     have hW5:qP c (w4.setCell ⟨c.p,2,none⟩ (.slice va (D.row.length+1) vcap)) (D.behind i) (.slice va (D.row.length+1) vcap):=by
      refine HW3.out.1.next hc HG4.out.1.os HG4.out.1.tape HG4.out.1.output (by simp [World.setCell];omega) (fun k hk hp hm=>?_) ?_ ?_ ?_
      ·rw [Below.heap_setCell _ _ _ _ hp]
       exact hgb k (by have:=HW3.out.1.size;omega) (fun g hg=>by have:=(HGE.out g hg).1;omega)
      ·exact zk HP4.out _
      ·have e1:(D.behind i).row.length=D.row.length+1:=by simp [Gate.Far.behind]
       have e2:zc8 (D.behind i).row=zc8 D.row ++ [.int .i64 (i:Int)]:=by simp [Gate.Far.behind,zc8]
       rw [e1,e2];exact zao HO4.out (fun g hg=>Below.heap_setCell _ _ _ _ (by show g ≠ c.p;have:=hv4 g hg;have:=hc.plo;omega))
      ·have hm3:c.mr < w3.heap.size:=HW3.out.1.map.lt
       exact HW3.out.1.map.mono ((Below.heap_setCell _ _ _ _ (Ne.symm hc.pm)).trans (hgb c.mr hm3 (fun g hg=>by have:=(HGE.out g hg).1;have:=hc.mlo;omega)))
     have hM5:Moves c v1 w3 (.slice va (D.row.length+1) vcap) (w4.setCell ⟨c.p,2,none⟩ (.slice va (D.row.length+1) vcap)):=by
      refine ⟨by simp [World.setCell];omega,fun k hk hp _ hv=>?_,?_⟩
      ·rw [Below.heap_setCell _ _ _ _ hp]
       exact hgb k hk (fun g hg e=>hv (by rw [e];exact hg))
      ·rcases HG4.out.2 with e | e
       ·exact Or.inl e
       ·exact Or.inr ⟨_,e,by omega⟩
     go_ret;exact ⟨by rw [HRES.out];rfl,hW5.base,_,fun _=>by rw [HRES.out];exact ⟨hW5,HW3.out.2.trans hM5⟩⟩
  ·have hr:Gate.down (Gate.zl c.s c.ms) (f+1) i S=(b,S):=by rw [Gate.down,hfar]
   have HR:Hid (Gate.down (Gate.zl c.s c.ms) (f+1) i S=(b,S)):=hr;rw [hfar] at hlook;clear hr
   cases b with
   | true =>
    have hlook':(Instr.lookup 266 (.map (some c.mr)) (.int .i64 (i:Int)) true).run Tryz.prog w = .ok (.tuple #[.int .i64 2,.bool true]) w:=hlook;clear hlook;go_enter Tryz.func206,Tryz.ntmps206;go_wp2_with fail
    go_ret;exact ⟨v,by rw [HR.out];rfl,HW.out.base,fun _=>by rw [HR.out];exact ⟨HW.out,Moves.refl _ _ _⟩⟩
   | false =>
    have hlook':(Instr.lookup 266 (.map (some c.mr)) (.int .i64 (i:Int)) true).run Tryz.prog w = .ok (.tuple #[.int .i64 1,.bool true]) w:=hlook;clear hlook;go_enter Tryz.func206,Tryz.ntmps206;go_wp2_with fail
    go_ret;exact ⟨v,by rw [HR.out];rfl,HW.out.base,fun h=>by rw [HR.out] at h;cases h⟩
def zjz (w:World) (a:Option Addr) (n:Nat):Prop:=0 < n->∃ g,a=some ⟨g,0,none⟩/\g < w.heap.size/\∀ q,q < n->w.cell? ⟨g,q,none⟩=some (.int .i64 (q:Int))
set_option maxRecDepth 20000 in
theorem zoO (s:Shp) (ms:List Mnd) (w0:World) (ma fa ia:Option Addr) (mcap fcap icap bm bs:Nat) (w:World) (hm:yY w0 ma ms) (hf:zP w0 fa s.fs) (hl:ms.length<=1048576) (hn:s.fs.length<=6)
 (hrd:∀ q,q < s.fs.length->∀ x ∈ Gate.zY s ms q,0<=x/\x < s.fs.length) (hB:Below w0.heap.size w0 w) (hbm:bm < w.heap.size) (hbs:bs < w.heap.size) (hcm:w.cell? ⟨bm,0,none⟩=some (.slice ma ms.length mcap)) (hcs:∀ j,w.cell? ⟨bs,j,none⟩=(#[.string s.kd,.slice fa s.fs.length fcap]:Array Value)[j]?)
 (hit:zjz w ia s.fs.length) :
 Calls Tryz.prog 186 #[.slice ia s.fs.length icap,.func (.func 187) #[] #[.pointer (some ⟨bm,0,none⟩),.pointer (some ⟨bs,0,none⟩)]] w
  fun e w'=>∃ v,e = .returned (.tuple #[v,.bool (Gate.zI (Gate.zl s ms) s.fs.length).1])/\Below w0.heap.size w0 w'/\((Gate.zI (Gate.zl s ms) s.fs.length).1=true->w'.ownsRow w.heap.size 3 1 v (Gate.zI (Gate.zl s ms) s.fs.length).2.row.length (zc8 (Gate.zI (Gate.zl s ms) s.fs.length).2.row)):=by
 have hmk:∀ w:World,(Instr.makeMap 266 none).run Tryz.prog w = .ok (.map (some w.heap.size)) (w.alloc (.map #[] 0)):=fun w=>by kernel_rfl
 go_enter Tryz.func186,Tryz.ntmps186;go_wp2_with fail
 have hb2:Below w.heap.size w ((w.alloc (.map #[] 0)).alloc (.cells #[(.func (.func 187) #[] #[.pointer (some ⟨bm,0,none⟩),.pointer (some ⟨bs,0,none⟩)]),.map (some w.heap.size),.slice none 0 0] 268)):=zA _ _ _;have hs0:=hB.size;obtain ⟨c,hceq⟩:∃ c,c=(⟨s,ms,w0,ma,fa,mcap,fcap,bm,bs,w.heap.size+1,w.heap.size,w.heap.size+2⟩:WalkC):=⟨_,rfl⟩
 have hc:c.Ok:=by
  subst hceq;exact ⟨hm,hf,hl,hn,hrd,by show w0.heap.size<=w.heap.size+1;omega,hs0,by show w.heap.size+1 < w.heap.size+2;omega,by show w.heap.size < w.heap.size+2;omega,by show bm < w.heap.size+2;omega,by show bs < w.heap.size+2;omega,by show w.heap.size+1 ≠ w.heap.size;omega,by show bm ≠ w.heap.size+1;omega,by show bm ≠ w.heap.size;omega,by show bs ≠ w.heap.size+1;omega,by show bs ≠ w.heap.size;omega⟩
 have hW:qP c ((w.alloc (.map #[] 0)).alloc (.cells #[(.func (.func 187) #[] #[.pointer (some ⟨bm,0,none⟩),.pointer (some ⟨bs,0,none⟩)]),.map (some w.heap.size),.slice none 0 0] 268)) Gate.je (.slice none 0 0):=by
  subst hceq;refine ⟨hB.trans (hb2.mono hs0),(hb2.cell (p:=⟨bm,0,none⟩) hbm).trans hcm,za hcs hbs hb2,by show w.heap.size+2<=_;simp,(yh _ _ _).2,World.ownsRow_nil _ _ _ _,⟨#[],0,(yh _ _ _).1,fun x hx=>by simp at hx,fun k v hk=>?_,fun i j x y hx=>by simp at hx⟩⟩;unfold Gate.zfn Gate.je at hk
  simp at hk
 have HC:Hid (c.Ok/\c.s=s/\c.ms=ms/\c.w0=w0/\c.p=w.heap.size+1/\c.mr=w.heap.size/\c.lo=w.heap.size+2):=⟨hc,by rw [hceq],by rw [hceq],by rw [hceq],by rw [hceq],by rw [hceq],by rw [hceq]⟩
 have HW:Hid (qP c ((w.alloc (.map #[] 0)).alloc (.cells #[(.func (.func 187) #[] #[.pointer (some ⟨bm,0,none⟩),.pointer (some ⟨bs,0,none⟩)]),.map (some w.heap.size),.slice none 0 0] 268)) Gate.je (.slice none 0 0)):=hW;have HRD:Hid (∀ p,p < s.fs.length->∀ q ∈ Gate.zl s ms p,q < s.fs.length):=by have h:=hc.rd;rw [hceq] at h;exact h
 have HIT:Hid (zjz w ia s.fs.length):=hit;have HN:Hid (s.fs.length<=6):=hn
 have HOP:Hid (∀ T,Gate.open' s.fs.length T<=s.fs.length):=by
  intro T;unfold Gate.open';exact Nat.le_trans (List.length_filter_le _ _) (by simp)
 have HW2:Hid (∃ W,W=((w.alloc (.map #[] 0)).alloc (.cells #[(.func (.func 187) #[] #[.pointer (some ⟨bm,0,none⟩),.pointer (some ⟨bs,0,none⟩)]),.map (some w.heap.size),.slice none 0 0] 268))):=⟨_,rfl⟩
 clear hW hc hceq hmk hB hcm hcs hrd hit hs0
 go_loopw [14] (fun iv wr=>∃ (j:Nat) (v:Value),j<=s.fs.length/\iv = .int .i64 j/\(Gate.zo (Gate.down (Gate.zl s ms) (s.fs.length+1)) ((List.range s.fs.length).take j) Gate.je).1=true/\qP c wr (Gate.zo (Gate.down (Gate.zl s ms) (s.fs.length+1)) ((List.range s.fs.length).take j) Gate.je).2 v/\Moves c (.slice none 0 0) ((w.alloc (.map #[] 0)).alloc (.cells #[(.func (.func 187) #[] #[.pointer (some ⟨bm,0,none⟩),.pointer (some ⟨bs,0,none⟩)]),.map (some w.heap.size),.slice none 0 0] 268)) v wr) (fun iv _=>s.fs.length - (intOf iv).toNat)
 case atStart=>exact ⟨0,_,Nat.zero_le _,rfl,rfl,HW.out,Moves.refl _ _ _⟩
 case round =>
  obtain ⟨j,v,hj,rfl,hD,hWr,hMr⟩:=hrel;have HWr:Hid (qP c wr (Gate.zo (Gate.down (Gate.zl s ms) (s.fs.length+1)) ((List.range s.fs.length).take j) Gate.je).2 v/\Moves c (.slice none 0 0) ((w.alloc (.map #[] 0)).alloc (.cells #[(.func (.func 187) #[] #[.pointer (some ⟨bm,0,none⟩),.pointer (some ⟨bs,0,none⟩)]),.map (some w.heap.size),.slice none 0 0] 268)) v wr):=⟨hWr,hMr⟩
  have HD:Hid ((Gate.zo (Gate.down (Gate.zl s ms) (s.fs.length+1)) ((List.range s.fs.length).take j) Gate.je).1=true):=hD;clear hWr hMr hD
  by_cases hjl:j < s.fs.length
  ·have HTK:Hid ((List.range s.fs.length).take (j+1)=(List.range s.fs.length).take j ++ [j]):=by
    unfold Hid;rw [tSe (by simpa using hjl)]
    simp
   obtain ⟨g,rfl,hgl,hgc⟩:=HIT.out (by omega)
   have hcell:wr.cell? ⟨g,j,none⟩=some (.int .i64 (j:Int)):=by
    rw [zg9 (HWr.out.2.out g (by have:=hb2.size;omega) (by rw [HC.out.2.2.2.2.1];omega) (by rw [HC.out.2.2.2.2.2.1];omega) (by simp [Value.ownBlock]))];exact (hb2.cell (p:=⟨g,j,none⟩) hgl).trans (hgc j hjl)
   have hjI:(j:Int) < (s.fs.length:Int):=by omega
   have HSX:Hid ((Gate.zo (Gate.down (Gate.zl s ms) (s.fs.length+1)) ((List.range s.fs.length).take j) Gate.je).2.row.length+Gate.open' s.fs.length (Gate.zo (Gate.down (Gate.zl s ms) (s.fs.length+1)) ((List.range s.fs.length).take j) Gate.je).2<=6):=by
    have h1:=Gate.zff HRD.out (s.fs.length+1) _ Gate.je (fun a ha=>List.mem_range.1 (List.mem_of_mem_take ha)) HD.out;have h2:=HOP.out Gate.je;have h3:Gate.je.row.length=0:=rfl;have h4:=HN.out
    show _<=_
    omega
   have HDA:Hid (Calls Tryz.prog 206 #[.pointer (some ⟨w.heap.size+1,0,none⟩),.int .i64 (j:Int)] wr fun e w'=>∃ v',e = .returned (.bool (Gate.down (Gate.zl s ms) (s.fs.length+1) j (Gate.zo (Gate.down (Gate.zl s ms) (s.fs.length+1)) ((List.range s.fs.length).take j) Gate.je).2).1)/\Below w0.heap.size w0 w'/\((Gate.down (Gate.zl s ms) (s.fs.length+1) j (Gate.zo (Gate.down (Gate.zl s ms) (s.fs.length+1)) ((List.range s.fs.length).take j) Gate.je).2).1=true->qP c w' (Gate.down (Gate.zl s ms) (s.fs.length+1) j (Gate.zo (Gate.down (Gate.zl s ms) (s.fs.length+1)) ((List.range s.fs.length).take j) Gate.je).2).2 v'/\Moves c v wr v' w')):=by
    have h:=zpF c HC.out.1 (s.fs.length+1) j (Gate.zo (Gate.down (Gate.zl s ms) (s.fs.length+1)) ((List.range s.fs.length).take j) Gate.je).2 v wr (by rw [HC.out.2.1];exact hjl) (by rw [HC.out.2.1];have:=HOP.out (Gate.zo (Gate.down (Gate.zl s ms) (s.fs.length+1)) ((List.range s.fs.length).take j) Gate.je).2;omega) (by rw [HC.out.2.1];exact HSX.out) HWr.out.1;rw [HC.out.2.1,HC.out.2.2.1,HC.out.2.2.2.1,HC.out.2.2.2.2.1] at h;exact h
   go_wp2_with fail
   refine HDA.out.mono ?_;rintro e w3 ⟨v3,rfl,hb3,hyes⟩
   by_cases hd:(Gate.down (Gate.zl s ms) (s.fs.length+1) j (Gate.zo (Gate.down (Gate.zl s ms) (s.fs.length+1)) ((List.range s.fs.length).take j) Gate.je).2).1=true
   ·have HS:Hid ((Gate.zo (Gate.down (Gate.zl s ms) (s.fs.length+1)) ((List.range s.fs.length).take (j+1)) Gate.je)=Gate.down (Gate.zl s ms) (s.fs.length+1) j (Gate.zo (Gate.down (Gate.zl s ms) (s.fs.length+1)) ((List.range s.fs.length).take j) Gate.je).2):=by unfold Hid;rw [HTK.out,Gate.za9,if_pos HD.out]
    have HY:Hid (qP c w3 (Gate.down (Gate.zl s ms) (s.fs.length+1) j (Gate.zo (Gate.down (Gate.zl s ms) (s.fs.length+1)) ((List.range s.fs.length).take j) Gate.je).2).2 v3/\Moves c v wr v3 w3):=hyes hd;have HDD:Hid ((Gate.down (Gate.zl s ms) (s.fs.length+1) j (Gate.zo (Gate.down (Gate.zl s ms) (s.fs.length+1)) ((List.range s.fs.length).take j) Gate.je).2).1=true):=hd;rw [hd];clear hyes hb3 hd hcell hgc HDA;go_wp2_with fail
    exact ⟨⟨j+1,v3,by omega,by go_num,by rw [HS.out];exact HDD.out,by rw [HS.out];exact HY.out.1,HWr.out.2.trans HY.out.2⟩,zn hjl⟩
   ·have hdf:(Gate.down (Gate.zl s ms) (s.fs.length+1) j (Gate.zo (Gate.down (Gate.zl s ms) (s.fs.length+1)) ((List.range s.fs.length).take j) Gate.je).2).1=false:=by simpa using hd
    have HF:Hid ((Gate.zI (Gate.zl s ms) s.fs.length).1=false):=by
     have h1:(Gate.zo (Gate.down (Gate.zl s ms) (s.fs.length+1)) ((List.range s.fs.length).take (j+1)) Gate.je).1=false:=by rw [HTK.out,Gate.za9,if_pos HD.out];exact hdf
     have h2:=Gate.zcM (Gate.down (Gate.zl s ms) (s.fs.length+1)) ((List.range s.fs.length).take (j+1)) ((List.range s.fs.length).drop (j+1)) Gate.je h1;rw [List.take_append_drop] at h2;exact h2
    have HB3:Hid (Below w0.heap.size w0 w3):=hb3;rw [hdf];clear hyes hb3 hd hdf hcell hgc HDA;go_wp2_with fail
    go_ret2
    exact ⟨_,by rw [HF.out];rfl,HB3.out,fun h=>by rw [HF.out] at h;cases h⟩
  ·have e:j=s.fs.length:=by omega
   have hall:(List.range s.fs.length).take j=List.range s.fs.length:=tOl (by simp;omega);rw [hall] at HWr HD;have HY:Hid ((Gate.zI (Gate.zl s ms) s.fs.length).1=true):=HD.out;have HWW:Hid (qP c wr (Gate.zI (Gate.zl s ms) s.fs.length).2 v):=HWr.out.1;have hpc:∀ k,wr.cell? ⟨w.heap.size+1,k,none⟩=(#[c.fn,.map (some c.mr),v]:Array Value)[k]?:=by have h:=zbv HWW.out.cells;rw [HC.out.2.2.2.2.1] at h;exact h
   obtain ⟨va,vcap,hve⟩:=yV HWW.out.row;subst hve;subst e;clear HWr HD hall;go_wp2_with fail
   go_ret2
   refine ⟨_,by rw [HY.out];rfl,by have h:=HWW.out.base;rw [HC.out.2.2.2.1] at h;exact h,fun _=>?_⟩;have h:=HWW.out.row;rw [HC.out.2.2.2.2.2.2] at h;exact j3 h (by omega)
end Go.Proofs.YtghnakljnhnenaaGreat
