import Derived.Test.YtghnakljnhnenaaGreatM43
namespace Go.Proofs.YtghnakljnhnenaaGreat
namespace Gate
structure Keeps (l:Lw) (os:List Ob) (A:Nat->Prop) (S S':Nat->Bool):Prop where
 le:∀ j,S j=true->S' j=true
 tie:∀ j k (hj:j < os.length) (hk:k < os.length),S' j=true->S j=false->tied l os[j] os[k]=true->S' k=true
 least:∀ R:Nat->Prop,zkz l os R->(∀ j,A j->R j)->∀ j,S' j=true->S j=true \/ R j
theorem Keeps.refl (l:Lw) (os:List Ob) (A:Nat->Prop) (S:Nat->Bool):Keeps l os A S S :=
 ⟨fun _ h=>h,fun _ _ _ _ h h' _=>absurd (h.symm.trans h') (by decide),fun _ _ _ _ h=>Or.inl h⟩
theorem Keeps.wider {l:Lw} {os:List Ob} {A B:Nat->Prop} {S S':Nat->Bool} (h:Keeps l os A S S') (hAB:∀ j,A j->B j):Keeps l os B S S' :=
 ⟨h.le,h.tie,fun R hR hB=>h.least R hR (fun j hj=>hB j (hAB j hj))⟩
theorem Keeps.trans {l:Lw} {os:List Ob} {A:Nat->Prop} {S S' S'':Nat->Bool} (h:Keeps l os A S S') (k:Keeps l os A S' S''):Keeps l os A S S'':=by
 refine ⟨fun j hj=>k.le j (h.le j hj),fun j m hj hm hS'' hS ht=>?_,fun R hR hA j hj=>?_⟩
 ·cases hS':S' j with
  | true=>exact k.le m (h.tie j m hj hm hS' hS ht)
  | false=>exact k.tie j m hj hm hS'' hS' ht
 ·rcases k.least R hR hA j hj with h1 | h1
  ·exact h.least R hR hA j h1
  ·exact Or.inr h1
def jY (S:Nat->Bool) (i:Nat):Nat->Bool:=fun j=>S j || decide (j=i)
def zfy (l:Lw) (os:List Ob) (i:Nat) (j:Nat):Prop:=∃ (hi:i < os.length) (hj:j < os.length),tied l os[i] os[j]=true
theorem Keeps.close {l:Lw} {os:List Ob} {S S':Nat->Bool} {i:Nat} (h:Keeps l os (zfy l os i) (jY S i) S') (hall:∀ j,zfy l os i j->S' j=true):Keeps l os (·=i) S S':=by
 refine ⟨fun j hj=>h.le j (by simp [jY,hj]),fun j k hj hk hS' hS ht=>?_,fun R hR hA j hj=>?_⟩
 ·by_cases e:j=i
  ·subst e
   exact hall k ⟨hj,hk,ht⟩
  ·exact h.tie j k hj hk hS' (by simp [jY,hS,e]) ht
 ·have hi:R i:=hA i rfl
  rcases h.least R hR (fun m hm=>hR i m hm.1 hm.2.1 hi hm.2.2) j hj with h1 | h1
  ·simp only [jY,Bool.or_eq_true,decide_eq_true_eq] at h1
   rcases h1 with h1 | rfl
   ·exact Or.inl h1
   ·exact Or.inr hi
  ·exact Or.inr h1
theorem Keeps.has {l:Lw} {os:List Ob} {A:Nat->Prop} {S S':Nat->Bool} {i:Nat} (h:Keeps l os A (jY S i) S'):S' i=true:=h.le i (by simp [jY])
def lacks (S:Nat->Bool) (n:Nat):Nat:=(List.range n).countP fun j=>!S j
theorem zmx {S S':Nat->Bool} (h:∀ j,S j=true->S' j=true) (n:Nat):lacks S' n<=lacks S n:=by
 unfold lacks;refine List.countP_mono_left (fun j _ hj=>?_)
 cases hS:S j with
 | false=>rfl
 | true=>rw [h j hS] at hj;cases hj
theorem znM {S:Nat->Bool} {i n:Nat} (hi:i < n) (hS:S i=false):lacks (jY S i) n < lacks S n:=by
 induction n with
 | zero=>omega
 | succ n ih =>
  unfold lacks at ih ⊢;rw [List.range_succ,List.countP_append,List.countP_append]
  by_cases e:i=n
  ·subst e
   have h1:(List.range i).countP (fun j=>!jY S i j)<=(List.range i).countP (fun j=>!S j):=zmx (S:=S) (S':=jY S i) (fun j hj=>by simp [jY,hj]) i;have h2:[i].countP (fun j=>!jY S i j)=0:=by simp [jY]
   have h3:[i].countP (fun j=>!S j)=1:=by simp [hS]
   omega
  ·have h1:=ih (by omega)
   have h2:[n].countP (fun j=>!jY S i j)=[n].countP (fun j=>!S j):=by
    have:jY S i n=S n:=by unfold jY;rw [decide_eq_false (fun h=>e h.symm)];simp
    simp [this]
   omega
structure za3 (l:Lw) (os:List Ob) (s:List Bool) (k:Nat) (S:Nat->Bool):Prop where
 root:∀ j,j < k->zfw os s j->S j=true
 tie:∀ i j (hi:i < os.length) (hj:j < os.length),S i=true->tied l os[i] os[j]=true->S j=true
 least:∀ j,S j=true->zlc l os s j
theorem za3.start (l:Lw) (os:List Ob) (s:List Bool):za3 l os s 0 (fun _=>false) :=
 ⟨fun _ h=>by omega,fun _ _ _ _ h _=>absurd h Bool.false_ne_true,fun _ h=>absurd h Bool.false_ne_true⟩
theorem za3.skip {l:Lw} {os:List Ob} {s:List Bool} {k:Nat} {S:Nat->Bool} (h:za3 l os s k S) (hn:¬ zfw os s k):za3 l os s (k+1) S:=by
 refine ⟨fun j hj hr=>?_,h.tie,h.least⟩
 by_cases e:j=k
 ·subst e;exact absurd hr hn
 ·exact h.root j (by omega) hr
theorem za3.next {l:Lw} {os:List Ob} {s:List Bool} {k:Nat} {S S':Nat->Bool} (h:za3 l os s k S) (hr:zfw os s k) (hg:Keeps l os (·=k) S S') (hk:S' k=true):za3 l os s (k+1) S':=by
 refine ⟨fun j hj hj'=>?_,fun i j hi hj hS ht=>?_,fun j hj K hK hc=>?_⟩
 ·by_cases e:j=k
  ·subst e;exact hk
  ·exact hg.le j (h.root j (by omega) hj')
 ·cases hS0:S i with
  | true=>exact hg.le j (h.tie i j hi hj hS0 ht)
  | false=>exact hg.tie i j hi hj hS hS0 ht
 ·rcases hg.least K hc (fun m hm=>by subst hm;exact hK m hr) j hj with h1 | h1
  ·exact h.least j h1 K hK hc
  ·exact h1
theorem za3.all {l:Lw} {os:List Ob} {s:List Bool} {S:Nat->Bool} (h:za3 l os s os.length S) (i:Nat):S i=true ↔ zlc l os s i:=by
 refine ⟨h.least i,fun hk=>?_⟩;exact hk (fun j=>S j=true) (fun j hj=>h.root j hj.1 hj) (fun a c ha hc hS ht=>h.tie a c ha hc hS ht)
theorem za3.part {l:Lw} {os:List Ob} {s:List Bool} {S:Nat->Bool} (h:za3 l os s os.length S) (hs:s.length=os.length) (i:Nat) (hi:i < os.length):(greatest l os s).getD i false=!S i:=by
 have h1:=(zk7 l os s hs i hi).trans (h.all i).symm
 generalize (greatest l os s).getD i false=g at h1 ⊢
 generalize S i=x at h1 ⊢
 revert h1
 cases g <;> cases x <;> decide
end Gate
end Go.Proofs.YtghnakljnhnenaaGreat
namespace Go.Proofs.YtghnakljnhnenaaGreat
open Go.RowKit Go.Shelf
structure But (r B:Nat) (w w':World):Prop where
 os:w'.os=w.os
 tape:w'.tape=w.tape
 output:w'.output=w.output
 size:w.heap.size<=w'.heap.size
 block:∀ k,k < B->k ≠ r->w'.heap[k]?=w.heap[k]?
theorem But.of_below {r B:Nat} {w w':World} (h:Below B w w'):But r B w w':=⟨h.os,h.tape,h.output,h.size,fun k hk _=>h.block k hk⟩
theorem But.refl (r B:Nat) (w:World):But r B w w:=But.of_below (bRf B w)
theorem But.trans {r B:Nat} {a b c:World} (h:But r B a b) (k:But r B b c):But r B a c :=
 ⟨k.os.trans h.os,k.tape.trans h.tape,k.output.trans h.output,Nat.le_trans h.size k.size,fun i hi hr=>(k.block i hi hr).trans (h.block i hi hr)⟩
theorem But.mono {r B B':Nat} {w w':World} (h:But r B w w') (hB:B'<=B):But r B' w w':=⟨h.os,h.tape,h.output,h.size,fun k hk hr=>h.block k (nLt hk hB) hr⟩
theorem But.below {r B:Nat} {w w':World} (h:But r B w w') (hr:r < B):Below r w w':=⟨h.os,h.tape,h.output,h.size,fun k hk=>h.block k (Nat.lt_trans hk hr) (Nat.ne_of_lt hk)⟩
theorem But.cb {r B:Nat} {w w':World} {es:Array MapEntry} {ck:Nat} (h:But r B w w') (hm:w.heap[r]?=some (.map es ck)):CB B w w' :=
 ⟨h.size,fun k C t z hk hc=>(h.block k hk (fun e=>by rw [e,hm] at hc;cases hc)).trans hc⟩
theorem But.keeps {r B:Nat} {w w':World} (h:But r w.heap.size w w') (hr:r < B):KeepsFrom B w w' :=
 ⟨h.size,fun k o hB hk _=>(h.block k (gES hk).1 (by omega)).trans hk⟩
theorem But.boxed {r B:Nat} {w w':World} {b:Nat} {t:TypeId} {v:Value} (h:But r B w w') (hb:Boxed w b t v) (hB:b < B) (hr:b ≠ r):Boxed w' b t v:=(h.block b hB hr).trans hb
theorem zlk {β:Type} {B r:Nat} (hr:r < B) (f:β->ByteArray->ByteArray->Option Int):OwnFrom B (fun s W=>zW W r (f s)):=by
 intro s W W' row hs hg hrow;refine hs.keep (hg.block r hs.lt (fun e=>?_))
 have:=(hrow r e.symm).1
 omega
theorem znp {β γ:Type} {B:Nat} {I:γ->β->World->Prop} (h:∀ c,OwnFrom B (I c)):OwnFrom B (fun s W=>∃ c,I c s W):=by
 rintro s W W' row ⟨c,hs⟩ hg hr;exact ⟨c,h c s W W' row hs hg hr⟩
theorem zm9 {β:Type} {B r C:Nat} {w0:World} (h0:C<=w0.heap.size) (hC:C<=B):OwnFrom B (fun (_:β) W=>But r C w0 W):=by
 intro s W W' row hs hg hr;refine hs.trans ⟨hg.os,hg.tape,hg.output,hg.size,fun k hk _=>?_⟩;exact hg.block k (nLt hk (Nat.le_trans h0 hs.size)) (fun e=>by have:=(hr k e.symm).1;omega)
end Go.Proofs.YtghnakljnhnenaaGreat
namespace Go.Proofs.YtghnakljnhnenaaGreat
open Go.RowKit Go.Shelf
def zeX (os:List Ob):Prop:=∀ i j (hi:i < os.length) (hj:j < os.length),os[i].kd=os[j].kd->os[i].nm=os[j].nm->i=j
theorem zeX.of {l:Lw} {b:Bk} (h:Gate.zH l b=true):zeX b.os:=by
 unfold Gate.zH at h;simp only [Bool.and_eq_true,decide_eq_true_eq] at h;have hr:=(Gate.zjm _ _).1 h.2.1;intro i j hi hj e1 e2
 have hz:∀ i j (hi:i < b.os.length) (hj:j < b.os.length),i < j->b.os[i].kd=b.os[j].kd->b.os[i].nm=b.os[j].nm->False:=by
  intro i j hi hj hlt e1 e2;have h1:=Gate.zcA (key:=Gate.zax) (fun a b c h h'=>Gate.ziA h h') hr j hj i hlt;have h2:Gate.zax b.os[i] b.os[j]=0:=by unfold Gate.zax;rw [Gate.zeY];exact ⟨e1,e2⟩
  omega
 rcases Nat.lt_trichotomy i j with h1 | h1 | h1
 ·exact (hz i j hi hj h1 e1 e2).elim
 ·exact h1
 ·exact (hz j i hj hi h1 e1.symm e2.symm).elim
theorem zn5 {l:Lw} {b:Bk} (h:Gate.zH l b=true) (i:Nat) (hi:i < b.os.length) (x:Lk) (hx:x ∈ qH (Gate.shapeOf l.ss b.os[i].kd).fs b.os[i].vs (Gate.shapeOf l.ss b.os[i].kd).fs.length):∃ j,∃ hj:j < b.os.length,b.os[j].kd=x.to/\b.os[j].nm=x.nm:=by
 unfold Gate.zH at h;simp only [Bool.and_eq_true,decide_eq_true_eq] at h;have h1:=List.all_eq_true.1 h.2.2 _ (List.getElem_mem hi);unfold Gate.yJ at h1;simp only [Bool.and_eq_true] at h1;have h2:=h1.2.2.2;unfold Gate.zaj at h2;have h3:=List.all_eq_true.1 h2 x hx;obtain ⟨p,hp,h4⟩:=List.any_eq_true.1 h3;obtain ⟨j,hj,rfl⟩:=List.mem_iff_getElem.1 hp;unfold Gate.jL at h4;simp only [Bool.and_eq_true,decide_eq_true_eq] at h4;exact ⟨j,hj,h4.1,h4.2⟩
def qK (os:List Ob) (r:Nat) (S:Nat->Bool) (W:World):Prop:=∃ f,zW W r f/\∀ j (h:j < os.length),(f os[j].kd os[j].nm).isSome=S j
theorem qK.new (os:List Ob) (w:World):qK os w.heap.size (fun _=>false) (w.alloc (.map #[] 0)):=⟨_,zW.new w,fun _ _=>rfl⟩
theorem qK.mono {os:List Ob} {r:Nat} {S:Nat->Bool} {w w':World} (h:qK os r S w) (hb:Below w.heap.size w w'):qK os r S w':=by
 obtain ⟨f,h1,h2⟩:=h;exact ⟨f,h1.mono hb,h2⟩
theorem zpu {os:List Ob} (hu:zeX os) {S:Nat->Bool} {f:ByteArray->ByteArray->Option Int} (hf:∀ j (h:j < os.length),(f os[j].kd os[j].nm).isSome=S j) (i:Nat) (hi:i < os.length) (v:Int) (j:Nat) (hj:j < os.length) :
 (if os[j].kd=os[i].kd/\os[j].nm=os[i].nm then some v else f os[j].kd os[j].nm).isSome=Gate.jY S i j:=by
 unfold Gate.jY
 by_cases e:j=i
 ·subst e
  simp
 ·rw [if_neg (fun h=>e (hu j i hj hi h.1 h.2)),hf j hj,decide_eq_false e,Bool.or_false]
theorem zd6.but {r B:Nat} {w w':World} (h:zd6 r w w'):But r B w w':=⟨h.os,h.tape,h.output,Nat.le_of_eq h.size.symm,fun k _ hk=>h.out k hk⟩
theorem zli {β:Type} {B r:Nat} {os:List Ob} (hr:r < B) (S:β->Nat->Bool):OwnFrom B (fun s W=>qK os r (S s) W):=by
 rintro s W W' row ⟨f,hf,h⟩ hg hrow;exact ⟨f,zlk (β:=Unit) hr (fun _=>f) () W W' row hf hg hrow,h⟩
def zbh (os:List Ob) (S:Nat->Bool) (xs:List Lk):Prop:=∀ x ∈ xs,x.rl ≠ 2->∀ j (h:j < os.length),os[j].kd=x.to->os[j].nm=x.nm->S j=true
theorem zbh.nil (os:List Ob) (S:Nat->Bool):zbh os S []:=fun x hx=>by cases hx
theorem zbh.snoc {os:List Ob} {S S':Nat->Bool} {xs:List Lk} (h:zbh os S xs) (hS:∀ j,S j=true->S' j=true) (x:Lk) (hx:x.rl ≠ 2->∀ j (h:j < os.length),os[j].kd=x.to->os[j].nm=x.nm->S' j=true):zbh os S' (xs ++ [x]):=by
 intro y hy h2 j hj e1 e2
 rcases List.mem_append.1 hy with hy | hy
 ·exact hS j (h y hy h2 j hj e1 e2)
 ·simp only [List.mem_singleton] at hy
  subst hy;exact hx h2 j hj e1 e2
theorem zbh.all {l:Lw} (hs:Gate.zQ l.ss=true) {os:List Ob} {S:Nat->Bool} {i:Nat} (hi:i < os.length) (h:zbh os S (qH (Gate.shapeOf l.ss os[i].kd).fs os[i].vs (Gate.shapeOf l.ss os[i].kd).fs.length)) (j:Nat) (ht:Gate.zfy l os i j):S j=true:=by
 obtain ⟨_,hj,ht⟩:=ht;obtain ⟨x,hx,h2,hp⟩:=(Gate.zmO hs _ _).1 ht;unfold Gate.jL at hp;simp only [Bool.and_eq_true,decide_eq_true_eq] at hp;exact h x hx h2 j hj hp.1 hp.2
theorem zl2 {l:Lw} (hs:Gate.zQ l.ss=true) {os:List Ob} {i j:Nat} (hi:i < os.length) (hj:j < os.length) (x:Lk) (hx:x ∈ qH (Gate.shapeOf l.ss os[i].kd).fs os[i].vs (Gate.shapeOf l.ss os[i].kd).fs.length) (h2:x.rl ≠ 2) (e1:os[j].kd=x.to) (e2:os[j].nm=x.nm):Gate.zfy l os i j :=
 ⟨hi,hj,(Gate.zmO hs _ _).2 ⟨x,hx,h2,by unfold Gate.jL;simp [e1,e2]⟩⟩
end Go.Proofs.YtghnakljnhnenaaGreat
namespace Go.Proofs.YtghnakljnhnenaaGreat
theorem zk8 {F:Fence} {n:Nat} {P:Program} {id:Nat} {ops:Array Oper} {b:Bool} {Q:Exit->Act->World->Prop} {a:Act} {w:World} (R:Act->World->Prop) (h1:(Code.region id ops b).wpIn F n P (fun e a' w'=>e = .normal/\R a' w') a w) (h2:∀ a' w',R a' w'->Q .normal a' w'):(Code.region id ops b).wpIn F n P Q a w :=
 Code.wpIn_mono (fun e a' w' ⟨he,hr⟩=>by subst he;exact h2 a' w' hr) h1
theorem zl6 {F:Fence} {n:Nat} {P:Program} {id:Nat} {ops:Array Oper} {b:Bool} {Q:Exit->Act->World->Prop} {a:Act} {w:World} (R:Act->World->Prop) (h1:(Code.region id ops b).wpIn F n P (Exit.then R (fun _ _ _=>False)) a w) (h2:∀ a' w',R a' w'->Q .normal a' w'):(Code.region id ops b).wpIn F n P Q a w :=
 Code.wpIn_mono (fun e a' w' hr=>by cases e <;> first | exact h2 a' w' hr | exact False.elim hr) h1
end Go.Proofs.YtghnakljnhnenaaGreat
