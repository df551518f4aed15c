import Derived.Test.YtjnpjkigofldlaaGreatM19
import Derived.Laws.EntriesVeiled
import Derived.Test.YtjnpjkigofldlaaGreatM18
import Derived.Test.YtjnpjkigofldlaaGreatM17
import Derived.Test.YtjnpjkigofldlaaGreatM21
import Derived.Test.YtjnpjkigofldlaaGreatM20
set_option maxRecDepth 20000
set_option maxHeartbeats 8000000
namespace Go.Proofs.YtjnpjkigofldlaaGreat
open Go.RowKit
variable {b bo hi i j lo n:Nat}{W w w':World}{v:Value}{a:OA}{S:Nat->Prop}{xs:List Int}{T:TypeId}{C D:AV}
def zl (s:Shp)(ms:List Mnd)(p:Nat):List Nat:=(yC s ms p).map Int.toNat
def zgw (S:Far):Int->Option Int:=fun q=>if 0<=q then (S.far q.toNat).map fun b=>if b=true then 2 else 1 else none
theorem zqQ (S:Far)(i:Nat):(fun q:Int=>if q=(i:Int) then some 1 else zgw S q)=zgw (S.under i):=by
 funext q
 by_cases h:q=(i:Int)
 ·subst h;simp[zgw,Far.under]
 ·rw[if_neg h]
  unfold zgw Far.under
  by_cases h0:0<=q
  ·have:q.toNat≠i:=by omega
   simp[h0,this]
  ·simp[h0]
theorem zoZ (S:Far)(i:Nat):(fun q:Int=>if q=(i:Int) then some 2 else zgw S q)=zgw (S.behind i):=by
 funext q
 by_cases h:q=(i:Int)
 ·subst h;simp[zgw,Far.behind]
 ·rw[if_neg h]
  unfold zgw Far.behind
  by_cases h0:0<=q
  ·have:q.toNat≠i:=by omega
   simp[h0,this]
  ·simp[h0]
theorem ztV (S:Far)(i:Nat):zgw S (i:Int)=(S.far i).map fun b=>if b=true then 2 else 1:=by
 unfold zgw;simp
theorem zba (d:Nat->Far->Bool × Far):∀(l:List Nat) (q:Nat) (t:Far),zn d (l++[q]) t=if (zn d l t).1=true then d q (zn d l t).2 else zn d l t
 | [],q,t=>by
  show(if (d q t).1=true then zn d [] (d q t).2 else (false,(d q t).2))=d q t
  by_cases h:(d q t).1=true
  ·rw[if_pos h];show(true,(d q t).2)=d q t;rw[<- h]
  ·rw[if_neg h]
   have:(d q t).1=false:=by simpa using h
   rw[<- this]
 | a :: l,q,t=>by
  show(if (d a t).1=true then zn d (l++[q]) (d a t).2 else (false,(d a t).2))=_
  by_cases h:(d a t).1=true
  ·have e:zn d (a :: l) t=zn d l (d a t).2:=by show(if (d a t).1=true then _ else _)=_;rw[if_pos h]
   rw[if_pos h,e];exact zba d l q _
  ·have e:zn d (a :: l) t=(false,(d a t).2):=by show(if (d a t).1=true then _ else _)=_;rw[if_neg h]
   rw[if_neg h,e];rfl
theorem zc8 (d:Nat->Far->Bool × Far):∀(l r:List Nat) (t:Far),(zn d l t).1=false->(zn d (l++r) t).1=false
 | [],r,t,h=>by cases h
 | a :: l,r,t,h=>by
  show(if (d a t).1=true then zn d (l++r) (d a t).2 else (false,(d a t).2)).1=false
  by_cases hc:(d a t).1=true
  ·have e:zn d (a :: l) t=zn d l (d a t).2:=by show(if (d a t).1=true then _ else _)=_;rw[if_pos hc]
   rw[e]at h;rw[if_pos hc];exact zc8 d l r _ h
  ·rw[if_neg hc]
theorem zsG {rd:Nat->List Nat}(hrd:∀p,p<n->∀q∈rd p,q<n):∀f p S,p<n->(down rd f p S).1=true->(down rd f p S).2.row.length+open' n (down rd f p S).2<=S.row.length+open' n S:=by
 intro f
 induction f with
 | zero=>intro p S _ h;cases h
 | succ f ih=>
  have hl:∀(l:List Nat) (t:Far),(∀a∈l,a<n)->(zn (down rd f) l t).1=true->(zn (down rd f) l t).2.row.length+open' n (zn (down rd f) l t).2<=t.row.length+open' n t:=by
   intro l
   induction l with
   | nil=>intro t _ _;exact Nat.le_refl _
   | cons a l il=>
    intro t ha h;unfold zn at h ⊢
    by_cases hc:(down rd f a t).1=true
    ·rw[if_pos hc]at h ⊢
     exact Nat.le_trans (il _ (fun b hb=>ha b (by simp[hb])) h) (ih a t (ha a (by simp)) hc)
    ·rw[if_neg hc]at h;cases h
  intro p S hp h;unfold down at h ⊢
  rcases hf:S.far p with _|b
  ·rw[hf]at h
   simp only at h ⊢
   by_cases hc:(zn (down rd f) (rd p) (S.under p)).1=true
   ·rw[if_pos hc]
    have h1:=hl _ _ (hrd p hp) hc;have h2:=zgU hp hf
    have h3:open' n ((zn (down rd f) (rd p) (S.under p)).2.behind p)<=open' n (zn (down rd f) (rd p) (S.under p)).2:=by
     apply zmu
     intro q hq;simp only[Far.behind]
     split
     ·rfl
     ·exact hq
    have h4:((zn (down rd f) (rd p) (S.under p)).2.behind p).row.length=(zn (down rd f) (rd p) (S.under p)).2.row.length+1:=by simp[Far.behind]
    have h5:(S.under p).row=S.row:=rfl;rw[h5]at h1
    simp only
    omega
   ·rw[if_neg hc]at h;cases h
  ·exact Nat.le_refl _
theorem zgo {rd:Nat->List Nat}(hrd:∀p,p<n->∀q∈rd p,q<n)(f:Nat):∀(l:List Nat) (t:Far),(∀a∈l,a<n)->(zn (down rd f) l t).1=true->(zn (down rd f) l t).2.row.length+open' n (zn (down rd f) l t).2<=t.row.length+open' n t:=by
 intro l
 induction l with
 | nil=>intro t _ _;exact Nat.le_refl _
 | cons a l il=>
  intro t ha h;unfold zn at h ⊢
  by_cases hc:(down rd f a t).1=true
  ·rw[if_pos hc]at h ⊢
   exact Nat.le_trans (il _ (fun b hb=>ha b (by simp[hb])) h) (zsG hrd f a t (ha a (by simp)) hc)
  ·rw[if_neg hc]at h;cases h
def zfa (l:List Nat):List Value:=l.map fun q:Nat=>Value.i (q:Int)
theorem zbu {X:AV}{t:TypeId}(h:w.heap[b]?=some (.cells X t)):∀j,w.cell? (aD b j)=X[j]?:=fun _=>cell_of_block h
theorem zho {X:AV}{t:TypeId}(h:w.heap[b]?=some (.cells X t)):∀j,w.frozen? (aD b j)=false:=fun _=>zf h
structure WalkC where
 s:Shp
 ms:List Mnd
 w0:World
 ma:OA
 fa:OA
 mcap:Nat
 fcap:Nat
 bm:Nat
 bs:Nat
 p:Nat
 mr:Nat
 lo:Nat
structure WalkC.Ok (c:WalkC):Prop where
 mnds:qQ c.w0 c.ma c.ms
 zdE:yw c.w0 c.fa c.s.fs
 few:c.ms.length<=1048576
 fewf:c.s.fs.length<=6
 reads:∀q,q<c.s.fs.length->∀x∈yC c.s c.ms q,0<=x/\x<c.s.fs.length
 bp:c.w0.heap.size<=c.p
 bmr:c.w0.heap.size<=c.mr
 plo:c.p<c.lo
 mlo:c.mr<c.lo
 bml:c.bm<c.lo
 bsl:c.bs<c.lo
 pm:c.p≠c.mr
 bmp:c.bm≠c.p
 bmm:c.bm≠c.mr
 bsp:c.bs≠c.p
 bsm:c.bs≠c.mr
def WalkC.fn (c:WalkC):Value:=.func (.func 218) #[] #[.pointer (some (aD c.bm 0)),.pointer (some (aD c.bs 0))]
structure zas (c:WalkC)(w:World)(S:Far)(v:Value):Prop where
 base:Below c.w0.heap.size c.w0 w
 cm:w.cell? (aD c.bm 0)=some (.l c.ma c.ms.length c.mcap)
 cs:∀j,w.cell? (aD c.bs j)=(#[.s c.s.kd,.l c.fa c.s.fs.length c.fcap]:AV)[j]?
 size:c.lo<=w.heap.size
 cells:w.heap[c.p]?=some (.cells #[c.fn,.map (some c.mr),v] 285)
 row:w.ownsRow c.lo 3 1 v S.row.length (zfa S.row)
 map:zbq w c.mr (zgw S)
structure Moves (c:WalkC)(v:Value)(w:World)(v':Value)(w':World):Prop where
 size:w.heap.size<=w'.heap.size
 out:∀k,k<w.heap.size->k≠c.p->k≠c.mr->v.ownBlock≠some k->w'.heap[k]?=w.heap[k]?
 own:v'.ownBlock=v.ownBlock \/ ∃g,v'.ownBlock=some g/\w.heap.size<=g
theorem Moves.refl (c:WalkC)(v:Value)(w:World):Moves c v w v w:=⟨Nat.le_refl _,fun _ _ _ _ _=>rfl,Or.inl rfl⟩
theorem Moves.trans {c:WalkC}{v1 v2:Value}{w1 w2:World}(h:Moves c v w v1 w1)(k:Moves c v1 w1 v2 w2):Moves c v w v2 w2:=by
 refine⟨Nat.le_trans h.size k.size,fun i hi hp hm hv=>?_,?_⟩
 ·rw[k.out i (nLt hi h.size) hp hm ?_,h.out i hi hp hm hv]
  rcases h.own with e|⟨g,e,hg⟩
  ·rw[e];exact hv
  ·rw[e];intro e';cases e';omega
 ·rcases k.own with e|⟨g,e,hg⟩
  ·rw[e];exact h.own
  ·exact Or.inr ⟨g,e,Nat.le_trans h.size hg⟩
theorem zic (h:w'.heap[b]?=w.heap[b]?):w'.cell? (aD b j)=w.cell? (aD b j):=by unfold World.cell?;rw[h]
theorem zas.next {c:WalkC}{S S':Far}{v':Value}(hc:c.Ok)(h:zas c w S v)(os:w'.os=w.os)(tape:w'.tape=w.tape)(output:w'.output=w.output)(size:w.heap.size<=w'.heap.size)
 (out:∀k,k<c.lo->k≠c.p->k≠c.mr->w'.heap[k]?=w.heap[k]?)
 (cells:w'.heap[c.p]?=some (.cells #[c.fn,.map (some c.mr),v'] 285)) (row:w'.ownsRow c.lo 3 1 v' S'.row.length (zfa S'.row)) (map:zbq w' c.mr (zgw S')):zas c w' S' v':=by
 have hb:=h.base.size;have h1:=hc.bp;have h2:=hc.plo;have h3:=hc.bmr;refine⟨⟨os.trans h.base.os,tape.trans h.base.tape,output.trans h.base.output,Nat.le_trans hb size,fun k hk=>?_⟩,?_,fun j=>?_,Nat.le_trans h.size size,cells,row,map⟩
 ·rw[out k (by omega) (by omega) (by omega)];exact h.base.block k hk
 ·rw[zic (out c.bm hc.bml hc.bmp hc.bmm)];exact h.cm
 ·rw[zic (out c.bs hc.bsl hc.bsp hc.bsm)];exact h.cs j
theorem zas.mark {c:WalkC}{S:Far}(hc:c.Ok)(h:zas c w S v)(i:Nat)(x:Int) :
 ∃w',(Instr.mapUpdate 283 (.map (some c.mr)) (.i i) (.i x)).run Tryz.prog w=.ok () w'/\(∀S':Far,S'.row=S.row->(fun q:Int=>if q=(i:Int) then some x else zgw S q)=zgw S'->zas c w' S' v)/\Moves c v w v w':=by
 obtain⟨w',hrun,hmap,hput⟩:=h.map.upd i x;have hlt:=h.map.lt;refine⟨w',hrun,fun S' hr hf=>?_,Nat.le_of_eq hput.size.symm,fun k _ _ hm _=>hput.out k hm,Or.inl rfl⟩
 have hrow:w'.ownsRow c.lo 3 1 v S'.row.length (zfa S'.row):=by
  rw[hr];exact q9 h.row fun g hg=>hput.out g (by have:=(h.row.lt g hg).1;have:=hc.mlo;omega)
 exact h.next hc hput.os hput.tape hput.output (Nat.le_of_eq hput.size.symm) (fun k _ _ hm=>hput.out k hm) ((hput.out c.p hc.pm).trans h.cells) hrow (by rw[<- hf];exact hmap)
theorem WalkC.Ok.rd {c:WalkC}(hc:c.Ok):∀p,p<c.s.fs.length->∀q∈zl c.s c.ms p,q<c.s.fs.length:=by
 intro p hp q hq;unfold zl at hq;obtain⟨x,hx,rfl⟩:=List.mem_map.1 hq
 have:=hc.reads p hp x hx
 omega
theorem zas.later {c:WalkC}{S:Far}(hc:c.Ok)(h:zas c w S v)(hb:Bw w w'):zas c w' S v/\Moves c v w v w':=by
 have hs:=h.size;have hp:=hc.plo;have hm:=hc.mlo;exact⟨h.next hc hb.os hb.tape hb.output hb.size (fun k hk _ _=>hb.block k (by omega)) ((hb.block c.p (by omega)).trans h.cells) (yc h.row hb) (h.map.mono (hb.block c.mr (by omega))),hb.size,fun k hk _ _ _=>hb.block k hk,Or.inl rfl⟩
theorem zas.zn7 {c:WalkC}{S:Far}(h:zas c w S v):∀j,w.cell? (aD c.p j)=(#[.func (.func 218) #[] #[.pointer (some (aD c.bm 0)),.pointer (some (aD c.bs 0))],.map (some c.mr),v]:AV)[j]?:=fun _=>cell_of_block h.cells
theorem zh3 {p:Prop}(h:Hid p):p:=h
theorem ztr (c:WalkC)(hc:c.Ok):∀(f i:Nat) (S:Far) (v:Value) (w:World),i<c.s.fs.length->open' c.s.fs.length S<f->S.row.length+open' c.s.fs.length S<=6->zas c w S v ->
 Calls Tryz.prog 237 #[.pointer (some (aD c.p 0)),.i i] w fun e w'=>∃v',e=.returned (.bool (down (zl c.s c.ms) f i S).1)/\Below c.w0.heap.size c.w0 w'/\((down (zl c.s c.ms) f i S).1=true->zas c w' (down (zl c.s c.ms) f i S).2 v'/\Moves c v w v' w'):=by
 intro f
 induction f with
 | zero=>intro i S v w _ h _ _;omega
 | succ f ih=>
  intro i S v w hi hopen hsix hW;have HI:=hid ih;clear ih;obtain⟨i0,hi0,hz0,hz1',hz2⟩:=info_parts Tryz.zdo;have hpc:=hW.zn7;have hlook:=hW.map.look (i:Int);rw[ztV]at hlook;have HW:=hid hW;have HO:=hid hopen;clear hW hopen
  rcases hfar:S.far i with _|b
  ·rw[hfar]at hlook
   have hlook':=hlook;obtain⟨w1,hrun,hmk,hmv⟩:=HW.o.mark hc i 1;have hW1:=hmk (S.under i) rfl (zqQ S i);have hpc1:=hW1.zn7;have HW1:=yB hW1 hmv;clear hlook hmk hmv hW1;go_in;go_wp2_with fail
   refine(zpH c.s c.ms i c.bm c.bs c.ma c.fa c.mcap c.fcap w1 (hc.mnds.mono HW1.o.1.base) (hc.zdE.mono HW1.o.1.base) hi hc.few (nLt hc.bsl HW1.o.1.size) HW1.o.1.cm HW1.o.1.cs).mono ?_;rintro e w2⟨rv,rfl,hrow,hb2⟩;obtain⟨ra,rcap,rfl⟩:=yY hrow;have hW2:=HW1.o.1.later hc hb2;have HW2:=yB hW2.1 (HW1.o.2.trans hW2.2);have HR2:=hid hrow;have HRL:Hid ((yC c.s c.ms i).length<=2097152):=by have h1:=ziy c.s i c.ms;have:=hc.few;show _<=_;omega
   have HAP:Hid (∀g,v.ownBlock=some g->(Value.slice ra (yC c.s c.ms i).length rcap).ownBlock≠some g):=by
    intro g hg he;have h1:=(HW1.o.1.row.lt g hg).2;have h2:=(hrow.lt g he).1;omega
   have HLO:=hid HW1.o.1.size;have HOU:Hid (open' c.s.fs.length (S.under i)<f):=by have h1:=zgU hi hfar;have h2:=HO.o;show _<_;omega
   have HDN:Hid ((down (zl c.s c.ms) (f+1) i S)=if (zn (down (zl c.s c.ms) f) ((zl c.s c.ms) i) (S.under i)).1=true then (true,(zn (down (zl c.s c.ms) f) ((zl c.s c.ms) i) (S.under i)).2.behind i) else (false,(zn (down (zl c.s c.ms) f) ((zl c.s c.ms) i) (S.under i)).2)):=by
    unfold Hid;rw[down,hfar]
   clear hW2 hrow hb2 hpc hpc1 hlook' hrun;go_wp2
   go_loopw [33] (fun iv wr=>∃(j:Nat) (v1:Value),j<=(yC c.s c.ms i).length/\iv=.i j/\(zn (down (zl c.s c.ms) f) (((zl c.s c.ms) i).take j) (S.under i)).1=true/\zas c wr (zn (down (zl c.s c.ms) f) (((zl c.s c.ms) i).take j) (S.under i)).2 v1/\Moves c v w v1 wr/\wr.ownsRow w1.heap.size 3 1 (.l ra (yC c.s c.ms i).length rcap) (yC c.s c.ms i).length (ints (yC c.s c.ms i))/\(∀g,v1.ownBlock=some g->(Value.slice ra (yC c.s c.ms i).length rcap).ownBlock≠some g)) (fun iv _=>(yC c.s c.ms i).length-(intOf iv).toNat)
   case atStart=>exact⟨0,v,Nat.zero_le _,rfl,rfl,HW2.o.1,HW2.o.2,HR2.o,HAP.o⟩
   case round=>
    obtain⟨j,v1,hj,rfl,hD,hWr,hMr,hRr,hAp⟩:=hrel;have HWr:=j3 hWr hMr hRr hAp;have HD:=hid hD;clear hWr hMr hRr hAp hD
    have HSX:Hid ((zn (down (zl c.s c.ms) f) (((zl c.s c.ms) i).take j) (S.under i)).2.row.length+open' c.s.fs.length (zn (down (zl c.s c.ms) f) (((zl c.s c.ms) i).take j) (S.under i)).2<=6):=by
     have h1:=zgo hc.rd f _ (S.under i) (fun a ha=>hc.rd i hi a (List.mem_of_mem_take ha)) HD.o;have h2:=zgU hi hfar;have h3:(S.under i).row=S.row:=rfl;rw[h3]at h1
     show _<=_
     omega
    by_cases hjl:j<(yC c.s c.ms i).length
    ·obtain⟨q,hq,hqn⟩:∃q:Nat,(yC c.s c.ms i)[j]=(q:Int)/\q<c.s.fs.length:=by
      have h1:=hc.reads i hi _ (List.getElem_mem hjl);exact⟨((yC c.s c.ms i)[j]).toNat,by omega,by omega⟩
     have HTK:Hid (((zl c.s c.ms) i).take (j+1)=((zl c.s c.ms) i).take j++[q]):=by
      have hjl':j<((zl c.s c.ms) i).length:=by unfold zl;rw[List.length_map];exact hjl
      unfold Hid;rw[tSe hjl']
      have:((zl c.s c.ms) i)[j]=q:=by simp[zl,hq]
      rw[this]
     obtain⟨g,rfl,hcell⟩:∃g,ra=some (aD g 0)/\wr.cell? (aD g j)=some (.i (q:Int)):=by
      obtain⟨_,⟨h0,h1⟩|⟨g,cap,cur,h0,h1⟩⟩:=id HWr.o.2.2.1
      ·rw[h1]at hjl;exact absurd hjl (by omega)
      ·cases h0
       refine⟨g,rfl,?_⟩;rw[HWr.o.2.2.1.cellAt j (by omega)]
       simp[ints,hjl,hq]
     have hjI:(j:Int)<((yC c.s c.ms i).length:Int):=by omega
     have HOP:Hid (open' c.s.fs.length (zn (down (zl c.s c.ms) f) (((zl c.s c.ms) i).take j) (S.under i)).2<f):=by
      have h1:=zmu (n:=c.s.fs.length) (s:=S.under i) (t:=(zn (down (zl c.s c.ms) f) (((zl c.s c.ms) i).take j) (S.under i)).2) (fun q' hq'=>znx _ _ q' _ _ hq');have h2:=HOU.o
      show _<_
      omega
     go_wp2_with fail
     refine(HI.o q _ v1 wr hqn HOP.o HSX.o HWr.o.1).mono ?_;rintro e w3⟨v3,rfl,hb3,hyes⟩
     by_cases hd:(down (zl c.s c.ms) f q (zn (down (zl c.s c.ms) f) (((zl c.s c.ms) i).take j) (S.under i)).2).1=true
     ·have HS:Hid ((zn (down (zl c.s c.ms) f) (((zl c.s c.ms) i).take (j+1)) (S.under i))=down (zl c.s c.ms) f q (zn (down (zl c.s c.ms) f) (((zl c.s c.ms) i).take j) (S.under i)).2):=by unfold Hid;rw[HTK.o,zba,if_pos HD.o]
      have hy:=hyes hd;have HY:=hid hy;have HDD:=hid hd;rw[hd];clear hyes hy hb3 hd hcell;go_wp2_with fail
      have hg1:=HWr.o.2.2.1.lt g rfl;have hap:v1.ownBlock≠some g:=fun h=>HWr.o.2.2.2 g h rfl
      refine⟨⟨j+1,v3,by omega,by rw[wrap_one (by have:=HRL.o;omega)],by rw[HS.o];exact HDD.o,by rw[HS.o];exact HY.o.1,HWr.o.2.1.trans HY.o.2,?_,?_⟩,yO hjl (by have:=HRL.o;omega)⟩
      ·refine q9 HWr.o.2.2.1 (fun g' hg'=>?_)
       cases hg'
       exact HY.o.2.out g hg1.2 (by have:=hc.plo;have:=HLO.o;omega) (by have:=hc.mlo;have:=HLO.o;omega) hap
      ·intro g' hg' he
       have e0:g=g':=Option.some.inj he;subst e0
       rcases HY.o.2.own with e|⟨g2,e,h2⟩
       ·rw[e]at hg';exact hap hg'
       ·have e2:g2=g:=Option.some.inj (e.symm.trans hg')
        have h3:=hg1.2;omega
     ·have hdf:(down (zl c.s c.ms) f q (zn (down (zl c.s c.ms) f) (((zl c.s c.ms) i).take j) (S.under i)).2).1=false:=by simpa using hd
      have HF:Hid ((down (zl c.s c.ms) (f+1) i S).1=false):=by
       have h1:(zn (down (zl c.s c.ms) f) (((zl c.s c.ms) i).take (j+1)) (S.under i)).1=false:=by rw[HTK.o,zba,if_pos HD.o];exact hdf
       have h2:=zc8 (down (zl c.s c.ms) f) (((zl c.s c.ms) i).take (j+1)) (((zl c.s c.ms) i).drop (j+1)) (S.under i) h1;rw[List.take_append_drop]at h2;unfold Hid;rw[HDN.o,if_neg (by rw[h2];simp)]
      rw[hdf];have HB3:Hid (Below c.w0.heap.size c.w0 w3):=hb3;clear hyes hb3 hcell hd hdf;go_wp2
      go_ret;exact⟨v3,by rw[HF.o];rfl,HB3.o,fun h=>by rw[HF.o]at h;cases h⟩
    ·have e:j=(yC c.s c.ms i).length:=by omega
     have hall:((zl c.s c.ms) i).take j=(zl c.s c.ms) i:=tOl (by unfold zl;rw[List.length_map];omega);rw[hall]at HWr HD HSX;have HRES:Hid ((down (zl c.s c.ms) (f+1) i S)=(true,(zn (down (zl c.s c.ms) f) ((zl c.s c.ms) i) (S.under i)).2.behind i)):=by unfold Hid;rw[HDN.o,if_pos HD.o]
     clear HDN HD hall
     revert HWr HRES HSX
     generalize (zn (down (zl c.s c.ms) f) ((zl c.s c.ms) i) (S.under i)).2=D
     intro HWr HSX HRES;obtain⟨w3,hrun3,hmk3,hmv3⟩:=HWr.o.1.mark hc i 2;have hW3:=hmk3 ⟨(D.behind i).far,D.row⟩ rfl (by rw[zoZ];rfl);have HW3:=yB hW3 (HWr.o.2.1.trans hmv3);have hpcr:=HWr.o.1.zn7;have hpc3:=hW3.zn7;have hpf3:=zho hW3.cells;have HDL:Hid (D.row.length<=6):=by have:=HSX.o;show _<=_;omega
     have hp3:=nLt hc.plo hW3.size;clear hmk3 hmv3 hW3 HWr;subst e;have HGE:=hid HW3.o.1.row.lt
     go_wp2_with (at_builtin;refine zh3 ?_)
     show wpList _ _ _ _ _ _
     refine wpList_append_own_at _ rfl (.tmp 51) (.tmp 53) 71 rfl c.lo 3 i0 (.i 0) 1 8 Tryz.underlying71 hi0 hz0 hz1' hz2 rfl (by decide) v1 _ _ rfl (HW3.o.1.row.alloc _) (aD w3.heap.size 0) 1 1 [.i (i:Int)] rfl rfl (zbA _ _ _) (by intro u hu;simp at hu;subst hu;rfl) (by have:=HDL.o;show D.row.length+1<=2 ^ 63-1;omega) (by have:=HDL.o;show(D.row.length+1)*8<=140737488355328;omega) (by have:=HW3.o.1.size;simp;omega) ?_;intro vN w4 hownN hgr _ hat;obtain⟨va,vcap,rfl⟩:=yY hownN;have hown':=hownN;clear hownN;have hp4:=(zaT hgr (by simp;omega) (fun g hg=>by have:=(HGE.o g hg).1;have:=hc.plo;omega)).trans ((Below.heap_alloc _ _ _ hp3).trans HW3.o.1.cells);have hpc4:=zbu hp4;have hpf4:=zho hp4;have HP4:Hid (w4.heap[c.p]?=some (.cells #[c.fn,.map (some c.mr),v1] 285)):=hp4;have HG4:Hid ((w3.alloc (.cells #[.i (i:Int)] 3)).grownBy w4 v1.ownBlock/\((Value.slice va (D.row.length+1) vcap).ownBlock=v1.ownBlock \/ (Value.slice va (D.row.length+1) vcap).ownBlock=some (w3.heap.size+1))):=(by refine⟨hgr,?_⟩;simpa using hat)
     have HO4:=hid hown';clear hp4 hgr hat hown';go_wp2_with fail
     have hgb:∀k,k<w3.heap.size->(∀g,v1.ownBlock=some g->k≠g)->w4.heap[k]?=w3.heap[k]?:=fun k hk hne=>(zaT HG4.o.1 (by simp;omega) hne).trans (Below.heap_alloc _ _ _ hk)
     have hsz4:w3.heap.size<w4.heap.size:=by have:=HG4.o.1.size;simp at this;omega
     have hv4:∀g,(Value.slice va (D.row.length+1) vcap).ownBlock=some g->c.lo<=g:=fun g hg=>(HO4.o.lt g hg).1
     have hW5:zas c (w4.setCell (aD c.p 2) (.l va (D.row.length+1) vcap)) (D.behind i) (.l va (D.row.length+1) vcap):=by
      refine HW3.o.1.next hc HG4.o.1.os HG4.o.1.tape HG4.o.1.output (by simp[World.setCell];omega) (fun k hk hp hm=>?_) ?_ ?_ ?_
      ·rw[Below.heap_setCell _ _ _ _ hp]
       exact hgb k (by have:=HW3.o.1.size;omega) (fun g hg=>by have:=(HGE.o g hg).1;omega)
      ·exact zh HP4.o _
      ·have e1:(D.behind i).row.length=D.row.length+1:=by simp[Far.behind]
       have e2:zfa (D.behind i).row=zfa D.row++[.i (i:Int)]:=by simp[Far.behind,zfa]
       rw[e1,e2];exact q9 HO4.o (fun g hg=>Below.heap_setCell _ _ _ _ (by show g≠c.p;have:=hv4 g hg;have:=hc.plo;omega))
      ·have hm3:=HW3.o.1.map.lt
       exact HW3.o.1.map.mono ((Below.heap_setCell _ _ _ _ (Ne.symm hc.pm)).trans (hgb c.mr hm3 (fun g hg=>by have:=(HGE.o g hg).1;have:=hc.mlo;omega)))
     have hM5:Moves c v1 w3 (.l va (D.row.length+1) vcap) (w4.setCell (aD c.p 2) (.l va (D.row.length+1) vcap)):=by
      refine⟨by simp[World.setCell];omega,fun k hk hp _ hv=>?_,?_⟩
      ·rw[Below.heap_setCell _ _ _ _ hp]
       exact hgb k hk (fun g hg e=>hv (by rw[e];exact hg))
      ·rcases HG4.o.2 with e|e
       ·exact Or.inl e
       ·exact Or.inr ⟨_,e,by omega⟩
     go_ret;exact⟨by rw[HRES.o];rfl,hW5.base,_,fun _=>by rw[HRES.o];exact⟨hW5,HW3.o.2.trans hM5⟩⟩
  ·have hr:down (zl c.s c.ms) (f+1) i S=(b,S):=by rw[down,hfar]
   have HR:=hid hr;rw[hfar]at hlook;clear hr
   cases b with
   | true=>
    have hlook':=hlook;clear hlook;go_in;go_wp2
    go_ret;exact⟨v,by rw[HR.o];rfl,HW.o.base,fun _=>by rw[HR.o];exact⟨HW.o,Moves.refl _ _ _⟩⟩
   | false=>
    have hlook':=hlook;clear hlook;go_in;go_wp2
    go_ret;exact⟨v,by rw[HR.o];rfl,HW.o.base,fun h=>by rw[HR.o]at h;cases h⟩
def zoO (w:World)(a:OA)(n:Nat):Prop:=0<n->∃g,a=some (aD g 0)/\g<w.heap.size/\∀q,q<n->w.cell? (aD g q)=some (.i (q:Int))
theorem zrS (s:Shp)(ms:List Mnd)(w0:World)(ma fa ia:OA)(mcap fcap icap bm bs:Nat)(w:World)(hm:qQ w0 ma ms)(hf:yw w0 fa s.fs)(hl:ms.length<=1048576)(hn:s.fs.length<=6)
 (hrd:∀q,q<s.fs.length->∀x∈yC s ms q,0<=x/\x<s.fs.length) (hB:Bw w0 w) (hbm:bm<w.heap.size) (hbs:bs<w.heap.size) (hcm:w.cell? (aD bm 0)=some (.l ma ms.length mcap)) (hcs:∀j,w.cell? (aD bs j)=(#[.s s.kd,.l fa s.fs.length fcap]:AV)[j]?)
 (hit:zoO w ia s.fs.length) :
 Calls Tryz.prog 217 #[.l ia s.fs.length icap,.func (.func 218) #[] #[.pointer (some (aD bm 0)),.pointer (some (aD bs 0))]] w
  fun e w'=>∃v,e=.returned (.tuple #[v,.bool (zG (zl s ms) s.fs.length).1])/\Bw w0 w'/\((zG (zl s ms) s.fs.length).1=true->w'.ownsRow w.heap.size 3 1 v (zG (zl s ms) s.fs.length).2.row.length (zfa (zG (zl s ms) s.fs.length).2.row)):=by
 have hmk:∀w:World,(Instr.makeMap 283 none).run Tryz.prog w=.ok (.map (some w.heap.size)) (w.alloc (.map #[] 0)):=fun w=>by kernel_rfl
 go_in;go_wp2_with fail
 have hb2:Bw w ((w.alloc (.map #[] 0)).alloc (.cells #[(.func (.func 218) #[] #[.pointer (some (aD bm 0)),.pointer (some (aD bs 0))]),.map (some w.heap.size),.l none 0 0] 285)):=zo _ _ _;have hs0:=hB.size;obtain⟨c,hceq⟩:=xN ((⟨s,ms,w0,ma,fa,mcap,fcap,bm,bs,w.heap.size+1,w.heap.size,w.heap.size+2⟩:WalkC))
 have hc:c.Ok:=by
  subst hceq;exact⟨hm,hf,hl,hn,hrd,by show w0.heap.size<=w.heap.size+1;omega,hs0,by show w.heap.size+1<w.heap.size+2;omega,by show w.heap.size<w.heap.size+2;omega,by show bm<w.heap.size+2;omega,by show bs<w.heap.size+2;omega,by show w.heap.size+1≠w.heap.size;omega,by show bm≠w.heap.size+1;omega,by show bm≠w.heap.size;omega,by show bs≠w.heap.size+1;omega,by show bs≠w.heap.size;omega⟩
 have hW:zas c ((w.alloc (.map #[] 0)).alloc (.cells #[(.func (.func 218) #[] #[.pointer (some (aD bm 0)),.pointer (some (aD bs 0))]),.map (some w.heap.size),.l none 0 0] 285)) jK (.l none 0 0):=by
  subst hceq;refine⟨hB.trans (hb2.mono hs0),(hb2.cell (p:=(aD bm 0)) hbm).trans hcm,za hcs hbs hb2,by show w.heap.size+2<=_;simp,(zK _ _ _).2,World.ownsRow_nil _ _ _ _,⟨#[],0,(zK _ _ _).1,fun x hx=>by simp at hx,fun k v hk=>?_,fun i j x y hx=>by simp at hx⟩⟩;unfold zgw jK at hk
  simp at hk
 have HC:Hid (c.Ok/\c.s=s/\c.ms=ms/\c.w0=w0/\c.p=w.heap.size+1/\c.mr=w.heap.size/\c.lo=w.heap.size+2):=⟨hc,by rw[hceq],by rw[hceq],by rw[hceq],by rw[hceq],by rw[hceq],by rw[hceq]⟩
 have HW:=hid hW;have HRD:Hid (∀p,p<s.fs.length->∀q∈zl s ms p,q<s.fs.length):=by have h:=hc.rd;rw[hceq]at h;exact h
 have HIT:=hid hit;have HN:=hid hn
 have HOP:Hid (∀T,open' s.fs.length T<=s.fs.length):=by
  intro T;unfold open';exact Nat.le_trans (List.length_filter_le _ _) (by simp)
 have HW2:Hid (∃W,W=((w.alloc (.map #[] 0)).alloc (.cells #[(.func (.func 218) #[] #[.pointer (some (aD bm 0)),.pointer (some (aD bs 0))]),.map (some w.heap.size),.l none 0 0] 285))):=⟨_,rfl⟩
 clear hW hc hceq hmk hB hcm hcs hrd hit hs0
 go_loopw [14] (fun iv wr=>∃(j:Nat) (v:Value),j<=s.fs.length/\iv=.i j/\(zn (down (zl s ms) (s.fs.length+1)) ((List.range s.fs.length).take j) jK).1=true/\zas c wr (zn (down (zl s ms) (s.fs.length+1)) ((List.range s.fs.length).take j) jK).2 v/\Moves c (.l none 0 0) ((w.alloc (.map #[] 0)).alloc (.cells #[(.func (.func 218) #[] #[.pointer (some (aD bm 0)),.pointer (some (aD bs 0))]),.map (some w.heap.size),.l none 0 0] 285)) v wr) (fun iv _=>s.fs.length-(intOf iv).toNat)
 case atStart=>exact⟨0,_,Nat.zero_le _,rfl,rfl,HW.o,Moves.refl _ _ _⟩
 case round=>
  obtain⟨j,v,hj,rfl,hD,hWr,hMr⟩:=hrel;have HWr:=yB hWr hMr;have HD:=hid hD;clear hWr hMr hD
  by_cases hjl:j<s.fs.length
  ·have HTK:Hid ((List.range s.fs.length).take (j+1)=(List.range s.fs.length).take j++[j]):=by
    unfold Hid;rw[tSe (by simpa using hjl)]
    simp
   obtain⟨g,rfl,hgl,hgc⟩:=HIT.o (by omega)
   have hcell:wr.cell? (aD g j)=some (.i (j:Int)):=by
    rw[zic (HWr.o.2.out g (by have:=hb2.size;omega) (by rw[HC.o.2.2.2.2.1];omega) (by rw[HC.o.2.2.2.2.2.1];omega) (by simp[Value.ownBlock]))];exact(hb2.cell (p:=(aD g j)) hgl).trans (hgc j hjl)
   have hjI:(j:Int)<(s.fs.length:Int):=by omega
   have HSX:Hid ((zn (down (zl s ms) (s.fs.length+1)) ((List.range s.fs.length).take j) jK).2.row.length+open' s.fs.length (zn (down (zl s ms) (s.fs.length+1)) ((List.range s.fs.length).take j) jK).2<=6):=by
    have h1:=zgo HRD.o (s.fs.length+1) _ jK (fun a ha=>List.mem_range.1 (List.mem_of_mem_take ha)) HD.o;have h2:=HOP.o jK;have h3:jK.row.length=0:=rfl;have h4:=HN.o
    show _<=_
    omega
   have HDA:Hid (Calls Tryz.prog 237 #[.pointer (some (aD (w.heap.size+1) 0)),.i (j:Int)] wr fun e w'=>∃v',e=.returned (.bool (down (zl s ms) (s.fs.length+1) j (zn (down (zl s ms) (s.fs.length+1)) ((List.range s.fs.length).take j) jK).2).1)/\Bw w0 w'/\((down (zl s ms) (s.fs.length+1) j (zn (down (zl s ms) (s.fs.length+1)) ((List.range s.fs.length).take j) jK).2).1=true->zas c w' (down (zl s ms) (s.fs.length+1) j (zn (down (zl s ms) (s.fs.length+1)) ((List.range s.fs.length).take j) jK).2).2 v'/\Moves c v wr v' w')):=by
    have h:=ztr c HC.o.1 (s.fs.length+1) j (zn (down (zl s ms) (s.fs.length+1)) ((List.range s.fs.length).take j) jK).2 v wr (by rw[HC.o.2.1];exact hjl) (by rw[HC.o.2.1];have:=HOP.o (zn (down (zl s ms) (s.fs.length+1)) ((List.range s.fs.length).take j) jK).2;omega) (by rw[HC.o.2.1];exact HSX.o) HWr.o.1;rw[HC.o.2.1,HC.o.2.2.1,HC.o.2.2.2.1,HC.o.2.2.2.2.1]at h;exact h
   go_wp2_with fail
   refine HDA.o.mono ?_;rintro e w3⟨v3,rfl,hb3,hyes⟩
   by_cases hd:(down (zl s ms) (s.fs.length+1) j (zn (down (zl s ms) (s.fs.length+1)) ((List.range s.fs.length).take j) jK).2).1=true
   ·have HS:Hid ((zn (down (zl s ms) (s.fs.length+1)) ((List.range s.fs.length).take (j+1)) jK)=down (zl s ms) (s.fs.length+1) j (zn (down (zl s ms) (s.fs.length+1)) ((List.range s.fs.length).take j) jK).2):=by unfold Hid;rw[HTK.o,zba,if_pos HD.o]
    have HY:=hid (hyes hd);have HDD:=hid hd;rw[hd];clear hyes hb3 hd hcell hgc HDA;go_wp2
    exact⟨⟨j+1,v3,by omega,by go_num,by rw[HS.o];exact HDD.o,by rw[HS.o];exact HY.o.1,HWr.o.2.trans HY.o.2⟩,zi hjl⟩
   ·have hdf:(down (zl s ms) (s.fs.length+1) j (zn (down (zl s ms) (s.fs.length+1)) ((List.range s.fs.length).take j) jK).2).1=false:=by simpa using hd
    have HF:Hid ((zG (zl s ms) s.fs.length).1=false):=by
     have h1:(zn (down (zl s ms) (s.fs.length+1)) ((List.range s.fs.length).take (j+1)) jK).1=false:=by rw[HTK.o,zba,if_pos HD.o];exact hdf
     have h2:=zc8 (down (zl s ms) (s.fs.length+1)) ((List.range s.fs.length).take (j+1)) ((List.range s.fs.length).drop (j+1)) jK h1;rw[List.take_append_drop]at h2;exact h2
    have HB3:Hid (Bw w0 w3):=hb3;rw[hdf];clear hyes hb3 hd hdf hcell hgc HDA;go_wp2
    go_ret2
    exact⟨_,by rw[HF.o];rfl,HB3.o,fun h=>by rw[HF.o]at h;cases h⟩
  ·have e:j=s.fs.length:=by omega
   have hall:(List.range s.fs.length).take j=List.range s.fs.length:=tOl (by simp;omega);rw[hall]at HWr HD;have HY:Hid ((zG (zl s ms) s.fs.length).1=true):=HD.o;have HWW:Hid (zas c wr (zG (zl s ms) s.fs.length).2 v):=HWr.o.1;have hpc:∀k,wr.cell? (aD (w.heap.size+1) k)=(#[c.fn,.map (some c.mr),v]:AV)[k]?:=by have h:=zbu HWW.o.cells;rw[HC.o.2.2.2.2.1]at h;exact h
   obtain⟨va,vcap,hve⟩:=yY HWW.o.row;subst hve;subst e;clear HWr HD hall;go_wp2
   go_ret2
   refine⟨_,by rw[HY.o];rfl,by have h:=HWW.o.base;rw[HC.o.2.2.2.1]at h;exact h,fun _=>?_⟩;have h:=HWW.o.row;rw[HC.o.2.2.2.2.2.2]at h;exact jU h (by omega)
theorem zsu (k:Nat):zfa (List.range (k+1))=zfa (List.range k)++[.i (k:Int)]:=by simp[zfa,List.range_succ]
theorem ziR (s:Shp)(ms:List Mnd)(ma fa:OA)(mcap fcap:Nat)(w:World)(hm:qQ w ma ms)(hf:yw w fa s.fs)(hl:ms.length<=1048576)(hn:s.fs.length<=6)
 (hrd:∀q,q<s.fs.length->∀x∈yC s ms q,0<=x/\x<s.fs.length) :
 Calls Tryz.prog 174 #[.agg #[.s s.kd,.l fa s.fs.length fcap],.l ma ms.length mcap] w
  fun e w'=>∃v,e=.returned (.tuple #[v,.bool (zG (zl s ms) s.fs.length).1])/\Bw w w'/\((zG (zl s ms) s.fs.length).1=true->w'.ownsRow w.heap.size 3 1 v (zG (zl s ms) s.fs.length).2.row.length (zfa (zG (zl s ms) s.fs.length).2.row)):=by
 obtain⟨i0,hi0,hz0,hz1',hz2⟩:=info_parts Tryz.zdo;have HH:=zkq hm hf hl hn hrd;clear hm hf hl hrd;go_in;go_wp2
 go_loopw [6,11] (fun v0 iv wr=>∃(k:Nat) (v:Value),v=v0/\k<=s.fs.length/\iv=.i k/\wr.ownsRow (w.heap.size+2) 3 1 v k (zfa (List.range k))/\wr.heap[w.heap.size]?=some (.cells #[.s s.kd,.l fa s.fs.length fcap] 130)/\wr.heap[w.heap.size+1]?=some (.cells #[.l ma ms.length mcap] 44)/\Bw w wr) (fun _ iv _=>s.fs.length-(intOf iv).toNat)
 case atStart=>exact⟨0,_,rfl,Nat.zero_le _,rfl,World.ownsRow_nil _ _ _ _,(zK _ _ _).1,(zK _ _ _).2,zo _ _ _⟩
 case round=>
  obtain⟨k,v,hv,hk,rfl,hown,hs,hmm,hB⟩:=hrel;subst hv;have HX:=j3 hown hs hmm hB;have hzz:=(gES hmm).1;clear hown hs hmm hB
  by_cases hlt:k<s.fs.length
  ·have hltI:(k:Int)<(s.fs.length:Int):=by omega
   have hgb:∀g,v.ownBlock=some g->w.heap.size+2<=g:=fun g hg=>(HX.o.1.lt g hg).1
   have HGB:=hid hgb;clear hgb
   go_wp2_with (at_builtin;refine zh3 ?_)
   show wpList _ _ _ _ _ _
   refine wpList_append_own _ rfl (.tmp 14) (.tmp 16) 71 rfl (w.heap.size+2) 3 i0 (.i 0) 1 8 Tryz.underlying71 hi0 hz0 hz1' hz2 rfl (by decide) v _ _ rfl (HX.o.1.alloc _) (aD wr.heap.size 0) 1 1 [.i (k:Int)] rfl rfl (zbA _ _ _) (by intro u hu;simp at hu;subst hu;rfl) (by unfold maxLen;omega) (by omega) (by simp;omega) ?_;intro v' w1 hown' hgr _;obtain⟨va,vcap,rfl⟩:=yY hown';go_wp2_with fail
   refine⟨⟨k+1,_,rfl,by omega,by go_num,by rw[zsu];exact hown',?_,?_,zar HX.o.2.2.2 HX.o.2.2.2.size hgr (fun g hg=>by have:=HGB.o g hg;omega)⟩,zi hlt⟩
   ·exact(zaT hgr (by simp;omega) (fun g hg=>by have:=HGB.o g hg;omega)).trans ((Below.heap_alloc _ _ _ (by omega)).trans HX.o.2.1)
   ·exact(zaT hgr (by simp;omega) (fun g hg=>by have:=HGB.o g hg;omega)).trans ((Below.heap_alloc _ _ _ hzz).trans HX.o.2.2.1)
  ·have e:k=s.fs.length:=by omega
   subst e;obtain⟨va,vcap,rfl⟩:=yY HX.o.1
   have HPL:Hid (zoO wr va s.fs.length):=by
    intro hpos;obtain⟨_,⟨h0,h1⟩|⟨g,cap,cur,h0,h1⟩⟩:=id HX.o.1
    ·omega
    ·cases h0
     refine⟨g,rfl,(HX.o.1.lt g rfl).2,fun q hq=>?_⟩;rw[HX.o.1.cellAt q (by omega)]
     simp[zfa,hq]
   go_wp2_with fail
   refine(zrS s ms w ma fa va mcap fcap vcap (w.heap.size+1) w.heap.size wr HH.o.1 HH.o.2.1 HH.o.2.2.1 HH.o.2.2.2.1 HH.o.2.2.2.2 HX.o.2.2.2 hzz (by omega) (by rw[cell_of_block HX.o.2.2.1];rfl) (fun j=>cell_of_block HX.o.2.1) HPL.o).mono ?_;rintro e w2⟨v2,rfl,hb2,hyes⟩;have HY:Hid (Bw w w2/\((zG (zl s ms) s.fs.length).1=true->w2.ownsRow w.heap.size 3 1 v2 (zG (zl s ms) s.fs.length).2.row.length (zfa (zG (zl s ms) s.fs.length).2.row))):=⟨hb2,fun h=>jU (hyes h) (by omega)⟩
   clear hb2 hyes;go_wp2
   go_ret2
   exact⟨v2,rfl,HY.o⟩
theorem zja (s:BA):(0<qU s/\zaI s=qU s) \/ (¬0<qU s/\zaI s=0):=by
 unfold qU zaI
 by_cases h:zaC s=true
 ·rw[if_pos h,if_pos h]
  have:=zdm s h
  omega
 ·rw[if_neg h,if_neg h]
  omega
theorem zl6 (l:Lw)(la lb lc:OA)(lca lcb lcc:Nat)(o:Ob)(oa oa':OA)(ocap ocap':Nat)(res:BA)(w:World)(hl:qp w l la lb lc)(ho:qY w o oa oa')(hc:¬(zq l.ss o=true/\res.toList.isEmpty=false)) :
 Calls Tryz.prog 131 #[.agg (l.cells la lb lc lca lcb lcc),.agg (oC o oa oa' ocap ocap'),.s res] w fun e w'=>e=.returned (.i (qm l.ss o res))/\Bw w w':=by
 have HL:=hid hl;have HO:=hid ho;have HW:Hid (qm l.ss o res=0):=by unfold Hid qm;rw[if_neg hc]
 have HC:=hid hc;clear hl ho hc;unfold Lw.cells
 by_cases hk:zq l.ss o=true
 ·have he:res.toList.isEmpty=true:=by
   cases h:res.toList.isEmpty with
   | true=>rfl
   | false=>exact absurd ⟨hk,h⟩ HC.o
  have HK:=hid hk;clear hk;go_in;go_wp2_with fail
  refine(zbI _ _ l.ss o _ _ _ _ _ (HL.o.ss.mono (zo _ _ _)) (HO.o.mono (zo _ _ _)) HK.o).mono ?_;rintro e w1⟨fa,fcap,rfl,hfl,hb⟩;have HB1:Hid (Bw w w1):=(zo w _ _).trans (hb.mono (by simp;omega));clear hfl hb;go_wp2
  go_ret;exact⟨zm HW.o.symm,HB1.o⟩
 ·have HK:Hid (zq l.ss o=false):=by unfold Hid;simpa using hk
  clear hk;go_in;go_wp2_with fail
  refine(zdz _ _ l.ss o _ _ _ _ _ (HL.o.ss.mono (zo _ _ _)) (HO.o.mono (zo _ _ _)) HK.o).mono ?_;rintro e w1⟨v,rfl,hb⟩;have HB1:Hid (Bw w w1):=(zo w _ _).trans (hb.mono (by simp;omega));clear hb;go_wp2
  go_ret;exact⟨zm HW.o.symm,HB1.o⟩
theorem zkX (l:Lw)(la lb lc:OA)(lca lcb lcc:Nat)(o:Ob)(oa oa':OA)(ocap ocap':Nat)(res:BA)(w:World)(hl:qp w l la lb lc)(ho:qY w o oa oa')(hc:zq l.ss o=true)(he:res.toList.isEmpty=false)(hlen:o.vs.length<=1048576) :
 Calls Tryz.prog 131 #[.agg (l.cells la lb lc lca lcb lcc),.agg (oC o oa oa' ocap ocap'),.s res] w fun e w'=>e=.returned (.i (qm l.ss o res))/\Bw w w':=by
 have HL:=hid hl;have HO:=hid ho;have HW:Hid (qm l.ss o res=(if res=o.kd then 1 else 0)+zew (shapeOf l.ss o.kd).fs o.vs res (shapeOf l.ss o.kd).fs.length):=by unfold Hid qm;rw[if_pos ⟨hc,he⟩]
 have HC:=hid hc;have HK:Hid (zF l.ss o.kd=true/\o.vs.length=(shapeOf l.ss o.kd).fs.length):=by unfold zq at hc;unfold Hid;simpa using hc
 have HN:=hid hlen;clear hl ho hc hlen;unfold Lw.cells;go_in;go_wp2_with fail
 refine(zbI _ _ l.ss o _ _ _ _ _ (HL.o.ss.mono (zo _ _ _)) (HO.o.mono (zo _ _ _)) HC.o).mono ?_;rintro e w1⟨fa,fcap,rfl,hfl,hb⟩;obtain⟨hX0,hY0⟩:=qB w (lC l la lb lc lca lcb lcc) (oC o oa oa' ocap ocap') 47 116;have hY1:=za hY0 (by simp) hb;have hz1:w.heap.size+1<w1.heap.size:=by have:=hb.size;simp at this;omega
 have HB1:Hid (Bw w w1):=(zo w _ _).trans (hb.mono (by simp;omega));have HFl:=hid (hfl.mono hb);clear hfl hb hX0 hY0;obtain⟨S,HS⟩:∃S,Hid (S=shapeOf l.ss o.kd):=⟨_,rfl⟩
 rw[<- HS.o]at HFl HK HW ⊢;obtain⟨n0,hn0⟩:∃n0:Int,n0=if res=o.kd then 1 else 0:=⟨_,rfl⟩
 have hb0:0<=n0/\n0<=1:=by rw[hn0];split <;> omega
 rw[<- hn0]at HW;have HN0:=hid hn0;clear hn0
 by_cases hk:res=o.kd
 all_goals (
  first
  | (have hq:(res.toList == o.kd.toList)=true:=by rw[beq_toList];simpa using hk)
  | (have hq:(res.toList == o.kd.toList)=false:=by rw[beq_toList];simpa using hk)
  have HKE:=zlk hk;clear hk;go_wp2
  go_loopw [9,10] (fun nv iv wr=>∃(k:Nat) (s:Int),k<=S.fs.length/\iv=.i k/\nv=.i s/\Hid (s=n0+zew S.fs o.vs res k/\Bw w1 wr)) (fun _ iv _=>S.fs.length-(intOf iv).toNat)
  case atStart=>exact⟨0,n0,Nat.zero_le _,rfl,by have:=HN0.o;first|(rw[if_pos HKE.o]at this;rw[this])|(rw[if_neg HKE.o]at this;rw[this]),by simp[zew],bRf _ _⟩
  case round=>
   obtain⟨k,s,hk,rfl,rfl,HQ⟩:=hrel;have hsb:0<=s/\s<=1+k*10000000:=by have h1:=HQ.o.1;have h2:=zdg S.fs o.vs res k;omega
   have hkn:k<=1048576:=by have:=HN.o;have:=HK.o.2;omega
   by_cases hlt:k<S.fs.length
   ·obtain⟨b,off,rfl,hb,hr⟩:=HFl.o.rows (by intro e;rw[e]at hlt;simp at hlt)
    obtain⟨wa,wcap,hf⟩:=hr k hlt;obtain⟨c0,c1,c2,c3,c4,c5,c6,c7,c8,c9,c10⟩:=(hf.mono hb HQ.o.2).load;have hlv:k<o.vs.length:=by have:=HK.o.2;omega
    have hltI:(k:Int)<(S.fs.length:Int):=by omega
    have hlvI:(k:Int)<(o.vs.length:Int):=by omega
    obtain⟨vb,voff,rfl,hvb,hvc0⟩:=HO.o.vals.cells (by intro e;rw[e]at hlv;simp at hlv);have hvc:=((HB1.o.trans (HQ.o.2.mono HB1.o.size)).cell (p:=(aD vb (voff+k))) hvb).trans (hvc0 k hlv);have hvb':=nLt hvb (HB1.o.trans (HQ.o.2.mono HB1.o.size)).size;have hb':=nLt hb HQ.o.2.size;have hY:=za hY1 hz1 HQ.o.2;have hz:=nLt hz1 HQ.o.2.size;have HSt:Hid (zew S.fs o.vs res (k+1)=zew S.fs o.vs res k+yJ S.fs[k] o.vs[k] res):=zrx S.fs o.vs res k hlt hlv;have HVs:Hid (o.vs[k].size<=maxLen):=HO.o.vals.small _ (List.getElem_mem _)
    have hnr:-1<=qU o.vs[k]/\qU o.vs[k]<=10000000:=by
     have h1:=zja o.vs[k];have h2:=zet o.vs[k]
     have h3:qU o.vs[k]=-1 \/ 0<=qU o.vs[k]:=by
      unfold qU;split
      ·rename_i h;exact Or.inr (zdm _ h)
      ·exact Or.inl rfl
     omega
    clear hf hr hvc0 c0 c2 c3 c4 c5 c6 c7 c8 c9;go_wp2_with fail
    refine(zeP o.vs[k] _ HVs.o).mono ?_;rintro e w2⟨rfl,rfl⟩
    by_cases h1:S.fs[k].kd=1
    ·have e1:(S.fs[k].kd == 1)=true:=by simpa using h1
     by_cases h2:S.fs[k].wg=res
     ·have e2:(S.fs[k].wg.toList == res.toList)=true:=by rw[beq_toList];simpa using h2
      have HFw:Hid (yJ S.fs[k] o.vs[k] res=zaI o.vs[k]):=by unfold Hid yJ;rw[if_pos ⟨h1,h2⟩]
      clear h1 h2
      rcases zja o.vs[k] with⟨hp,hd⟩|⟨hp,hd⟩
      ·have HD:=zlk hd
       have hpd:decide (0<qU o.vs[k])=true:=by simpa using hp
       clear hd;go_wp2_with fail
       first
        | exact⟨⟨k+1,s+qU o.vs[k],by omega,by go_num,by go_num,by rw[HSt.o,HFw.o,HQ.o.1,HD.o];omega,HQ.o.2⟩,zi hlt⟩
        | (go_quiet (fail);go_wp2;exact⟨⟨k+1,s+qU o.vs[k],by omega,by go_num,by go_num,by rw[HSt.o,HFw.o,HQ.o.1,HD.o];omega,below_drewN HQ.o.2 _⟩,zi hlt⟩)
      ·have HD:=zlk hd
       have hpd:decide (0<qU o.vs[k])=false:=by simpa using hp
       clear hd;go_wp2_with fail
       first
        | exact⟨⟨k+1,s,by omega,by go_num,rfl,by rw[HSt.o,HFw.o,HQ.o.1,HD.o];omega,HQ.o.2⟩,zi hlt⟩
        | (go_quiet (fail);go_wp2;exact⟨⟨k+1,s,by omega,by go_num,rfl,by rw[HSt.o,HFw.o,HQ.o.1,HD.o];omega,below_drewN HQ.o.2 _⟩,zi hlt⟩)
     ·have e2:(S.fs[k].wg.toList == res.toList)=false:=by rw[beq_toList];simpa using h2
      have HFw:Hid (yJ S.fs[k] o.vs[k] res=0):=by unfold Hid yJ;rw[if_neg (fun h=>h2 h.2)]
      clear h1 h2;go_wp2_with fail
      first
       | exact⟨⟨k+1,s,by omega,by go_num,rfl,by rw[HSt.o,HFw.o,HQ.o.1];omega,HQ.o.2⟩,zi hlt⟩
       | (go_quiet (fail);go_wp2;exact⟨⟨k+1,s,by omega,by go_num,rfl,by rw[HSt.o,HFw.o,HQ.o.1];omega,below_drewN HQ.o.2 _⟩,zi hlt⟩)
    ·have e1:(S.fs[k].kd == 1)=false:=by simpa using h1
     have HFw:Hid (yJ S.fs[k] o.vs[k] res=0):=by unfold Hid yJ;rw[if_neg (fun h=>h1 h.1)]
     clear h1;go_wp2_with fail
     first
      | exact⟨⟨k+1,s,by omega,by go_num,rfl,by rw[HSt.o,HFw.o,HQ.o.1];omega,HQ.o.2⟩,zi hlt⟩
      | (go_quiet (fail);go_wp2;exact⟨⟨k+1,s,by omega,by go_num,rfl,by rw[HSt.o,HFw.o,HQ.o.1];omega,below_drewN HQ.o.2 _⟩,zi hlt⟩)
   ·have e:k=S.fs.length:=by omega
    subst e;have HE:Hid (qm l.ss o res=s):=by unfold Hid;rw[HW.o,HQ.o.1]
    clear hlt hk;go_wp2
    go_ret;exact⟨zm HE.o.symm,HB1.o.trans (HQ.o.2.mono HB1.o.size)⟩)
theorem zfs (l:Lw)(la lb lc:OA)(lca lcb lcc:Nat)(o:Ob)(oa oa':OA)(ocap ocap':Nat)(res:BA)(w:World)(hl:qp w l la lb lc)(ho:qY w o oa oa')(hlen:o.vs.length<=1048576) :
 Calls Tryz.prog 149 #[.agg (l.cells la lb lc lca lcb lcc),.agg (oC o oa oa' ocap ocap'),.s res] w fun e w'=>e=.returned (.i (qm l.ss o res))/\Bw w w':=by
 by_cases hc:zq l.ss o=true/\res.toList.isEmpty=false
 ·exact zkL l la lb lc lca lcb lcc o oa oa' ocap ocap' res w hl ho hc.1 hc.2 hlen
 ·exact zmr l la lb lc lca lcb lcc o oa oa' ocap ocap' res w hl ho hc
theorem zfO (l:Lw)(la lb lc:OA)(lca lcb lcc:Nat)(o:Ob)(oa oa':OA)(ocap ocap':Nat)(res:BA)(w:World)(hl:qp w l la lb lc)(ho:qY w o oa oa')(hlen:o.vs.length<=1048576) :
 Calls Tryz.prog 131 #[.agg (l.cells la lb lc lca lcb lcc),.agg (oC o oa oa' ocap ocap'),.s res] w fun e w'=>e=.returned (.i (qm l.ss o res))/\Bw w w':=by
 by_cases hc:zq l.ss o=true/\res.toList.isEmpty=false
 ·exact zkX l la lb lc lca lcb lcc o oa oa' ocap ocap' res w hl ho hc.1 hc.2 hlen
 ·exact zl6 l la lb lc lca lcb lcc o oa oa' ocap ocap' res w hl ho hc
theorem zs3 (ts:List Tm):(!(ts.any fun t=>!zeN ts t))=up (zgH ts) ts.length:=by
 rw[Bool.eq_iff_iff,zdc];simp only[Bool.not_eq_true',List.any_eq_false]
 constructor
 ·intro h i hi
  have:=h ts[i] (List.getElem_mem hi)
  unfold zgH;rw[getD_at ts i _ hi]
  simpa using this
 ·intro h x hx
  obtain⟨k,hk,rfl⟩:=List.mem_iff_getElem.1 hx
  have:=h k hk
  unfold zgH at this;rw[getD_at ts k _ hk]at this
  simp[this]
theorem zcO (ts:List Tm)(k:Nat)(h:k<ts.length)(b:Bool)(hb:(decide (k=0)||less (ts.getD (k-1) zbp).nm ts[k].nm)=b) :
 qD ts k=(zC ts[k].nm&&b&&(ts[k].ov.toList.isEmpty||yD ts ts[k].ov)):=by
 unfold qD;rw[getD_at ts k _ h,hb]
theorem zjN (a:OA)(cap:Nat)(ts:List Tm)(w:World)(hw:jQ w a ts) :
 Calls Tryz.prog 136 #[.l a ts.length cap] w fun e w'=>e=.returned (.bool (zbP ts))/\Bw w w':=by
 have hl:=hw.len;unfold maxLen at hl
 by_cases h12:ts.length<=12
 rotate_left
 ·have HF:Hid (zbP ts=false):=by simp[Hid,zbP,h12]
  clear hw;go_in;go_wp2
  go_ret;exact⟨ze HF.o.symm,bAl _ _⟩
 have HG:Hid (zbP ts=(up (qD ts) ts.length&&up (zgH ts) ts.length)):=by simp[Hid,zbP,h12]
 have h12I:(ts.length:Int)<=12:=by omega
 go_in;go_wp2_with fail
 have hB00:Bw w (w.alloc (.cells #[.l a ts.length cap] 45)):=bAl _ _;have hX00:=zI w #[.l a ts.length cap] 45;have hz00:w.heap.size<(w.alloc (.cells #[.l a ts.length cap] 45)).heap.size:=by simp
 obtain⟨w0,hw0⟩:=xN (w.alloc (.cells #[.l a ts.length cap] 45));rw[<- hw0]at hB00 hX00 hz00 ⊢;have HW0:Hid (jQ w0 a ts):=hw.mono hB00;have HB00:Hid (Bw w w0):=hB00;clear hw0 hw hB00
 go_loopw [10] (fun i wr=>∃k:Nat,k<=ts.length/\i=.i k/\up (qD ts) k=true/\Bw w0 wr) (fun i _=>ts.length-(intOf i).toNat)
 case atStart=>exact⟨0,Nat.zero_le _,rfl,rfl,bRf _ _⟩
 case round=>
  obtain⟨k,hk,rfl,hup,hB⟩:=hrel;have hsz:=hB.size;have hX:=za hX00 hz00 hB;have hX0:wr.cell? (aD w.heap.size 0)=some (.l a ts.length cap):=hX 0;have hzr:w.heap.size<wr.heap.size:=by omega
  have HBr:Hid (Bw w wr):=HB00.o.trans (hB.mono (by omega));clear hX hX00
  by_cases hlt:k<ts.length
  ·obtain⟨b,off,rfl,hb,c0,c1⟩:=HW0.o.load hB k hlt
   have hbr:b<wr.heap.size:=by omega
   have hsm:=HW0.o.small k hlt;have hsn:=hsm.nm;have HS:Hid (qD ts k=true->up (qD ts) (k+1)=true):=fun h=>by rw[zab,hup,h];rfl
   have HN:Hid (qD ts k=false->zbP ts=false):=fun h=>by rw[HG.o,zbL hlt h];rfl
   have hltI:(k:Int)<(ts.length:Int):=by omega
   have HB:Hid (Bw w0 wr):=hB;clear hup hsm hB
   by_cases hn:zC ts[k].nm=true
   rotate_left
   ·have HNm:Hid (zC ts[k].nm=false):=by simpa[Hid] using hn
    have HF:Hid (qD ts k=false):=by unfold Hid;rw[zcO ts k hlt _ rfl,HNm.o];rfl
    clear hn;go_wp2_with fail
    go_quiet ((go_at_call 175;exact Calls.quiet_of_same (zw HNm.o (zZ _ _ hsn))))
    go_wp2
    go_ret;exact⟨ze (HN.o HF.o).symm,below_drewN (HBr.o.alloc (by omega) _) _⟩
   have HNm:Hid (zC ts[k].nm=true):=hn;clear hn
   by_cases hbad:0<k/\less (ts.getD (k-1) zbp).nm ts[k].nm=false
   ·obtain⟨hkpos,hls⟩:=hbad
    have HF:Hid (qD ts k=false):=by
     unfold Hid;rw[zcO ts k hlt false (by rw[hls,decide_eq_false (show ¬k=0 by omega)];rfl)];simp
    obtain⟨m,rfl⟩:∃m,k=m+1:=⟨k-1,by omega⟩
    rw[Nat.add_sub_cancel,getD_at ts m _ (by omega)]at hls;obtain⟨b',off',e',hb',d0,d1⟩:=HW0.o.load HB.o m (by omega);simp only[Option.some.injEq,Addr.mk.injEq]at e';obtain⟨rfl,rfl,_⟩:=e';have hls':Op.bytesLess ts[m].nm.toList ts[m+1].nm.toList=false:=hls;have hmI:(m:Int)<12:=by omega
    have hm0:(0:Int)<=(m:Int):=by omega
    have hml:(m:Int)<(ts.length:Int):=by omega
    have hmw:IntKind.i64.wrap (m:Int)=m:=by rw[IntKind.wrap_i64];omega
    clear hls;go_wp2_with fail
    go_quiet ((go_at_call 175;exact Calls.quiet_of_same (zw HNm.o (zZ _ _ hsn))))
    go_wp2
    go_ret;exact⟨ze (HN.o HF.o).symm,below_drewN (HBr.o.alloc (by omega) _) _⟩
   have hgd:(decide (k=0)||less (ts.getD (k-1) zbp).nm ts[k].nm)=true:=by
    by_cases hk0:k=0
    ·simp[hk0]
    ·cases hq:less (ts.getD (k-1) zbp).nm ts[k].nm
     ·exact absurd ⟨by omega,hq⟩ hbad
     ·simp
   have HA:Hid (qD ts k=(ts[k].ov.toList.isEmpty||yD ts ts[k].ov)):=by
    unfold Hid;rw[zcO ts k hlt true hgd,HNm.o];rfl
   have hgood:(decide (0<k)=false) \/ (decide (0<k)=true/\∃m,k=m+1/\∃h:m<ts.length,Op.bytesLess ts[m].nm.toList ts[k].nm.toList=true/\wr.cell? (aD b (off+m*2))=some (.s ts[m].nm)):=by
    by_cases hk0:k=0
    ·exact Or.inl (by simp;omega)
    ·refine Or.inr ⟨by simp;omega,k-1,by omega,by omega,?_,?_⟩
     ·rw[decide_eq_false hk0,getD_at ts (k-1) _ (by omega)]at hgd
      exact hgd
     ·obtain⟨b',off',e',hb',d0,d1⟩:=HW0.o.load HB.o (k-1) (by omega)
      simp only[Option.some.injEq,Addr.mk.injEq]at e';obtain⟨rfl,rfl,_⟩:=e';exact d0
   clear hbad hgd;have HBx:Hid (∀(ob:Obj) (n:Nat),Bw wr ((wr.alloc ob).drewN n)):=fun ob n=>below_drewN (bAl _ _) _
   by_cases hov:ts[k].ov.toList.isEmpty=true
   ·have HT:Hid (qD ts k=true):=by unfold Hid;rw[HA.o,hov];rfl
    rcases hgood with hg|⟨hg,m,rfl,hm,hls',d0⟩
    ·go_wp2_with fail
     go_quiet ((go_at_call 175;exact Calls.quiet_of_same (zw HNm.o (zZ _ _ hsn))))
     go_wp2
     exact⟨⟨k+1,by omega,by go_num,HS.o HT.o,HB.o.trans ((HBx.o _ _).mono hsz)⟩,by simp[intOf];omega⟩
    ·have hmI:(m:Int)<12:=by omega
     have hm0:(0:Int)<=(m:Int):=by omega
     have hml:(m:Int)<(ts.length:Int):=by omega
     have hmw:IntKind.i64.wrap (m:Int)=m:=by rw[IntKind.wrap_i64];omega
     go_wp2_with fail
     go_quiet ((go_at_call 175;exact Calls.quiet_of_same (zw HNm.o (zZ _ _ hsn))))
     go_wp2
     exact⟨⟨m+1+1,by omega,by go_num,HS.o HT.o,HB.o.trans ((HBx.o _ _).mono hsz)⟩,by simp[intOf];omega⟩
   ·have hov':ts[k].ov.toList.isEmpty=false:=by simpa using hov
    clear hov
    by_cases hit:yD ts ts[k].ov=true
    ·have HI:Hid (yD ts ts[k].ov=true):=hit
     have HT:Hid (qD ts k=true):=by unfold Hid;rw[HA.o,hit];simp
     clear hit
     rcases hgood with hg|⟨hg,m,rfl,hm,hls',d0⟩
     ·go_wp2_with fail
      go_quiet ((go_at_call 175;exact Calls.quiet_of_same (zw HNm.o (zZ _ _ hsn))))
      go_wp2_with fail
      refine(zw HI.o (zc4 _ _ ts _ _ ((HW0.o.mono HB.o).mono (HBx.o _ _)))).mono ?_;rintro e w3⟨rfl,hb3⟩;have hB3:Bw w0 w3:=(HB.o.trans ((HBx.o _ _).mono hsz)).trans (hb3.mono (by simp;omega));clear hb3;go_wp2
      exact⟨⟨k+1,by omega,by go_num,HS.o HT.o,hB3⟩,by simp[intOf];omega⟩
     ·have hmI:(m:Int)<12:=by omega
      have hm0:(0:Int)<=(m:Int):=by omega
      have hml:(m:Int)<(ts.length:Int):=by omega
      have hmw:IntKind.i64.wrap (m:Int)=m:=by rw[IntKind.wrap_i64];omega
      go_wp2_with fail
      go_quiet ((go_at_call 175;exact Calls.quiet_of_same (zw HNm.o (zZ _ _ hsn))))
      go_wp2_with fail
      refine(zw HI.o (zc4 _ _ ts _ _ ((HW0.o.mono HB.o).mono (HBx.o _ _)))).mono ?_;rintro e w3⟨rfl,hb3⟩;have hB3:Bw w0 w3:=(HB.o.trans ((HBx.o _ _).mono hsz)).trans (hb3.mono (by simp;omega));clear hb3;go_wp2
      exact⟨⟨m+1+1,by omega,by go_num,HS.o HT.o,hB3⟩,by simp[intOf];omega⟩
    ·have HI:Hid (yD ts ts[k].ov=false):=by simpa[Hid] using hit
     have HF:Hid (qD ts k=false):=by unfold Hid;rw[HA.o,HI.o,hov'];rfl
     clear hit
     rcases hgood with hg|⟨hg,m,rfl,hm,hls',d0⟩
     focus
      go_wp2_with fail
     rotate_left
     focus
      have hmI:(m:Int)<12:=by omega
      have hm0:(0:Int)<=(m:Int):=by omega
      have hml:(m:Int)<(ts.length:Int):=by omega
      have hmw:IntKind.i64.wrap (m:Int)=m:=by rw[IntKind.wrap_i64];omega
      go_wp2_with fail
     all_goals
      go_quiet ((go_at_call 175;exact Calls.quiet_of_same (zw HNm.o (zZ _ _ hsn))))
      go_wp2_with fail
      refine(zw HI.o (zc4 _ _ ts _ _ ((HW0.o.mono HB.o).mono (HBx.o _ _)))).mono ?_;rintro e w3⟨rfl,hb3⟩;have hB3:Bw w w3:=(HBr.o.trans ((HBx.o _ _).mono (by omega))).trans (hb3.mono (by simp;omega));clear hb3;go_wp2
      go_ret;exact⟨ze (HN.o HF.o).symm,hB3⟩
  ·have HF:Hid (zbP ts=!(ts.any fun t=>!zeN ts t)):=by
    have e:k=ts.length:=by omega
    subst e;rw[Hid,HG.o,hup,zs3];rfl
   have HWr:Hid (jQ wr a ts):=HW0.o.mono hB;clear hup hB;go_wp2_with fail
   refine(zhM _ _ ts _ _ _ HWr.o (zrW _ _ ts _ _ HWr.o hzr hX0)).mono ?_;rintro e w3⟨rfl,hb3⟩;have hB3:Bw w w3:=HBr.o.trans (hb3.mono (by omega));clear hb3;go_wp2
   go_ret;exact⟨ze HF.o.symm,hB3⟩
theorem zt0 {g:Nat}{ws:List BA}(h:zD w (some (aD g 0)) ws)(hl:Bw w w')(i:Nat)(hi:i<ws.length):g<w.heap.size/\w'.cell? (aD g i)=some (.s ws[i]):=by
 obtain⟨b,off,e,hb,hr⟩:=h.cells (by rintro rfl;simp at hi);simp only[Option.some.injEq,Addr.mk.injEq]at e;obtain⟨rfl,rfl,_⟩:=e;refine⟨hb,?_⟩
 have:=hr i hi
 rw[Nat.zero_add]at this;exact(hl.cell (p:=(aD g i)) hb).trans this
theorem znu {fs:List Fld}(h:yw w a fs)(hl:Bw w w')(i:Nat)(hi:i<fs.length):∃b off fw fc,a=some (aD b off)/\b<w.heap.size/\zf7 w' b (off+i*11) fs[i] fw fc:=by
 obtain⟨b,off,ha,hb,hr⟩:=(h.mono hl).rows (by rintro rfl;simp at hi);obtain⟨b',off',ha',hb',_⟩:=h.rows (by rintro rfl;simp at hi);have e:=ha.symm.trans ha';simp only[Option.some.injEq,Addr.mk.injEq]at e;obtain⟨rfl,rfl,_⟩:=e;obtain⟨fw,fc,hf⟩:=hr i hi;exact⟨b,off,fw,fc,ha,hb',hf⟩
def zbQ (k n:Nat):List Int:=(List.range n).map fun i=>((k+i:Nat):Int)
theorem zcB (k n:Nat):(zbQ k n).length=n:=by simp[zbQ]
theorem zje (k n i:Nat)(h:i<(zbQ k n).length):(zbQ k n)[i]=((k+i:Nat):Int):=by simp[zbQ]
theorem zmb (k:Int)(a:OA)(cap:Nat)(w:World) :
 Calls Tryz.prog 107 #[.l a 0 cap,.i k] w fun e w'=>e=.returned (.i k)/\w'=w:=by
 go_in;go_wp2
 go_loopw [1,5] (fun kv iv wr=>kv=.i k/\iv=.i 0/\wr=w) (fun _ _ _=>0)
 case atStart=>exact⟨rfl,rfl,rfl⟩
 case round=>
  obtain⟨rfl,rfl,rfl⟩:=hrel;go_wp2
  go_ret;exact⟨rfl,rfl⟩
structure Grown (n:Nat)(w:World):Prop where
 size:n<=w.heap.size
theorem Grown.mono (h:Grown n w)(hb:Bw w w'):Grown n w':=⟨Nat.le_trans h.size hb.size⟩
structure Since (w0 w:World):Prop where
 below:Bw w0 w
theorem Since.mono {w0:World}(h:Since w0 w)(hb:Bw w w'):Since w0 w':=⟨h.below.trans (hb.mono h.below.size)⟩
theorem Since.low {w0:World}{B:Nat}(h:Since w0 w)(hb:Below B w w')(hB:w0.heap.size<=B):Since w0 w':=⟨h.below.trans (hb.mono hB)⟩
theorem zn5 (a:OA)(cap:Nat)(n k:Nat)(w:World)(hw:yZ w a (zbQ k n))(hk:0<k)(hn:n<=1048576)(hk2:k<8000000000000000000) :
 Calls Tryz.prog 109 #[.l a n cap,.i k] w fun e w'=>e=.returned (.i ((k+n:Nat):Int))/\w'=w:=by
 have HW:Hid (yZ w a (zbQ k n)):=hw;clear hw;go_in;go_wp2
 go_loopw [1,5] (fun kv iv wr=>∃i:Nat,i<=n/\kv=.i ((k+i:Nat):Int)/\iv=.i i/\wr=w) (fun _ iv _=>n-(intOf iv).toNat)
 case atStart=>exact⟨0,Nat.zero_le _,rfl,rfl,rfl⟩
 case round=>
  obtain⟨i,hi,rfl,rfl,rfl⟩:=hrel
  by_cases hlt:i<n
  ·have hlt':i<(zbQ k n).length:=by rw[zcB];exact hlt
   obtain⟨b,off,rfl,hb,hc⟩:=HW.o.cells (by intro e;rw[e]at hlt';simp at hlt');have hltI:(i:Int)<(n:Int):=by omega
   have hci:=hc i hlt';rw[zje]at hci;have hw1:wrap64 ((k+i:Nat)+1:Int)=((k+(i+1):Nat):Int):=by rw[zx _ ⟨by omega,by omega⟩];omega
   obtain⟨kk,hkk⟩:∃kk:Int,kk=((k+i:Nat):Int):=⟨_,rfl⟩
   rw[<- hkk]at hci hw1 ⊢;have hnn:(kk != kk)=false:=by simp
   clear hkk hc;go_wp2
   go_roundw
   case rel=>exact⟨i+1,by omega,by first|rw[hw1]|rfl,by go_num,trivial⟩
   case measure=>exact zi hlt
  ·have e:i=n:=by omega
   subst e;go_wp2
   go_ret;exact⟨rfl,rfl⟩
theorem zcr {p:Prop}(h:Hid p):p:=h
abbrev Lb:=Nat × Nat × Nat
structure Left (S:Nat->Prop)(w w':World):Prop where
 os:w'.os=w.os
 tape:w'.tape=w.tape
 output:w'.output=w.output
 size:w.heap.size<=w'.heap.size
 out:∀k,k<w.heap.size->¬S k->w'.heap[k]?=w.heap[k]?
theorem Left.refl (S:Nat->Prop)(w:World):Left S w w:=⟨rfl,rfl,rfl,Nat.le_refl _,fun _ _ _=>rfl⟩
theorem Left.trans {a b c:World}(h:Left S a b)(k:Left S b c):Left S a c:=
 ⟨k.os.trans h.os,k.tape.trans h.tape,k.output.trans h.output,Nat.le_trans h.size k.size,fun i hi hS=>(k.out i (nLt hi h.size) hS).trans (h.out i hi hS)⟩
theorem Left.wide {S':Nat->Prop}(h:Left S w w')(hS:∀k,S k->S' k):Left S' w w':=⟨h.os,h.tape,h.output,h.size,fun k hk hn=>h.out k hk fun hs=>hn (hS k hs)⟩
theorem Left.of_below (S:Nat->Prop)(h:Bw w w'):Left S w w':=⟨h.os,h.tape,h.output,h.size,fun k hk _=>h.block k hk⟩
theorem Left.zmv {g:Nat}(h:Marked g (g+1) w w'):Left (fun k=>k=g) w w':=⟨h.os,h.tape,h.output,h.size,fun k hk hn=>h.out k hk (by omega)⟩
theorem Left.set (h:Left S w W)(hb:S b)(o:Nat)(v:Value):Left S w (W.setCell (aD b o) v):=
 ⟨h.os,h.tape,h.output,by have:=h.size;simpa[World.setCell] using this,fun k hk hn=>(Below.heap_setCell _ _ _ _ (by show k≠b;rintro rfl;exact hn hb)).trans (h.out k hk hn)⟩
theorem Left.below {B:Nat}(h:Left S w w')(hS:∀k,k<B->¬S k)(hB:B<=w.heap.size):Below B w w':=⟨h.os,h.tape,h.output,h.size,fun k hk=>h.out k (by omega) (hS k hk)⟩
theorem zk.left {ws:List BA}(h:zk lo w a ws)(hl:Left S w w')(hn:∀g,a=some g->¬S g.block):zk lo w' a ws:=by
 rcases h with⟨rfl,rfl⟩|⟨g,C,rfl,hg,hh,hc⟩
 ·exact Or.inl ⟨rfl,rfl⟩
 ·exact Or.inr ⟨g,C,rfl,hg,(hl.out g (gES hh).1 (hn _ rfl)).trans hh,hc⟩
def z8 (lo:Nat)(w:World)(a:OA)(xs:List Int):Prop:=
 (a=none/\xs=[]) \/ ∃g C,a=some (aD g 0)/\lo<=g/\w.heap[g]?=some (.cells C 3)/\∀i (h:i<xs.length),C[i]?=some (.i xs[i])
theorem z8.left (h:z8 lo w a xs)(hl:Left S w w')(hn:∀g,a=some g->¬S g.block):z8 lo w' a xs:=by
 rcases h with⟨rfl,rfl⟩|⟨g,C,rfl,hg,hh,hc⟩
 ·exact Or.inl ⟨rfl,rfl⟩
 ·exact Or.inr ⟨g,C,rfl,hg,(hl.out g (gES hh).1 (hn _ rfl)).trans hh,hc⟩
theorem z8.lt (h:z8 lo w a xs):∀g,a=some g->g.block<w.heap.size:=by
 rintro g rfl
 rcases h with⟨h0,_⟩|⟨g',C,h0,_,hh,_⟩
 ·cases h0
 ·cases h0;exact(gES hh).1
theorem z8.at (h:z8 lo w a xs)(hl:xs.length<=maxLen):yZ w a xs:=by
 refine⟨hl,fun hne=>?_⟩
 rcases h with⟨_,rfl⟩|⟨g,C,rfl,_,hh,hc⟩
 ·exact absurd rfl hne
 ·refine⟨g,0,rfl,(gES hh).1,fun i hi=>?_⟩
  rw[cell_of_block hh,Nat.zero_add];exact hc i hi
theorem z8.low {lo':Nat}(h:z8 lo w a xs)(hl:lo'<=lo):z8 lo' w a xs:=by
 rcases h with⟨rfl,rfl⟩|⟨g,C,rfl,hg,hh,hc⟩
 ·exact Or.inl ⟨rfl,rfl⟩
 ·exact Or.inr ⟨g,C,rfl,Nat.le_trans hl hg,hh,hc⟩
theorem z8.zbC (h:w.ownsRow lo 3 1 v xs.length (ints xs)):∃a cap,v=.l a xs.length cap/\z8 lo w a xs:=by
 obtain⟨_,⟨rfl,h0⟩|⟨g,cap,cur,rfl,hg,hh,_,_,_,ht⟩⟩:=h
 ·exact⟨none,0,by rw[h0],Or.inl ⟨rfl,List.length_eq_zero_iff.1 h0⟩⟩
 ·refine⟨some (aD g 0),cap,rfl,Or.inr ⟨g,cur,rfl,hg,hh,fun i hi=>?_⟩⟩
  have h1:(cur.toList.take (xs.length*1))[i]?=(ints xs)[i]?:=by rw[ht]
  rw[List.getElem?_take_of_lt (by omega)]at h1;unfold ints at h1;rw[List.getElem?_map,List.getElem?_eq_getElem hi]at h1
  simpa using h1
theorem z8.setCell (h:z8 lo w a xs)(p:Addr)(hp:p.block<lo)(v:Value):z8 lo (w.setCell p v) a xs:=by
 rcases h with⟨rfl,rfl⟩|⟨g,C,rfl,hg,hh,hc⟩
 ·exact Or.inl ⟨rfl,rfl⟩
 ·exact Or.inr ⟨g,C,rfl,hg,(Below.heap_setCell _ _ _ _ (by omega)).trans hh,hc⟩
structure jh (W:World)(bo:Nat)(T:TypeId)(C:AV)(n i:Nat)(D:AV):Prop where
 ex:∃C':AV,W.heap[bo]?=some (.cells C' T)/\C'.size=C.size/\(∀q,(q<i*n \/ i*n+n<=q)->C'[q]?=C[q]?)/\∀j,j<n->C'[i*n+j]?=D[j]?
theorem jh.cell (h:jh W bo T C n i D)(j:Nat)(hj:j<n):W.cell? (aD bo (i*n+j))=D[j]?:=by
 obtain⟨C',hC,_,_,hd⟩:=h.ex;rw[cell_of_block hC];exact hd j hj
theorem jh.fz (h:jh W bo T C n i D)(o:Nat):W.frozen? (aD bo o)=false:=by
 obtain⟨C',hC,_⟩:=h.ex;exact zf hC
theorem jh.lt (h:jh W bo T C n i D):bo<W.heap.size:=by
 obtain⟨C',hC,_⟩:=h.ex;exact(gES hC).1
theorem jh.left {W':World}(h:jh W bo T C n i D)(hl:Left S W W')(hn:¬S bo):jh W' bo T C n i D:=by
 obtain⟨C',hC,h1⟩:=h.ex;exact⟨C',(hl.out bo h.lt hn).trans hC,h1⟩
theorem jh.below {W':World}(h:jh W bo T C n i D)(hb:Bw W W'):jh W' bo T C n i D:=h.left (Left.of_below (fun _=>False) hb) (fun h=>h)
theorem jh.set (h:jh W bo T C n i D)(j:Nat)(v:Value)(hj:j<n)(hs:i*n+n<=C.size)(hd:D.size=n):jh (W.setCell (aD bo (i*n+j)) v) bo T C n i (D.setIfInBounds j v):=by
 obtain⟨C',hC,h1,h2,h3⟩:=h.ex;refine⟨C'.setIfInBounds (i*n+j) v,zh hC _,by simpa using h1,fun q hq=>?_,fun q hq=>?_⟩
 ·rw[Array.getElem?_setIfInBounds_ne (by omega)];exact h2 q hq
 ·by_cases e:q=j
  ·subst e
   rw[Array.getElem?_setIfInBounds_self_of_lt (by omega),Array.getElem?_setIfInBounds_self_of_lt (by omega)]
  ·rw[Array.getElem?_setIfInBounds_ne (by omega),Array.getElem?_setIfInBounds_ne (by omega)];exact h3 q hq
theorem jh.new (h:W.heap[bo]?=some (.cells C T))(hd:∀j,j<n->C[i*n+j]?=D[j]?):jh W bo T C n i D:=⟨C,h,rfl,fun _ _=>rfl,hd⟩
structure Mid (own:Nat->Lb)(lo bo:Nat)(T:TypeId)(C:AV)(n i L:Nat)(wr W:World)(D:AV)(a0 a1 a2:OA)(s0 s1:List BA)(s2:List Int):Prop where
 row:jh W bo T C n i D
 sz:D.size=n
 left:Left (fun q=>own q=(L,0,0) \/ own q=(L,i,1) \/ own q=(L,i,2) \/ own q=(L,i,3)) wr W
 bo:own bo=(L,0,0)
 t0:zk lo W a0 s0
 o0:∀g,a0=some g->own g.block=(L,i,1)
 t1:zk lo W a1 s1
 o1:∀g,a1=some g->own g.block=(L,i,2)
 t2:z8 lo W a2 s2
 o2:∀g,a2=some g->own g.block=(L,i,3)
section
variable {own:Nat->Lb} {lo bo:Nat} {T:TypeId} {C:AV} {n i L:Nat} {wr W W':World} {D:AV} {a0 a1 a2:OA} {s0 s1:List BA} {s2:List Int}
theorem Mid.below (h:Mid own lo bo T C n i L wr W D a0 a1 a2 s0 s1 s2)(hb:Bw W W'):Mid own lo bo T C n i L wr W' D a0 a1 a2 s0 s1 s2:=
 ⟨h.row.below hb,h.sz,h.left.trans (Left.of_below _ hb),h.bo,h.t0.mono hb,h.o0,h.t1.mono hb,h.o1,h.t2.left (Left.of_below (fun _=>False) hb) (fun _ _ h=>h),h.o2⟩
theorem zh6 {x y L k:Nat}(h:own x=(L,j,k+1))(h':own y=(L,0,0)):x≠y:=by rintro rfl;rw[h]at h';simp at h'
theorem zfZ {x y L k k':Nat}(h:own x=(L,j,k))(h':own y=(L,j,k'))(hk:k≠k'):x≠y:=by rintro rfl;rw[h]at h';simp at h';exact hk h'
theorem Mid.set (h:Mid own lo bo T C n i L wr W D a0 a1 a2 s0 s1 s2)(j:Nat)(v:Value)(hj:j<n)(hs:i*n+n<=C.size):Mid own lo bo T C n i L wr (W.setCell (aD bo (i*n+j)) v) (D.setIfInBounds j v) a0 a1 a2 s0 s1 s2:=by
 have hl:=(Left.refl (fun q=>q=bo) W).set (b:=bo) rfl (i*n+j) v;exact⟨h.row.set j v hj hs h.sz,by simpa using h.sz,h.left.set (Or.inl h.bo) _ _,h.bo,h.t0.left hl (fun g hg=>zh6 (h.o0 g hg) h.bo),h.o0,h.t1.left hl (fun g hg=>zh6 (h.o1 g hg) h.bo),h.o1,h.t2.left hl (fun g hg=>zh6 (h.o2 g hg) h.bo),h.o2⟩
theorem Mid.ex (h:Mid own lo bo T C n i L wr W D a0 a1 a2 s0 s1 s2)(j:Nat)(hj:j<n):∃u,W.cell? (aD bo (i*n+j))=some u:=⟨D[j]'(by rw[h.sz];exact hj),(h.row.cell j hj).trans (Array.getElem?_eq_getElem _)⟩
theorem Mid.l0 (h:Mid own lo bo T C n i L wr W D a0 a1 a2 s0 s1 s2){s:List BA}(ho:zk lo W' a0 s)(hl:Left (fun q=>∃g,a0=some g/\q=g.block) W W'):Mid own lo bo T C n i L wr W' D a0 a1 a2 s s1 s2:=
 ⟨h.row.left hl (fun⟨g,hg,e⟩=>zh6 (h.o0 g hg) h.bo e.symm),h.sz,h.left.trans (hl.wide fun q ⟨g,hg,e⟩=>Or.inr (Or.inl (e ▸ h.o0 g hg))),h.bo,ho,h.o0,h.t1.left hl (fun g hg ⟨g1,h1,e⟩=>zfZ (h.o1 g hg) (h.o0 g1 h1) (by omega) e),h.o1,h.t2.left hl (fun g hg ⟨g1,h1,e⟩=>zfZ (h.o2 g hg) (h.o0 g1 h1) (by omega) e),h.o2⟩
theorem Mid.l1 (h:Mid own lo bo T C n i L wr W D a0 a1 a2 s0 s1 s2){s:List BA}(ho:zk lo W' a1 s)(hl:Left (fun q=>∃g,a1=some g/\q=g.block) W W'):Mid own lo bo T C n i L wr W' D a0 a1 a2 s0 s s2:=
 ⟨h.row.left hl (fun⟨g,hg,e⟩=>zh6 (h.o1 g hg) h.bo e.symm),h.sz,h.left.trans (hl.wide fun q ⟨g,hg,e⟩=>Or.inr (Or.inr (Or.inl (e ▸ h.o1 g hg)))),h.bo,h.t0.left hl (fun g hg ⟨g1,h1,e⟩=>zfZ (h.o0 g hg) (h.o1 g1 h1) (by omega) e),h.o0,ho,h.o1,h.t2.left hl (fun g hg ⟨g1,h1,e⟩=>zfZ (h.o2 g hg) (h.o1 g1 h1) (by omega) e),h.o2⟩
theorem Mid.l2 (h:Mid own lo bo T C n i L wr W D a0 a1 a2 s0 s1 s2){s:List Int}(ho:z8 lo W' a2 s)(hl:Left (fun q=>∃g,a2=some g/\q=g.block) W W'):Mid own lo bo T C n i L wr W' D a0 a1 a2 s0 s1 s:=
 ⟨h.row.left hl (fun⟨g,hg,e⟩=>zh6 (h.o2 g hg) h.bo e.symm),h.sz,h.left.trans (hl.wide fun q ⟨g,hg,e⟩=>Or.inr (Or.inr (Or.inr (e ▸ h.o2 g hg)))),h.bo,h.t0.left hl (fun g hg ⟨g1,h1,e⟩=>zfZ (h.o0 g hg) (h.o2 g1 h1) (by omega) e),h.o0,h.t1.left hl (fun g hg ⟨g1,h1,e⟩=>zfZ (h.o1 g hg) (h.o2 g1 h1) (by omega) e),h.o1,ho,h.o2⟩
end
def mkT (k:Int):BA:=zaJ k.toNat
theorem yG (k:Int)(w:World)(hk:0<k)(hk2:k<9000000000000000000) :
 Calls Tryz.prog 104 #[.i k] w fun e w'=>e=.returned (.s (mkT k))/\Bw w w':=by
 obtain⟨m,rfl⟩:∃m:Nat,k=m:=⟨k.toNat,by omega⟩
 exact zcJ m w (by omega) (by omega)
def zmg (k:Int)(n:Nat):List BA:=zcu k.toNat n
def zsW (k:Int)(n:Nat):List Int:=zbQ k.toNat n
theorem zbw (k:Int)(n:Nat):(zmg k n).length=n:=ze7 _ _
theorem zdC (k:Int)(n:Nat):(zsW k n).length=n:=zcB _ _
theorem zhP (lo cap:Nat)(a:OA)(vs:List BA)(k:Int)(w:World)(h:zk lo w a vs)(hk:0<k)(hkn:k+vs.length<9000000000000000000) :
 Calls Tryz.prog 106 #[.l a vs.length cap,.i k] w fun e w'=>∃k',e=.returned (.i k')/\k'=k+vs.length/\zk lo w' a (zmg k vs.length)/\Left (fun q=>∃g,a=some g/\q=g.block) w w':=by
 obtain⟨m,rfl⟩:∃m:Nat,k=m:=⟨k.toNat,by omega⟩
 refine(zjs lo cap a vs m w h (by omega) (by omega)).mono ?_;rintro e w'⟨rfl,h1,_,h3,h4⟩;refine⟨_,rfl,by omega,h1,?_⟩
 rcases a with _|g
 ·rw[h3 rfl];exact Left.refl _ _
 ·exact(Left.zmv (h4 g rfl)).wide fun k hk=>⟨g,rfl,hk⟩
theorem zsF (lo cap:Nat)(a:OA)(vs:List Int)(k:Int)(w:World)(h:z8 lo w a vs)(hk:0<k)(hkn:k+vs.length<9000000000000000000) :
 Calls Tryz.prog 107 #[.l a vs.length cap,.i k] w fun e w'=>∃k',e=.returned (.i k')/\k'=k+vs.length/\z8 lo w' a (zsW k vs.length)/\Left (fun q=>∃g,a=some g/\q=g.block) w w':=by
 obtain⟨m,rfl⟩:∃m:Nat,k=m:=⟨k.toNat,by omega⟩
 rcases h with⟨rfl,rfl⟩|⟨g,C,rfl,hg,hh,hc⟩
 ·refine(zmb (m:Int) none cap w).mono ?_
  rintro e w'⟨rfl,rfl⟩;exact⟨_,rfl,by simp,Or.inl ⟨rfl,rfl⟩,Left.refl _ _⟩
 ·have hs:vs.length<=C.size:=by
   rcases Nat.lt_or_ge C.size vs.length with hlt|hge
   ·have:=hc C.size hlt
    rw[Array.getElem?_eq_none (Nat.le_refl _)]at this;cases this
   ·exact hge
  refine(zhx g vs.length cap C m w hh hs (fun i hi a' m' c he=>by rw[hc i hi]at he;cases he) (by omega) (by omega)).mono ?_;rintro e w'⟨rfl,hM,C',hC',_,hc'⟩;refine⟨_,rfl,by omega,Or.inr ⟨g,C',rfl,hg,hC',fun i hi=>?_⟩,(Left.zmv hM).wide fun k hk=>⟨_,rfl,hk⟩⟩;rw[zdC]at hi;rw[hc' i hi];exact congrArg (fun z=>some (Value.i z)) (zje m vs.length i (by rw[zcB];exact hi)).symm
theorem zq5 (d:Nat):∀(n:Nat) (acc:BA),n<10 ^ d->(digits n acc).size<=acc.size+d:=by
 induction d with
 | zero=>
  intro n acc h;have e:n=0:=by simpa using h
  rw[e,zfF];omega
 | succ d ih=>
  intro n acc h
  by_cases e:n=0
  ·rw[e,zfF];omega
  ·rw[zkm (by omega)]
   have h1:=ih (n / 10) (zc1 (n % 10)++acc) (by rw[Nat.pow_succ]at h;omega);rw[ByteArray.size_append]at h1;have h2:(zc1 (n % 10)).size=1:=rfl;omega
theorem zkj (k:Int)(n:Nat)(h0:0<k)(h:k+n<9000000000000000000):∀s∈zmg k n,s.size<=maxLen:=by
 intro s hs;unfold zmg zcu at hs;obtain⟨i,hi,rfl⟩:=List.mem_map.1 hs;have hi':=List.mem_range.1 hi;have h1:=zq5 19 (k.toNat+i) ByteArray.empty (zrN (by omega));unfold zaJ;rw[ByteArray.size_append];have h2:(ByteArray.mk #[109]).size=1:=rfl;have h3:ByteArray.empty.size=0:=rfl;unfold maxLen;omega
theorem zgX (a:OA)(cap n:Nat)(k:Int)(w:World)(h:zD w a (zmg k n))(hk:0<k)(hkn:k+n<9000000000000000000) :
 Calls Tryz.prog 108 #[.l a n cap,.i k] w fun e w'=>∃k',e=.returned (.i k')/\k'=k+n/\Bw w w':=by
 obtain⟨m,rfl⟩:∃m:Nat,k=m:=⟨k.toNat,by omega⟩
 have h1:=zjx a cap (zmg m n) m w h (by omega) (by rw[zbw];omega) (fun i hi=>ziZ _ _ _ hi);rw[zbw]at h1;exact h1.mono fun e w' ⟨h2,h3⟩=>⟨_,h2,by omega,h3⟩
theorem zrY (a:OA)(cap n:Nat)(k:Int)(w:World)(h:yZ w a (zsW k n))(hn:n<=1048576)(hk:0<k)(hkn:k<8000000000000000000) :
 Calls Tryz.prog 109 #[.l a n cap,.i k] w fun e w'=>∃k',e=.returned (.i k')/\k'=k+n/\Bw w w':=by
 obtain⟨m,rfl⟩:∃m:Nat,k=m:=⟨k.toNat,by omega⟩
 refine(zn5 a cap n m w h (by omega) hn (by omega)).mono ?_;rintro e w'⟨rfl,rfl⟩;exact⟨_,rfl,by omega,bRf _ _⟩
structure zaO (lo hi:Nat)(w:World)(bo:Nat)(ms:List Tm):Prop where
 low:lo<=bo
 high:bo<hi
 rows:∃C,w.heap[bo]?=some (.cells C 134)/\C.size=ms.length*2/\∀i,i<ms.length->(∀j,j<2->zaZ C (i*2+j))
theorem zaO.mono {ms:List Tm}(h:zaO lo hi w b ms)(hM:Marked lo hi w w'):zaO lo hi w' b ms:=by
 obtain⟨C,hC,hs,hn⟩:=h.rows;obtain⟨C',hC',hs',hk⟩:=hM.inn b C _ h.low h.high hC;refine⟨h.low,h.high,C',hC',by omega,fun i hi=>?_⟩;have h0:=hn i hi;exact fun j hj a m c he=>h0 j hj a m c ((hk _ a m c).1 he)
theorem zaq.form {ms:List Tm}(h:zaq 134 lo w bo ms ms.length):zaO lo w.heap.size w bo ms:=by
 obtain⟨C,hC,hsz,hr⟩:=h.rows;refine⟨h.low,(gES hC).1,C,hC,hsz,fun i hi j hj a n c he=>?_⟩;rw[hr i hi hi j hj]at he
 rcases j with _|_|j <;> first|omega|(simp[Tm.cells]at he)
theorem zaO.ready {ms:List Tm}(h:zaO lo hi w bo ms)(hM:Marked lo hi w W)(i:Nat)(hi':i<ms.length) :
 (∀j,j<2->∃v,W.cell? (aD bo (i*2+j))=some v)/\(∀o,W.frozen? (aD bo o)=false):=by
 have h':=h.mono hM;obtain⟨C,hC,hs,hn⟩:=h'.rows;exact⟨fun j hj=>⟨C[i*2+j]'(by omega),by rw[cell_of_block hC];exact Array.getElem?_eq_getElem (by omega)⟩,fun o=>zf hC⟩
theorem zaO.put {ms:List Tm}(h:zaO lo hi w bo ms)(hM:Marked lo hi w W)(i j:Nat)(hi':i<ms.length)(hj:j<2)(v:Value)(hv:∀a n c,v≠Value.slice a n c):Marked lo hi w (W.setCell (aD bo (i*2+j)) v):=by
 obtain⟨C,hC,hs,hn⟩:=h.rows;exact hM.put h.low h.high hC (hn i hi' j hj) v hv
theorem zhw (lo hi bo cap:Nat)(ms:List Tm)(k:Int)(w:World)(h:zaO lo hi w bo ms)(hl:ms.length<=1048576)(hk:0<k)(hk2:k<5000000000000000000) :
 Calls Tryz.prog 46 #[.l (some (aD bo 0)) ms.length cap,.i k] w fun e w'=>∃k',e=.returned (.i k')/\k<=k'/\k'<=k+ms.length*2/\Marked lo hi w w':=by
 have HF:Hid (zaO lo hi w bo ms):=h;have HL:Hid (ms.length<=1048576):=hl;have HK:Hid (0<k/\k<5000000000000000000):=⟨hk,hk2⟩
 clear h hl hk hk2;go_in;go_wp2
 go_loopw [1,5] (fun kv iv wr=>∃(i:Nat) (kk:Int),i<=ms.length/\kv=.i kk/\iv=.i i/\k<=kk/\kk<=k+i*2/\Marked lo hi w wr) (fun _ iv _=>ms.length-(intOf iv).toNat)
 case atStart=>exact⟨0,k,Nat.zero_le _,rfl,rfl,Int.le_refl _,by simp,Marked.refl _ _ _⟩
 case round=>
  obtain⟨i,kk,hile,rfl,rfl,h1,h2,hM⟩:=hrel
  by_cases hlt:i<ms.length
  ·have hltI:(i:Int)<(ms.length:Int):=by omega
   have HB:Hid (0<kk/\kk<7000000000000000000/\kk<=k+i*2/\k<=kk):=by have a:=HK.o;have b:=HL.o;exact⟨by omega,by omega,h2,h1⟩
   have HM:Hid (Marked lo hi w wr):=hM;clear h1 h2 hM;go_wp2_with fail
   refine(zP _ _ (by have a0:=HB.o;omega) (by have a0:=HB.o;omega)).mono ?_;rintro e wm1⟨s1,rfl,hb⟩;have HM1:Hid (Marked lo hi w wm1):=(HM.o).trans (Marked.of_below hb);clear hb;obtain⟨hex,hfz1⟩:=HF.o.ready (HM1.o) i hlt;obtain⟨v1,hv1⟩:=hex 0 (by omega);rw[Nat.add_zero]at hv1;clear hex;have HP1_0:Hid (Marked lo hi w (wm1.setCell (aD bo (i*2)) (.s s1))):=HF.o.put (HM1.o) i 0 hlt (by omega)  (.s s1) (fun _ _ _ h=>by cases h);have hw1:wrap64 (kk+1)=kk+1:=zx _ ⟨by have a0:=HB.o;omega,by have a0:=HB.o;omega⟩;go_wp2_with fail
   clear hfz1 hv1;refine(zP _ _ (by have a0:=HB.o;omega) (by have a0:=HB.o;omega)).mono ?_;rintro e wm2⟨s2,rfl,hb⟩;have HM2:Hid (Marked lo hi w wm2):=(HP1_0.o).trans (Marked.of_below hb);clear hb;obtain⟨hex,hfz2⟩:=HF.o.ready (HM2.o) i hlt;obtain⟨v2,hv2⟩:=hex 1 (by omega);clear hex;have HP2_1:Hid (Marked lo hi w (wm2.setCell (aD bo (i*2+1)) (.s s2))):=HF.o.put (HM2.o) i 1 hlt (by omega)  (.s s2) (fun _ _ _ h=>by cases h);have hw2:wrap64 (kk+1+1)=kk+1+1:=zx _ ⟨by have a0:=HB.o;omega,by have a0:=HB.o;omega⟩;go_wp2
   go_roundw
   case rel=>exact⟨i+1,kk+1+1,by omega,by first|rfl|rw[hw2],by rw[wrap_one (by have:=HL.o;omega)],by have a0:=HB.o;omega,by have a0:=HB.o;omega,HP2_1.o⟩
   case measure=>exact yO hlt (by have:=HL.o;omega)
  ·have e:i=ms.length:=by omega
   subst e;go_wp2
   go_ret;exact⟨kk,rfl,h1,h2,hM⟩
end Go.Proofs.YtjnpjkigofldlaaGreat
