import Derived.WalkSpells
import Derived.WalkLawsBesides
import Derived.Maps.AppendAt
import Derived.Test.YthdfpinbnncghaaGreatM02
import Derived.Test.YthdfpinbnncghaaGreatM03
import Derived.SliceStrings
import Derived.Deep.QuietTactic
import Derived.BigQuiet
set_option maxHeartbeats 1000000
namespace Go.Proofs.YthdfpinbnncghaaGreat
open Go.RowKit
theorem zM (n lo hi:Int)(w:World) :
 Calls Tryz.prog 57 #[.i n,.i lo,.i hi] w fun e w'=>e=.returned (.bool (decide (lo<=n)&&decide (n<=hi)))/\w'=w:=by
 go_enter Tryz.func57,Tryz.ntmps57
 go_wp2
 all_goals
  go_ret;refine⟨ze ?_,rfl⟩
  simp;try omega
theorem zbJ (n lo hi:Int)(w:World)(h1:lo<=n)(h2:n<=hi) :
 Calls Tryz.prog 57 #[.i n,.i lo,.i hi] w fun e w'=>e=.returned (.bool true)/\w'=w:=by
 refine(zM n lo hi w).mono ?_;rintro e w'⟨rfl,rfl⟩;exact⟨ze (by simp;omega),rfl⟩
theorem zdG (n lo hi:Int)(w:World)(h1:¬(lo<=n/\n<=hi)) :
 Calls Tryz.prog 57 #[.i n,.i lo,.i hi] w fun e w'=>e=.returned (.bool false)/\w'=w:=by
 refine(zM n lo hi w).mono ?_;rintro e w'⟨rfl,rfl⟩;exact⟨ze (by simp;omega),rfl⟩
theorem zid (c:UInt8)(w:World) :
 Calls Tryz.prog 241 #[.int .u8 c.toNat] w fun e w'=>e=.returned (.bool (digit c))/\w'=w:=by
 go_enter Tryz.func241,Tryz.ntmps241
 go_wp2
 all_goals
  go_ret;refine⟨ze ?_,rfl⟩;rw[Bool.eq_iff_iff];simp[digit];try omega
theorem zin (c:UInt8)(w:World)(h:48<=(c.toNat:Int))(h2:(c.toNat:Int)<=57) :
 Calls Tryz.prog 241 #[.int .u8 c.toNat] w fun e w'=>e=.returned (.bool true)/\w'=w:=by
 refine(zid c w).mono ?_;rintro e w'⟨rfl,rfl⟩;exact⟨ze (by simp[digit];omega),rfl⟩
theorem zda (c:UInt8)(w:World)(h:¬(48<=(c.toNat:Int)/\(c.toNat:Int)<=57)) :
 Calls Tryz.prog 241 #[.int .u8 c.toNat] w fun e w'=>e=.returned (.bool false)/\w'=w:=by
 refine(zid c w).mono ?_;rintro e w'⟨rfl,rfl⟩;exact⟨ze (by simp[digit];omega),rfl⟩
structure Fld where
 nm:BA
 kd:Int
 ls:Int
 ms:Int
 ws:List BA
 to:BA
 rl:Int
 mu:Bool
 fx:Bool
 df:BA
 wg:BA
structure Shp where
 kd:BA
 fs:List Fld
def Fld.cells (f:Fld)(a:OA)(cap:Nat):AV:=
 #[.s f.nm, .i f.kd, .i f.ls, .i f.ms, .l a f.ws.length cap, .s f.to, .i f.rl, .bool f.mu, .bool f.fx, .s f.df, .s f.wg]
structure Fld.Small (f:Fld):Prop where
 nm:f.nm.size<=maxLen
 to:f.to.size<=maxLen
 df:f.df.size<=maxLen
 wg:f.wg.size<=maxLen
structure zeX (w:World)(b off:Nat)(f:Fld)(a:OA)(cap:Nat):Prop where
 small:f.Small
 strs:zJ w a f.ws
 cell:∀j,j<11->w.cell? (aD b (off+j))=(f.cells a cap)[j]?
structure yj (w:World)(a:OA)(fs:List Fld):Prop where
 len:fs.length<=maxLen
 rows:fs≠[]->∃b off,a=some (aD b off)/\b<w.heap.size/\∀i (h:i<fs.length),∃wa wcap,zeX w b (off+i*11) fs[i] wa wcap
structure zl2 (w:World)(b off:Nat)(s:Shp)(a:OA)(cap:Nat):Prop where
 small:s.kd.size<=maxLen
 flds:yj w a s.fs
 kind:w.cell? (aD b off)=some (.s s.kd)
 list:w.cell? (aD b (off+1))=some (.l a s.fs.length cap)
structure yR (w:World)(a:OA)(ss:List Shp):Prop where
 len:ss.length<=maxLen
 rows:ss≠[]->∃b off,a=some (aD b off)/\b<w.heap.size/\∀i (h:i<ss.length),∃fa fcap,zl2 w b (off+i*2) ss[i] fa fcap
theorem zeX.mono {w w':World}{b off:Nat}{f:Fld}{a:OA}{cap:Nat}(h:zeX w b off f a cap)(hb:b<w.heap.size)(hl:Bw w w'):zeX w' b off f a cap:=
 ⟨h.small,h.strs.mono hl,fun j hj=>(hl.cell (p:=(aD b (off+j))) hb).trans (h.cell j hj)⟩
theorem yj.mono {w w':World}{a:OA}{fs:List Fld}(h:yj w a fs)(hl:Bw w w'):yj w' a fs:=
 ⟨h.len,fun hne=>by
  obtain⟨b,off,ha,hb,hr⟩:=h.rows hne;refine⟨b,off,ha,nLt hb hl.size,fun i hi=>?_⟩;obtain⟨wa,wcap,hf⟩:=hr i hi;exact⟨wa,wcap,hf.mono hb hl⟩⟩
theorem zl2.mono {w w':World}{b off:Nat}{s:Shp}{a:OA}{cap:Nat}(h:zl2 w b off s a cap)(hb:b<w.heap.size)(hl:Bw w w'):zl2 w' b off s a cap:=
 ⟨h.small,h.flds.mono hl,(hl.cell (p:=(aD b off)) hb).trans h.kind,(hl.cell (p:=(aD b (off+1))) hb).trans h.list⟩
theorem yR.mono {w w':World}{a:OA}{ss:List Shp}(h:yR w a ss)(hl:Bw w w'):yR w' a ss:=
 ⟨h.len,fun hne=>by
  obtain⟨b,off,ha,hb,hr⟩:=h.rows hne;refine⟨b,off,ha,nLt hb hl.size,fun i hi=>?_⟩;obtain⟨fa,fcap,hs⟩:=hr i hi;exact⟨fa,fcap,hs.mono hb hl⟩⟩
theorem sA {α:Type}(l:List α)(i:Nat)(x:α):l.toArray.setIfInBounds i x=(l.set i x).toArray:=List.setIfInBounds_toArray ..
theorem s0 {α:Type}(x y:α)(l:List α):(x :: l).set 0 y=y :: l:=rfl
theorem sS {α:Type}(x y:α)(l:List α)(n:Nat):(x :: l).set (n+1) y=x :: l.set n y:=rfl
section
variable {P:Program} {ops:Array Oper} {Q:Exit->Act->World->Prop} {md:Region.Mode} {S:World->Prop}
theorem tH (i:Nat){oi:Oper}{v:Value}{fuel:Nat}{listed:Array Bool}{a a':Act}{w:World}(hi:nth ops.toList i=some oi)(hS:S w)
 (h:wpAnyH P md ops Q S fuel (listed.setIfInBounds i true) a' w) (hs:Region.noSelect ops=true:=by kernel_rfl) (hf:Region.free md ops listed i=true:=by kernel_rfl) (hr:(Region.ready md ops listed).contains i=true:=by kernel_rfl)
 (hw:Region.wanted oi (yielded ops a.tmps)=true:=by rfl)
 (hy:∀w,S w->(execOp a.eval oi).run P w=.ok (.value v) w:=by(intro w hSw;(try dsimp only at hSw);go_simp;try with_reducible rfl))
 (ha:a.put oi.dst v=a':=by((try simp only[Act.put,sA,s0,sS]);rfl))
 (hQ:∀c a w,Q (.panic c) (a.put oi.dst v) w->Q (.panic c) a w:=by exact fun _ _ _ h=>h):wpAnyH P md ops Q S (fuel+1) listed a w:=
 zsh hi hs hf hr hQ hw hS hy (ha ▸ h)
theorem kH (i:Nat){oi:Oper}{fuel:Nat}{listed:Array Bool}{a a':Act}{w:World}(hi:nth ops.toList i=some oi)(hS:S w)
 (h:wpAnyH P md ops Q S fuel (listed.setIfInBounds i true) a' w) (hs:Region.noSelect ops=true:=by kernel_rfl) (hf:Region.free md ops listed i=true:=by kernel_rfl) (hr:(Region.ready md ops listed).contains i=true:=by kernel_rfl)
 (hw:Region.wanted oi (yielded ops a.tmps)=false:=by rfl)
 (ha:a.put oi.dst undef=a':=by((try simp only[Act.put,sA,s0,sS]);rfl))
 (hQ:∀c a w,Q (.panic c) (a.put oi.dst undef) w->Q (.panic c) a w:=by exact fun _ _ _ h=>h):wpAnyH P md ops Q S (fuel+1) listed a w:=
 zsj hi hs hf hr hQ hw hS (ha ▸ h)
theorem tG (i:Nat){oi:Oper}{v:Value}{fuel:Nat}{listed:Array Bool}{a a':Act}{w:World}(h:wpAnyH P md ops Q S fuel (listed.setIfInBounds i true) a' w)
 (hS:S w:=by assumption) (hi:nth ops.toList i=some oi:=by rfl) (hs:Region.noSelect ops=true:=by kernel_rfl) (hf:Region.free md ops listed i=true:=by kernel_rfl) (hr:(Region.ready md ops listed).contains i=true:=by kernel_rfl)
 (hw:Region.wanted oi (yielded ops a.tmps)=true:=by rfl)
 (hy:∀w,S w->(execOp a.eval oi).run P w=.ok (.value v) w:=by(intro w hSw;(try dsimp only at hSw);go_simp;try with_reducible rfl))
 (ha:a.put oi.dst v=a':=by((try simp only[Act.put,sA,s0,sS]);rfl))
 (hQ:∀c a w,Q (.panic c) (a.put oi.dst v) w->Q (.panic c) a w:=by exact fun _ _ _ h=>h):wpAnyH P md ops Q S (fuel+1) listed a w:=
 zsh hi hs hf hr hQ hw hS hy (ha ▸ h)
theorem kG (i:Nat){oi:Oper}{fuel:Nat}{listed:Array Bool}{a a':Act}{w:World}(h:wpAnyH P md ops Q S fuel (listed.setIfInBounds i true) a' w)
 (hS:S w:=by assumption) (hi:nth ops.toList i=some oi:=by rfl) (hs:Region.noSelect ops=true:=by kernel_rfl) (hf:Region.free md ops listed i=true:=by kernel_rfl) (hr:(Region.ready md ops listed).contains i=true:=by kernel_rfl)
 (hw:Region.wanted oi (yielded ops a.tmps)=false:=by rfl)
 (ha:a.put oi.dst undef=a':=by((try simp only[Act.put,sA,s0,sS]);rfl))
 (hQ:∀c a w,Q (.panic c) (a.put oi.dst undef) w->Q (.panic c) a w:=by exact fun _ _ _ h=>h):wpAnyH P md ops Q S (fuel+1) listed a w:=
 zsj hi hs hf hr hQ hw hS (ha ▸ h)
theorem cH (i:Nat){oi:Oper}{fuel:Nat}{listed:Array Bool}{a:Act}{w:World}(hi:nth ops.toList i=some oi)
 (h:∀K:Act->World->Prop,Shut (∀a w,S w->(S w->wpAnyH P md ops Q S fuel (listed.setIfInBounds i true) a w)->K a w)->Oper.wp P oi a w K Q)
 (hr:Region.ready md ops listed=[i]:=by kernel_rfl) (hw:Region.wanted oi (yielded ops a.tmps)=true:=by rfl):wpAnyH P md ops Q S (fuel+1) listed a w:=
 zsx hi hr hw h
end
theorem za6 {w w':World}{base:Nat}{e:TypeId}{size:Nat}{v:Value}{n:Nat}{xs:List Value}(h:w.ownsRow base e size v n xs)(hb:∀g,v.ownBlock=some g->w'.heap[g]?=w.heap[g]?):w'.ownsRow base e size v n xs:=by
 obtain⟨h0,h1|⟨g,cap,cur,rfl,h2,h3,h4⟩⟩:=h
 ·exact⟨h0,Or.inl h1⟩
 ·exact⟨h0,Or.inr ⟨g,cap,cur,rfl,h2,(hb g rfl).trans h3,h4⟩⟩
theorem jD {w w':World}{base:Nat}{e:TypeId}{size:Nat}{v:Value}{n:Nat}{xs:List Value}(h:w.ownsRow base e size v n xs)(hb:Bw w w'):w'.ownsRow base e size v n xs:=
 za6 h fun g hg=>hb.block g (h.lt g hg).2
theorem zdw {w:World}{base base':Nat}{e:TypeId}{size:Nat}{v:Value}{n:Nat}{xs:List Value}(h:w.ownsRow base e size v n xs)(hb:base'<=base):w.ownsRow base' e size v n xs:=by
 obtain⟨h0,h1|⟨g,cap,cur,rfl,h2,h3,h4⟩⟩:=h
 ·exact⟨h0,Or.inl h1⟩
 ·exact⟨h0,Or.inr ⟨g,cap,cur,rfl,Nat.le_trans hb h2,h3,h4⟩⟩
theorem zfl (w:World)(x:Value)(t:TypeId):∀j u,[x][j]?=some u->(w.alloc (.cells #[x] t)).cell? (((aD w.heap.size 0):Addr).add j)=some u:=by
 intro j u hj
 rcases j with _|j
 ·have e:((aD w.heap.size 0):Addr).add 0=(aD w.heap.size 0):=rfl
  rw[e,World.cell?_alloc_at (hn:=rfl)]
  simpa using hj
 ·simp at hj
theorem za4 {w w1:World}{row:Option Nat}{b:Nat}(hg:w.grownBy w1 row)(hb:b<w.heap.size)(h:∀g,row=some g->b≠g):w1.heap[b]?=w.heap[b]?:=
 hg.block b hb (fun e=>h b e.symm rfl)
theorem zdA {B:Nat}{w0 w w1:World}{v x:Value}{t:TypeId}(h:Below B w0 w)(hB:B<=w.heap.size)(hg:(w.alloc (.cells #[x] t)).grownBy w1 v.ownBlock)(hr:∀k,v.ownBlock=some k->B<=k):Below B w0 w1:=
 (h.alloc hB _).grown hg (by simp;omega) hr
theorem Tryz.zmh:(Tryz.prog.info? 3).map (fun i=>(i.zero,i.size,i.bytes))=some (some (.i 0),1,8):=by kernel_rfl
theorem qL {w:World}{lo:Nat}{e:TypeId}{v:Value}{n:Nat}{xs:List Value}(h:w.ownsRow lo e 1 v n xs):∃a cap,v=.l a n cap:=by
 obtain⟨_,⟨rfl,h0⟩|⟨b,cap,cur,rfl,_⟩⟩:=h
 ·exact⟨none,0,by rw[h0]⟩
 ·exact⟨_,cap,rfl⟩
end Go.Proofs.YthdfpinbnncghaaGreat
namespace Go.Proofs.YthdfpinbnncghaaGreat
structure zlu (rd:Nat->List Nat)(n:Nat)(row:List Nat):Prop where
 nodup:row.Nodup
 mem:∀q,q∈row↔q<n
 ahead:∀r1 p r2,row=r1++p :: r2->∀q∈rd p,q∈r1
theorem zbI {α:Type}[DecidableEq α]:∀(l m:List α),l.Nodup->(∀x∈l,x∈m)->l.length<=m.length:=by
 intro l
 induction l with
 | nil=>intro m _ _;exact Nat.zero_le _
 | cons a l ih=>
  intro m hn hm;rw[List.nodup_cons]at hn;have ha:=hm a (by simp)
  have h1:=ih (m.erase a) hn.2 (fun x hx=>by
   have hne:x≠a:=by rintro rfl;exact hn.1 hx
   exact(List.mem_erase_of_ne hne).2 (hm x (by simp[hx])))
  rw[List.length_erase_of_mem ha]at h1
  have:0<m.length:=List.length_pos_of_mem ha
  simp only[List.length_cons];omega
theorem zq0 {n:Nat}{l:List Nat}(hn:l.Nodup)(hm:∀x∈l,x<n)(hl:l.length=n)(q:Nat)(hq:q<n):q∈l:=by
 by_cases h:q∈l
 ·exact h
 ·exfalso
  have:=zbI (q :: l) (List.range n) (List.nodup_cons.2 ⟨h,hn⟩) (fun x hx=>by
   rcases List.mem_cons.1 hx with rfl|hx
   ·exact List.mem_range.2 hq
   ·exact List.mem_range.2 (hm x hx))
  simp only[List.length_cons,List.length_range]at this;omega
theorem zjt {r1 r2:List Nat}{p q:Nat}(hq:q∈r1)(hp:p ∉ r1):(r1++p :: r2).idxOf q<(r1++p :: r2).idxOf p:=by
 have h1:∀(l:List Nat),q∈l->(l++p :: r2).idxOf q<l.length:=by
  intro l
  induction l with
  | nil=>intro h;cases h
  | cons a l ih=>
   intro h
   by_cases ha:a=q
   ·subst ha;simp
   ·have hm:q∈l:=by
     rcases List.mem_cons.1 h with h'|h'
     ·exact absurd h'.symm ha
     ·exact h'
    have:=ih hm
    rw[List.cons_append,List.idxOf_cons,List.length_cons,beq_false_of_ne ha,cond_false];omega
 have h2:∀(l:List Nat),p ∉ l->l.length<=(l++p :: r2).idxOf p:=by
  intro l
  induction l with
  | nil=>intro _;exact Nat.zero_le _
  | cons a l ih=>
   intro h;rw[List.mem_cons]at h
   have:=ih (fun hm=>h (Or.inr hm))
   rw[List.cons_append,List.idxOf_cons,List.length_cons,beq_false_of_ne (fun e=>h (Or.inl (Eq.symm e))),cond_false];omega
 exact nLt (h1 r1 hq) (h2 r1 hp)
theorem zlu.zmS {rd:Nat->List Nat}{n:Nat}{row:List Nat}(h:zlu rd n row):zkj rd n (fun p=>row.idxOf p):=by
 have hlen:row.length<=n:=by
  have:=zbI row (List.range n) h.nodup (fun x hx=>List.mem_range.2 ((h.mem x).1 hx))
  simpa using this
 refine⟨fun p hp=>nLt (List.idxOf_lt_length_of_mem ((h.mem p).2 hp)) hlen,fun p hp q hq=>?_⟩;have hpm:=(h.mem p).2 hp;obtain⟨r1,r2,e⟩:=List.append_of_mem hpm;have hq1:=h.ahead r1 p r2 e q hq;have hnd:=h.nodup;rw[e]at hnd
 have hp1:p ∉ r1:=by
  intro hm;rw[List.nodup_append]at hnd;exact hnd.2.2 p hm p (by simp) rfl
 refine⟨(h.mem q).1 (by rw[e];simp[hq1]),?_⟩;simp only[e];exact zjt hq1 hp1
theorem zeu {rd:Nat->List Nat}{n:Nat}(hrd:∀p,p<n->∀q∈rd p,q<n)(h:(zL rd n).1=true):zlu rd n (zL rd n).2.row:=by
 have hfar:∀q,((zL rd n).2.far q).isSome->q<n:=by
  have hd:∀f p s,p<n->(∀q,(s.far q).isSome->q<n)->∀q,((down rd f p s).2.far q).isSome->q<n:=by
   intro f
   induction f with
   | zero=>intro p s _ hs q hq;exact hs q hq
   | succ f ih=>
    intro p s hp hs q hq
    have hl:∀(l:List Nat) (t:Far),(∀a∈l,a<n)->(∀q,(t.far q).isSome->q<n)->∀q,((zu (down rd f) l t).2.far q).isSome->q<n:=by
     intro l
     induction l with
     | nil=>intro t _ ht q hq;exact ht q hq
     | cons a l il=>
      intro t ha ht q hq;unfold zu at hq;have h1:=ih a t (ha a (by simp)) ht
      split at hq
      ·exact il _ (fun b hb=>ha b (by simp[hb])) h1 q hq
      ·exact h1 q hq
    have hu:∀q,((s.under p).far q).isSome->q<n:=by
     intro q hq
     by_cases hqp:q=p
     ·omega
     ·simp only[Far.under,if_neg hqp]at hq;exact hs q hq
    unfold down at hq
    rcases hfp:s.far p with _|b
    ·rw[hfp]at hq
     simp only at hq
     split at hq
     ·by_cases hqp:q=p
      ·omega
      ·simp only[Far.behind,if_neg hqp]at hq
       exact hl _ _ (hrd p hp) hu q hq
     ·exact hl _ _ (hrd p hp) hu q hq
    ·rw[hfp]at hq;exact hs q hq
  have hl:∀(l:List Nat) (t:Far),(∀a∈l,a<n)->(∀q,(t.far q).isSome->q<n)->∀q,((zu (down rd (n+1)) l t).2.far q).isSome->q<n:=by
   intro l
   induction l with
   | nil=>intro t _ ht q hq;exact ht q hq
   | cons a l il=>
    intro t ha ht q hq;unfold zu at hq;have h1:=hd (n+1) a t (ha a (by simp)) ht
    split at hq
    ·exact il _ (fun b hb=>ha b (by simp[hb])) h1 q hq
    ·exact h1 q hq
  exact hl _ _ (fun a ha=>List.mem_range.1 ha) (fun q hq=>by cases hq)
 obtain⟨r,_,hall⟩:=zk3 rd (n+1) (List.range n) j4 (zop rd) h;refine⟨r.nodup,fun q=>⟨fun hq=>hfar q (by have h2:=(r.mem q).1 hq;unfold zL;rw[h2];rfl),fun hq=>(r.mem q).2 (hall q (List.mem_range.2 hq))⟩,fun r1 p r2 e q hq=>?_⟩;have e':(zu (down rd (n+1)) (List.range n) j4).2.row=r1++p :: r2:=e;have hi:r1.length<(zu (down rd (n+1)) (List.range n) j4).2.row.length:=by rw[e'];simp
 have hx:(zu (down rd (n+1)) (List.range n) j4).2.row[r1.length]=p:=by
  have:(zu (down rd (n+1)) (List.range n) j4).2.row[r1.length]?=some p:=by rw[e'];simp
  rw[List.getElem?_eq_getElem hi]at this;exact Option.some.inj this
 obtain⟨j,hj,hjq⟩:=r.ahead r1.length hi q (by rw[hx];exact hq)
 have:(zu (down rd (n+1)) (List.range n) j4).2.row[j]?=some q:=by rw[List.getElem?_eq_getElem (by omega),hjq]
 rw[e',List.getElem?_append_left hj]at this;exact List.mem_of_getElem? this
def ready (rd:Nat->List Nat)(row:List Nat)(i:Nat):Bool:=!decide (i∈row)&&(rd i).all fun q=>decide (q∈row)
def pick (rd:Nat->List Nat)(n:Nat)(row:List Nat):Option Nat:=(List.range n).find? (ready rd row)
def more (rd:Nat->List Nat)(n:Nat)(row:List Nat):List Nat:=match pick rd n row with|none=>row|some i=>row++[i]
def greedy (rd:Nat->List Nat)(n:Nat):Nat->List Nat
 | 0=>[]
 | k+1=>more rd n (greedy rd n k)
structure Part (rd:Nat->List Nat)(n:Nat)(row:List Nat):Prop where
 nodup:row.Nodup
 mem:∀q∈row,q<n
 ahead:∀r1 p r2,row=r1++p :: r2->∀q∈rd p,q∈r1
theorem zhN {rd:Nat->List Nat}{row:List Nat}{i:Nat}:ready rd row i=true↔i ∉ row/\∀q∈rd i,q∈row:=by
 unfold ready;simp
theorem zpk {r1 r2 row:List Nat}{p i:Nat}(e:row++[i]=r1++p :: r2):(r2=[]/\p=i/\r1=row) \/ ∃r3,r2=r3++[i]/\row=r1++p :: r3:=by
 rcases List.eq_nil_or_concat r2 with rfl|⟨r3,b,rfl⟩
 ·left
  have h2:=List.append_inj' e rfl;exact⟨rfl,by simpa using h2.2.symm,h2.1.symm⟩
 ·right
  rw[List.concat_eq_append]at e ⊢;have e2:row++[i]=(r1++p :: r3)++[b]:=by rw[e];simp
  have h2:=List.append_inj' e2 rfl;exact⟨r3,by simpa using h2.2.symm,h2.1⟩
theorem Part.more {rd:Nat->List Nat}{n:Nat}{row:List Nat}(h:Part rd n row):Part rd n (more rd n row):=by
 change Part rd n (match pick rd n row with|none=>row|some i=>row++[i])
 rcases hp:pick rd n row with _|i
 ·exact h
 ·unfold pick at hp
  have hi:=List.find?_some hp;have hin:=List.mem_of_find?_eq_some hp;rw[zhN]at hi;refine⟨?_,fun q hq=>?_,fun r1 p r2 e q hq=>?_⟩
  ·rw[List.nodup_append]
   exact⟨h.nodup,by simp,fun a ha b hb=>by rw[List.mem_singleton]at hb;subst hb;exact fun e=>hi.1 (e ▸ ha)⟩
  ·rcases List.mem_append.1 hq with hq|hq
   ·exact h.mem q hq
   ·rw[List.mem_singleton]at hq;subst hq;exact List.mem_range.1 hin
  ·rcases zpk e with⟨_,rfl,rfl⟩|⟨r3,_,e3⟩
   ·exact hi.2 q hq
   ·exact h.ahead r1 p r3 e3 q hq
theorem zcu (rd:Nat->List Nat)(n:Nat):∀k,Part rd n (greedy rd n k)
 | 0=>⟨by simp[greedy],fun q hq=>by simp[greedy]at hq,fun r1 p r2 e=>by simp[greedy]at e⟩
 | k+1=>(zcu rd n k).more
theorem Part.zqH {rd:Nat->List Nat}{n:Nat}{row:List Nat}(h:Part rd n row)(hl:row.length=n):zlu rd n row:=
 ⟨h.nodup,fun q=>⟨h.mem q,zq0 h.nodup h.mem hl q⟩,h.ahead⟩
theorem zqd {rd:Nat->List Nat}{n:Nat}{rk:Nat->Nat}(hr:zkj rd n rk)(row:List Nat):∀r p,p<n->p ∉ row->rk p<=r->∃i,pick rd n row=some i:=by
 intro r
 have fin:∀p,p<n->p ∉ row->(∀q∈rd p,q∈row)->∃i,pick rd n row=some i:=by
  intro p hp hm ha
  have:(pick rd n row).isSome:=by
   unfold pick;rw[List.find?_isSome];exact⟨p,List.mem_range.2 hp,zhN.2 ⟨hm,ha⟩⟩
  exact Option.isSome_iff_exists.1 this
 induction r with
 | zero=>
  intro p hp hm hk;refine fin p hp hm (fun q hq=>?_)
  have:=(hr.2 p hp q hq).2;omega
 | succ r ih=>
  intro p hp hm hk
  by_cases ha:∀q∈rd p,q∈row
  ·exact fin p hp hm ha
  ·have:∃q,q∈rd p/\q ∉ row:=by
    by_cases h:∃q,q∈rd p/\q ∉ row
    ·exact h
    ·exact absurd (fun q hq=>Classical.byContradiction fun hn=>h ⟨q,hq,hn⟩) ha
   obtain⟨q,hq,hqm⟩:=this;have h1:=hr.2 p hp q hq;exact ih q h1.1 hqm (by omega)
theorem zia {rd:Nat->List Nat}{n:Nat}{rk:Nat->Nat}(hr:zkj rd n rk):∀k,k<=n->(greedy rd n k).length=k:=by
 intro k
 induction k with
 | zero=>intro _;rfl
 | succ k ih=>
  intro hk;have hl:=ih (by omega);have hpart:=zcu rd n k
  have:∃p,p<n/\p ∉ greedy rd n k:=by
   by_cases h:∃p,p<n/\p ∉ greedy rd n k
   ·exact h
   ·exfalso
    have:=zbI (List.range n) (greedy rd n k) List.nodup_range (fun x hx=>Classical.byContradiction fun hn=>h ⟨x,List.mem_range.1 hx,hn⟩)
    simp only[List.length_range]at this;omega
  obtain⟨p,hp,hm⟩:=this;obtain⟨i,hi⟩:=zqd hr (greedy rd n k) (rk p) p hp hm (Nat.le_refl _)
  show(more rd n (greedy rd n k)).length=k+1
  unfold more;rw[hi];simp[hl]
theorem zi2 {rd:Nat->List Nat}{n:Nat}(hrd:∀p,p<n->∀q∈rd p,q<n):(zL rd n).1=decide ((greedy rd n n).length=n):=by
 by_cases h:(zL rd n).1=true
 ·rw[h];exact(decide_eq_true (zia (zeu hrd h).zmS n (Nat.le_refl _))).symm
 ·have hf:(zL rd n).1=false:=by simpa using h
  rw[hf]
  symm
  rw[decide_eq_false_iff_not];intro hl;exact h (zkL ((zcu rd n n).zqH hl).zmS)
def yc {α:Type}(D:Nat->List α->α)(row:List Nat)(vs:List α):List α:=row.foldl (fun us p=>us.set p (D p us)) vs
theorem jY {α:Type}(D:Nat->List α->α):∀(row:List Nat) (vs:List α),(yc D row vs).length=vs.length:=by
 intro row
 induction row with
 | nil=>intro vs;rfl
 | cons a l ih=>intro vs;show(yc D l (vs.set a (D a vs))).length=_;rw[ih];simp
theorem zfs {α:Type}(D:Nat->List α->α)(p:Nat):∀(row:List Nat) (vs:List α),p ∉ row->(yc D row vs)[p]?=vs[p]?:=by
 intro row
 induction row with
 | nil=>intro vs _;rfl
 | cons a l ih=>
  intro vs h;rw[List.mem_cons]at h
  show(yc D l (vs.set a (D a vs)))[p]?=_
  rw[ih _ (fun hm=>h (Or.inr hm)),List.getElem?_set_ne (fun e=>h (Or.inl e.symm))]
theorem zc4 {α:Type}(D:Nat->List α->α)(r1 r2:List Nat)(vs:List α):yc D (r1++r2) vs=yc D r2 (yc D r1 vs):=by
 unfold yc;rw[List.foldl_append]
theorem zpH {α:Type}(D:Nat->List α->α)(r1 r2:List Nat)(p:Nat)(vs:List α)(hp:p<vs.length)(h2:p ∉ r2):(yc D (r1++p :: r2) vs)[p]?=some (D p (yc D r1 vs)):=by
 rw[zc4]
 show(yc D r2 ((yc D r1 vs).set p (D p (yc D r1 vs))))[p]?=_
 rw[zfs D p r2 _ h2,List.getElem?_set_self (by rw[jY];exact hp)]
def zsi {α:Type}(rd:Nat->List Nat)(n:Nat)(D:Nat->List α->α):Prop:=∀p,p<n->∀us vs:List α,us.length=n->vs.length=n->(∀q∈rd p,us[q]?=vs[q]?)->us[p]?=vs[p]?->D p us=D p vs
theorem zhb {α:Type}{D:Nat->List α->α}{rd:Nat->List Nat}{n:Nat}{row:List Nat}(h:zlu rd n row)(vs:List α)(hl:vs.length=n)(p:Nat)(hp:p<n) :
 ∃us:List α,us.length=n/\(yc D row vs)[p]?=some (D p us)/\us[p]?=vs[p]?/\∀q∈rd p,us[q]?=(yc D row vs)[q]?:=by
 obtain⟨r1,r2,e⟩:=List.append_of_mem ((h.mem p).2 hp);have hnd:=h.nodup;rw[e,List.nodup_append]at hnd;have hp1:p ∉ r1:=fun hm=>hnd.2.2 p hm p (by simp) rfl
 have hp2:p ∉ r2:=(List.nodup_cons.1 hnd.2.1).1;refine⟨yc D r1 vs,by rw[jY,hl],by rw[e];exact zpH D r1 r2 p vs (by omega) hp2,zfs D p r1 vs hp1,fun q hq=>?_⟩;have hq1:=h.ahead r1 p r2 e q hq;have hq2:q ∉ p :: r2:=fun hm=>hnd.2.2 q hq1 q hm rfl
 rw[e,zc4,zfs D q _ _ hq2]
theorem znd {α:Type}{D:Nat->List α->α}{rd:Nat->List Nat}{n:Nat}{r r':List Nat}(h:zlu rd n r)(h':zlu rd n r')(hD:zsi rd n D)(vs:List α)(hl:vs.length=n):yc D r vs=yc D r' vs:=by
 have hr:=h.zmS
 have key:∀k p,p<n->r.idxOf p<k->(yc D r vs)[p]?=(yc D r' vs)[p]?:=by
  intro k
  induction k with
  | zero=>intro p _ hk;omega
  | succ k ih=>
   intro p hp hk;obtain⟨us,u1,u2,u3,u4⟩:=zhb (D:=D) h vs hl p hp;obtain⟨us',u1',u2',u3',u4'⟩:=zhb (D:=D) h' vs hl p hp;rw[u2,u2']
   congr 1
   refine hD p hp us us' u1 u1' (fun q hq=>?_) (u3.trans u3'.symm);have h1:=hr.2 p hp q hq;have h2:r.idxOf q<r.idxOf p:=h1.2;rw[u4 q hq,u4' q hq];exact ih q h1.1 (by omega)
 apply List.ext_getElem?
 intro p
 rcases Nat.lt_or_ge p n with hp|hp
 ·exact key (r.idxOf p+1) p hp (Nat.lt_succ_self _)
 ·rw[List.getElem?_eq_none (by rw[jY,hl];exact hp),List.getElem?_eq_none (by rw[jY,hl];exact hp)]
end Go.Proofs.YthdfpinbnncghaaGreat
namespace Go.Proofs.YthdfpinbnncghaaGreat
open Go.RowKit
theorem zmw {w:World}{lo:Nat}{a:OA}{n cap:Nat}{row:List BA}(h:w.ownsRow lo 9 1 (.l a n cap) row.length (row.map Value.string))(hl:row.length<=maxLen)(hs:∀s∈row,s.size<=maxLen):zJ w a row:=by
 refine⟨hl,hs,fun hne=>?_⟩;obtain⟨_,⟨h0,h1⟩|⟨g,cp,cur,h0,h1⟩⟩:=id h
 ·exact absurd (List.length_eq_zero_iff.1 h1) hne
 ·cases h0
  refine⟨g,0,rfl,(h.lt g rfl).2,fun i hi=>?_⟩;rw[Nat.zero_add,h.cellAt i (by omega)]
  simp[hi]
end Go.Proofs.YthdfpinbnncghaaGreat
namespace Go.Proofs.YthdfpinbnncghaaGreat.LawSafe
open Go.ChangeShapes Go.WideShapes Go.ChangeAt Go.RowKit
theorem closed:joinedFacts Tryz.pinned.checked.prog 3 Tryz.f3 Rows.fnExactGateSafeSpec Rows.fnExactGateSafeRow=true:=by
 unfold joinedFacts;rw[kInPlace,kUnfol,kRecur,kNamed,kLaid,kMaps,kMay,kLifts]
 kernel_rfl
end Go.Proofs.YthdfpinbnncghaaGreat.LawSafe
namespace Go.Proofs.YthdfpinbnncghaaGreat
open Go.ChangeShapes Go.WideShapes Go.ChangeAt Go.RowKit
section
variable {H:Type} {enc:TypeId × Value->H} {P:Program} {w:World} {base:Nat} {spare:Nat->Bool} {held:Bool}
theorem zhi {a:Addr}{v:Value}(h:w.cell? a=some v):a=(aD a.block a.off)/\a.block<w.heap.size:=by
 obtain⟨b,o,s⟩:=a;unfold World.cell? at h
 cases hb:w.heap[b]? with
 | none=>simp[hb]at h
 | some x=>
  have hlt:=(gES hb).1
  cases s with
  | none=>exact⟨rfl,hlt⟩
  | some k=>cases x <;> simp[hb]at h
theorem zeg {t e:TypeId}{fuel:Nat}{cs:List Value}{x:DataW H × List MemPlace}(ht:P.underlying t=some (.slice e))(he:P.underlying e=some .string)(hc:P.cellsOf e=1)
 (h:DataW.trod enc P w base spare held fuel t cs=some x):∃a cap ws,cs=[.l a ws.length cap]/\zJ w a ws:=by
 rcases open_strings ht he hc h with⟨rfl,_⟩|⟨a,len,cap,ss,rfl,_,hl,hm,hz,_,hcell,hws⟩
 ·exact⟨none,0,[],rfl,⟨by simp[maxLen],by simp,fun h=>absurd rfl h⟩⟩
 ·have hle:len<=ss.length:=by rw[hz];split <;> omega
  have hlen:(ss.take len).length=len:=by rw[List.length_take];omega
  refine⟨some a,cap,ss.take len,by rw[hlen],⟨by rw[hlen];omega,fun s hs=>hws s (List.mem_of_mem_take hs),fun hne=>?_⟩⟩
  have hpos:0<len:=by
   rcases Nat.eq_zero_or_pos len with h0|h0
   ·rw[h0]at hne;simp at hne
   ·exact h0
  have h0:=hcell 0 (by omega);obtain⟨ha,hb⟩:=zhi h0;simp only[Addr.add,if_true]at ha hb;refine⟨a.block,a.off,by rw[<- ha],hb,fun i hi=>?_⟩;have hi':i<len:=by omega
  have h1:=hcell i (by omega)
  have e1:a.add i=(aD a.block (a.off+i)):=by
   unfold Addr.add;split
   ·rename_i h;subst h;simpa using ha
   ·rfl
  rw[e1]at h1;rw[h1,List.getElem_take,List.getD_eq_getElem?_getD,List.getElem?_eq_getElem (by omega)]
  rfl
theorem zgi {t:TypeId}{fs:Array Field}{fuel:Nat}{cs:List Value}{x:DataW H × List MemPlace}(ht:P.underlying t=some (.struct fs))(h:DataW.trod enc P w base spare held fuel t cs=some x)
 (i:Nat) (f:Field) (hf:fs[i]?=some f):∃n y,DataW.trod enc P w base spare held n f.type ((cs.drop f.offset).take (P.cellsOf f.type))=some y:=by
 obtain⟨xs,n,_,_,_,hxl,hall⟩:=DataW.trod_struct ht h;have hi:i<fs.size:=(gES hf).1;exact⟨n,xs[i]'(by omega),by rw[hall i f hf,List.getElem?_eq_getElem (by omega)]⟩
theorem jo {t:TypeId}{fs:Array Field}{fuel:Nat}{cs:List Value}{x:DataW H × List MemPlace}(ht:P.underlying t=some (.struct fs))(h:DataW.trod enc P w base spare held fuel t cs=some x)
 (i tf off:Nat) (c:Value) (hf:(fs[i]?).map (fun f=>(f.type,f.offset))=some (tf,off)) (hone:P.cellsOf tf=1) (hc:cs[off]?=some c):∃n y,DataW.trod enc P w base spare held n tf [c]=some y:=by
 obtain⟨f,hf1,hf2⟩:=Option.map_eq_some_iff.1 hf;simp only[Prod.mk.injEq]at hf2;obtain⟨rfl,rfl⟩:=hf2;obtain⟨n,y,hy⟩:=zgi ht h i f hf1;rw[hone]at hy;obtain⟨hlt,hget⟩:=List.getElem?_eq_some_iff.1 hc;rw[List.drop_eq_getElem_cons hlt,hget]at hy;exact⟨n,y,hy⟩
end
theorem za9 {α:Type}{P:Nat->α->Prop}:∀n:Nat,(∀i,i<n->∃x,P i x)->∃l:List α,l.length=n/\∀i (h:i<l.length),P i l[i]
 | 0,_=>⟨[],rfl,fun i h=>absurd h (by simp)⟩
 | n+1,h=>by
  obtain⟨l,hl,hP⟩:=za9 n (fun i hi=>h i (by omega));obtain⟨x,hx⟩:=h n (by omega);refine⟨l++[x],by simp[hl],fun i hi=>?_⟩
  rcases Nat.lt_or_ge i n with h1|h1
  ·rw[List.getElem_append_left (by omega)];exact hP i (by omega)
  ·have e:i=n:=by simp at hi;omega
   subst e;rw[List.getElem_append_right (by omega)]
   simpa[hl] using hx
theorem add_add (b o m j:Nat):(((aD b o):Addr).add m).add j=(aD b (o+m+j)):=by
 unfold Addr.add
 by_cases h1:m=0 <;> by_cases h2:j=0 <;> simp[h1,h2]
section
variable {H:Type} {enc:TypeId × Value->H} {P:Program} {w:World} {base:Nat} {spare:Nat->Bool} {held:Bool}
theorem zad {t e:TypeId}{sz fuel:Nat}{cs:List Value}{x:DataW H × List MemPlace}(ht:P.underlying t=some (.slice e))(hsz:P.cellsOf e=sz)(hpos:0<sz)
 (h:DataW.trod enc P w base spare held fuel t cs=some x) :
 ∃a len cap,cs=[.l a len cap]/\len<=maxLen/\(0<len->∃b off,a=some (aD b off)/\b<w.heap.size /\
  ∀i,i<len->∃es n y,es.length=sz/\(∀j,j<sz->w.cell? (aD b (off+i*sz+j))=es[j]?)/\DataW.trod enc P w base spare held n e es=some y):=by
 rcases DataW.trod_slice ht h with⟨rfl,_⟩|⟨a,len,cap,elems,rest,n,_,rfl,_,hb,hl,hm,hlen,hel,_,_⟩
 ·exact⟨none,0,0,rfl,by simp[maxLen],fun h=>absurd h (by omega)⟩
 ·refine⟨some a,len,cap,rfl,by omega,fun hp=>?_⟩
  have each:∀i,i<len->∃es y,w.cells? base (a.add (i*sz)) sz=some es/\DataW.trod enc P w base spare held n e es=some y:=by
   intro i hi;have h1:=hel i hi;rw[hsz,List.getElem?_eq_getElem (by omega),Option.bind_eq_some_iff]at h1;obtain⟨es,h2,h3⟩:=h1;exact⟨es,_,h2,h3⟩
  obtain⟨es0,y0,hc0,_⟩:=each 0 hp;obtain⟨_,_,hcell0⟩:=World.cells?_some hc0;have h00:=hcell0 0 hpos
  have hes0:∃v,w.cell? a=some v:=by
   have hl0:=(World.cells?_some hc0).2.1;refine⟨es0[0]'(by omega),?_⟩
   have:=h00
   simp only[Nat.zero_mul,Addr.add,if_true]at this;rw[this,List.getElem?_eq_getElem (by omega)]
  obtain⟨v0,hv0⟩:=hes0;obtain⟨ha,hbl⟩:=zhi hv0;refine⟨a.block,a.off,by rw[<- ha],hbl,fun i hi=>?_⟩;obtain⟨es,y,hc,hy⟩:=each i hi;obtain⟨_,hlen',hcell⟩:=World.cells?_some hc;refine⟨es,n,y,hlen',fun j hj=>?_,hy⟩
  have e1:(a.add (i*sz)).add j=(aD a.block (a.off+i*sz+j)):=by
   have:=add_add a.block a.off (i*sz) j
   rwa [<- ha]at this
  rw[<- e1];exact hcell j hj
end
theorem Tryz.zK:Tryz.prog.cellsOf 9=1:=by kernel_rfl
theorem Tryz.jd:Tryz.prog.cellsOf 3=1:=by kernel_rfl
theorem Tryz.zfG:Tryz.prog.cellsOf 4=1:=by kernel_rfl
end Go.Proofs.YthdfpinbnncghaaGreat
namespace Go.Proofs.YthdfpinbnncghaaGreat
open Go.RowKit
def zcz (ws:List BA):Nat:=(ws.map ByteArray.size).sum
def yQ (ws:List BA):Nat:=ws.length+zcz ws
theorem zpR (ws:List BA)(k:Nat)(h:k<ws.length):zcz (ws.take (k+1))=zcz (ws.take k)+ws[k].size:=by
 unfold zcz;rw[tSe h,List.map_append,List.sum_append];simp
theorem zrm (ws:List BA)(k:Nat):zcz (ws.take k)<=zcz ws:=by
 unfold zcz
 conv=>rhs;rw[<- List.take_append_drop k ws]
 rw[List.map_append,List.sum_append];omega
theorem zqa (ws:List BA)(k:Nat)(h:ws.length<=k):zcz (ws.take k)=zcz ws:=by rw[tOl h]
theorem zfO (a:OA)(cap:Nat)(ws:List BA)(left:Int)(w:World)(hw:zJ w a ws)(h0:0<=left)(h1:left<=1048576) :
 Calls Tryz.prog 88 #[.l a ws.length cap,.i left] w fun e w'=>e=.returned (.i (zD (yQ ws) left))/\w'=w:=by
 have hl:=hw.len;unfold maxLen at hl
 by_cases hfit:(ws.length:Int)<=left
 ·go_enter Tryz.func88,Tryz.ntmps88
  go_wp2
  go_loop [1,5] (fun l i=>∃k:Nat,k<=ws.length/\i=.i k/\0<=left-ws.length-zcz (ws.take k)/\l=.i (left-ws.length-zcz (ws.take k))) (fun _ i=>ws.length-(intOf i).toNat)
  case atStart=>exact⟨0,Nat.zero_le _,rfl,by simp[zcz];omega,by simp[zcz]⟩
  case round=>
   obtain⟨k,hk,rfl,hpos,rfl⟩:=hrel
   by_cases hlt:k<ws.length
   ·obtain⟨b,off,rfl,hb,hc⟩:=hw.cells (by rintro rfl;simp at hlt)
    have hsm:=hw.small _ (List.getElem_mem hlt);unfold maxLen at hsm;clear hw;have hck:=hc k hlt;have HS:Hid (zcz (ws.take (k+1))=zcz (ws.take k)+ws[k].size):=zpR ws k hlt;have hle:=zrm ws (k+1);clear hc
    by_cases hneg:left-ws.length-zcz (ws.take k)-ws[k].size<0
    ·have HF:Hid (zD (yQ ws) left=-1):=zq (by have:=HS.o;unfold yQ;omega)
     clear hle
     go_wp2
     go_ret;exact⟨zk HF.o.symm,rfl⟩
    ·clear hle
     go_wp2
     go_round
     case rel=>exact⟨k+1,by omega,by go_num,by rw[HS.o];omega,by rw[HS.o];go_num⟩
     case measure=>simp[intOf];omega
   ·have HF:Hid (zD (yQ ws) left=left-ws.length-zcz (ws.take k)):=by
     rw[zqa ws k (by omega)]at hpos ⊢;have e:zD (yQ ws) left=left-yQ ws:=zF (by unfold yQ;omega);unfold Hid;rw[e];unfold yQ;omega
    clear hw
    go_wp2
    go_ret;exact⟨zk HF.o.symm,rfl⟩
 ·have HF:Hid (zD (yQ ws) left=-1):=zq (by unfold yQ;omega)
  clear hw;go_enter Tryz.func88,Tryz.ntmps88
  go_wp2
  go_ret;exact⟨zk HF.o.symm,rfl⟩
theorem zbl (a a':OA)(cap cap':Nat)(ws:List BA)(w:World)(hw:zJ w a ws)(hw':zJ w a' ws) :
 Calls Tryz.prog 127 #[.l a ws.length cap,.l a' ws.length cap'] w fun e w'=>e=.returned (.bool true)/\Bw w w':=by
 have hl:=hw.len;unfold maxLen at hl;have hnn:((ws.length:Int) != ws.length)=false:=by simp
 go_enter Tryz.func127,Tryz.ntmps127
 go_wp2
 go_loopw [5] (fun i wr=>∃k:Nat,k<=ws.length/\i=.i k/\∃n,wr=w.drewN n) (fun i _=>ws.length-(intOf i).toNat)
 case atStart=>exact⟨0,Nat.zero_le _,rfl,0,rfl⟩
 case round=>
  obtain⟨k,hk,rfl,nd,rfl⟩:=hrel
  by_cases hlt:k<ws.length
  ·obtain⟨b,off,rfl,hb,hc⟩:=hw.cells (by rintro rfl;simp at hlt)
   obtain⟨b',off',rfl,hb',hc'⟩:=hw'.cells (by rintro rfl;simp at hlt);clear hw hw';have hck:=hc k hlt;have hck':=hc' k hlt;have hltI:(k:Int)<(ws.length:Int):=by omega
   clear hc hc'
   go_wp2
   go_quiet (fail)
   go_wp2
   exact⟨⟨k+1,by omega,by go_num,nd+nq,rfl⟩,by simp[intOf];omega⟩
  ·clear hw hw'
   go_wp2
   go_ret;exact⟨rfl,below_drewN (bRf _ _) nd⟩
theorem zjm (nm:BA)(kd ls ms:Int)(a a':OA)(cap cap':Nat)(ws:List BA)(to:BA)(rl:Int)(mu fx:Bool)(df wg:BA)(w:World)(hw:zJ w a ws)(hw':zJ w a' ws) :
 Calls Tryz.prog 183 #[.agg #[.s nm,.i kd,.i ls,.i ms,.l a ws.length cap,.s to,.i rl,.bool mu,.bool fx,.s df,.s wg],.agg #[.s nm,.i kd,.i ls,.i ms,.l a' ws.length cap',.s to,.i rl,.bool mu,.bool fx,.s df,.s wg]] w
  fun e w'=>e=.returned (.bool true)/\Bw w w':=by
 go_enter Tryz.func183,Tryz.ntmps183
 go_wp2_with (go_at_call 127;refine(zbl _ _ _ _ _ _ (by exact hw.mono (zx _ _ _)) (by exact hw'.mono (zx _ _ _))).mono ?_;rintro e w1⟨rfl,hb1⟩;have hc1:=(zsC hb1).1;have hz1:=hb1.size;simp only[World.size_alloc]at hz1)
 go_ret;exact⟨rfl,(zx _ _ _).trans (hb1.mono (by simp;omega))⟩
def zaG (nm:BA)(ws:List BA)(to df wg:BA):Nat:=nm.size+yQ ws+to.size+df.size+wg.size
theorem yO (a:OA)(cap:Nat)(ws:List BA)(left:Int)(w:World)(hw:zJ w a ws)(h0:0<=left)(h1:left<=1048576)(h:(yQ ws:Int)<=left) :
 Calls Tryz.prog 88 #[.l a ws.length cap,.i left] w fun e w'=>e=.returned (.i (left-yQ ws))/\w'=w:=by
 refine(zfO a cap ws left w hw h0 h1).mono ?_;rintro e w'⟨rfl,rfl⟩;exact⟨zk (zF h),rfl⟩
theorem zb6 (a:OA)(cap:Nat)(ws:List BA)(left:Int)(w:World)(hw:zJ w a ws)(h0:0<=left)(h1:left<=1048576)(h:¬(yQ ws:Int)<=left) :
 Calls Tryz.prog 88 #[.l a ws.length cap,.i left] w fun e w'=>e=.returned (.i (-1))/\w'=w:=by
 refine(zfO a cap ws left w hw h0 h1).mono ?_;rintro e w'⟨rfl,rfl⟩;exact⟨zk (zq h),rfl⟩
theorem zeS (nm:BA)(kd ls ms:Int)(a:OA)(cap:Nat)(ws:List BA)(to:BA)(rl:Int)(mu fx:Bool)(df wg:BA)(left:Int)(w:World)(hw:zJ w a ws)(h0:0<=left)(h1:left<=1048576)
 (hnm:nm.size<=maxLen) (hto:to.size<=maxLen) (hdf:df.size<=maxLen) (hwg:wg.size<=maxLen) :
 Calls Tryz.prog 130 #[.agg #[.s nm,.i kd,.i ls,.i ms,.l a ws.length cap,.s to,.i rl,.bool mu,.bool fx,.s df,.s wg],.i left] w fun e w'=>e=.returned (.i (zD (zaG nm ws to df wg) left))/\Bw w w':=by
 unfold maxLen at hnm hto hdf hwg
 by_cases c1:(nm.size:Int)<=left
 rotate_left
 ·have HF:Hid (zD (zaG nm ws to df wg) left=-1):=zq (by unfold zaG;omega)
  go_enter Tryz.func130,Tryz.ntmps130;go_wp2_with fail
  go_ret;exact⟨zk HF.o.symm,bAl _ _⟩
 by_cases c2:(yQ ws:Int)<=left-nm.size
 rotate_left
 ·have HF:Hid (zD (zaG nm ws to df wg) left=-1):=zq (by unfold zaG;omega)
  go_enter Tryz.func130,Tryz.ntmps130
  go_wp2_with (go_at_call 88;refine(zb6 _ _ _ _ _ (by exact hw.mono (bAl _ _)) (by omega) (by omega) (by omega)).mono ?_;rintro e w1⟨rfl,rfl⟩)
  go_ret;exact⟨zk HF.o.symm,bAl _ _⟩
 by_cases c3:(to.size:Int)<=left-nm.size-yQ ws
 rotate_left
 ·have HF:Hid (zD (zaG nm ws to df wg) left=-1):=zq (by unfold zaG;omega)
  go_enter Tryz.func130,Tryz.ntmps130
  go_wp2_with (go_at_call 88;refine(yO _ _ _ _ _ (by exact hw.mono (bAl _ _)) (by omega) (by omega) (by omega)).mono ?_;rintro e w1⟨rfl,rfl⟩)
  go_ret;exact⟨zk HF.o.symm,bAl _ _⟩
 by_cases c4:(df.size:Int)<=left-nm.size-yQ ws-to.size
 rotate_left
 ·have HF:Hid (zD (zaG nm ws to df wg) left=-1):=zq (by unfold zaG;omega)
  go_enter Tryz.func130,Tryz.ntmps130
  go_wp2_with (go_at_call 88;refine(yO _ _ _ _ _ (by exact hw.mono (bAl _ _)) (by omega) (by omega) (by omega)).mono ?_;rintro e w1⟨rfl,rfl⟩)
  go_ret;exact⟨zk HF.o.symm,bAl _ _⟩
 by_cases c5:(wg.size:Int)<=left-nm.size-yQ ws-to.size-df.size
 rotate_left
 ·have HF:Hid (zD (zaG nm ws to df wg) left=-1):=zq (by unfold zaG;omega)
  go_enter Tryz.func130,Tryz.ntmps130
  go_wp2_with (go_at_call 88;refine(yO _ _ _ _ _ (by exact hw.mono (bAl _ _)) (by omega) (by omega) (by omega)).mono ?_;rintro e w1⟨rfl,rfl⟩)
  go_ret;exact⟨zk HF.o.symm,bAl _ _⟩
 ·have HF:Hid (zD (zaG nm ws to df wg) left=left-nm.size-yQ ws-to.size-df.size-wg.size):=by
   have e:zD (zaG nm ws to df wg) left=left-zaG nm ws to df wg:=zF (by unfold zaG;omega);unfold Hid;rw[e];unfold zaG;omega
  go_enter Tryz.func130,Tryz.ntmps130
  go_wp2_with (go_at_call 88;refine(yO _ _ _ _ _ (by exact hw.mono (bAl _ _)) (by omega) (by omega) (by omega)).mono ?_;rintro e w1⟨rfl,rfl⟩)
  go_ret;exact⟨zk HF.o.symm,bAl _ _⟩
theorem zeX.load {w:World}{b off:Nat}{f:Fld}{a:OA}{cap:Nat}(h:zeX w b off f a cap) :
 w.cell? (aD b off)=some (.s f.nm)/\w.cell? (aD b (off+1))=some (.i f.kd)/\w.cell? (aD b (off+2))=some (.i f.ls)/\w.cell? (aD b (off+3))=some (.i f.ms) /\
 w.cell? (aD b (off+4))=some (.l a f.ws.length cap)/\w.cell? (aD b (off+5))=some (.s f.to)/\w.cell? (aD b (off+6))=some (.i f.rl)/\w.cell? (aD b (off+7))=some (.bool f.mu) /\
 w.cell? (aD b (off+8))=some (.bool f.fx)/\w.cell? (aD b (off+9))=some (.s f.df)/\w.cell? (aD b (off+10))=some (.s f.wg):=
 ⟨h.cell 0 (by omega),h.cell 1 (by omega),h.cell 2 (by omega),h.cell 3 (by omega),h.cell 4 (by omega),h.cell 5 (by omega),h.cell 6 (by omega),h.cell 7 (by omega),h.cell 8 (by omega),h.cell 9 (by omega),h.cell 10 (by omega)⟩
end Go.Proofs.YthdfpinbnncghaaGreat
namespace Go.Proofs.YthdfpinbnncghaaGreat
def up (P:Nat->Bool)(n:Nat):Bool:=(List.range n).all P
theorem jA (P:Nat->Bool)(n:Nat):up P (n+1)=(up P n&&P n):=by simp[up,List.range_succ,List.all_append]
theorem za2 {P:Nat->Bool}{k n:Nat}(h:k<n)(hk:P k=false):up P n=false:=by
 unfold up;rw[List.all_eq_false];exact⟨k,List.mem_range.2 h,by simp[hk]⟩
theorem zgr {P:Nat->Bool}{k n:Nat}(h:k<n)(hu:up P n=true):P k=true:=by
 unfold up at hu;rw[List.all_eq_true]at hu;exact hu k (List.mem_range.2 h)
def less (a b:BA):Bool:=Op.bytesLess a.toList b.toList
def zee (ws:List BA)(i:Nat):Bool:=zm (ws.getD i ByteArray.empty)&&(decide (i=0)||less (ws.getD (i-1) ByteArray.empty) (ws.getD i ByteArray.empty))
def asc (ws:List BA):Bool:=up (zee ws) ws.length
theorem getD_at {α:Type}(l:List α)(i:Nat)(d:α)(h:i<l.length):l.getD i d=l[i]:=by
 rw[List.getD_eq_getElem?_getD,List.getElem?_eq_getElem h];rfl
theorem zka {ws:List BA}{k:Nat}(h:k<ws.length)(hn:zm ws[k]=false):zee ws k=false:=by
 unfold zee;rw[getD_at ws k _ h,hn];rfl
theorem zik {ws:List BA}(h:0<ws.length)(hn:zm ws[0]=true):zee ws 0=true:=by
 unfold zee;rw[getD_at ws 0 _ h,hn];rfl
theorem zez {ws:List BA}{k:Nat}(h:k+1<ws.length)(hn:zm ws[k+1]=true):zee ws (k+1)=less ws[k] ws[k+1]:=by
 unfold zee;rw[getD_at ws (k+1) _ h,Nat.add_sub_cancel,getD_at ws k _ (by omega),hn];simp
def yV (kd ls ms:Int)(n:Nat)(to:BA)(rl:Int)(wg:BA):Bool:=
 if kd=1 then decide (n=0)&&to.toList.isEmpty&&decide (rl=0)
 else if kd=2 then decide (ls=0)&&decide (ms=0)&&to.toList.isEmpty&&decide (rl=0)&&wg.toList.isEmpty
 else if kd=3 then decide (n=0)&&to.toList.isEmpty&&decide (rl=0)&&wg.toList.isEmpty
 else if kd=4 then decide (ls=0)&&decide (ms=0)&&decide (n=0)&&wg.toList.isEmpty
 else false
def jN (ls ms lo hi:Int):Bool:=decide (lo<=ls)&&decide (ls<=ms)&&decide (ms<=hi)
def zC (ss:List Shp)(k:BA):Bool:=ss.any fun s=>decide (s.kd=k)
def zZ (ss:List Shp)(f:Fld):Bool:=
 if f.kd=1 then jN f.ls f.ms 0 1000000&&(f.wg.toList.isEmpty||zm f.wg)
 else if f.kd=2 then decide (1<=f.ws.length)&&decide (f.ws.length<=6)&&asc f.ws
 else if f.kd=3 then jN f.ls f.ms 1 40
 else if f.kd=4 then zC ss f.to&&(decide (1<=f.rl)&&decide (f.rl<=3))&&f.df.toList.isEmpty&&(decide (f.rl≠2)||!f.mu)
 else false
def bare (f:Fld):Bool:=yV f.kd f.ls f.ms f.ws.length f.to f.rl f.wg
def zfW (f:Fld)(v:BA):Bool:=fits f.kd f.ls f.ms f.ws v
def zsG (f:Fld):Bool:=f.df.toList.isEmpty||zfW f f.df
def yM (ss:List Shp)(f:Fld):Bool:=bare f&&zZ ss f&&zsG f
def zcS:Shp:=⟨ByteArray.empty,[]⟩
def shapeOf (ss:List Shp)(k:BA):Shp:=(ss.find? fun s=>decide (s.kd=k)).getD zcS
theorem zgt (ss:List Shp)(v:BA)(k:Nat)(h:k<ss.length):zC (ss.take (k+1)) v=(zC (ss.take k) v||decide (ss[k].kd=v)):=by
 unfold zC;rw[tSe h,List.any_append];simp
theorem zkM (ss:List Shp)(v:BA)(k:Nat)(h:k<ss.length)(e:ss[k].kd=v):zC ss v=true:=by
 unfold zC;rw[List.any_eq_true];exact⟨ss[k],List.getElem_mem h,by simpa using e⟩
theorem zif (ss:List Shp)(v:BA)(k:Nat)(h:ss.length<=k):zC (ss.take k) v=zC ss v:=by rw[tOl h]
theorem zgh (ss:List Shp)(v:BA)(k:Nat)(h:k<ss.length)(hb:zC (ss.take k) v=false)(e:ss[k].kd=v):shapeOf ss v=ss[k]:=by
 unfold shapeOf
 have hn:(ss.take k).find? (fun s=>decide (s.kd=v))=none:=by
  rw[List.find?_eq_none];intro x hx;unfold zC at hb;rw[List.any_eq_false]at hb;exact hb x hx
 conv=>lhs;rw[<- List.take_append_drop k ss]
 rw[List.find?_append,hn,List.drop_eq_getElem_cons h,List.find?_cons_of_pos (by simpa using e)];rfl
theorem zmX (ss:List Shp)(v:BA)(hb:zC ss v=false):shapeOf ss v=zcS:=by
 unfold shapeOf
 have hn:ss.find? (fun s=>decide (s.kd=v))=none:=by
  rw[List.find?_eq_none];intro x hx;unfold zC at hb;rw[List.any_eq_false]at hb;exact hb x hx
 rw[hn];rfl
def hasName (fs:List Fld)(v:BA):Bool:=fs.any fun f=>decide (f.nm=v)
def zY (fs:List Fld)(v:BA):Int:=match fs.findIdx? (fun f=>decide (f.nm=v)) with|some i=>i|none=>-1
theorem zeA (fs:List Fld)(v:BA)(k:Nat)(h:k<fs.length):hasName (fs.take (k+1)) v=(hasName (fs.take k) v||decide (fs[k].nm=v)):=by
 unfold hasName;rw[tSe h,List.any_append];simp
theorem ziu (fs:List Fld)(v:BA)(k:Nat)(h:fs.length<=k):hasName (fs.take k) v=hasName fs v:=by rw[tOl h]
theorem zem (fs:List Fld)(v:BA)(k:Nat)(h:k<fs.length)(hb:hasName (fs.take k) v=false)(e:fs[k].nm=v):zY fs v=k:=by
 unfold zY
 have hf:fs.findIdx? (fun f=>decide (f.nm=v))=some k:=by
  rw[List.findIdx?_eq_some_iff_getElem];refine⟨h,by simpa using e,fun j hj=>?_⟩;unfold hasName at hb;rw[List.any_eq_false]at hb
  have hm:fs[j]∈fs.take k:=by
   rw[List.mem_iff_getElem];exact⟨j,by simp;omega,by simp⟩
  exact hb _ hm
 rw[hf]
theorem zhn (fs:List Fld)(v:BA)(hb:hasName fs v=false):zY fs v=-1:=by
 unfold zY
 have hf:fs.findIdx? (fun f=>decide (f.nm=v))=none:=by
  rw[List.findIdx?_eq_none_iff];intro x hx;unfold hasName at hb;rw[List.any_eq_false]at hb
  simpa using hb x hx
 rw[hf]
theorem zlC (fs:List Fld)(v:BA)(k:Nat)(h:k<fs.length)(hh:hasName (fs.take k) v=true):∃j,j<k/\zY fs v=j:=by
 unfold hasName at hh;rw[List.any_eq_true]at hh;obtain⟨x,hx,he⟩:=hh;obtain⟨j,hj,rfl⟩:=List.mem_iff_getElem.1 hx;have hjk:j<k:=by simp at hj;omega
 have hjl:j<fs.length:=by omega
 have hv:fs[j].nm=v:=by simpa using he
 cases hf:fs.findIdx? (fun f=>decide (f.nm=v)) with
 | none=>
  rw[List.findIdx?_eq_none_iff]at hf
  have:=hf fs[j] (List.getElem_mem hjl)
  simp[hv]at this
 | some i=>
  refine⟨i,?_,by unfold zY;rw[hf]⟩;rw[List.findIdx?_eq_some_iff_getElem]at hf;obtain⟨hi,_,hmin⟩:=hf
  rcases Nat.lt_or_ge i k with h1|h1
  ·exact h1
  ·exfalso
   have:=hmin j (by omega)
   simp[hv]at this
def zb7:Fld:=⟨ByteArray.empty,0,0,0,[],ByteArray.empty,0,false,false,ByteArray.empty,ByteArray.empty⟩
def zfv (ss:List Shp)(fs:List Fld)(i:Nat):Bool:=
 zm (fs.getD i zb7).nm&&!hasName (fs.take i) (fs.getD i zb7).nm&&yM ss (fs.getD i zb7)
def qz (ss:List Shp)(fs:List Fld):Bool:=decide (fs.length<=6)&&up (zfv ss fs) fs.length
theorem zjx (ss:List Shp)(fs:List Fld)(i:Nat)(h:i<fs.length):zfv ss fs i=(zm fs[i].nm&&!hasName (fs.take i) fs[i].nm&&yM ss fs[i]):=by
 unfold zfv;rw[getD_at fs i _ h]
def qp (ss:List Shp)(i:Nat):Bool:=
 zm (ss.getD i zcS).kd&&(decide (i=0)||less (ss.getD (i-1) zcS).kd (ss.getD i zcS).kd)&&qz ss (ss.getD i zcS).fs
def yg (ss:List Shp):Bool:=decide (ss.length<=6)&&up (qp ss) ss.length
theorem zfY (ss:List Shp)(h:0<ss.length):qp ss 0=(zm ss[0].kd&&qz ss ss[0].fs):=by
 unfold qp;rw[getD_at ss 0 _ h];simp
theorem zg5 (ss:List Shp)(k:Nat)(h:k+1<ss.length):qp ss (k+1)=(zm ss[k+1].kd&&less ss[k].kd ss[k+1].kd&&qz ss ss[k+1].fs):=by
 unfold qp;rw[getD_at ss (k+1) _ h,Nat.add_sub_cancel,getD_at ss k _ (by omega)];simp
theorem zcj:∀x:List UInt8,Op.bytesLess x x=false
 | []=>rfl
 | a :: x=>by
  simp only[Op.bytesLess,Bool.or_eq_false_iff,decide_eq_false_iff_not,Bool.and_eq_false_iff];exact⟨fun h=>by simp at h,Or.inr (zcj x)⟩
theorem zbq:∀x y z:List UInt8,Op.bytesLess x y=true->Op.bytesLess y z=true->Op.bytesLess x z=true
 | _,[],_,h,_=>by simp[Op.bytesLess]at h
 | [],_ :: _,[],_,h=>by simp[Op.bytesLess]at h
 | [],_ :: _,_ :: _,_,_=>rfl
 | _ :: _,_ :: _,[],_,h=>by simp[Op.bytesLess]at h
 | a :: x,b :: y,c :: z,h,k=>by
  simp only[Op.bytesLess,Bool.or_eq_true,decide_eq_true_eq,Bool.and_eq_true,beq_iff_eq]at h k ⊢
  rcases h with h|⟨rfl,h⟩
  ·rcases k with k|⟨rfl,k⟩
   ·exact Or.inl (UInt8.lt_trans h k)
   ·exact Or.inl h
  ·rcases k with k|⟨rfl,k⟩
   ·exact Or.inl k
   ·exact Or.inr ⟨rfl,zbq x y z h k⟩
end Go.Proofs.YthdfpinbnncghaaGreat
namespace Go.Proofs.YthdfpinbnncghaaGreat
open Go.RowKit
theorem zh {w:World}{b o:Nat}{C:AV}{t:TypeId}(h:w.heap[b]?=some (.cells C t))(v:Value):(w.setCell (aD b o) v).heap[b]?=some (.cells (C.setIfInBounds o v) t):=by
 simp[World.setCell,Array.getElem?_modify,h]
theorem cell_of_block {w:World}{b o:Nat}{C:AV}{t:TypeId}(h:w.heap[b]?=some (.cells C t)):w.cell? (aD b o)=C[o]?:=by simp[World.cell?,h]
theorem zl {w:World}{b o:Nat}{C:AV}{t:TypeId}(h:w.heap[b]?=some (.cells C t)):w.frozen? (aD b o)=false:=by simp[World.frozen?,h]
def zol (w:World)(b o:Nat)(v0 v1 v2 v3 v4 v5 v6 v7 v8 v9 v10:Value):World:=((((((((((w.setCell (aD b o) v0).setCell (aD b (o+1)) v1).setCell (aD b (o+2)) v2).setCell (aD b (o+3)) v3).setCell (aD b (o+4)) v4).setCell (aD b (o+5)) v5).setCell (aD b (o+6)) v6).setCell (aD b (o+7)) v7).setCell (aD b (o+8)) v8).setCell (aD b (o+9)) v9).setCell (aD b (o+10)) v10
def zjX (C:AV)(o:Nat)(v0 v1 v2 v3 v4 v5 v6 v7 v8 v9 v10:Value):AV:=((((((((((C.setIfInBounds o v0).setIfInBounds (o+1) v1).setIfInBounds (o+2) v2).setIfInBounds (o+3) v3).setIfInBounds (o+4) v4).setIfInBounds (o+5) v5).setIfInBounds (o+6) v6).setIfInBounds (o+7) v7).setIfInBounds (o+8) v8).setIfInBounds (o+9) v9).setIfInBounds (o+10) v10
theorem zom {w:World}{b o:Nat}{C:AV}{t:TypeId}(h:w.heap[b]?=some (.cells C t))(v0 v1 v2 v3 v4 v5 v6 v7 v8 v9 v10:Value):(zol w b o v0 v1 v2 v3 v4 v5 v6 v7 v8 v9 v10).heap[b]?=some (.cells (zjX C o v0 v1 v2 v3 v4 v5 v6 v7 v8 v9 v10) t):=
 zh (zh (zh (zh (zh (zh (zh (zh (zh (zh (zh h v0) v1) v2) v3) v4) v5) v6) v7) v8) v9) v10
theorem znB {B:Nat}{a w:World}(h:Below B a w){b:Nat}(hb:B<=b)(o:Nat)(v0 v1 v2 v3 v4 v5 v6 v7 v8 v9 v10:Value):Below B a (zol w b o v0 v1 v2 v3 v4 v5 v6 v7 v8 v9 v10):=
 ((((((((((h.setCell hb v0).setCell hb v1).setCell hb v2).setCell hb v3).setCell hb v4).setCell hb v5).setCell hb v6).setCell hb v7).setCell hb v8).setCell hb v9).setCell hb v10
theorem zio (w:World)(b o b':Nat)(hb:b'≠b)(v0 v1 v2 v3 v4 v5 v6 v7 v8 v9 v10:Value):(zol w b o v0 v1 v2 v3 v4 v5 v6 v7 v8 v9 v10).heap[b']?=w.heap[b']?:=by
 unfold zol
 iterate 11 rw[Below.heap_setCell _ _ _ _ hb]
theorem zpc (C:AV)(o:Nat)(v0 v1 v2 v3 v4 v5 v6 v7 v8 v9 v10:Value):(zjX C o v0 v1 v2 v3 v4 v5 v6 v7 v8 v9 v10).size=C.size:=by simp[zjX]
theorem zqF (C:AV)(o i:Nat)(v0 v1 v2 v3 v4 v5 v6 v7 v8 v9 v10:Value)(h:i<o \/ o+11<=i):(zjX C o v0 v1 v2 v3 v4 v5 v6 v7 v8 v9 v10)[i]?=C[i]?:=by
 unfold zjX
 iterate 11 rw[Array.getElem?_setIfInBounds,if_neg (by omega)]
theorem zrP (C:AV)(o j:Nat)(v0 v1 v2 v3 v4 v5 v6 v7 v8 v9 v10:Value)(hj:j<11)(ho:o+11<=C.size):(zjX C o v0 v1 v2 v3 v4 v5 v6 v7 v8 v9 v10)[o+j]?=(#[v0,v1,v2,v3,v4,v5,v6,v7,v8,v9,v10]:AV)[j]?:=by
 have hc:j=0 \/ j=1 \/ j=2 \/ j=3 \/ j=4 \/ j=5 \/ j=6 \/ j=7 \/ j=8 \/ j=9 \/ j=10:=by omega
 unfold zjX
 rcases hc with h|h|h|h|h|h|h|h|h|h|h <;> subst h <;> simp[Array.getElem?_setIfInBounds] <;> omega
theorem zbh (a:OA)(cap:Nat)(ws:List BA)(w:World)(hw:zJ w a ws)(hl:ws.length<=1048576) :
 Calls Tryz.prog 109 #[.l a ws.length cap] w fun e w'=>e=.returned (.l (some (aD w.heap.size 0)) ws.length ws.length)/\w'=w.alloc (.cells (jO ws) 9):=by
 have hmk:∀w:World,(Instr.makeSlice 110 (.i ws.length) (.i ws.length)).run Tryz.prog w=.ok (.l (some (aD w.heap.size 0)) ws.length ws.length) (w.alloc (.cells (strCells ws 0) 9)):=by
  intro w;have h:=run_make_row' (P:=Tryz.prog) 110 9 (.s ByteArray.empty) 16 Tryz.underlying110 (by kernel_rfl) rfl .i64 .i64 ws.length (by omega) (by omega) w;rw[zlB]at h;exact h
 go_enter Tryz.func109,Tryz.ntmps109
 go_wp2
 clear hmk
 go_loopw [4] (fun i wr=>∃k:Nat,k<=ws.length/\i=.i k/\wr=w.alloc (.cells (strCells ws k) 9)) (fun i _=>ws.length-(intOf i).toNat)
 case atStart=>exact⟨0,Nat.zero_le _,rfl,rfl⟩
 case round=>
  obtain⟨k,hk,rfl,rfl⟩:=hrel
  by_cases hlt:k<ws.length
  ·obtain⟨b,off,rfl,hb,hc⟩:=hw.cells (by rintro rfl;simp at hlt)
   clear hw;have hck:=hc k hlt;have hold:=znO ws k hlt;have HS:=hid (zmo ws k hlt);clear hc
   go_wp2
   go_roundw
   case rel=>exact⟨k+1,by omega,by go_num,by rw[HS.o]⟩
   case measure=>simp[intOf];omega
  ·have HA:=hid (zmO ws k (by omega))
   clear hw
   go_wp2
   go_ret;exact⟨rfl,by rw[HA.o]⟩
theorem zkb (w:World)(o1 o2 o3 o4:Obj):Bw w ((((w.alloc o1).alloc o2).alloc o3).alloc o4):=
 (((bAl _ _).alloc (by simp) _).alloc (by simp;omega) _).alloc (by simp;omega) _
theorem at4 (w:World)(o1 o2 o3 o4:Obj):((((w.alloc o1).alloc o2).alloc o3).alloc o4).heap[w.heap.size+1+1+1]?=some o4:=by
 have h:=MapKept.heap_alloc (((w.alloc o1).alloc o2).alloc o3) o4
 simpa using h.1
theorem zi7 (nm:BA)(kd ls ms:Int)(a:OA)(cap:Nat)(ws:List BA)(to:BA)(rl:Int)(mu fx:Bool)(df wg:BA)(w:World)(hw:zJ w a ws)(hl:ws.length<=1048576) :
 Calls Tryz.prog 145 #[.agg #[.s nm,.i kd,.i ls,.i ms,.l a ws.length cap,.s to,.i rl,.bool mu,.bool fx,.s df,.s wg]] w
  fun e w'=>∃bk,e=.returned (.agg #[.s nm,.i kd,.i ls,.i ms,.l (some (aD bk 0)) ws.length ws.length,.s to,.i rl,.bool mu,.bool fx,.s df,.s wg]) /\
   w.heap.size<=bk/\bk<w'.heap.size/\w'.heap[bk]?=some (.cells (jO ws) 9)/\Bw w w':=by
 go_enter Tryz.func145,Tryz.ntmps145
 go_wp2_with (go_at_call 109;refine(zbh _ _ _ _ (by exact hw.mono (((bAl _ _).alloc (by simp) _).alloc (by simp;omega) _)) hl).mono ?_;rintro e w'⟨rfl,rfl⟩)
 refine bodyPost_ret (v:=.agg #[.s nm,.i kd,.i ls,.i ms,.l (some (aD (w.heap.size+1+1+1) 0)) ws.length ws.length,.s to,.i rl,.bool mu,.bool fx,.s df,.s wg]) (by simp[results,Tryz.results145,go_sem]) rfl ⟨w.heap.size+1+1+1,rfl,by omega,by simp,at4 _ _ _ _ _,zkb _ _ _ _ _⟩
end Go.Proofs.YthdfpinbnncghaaGreat
