import Derived.Maps.AppendAt
import Derived.WalkSpells
import Derived.WalkLawsBesides
import Derived.Test.YtnapmdofidgliaaGreatM02
import Derived.Test.YtnapmdofidgliaaGreatM03
import Derived.SliceStrings
set_option maxHeartbeats 400000
namespace Go.Proofs.YtnapmdofidgliaaGreat
open Go.RowKit
theorem qW {w w':World}{base:Nat}{e:TypeId}{size:Nat}{v:Value}{n:Nat}{xs:List Value}(h:w.ownsRow base e size v n xs)(hb:∀g,v.ownBlock=some g->w'.heap[g]?=w.heap[g]?):w'.ownsRow base e size v n xs:=by
 obtain⟨h0,h1|⟨g,cap,cur,rfl,h2,h3,h4⟩⟩:=h
 ·exact⟨h0,Or.inl h1⟩
 ·exact⟨h0,Or.inr ⟨g,cap,cur,rfl,h2,(hb g rfl).trans h3,h4⟩⟩
theorem yF {w w':World}{base:Nat}{e:TypeId}{size:Nat}{v:Value}{n:Nat}{xs:List Value}(h:w.ownsRow base e size v n xs)(hb:Below w.heap.size w w'):w'.ownsRow base e size v n xs:=
 qW h fun g hg=>hb.block g (h.lt g hg).2
theorem zaq {w:World}{base base':Nat}{e:TypeId}{size:Nat}{v:Value}{n:Nat}{xs:List Value}(h:w.ownsRow base e size v n xs)(hb:base'<=base):w.ownsRow base' e size v n xs:=by
 obtain⟨h0,h1|⟨g,cap,cur,rfl,h2,h3,h4⟩⟩:=h
 ·exact⟨h0,Or.inl h1⟩
 ·exact⟨h0,Or.inr ⟨g,cap,cur,rfl,Nat.le_trans hb h2,h3,h4⟩⟩
theorem zci (w:World)(x:Value)(t:TypeId):∀j u,[x][j]?=some u->(w.alloc (.cells #[x] t)).cell? ((⟨w.heap.size,0,none⟩:Addr).add j)=some u:=by
 intro j u hj
 rcases j with _|j
 ·have e:(⟨w.heap.size,0,none⟩:Addr).add 0=⟨w.heap.size,0,none⟩:=rfl
  rw[e,World.cell?_alloc_at (hn:=rfl)]
  simpa using hj
 ·simp at hj
theorem zaM {w w1:World}{row:Option Nat}{b:Nat}(hg:w.grownBy w1 row)(hb:b<w.heap.size)(h:∀g,row=some g->b≠g):w1.heap[b]?=w.heap[b]?:=
 hg.block b hb (fun e=>h b e.symm rfl)
theorem zaQ {B:Nat}{w0 w w1:World}{v x:Value}{t:TypeId}(h:Below B w0 w)(hB:B<=w.heap.size)(hg:(w.alloc (.cells #[x] t)).grownBy w1 v.ownBlock)(hr:∀k,v.ownBlock=some k->B<=k):Below B w0 w1:=
 (h.alloc hB _).grown hg (by simp;omega) hr
theorem Tryz.zfu:(Tryz.prog.info? 3).map (fun i=>(i.zero,i.size,i.bytes))=some (some (.int .i64 0),1,8):=by kernel_rfl
theorem yY {w:World}{lo:Nat}{e:TypeId}{v:Value}{n:Nat}{xs:List Value}(h:w.ownsRow lo e 1 v n xs):∃a cap,v=.slice a n cap:=by
 obtain⟨_,⟨rfl,h0⟩|⟨b,cap,cur,rfl,_⟩⟩:=h
 ·exact⟨none,0,by rw[h0]⟩
 ·exact⟨_,cap,rfl⟩
structure Fld where
 nm:ByteArray
 kd:Int
 ls:Int
 ms:Int
 ws:List ByteArray
 to:ByteArray
 rl:Int
 mu:Bool
 fx:Bool
 df:ByteArray
 wg:ByteArray
structure Shp where
 kd:ByteArray
 fs:List Fld
def Fld.cells (f:Fld)(a:Option Addr)(cap:Nat):Array Value:=
 #[.string f.nm, .int .i64 f.kd, .int .i64 f.ls, .int .i64 f.ms, .slice a f.ws.length cap, .string f.to, .int .i64 f.rl, .bool f.mu, .bool f.fx, .string f.df, .string f.wg]
structure Fld.Small (f:Fld):Prop where
 nm:f.nm.size<=maxLen
 to:f.to.size<=maxLen
 df:f.df.size<=maxLen
 wg:f.wg.size<=maxLen
structure zeC (w:World)(b off:Nat)(f:Fld)(a:Option Addr)(cap:Nat):Prop where
 small:f.Small
 strs:zD w a f.ws
 cell:∀j,j<11->w.cell? ⟨b,off+j,none⟩=(f.cells a cap)[j]?
structure zY (w:World)(a:Option Addr)(fs:List Fld):Prop where
 len:fs.length<=maxLen
 rows:fs≠[]->∃b off,a=some ⟨b,off,none⟩/\b<w.heap.size/\∀i (h:i<fs.length),∃wa wcap,zeC w b (off+i*11) fs[i] wa wcap
structure zlh (w:World)(b off:Nat)(s:Shp)(a:Option Addr)(cap:Nat):Prop where
 small:s.kd.size<=maxLen
 zdk:zY w a s.fs
 kind:w.cell? ⟨b,off,none⟩=some (.string s.kd)
 list:w.cell? ⟨b,off+1,none⟩=some (.slice a s.fs.length cap)
structure yU (w:World)(a:Option Addr)(ss:List Shp):Prop where
 len:ss.length<=maxLen
 rows:ss≠[]->∃b off,a=some ⟨b,off,none⟩/\b<w.heap.size/\∀i (h:i<ss.length),∃fa fcap,zlh w b (off+i*2) ss[i] fa fcap
theorem zeC.mono {w w':World}{b off:Nat}{f:Fld}{a:Option Addr}{cap:Nat}(h:zeC w b off f a cap)(hb:b<w.heap.size)(hl:Below w.heap.size w w'):zeC w' b off f a cap:=
 ⟨h.small,h.strs.mono hl,fun j hj=>(hl.cell (p:=⟨b,off+j,none⟩) hb).trans (h.cell j hj)⟩
theorem zY.mono {w w':World}{a:Option Addr}{fs:List Fld}(h:zY w a fs)(hl:Below w.heap.size w w'):zY w' a fs:=
 ⟨h.len,fun hne=>by
  obtain⟨b,off,ha,hb,hr⟩:=h.rows hne;refine⟨b,off,ha,nLt hb hl.size,fun i hi=>?_⟩;obtain⟨wa,wcap,hf⟩:=hr i hi;exact⟨wa,wcap,hf.mono hb hl⟩⟩
theorem zlh.mono {w w':World}{b off:Nat}{s:Shp}{a:Option Addr}{cap:Nat}(h:zlh w b off s a cap)(hb:b<w.heap.size)(hl:Below w.heap.size w w'):zlh w' b off s a cap:=
 ⟨h.small,h.zdk.mono hl,(hl.cell (p:=⟨b,off,none⟩) hb).trans h.kind,(hl.cell (p:=⟨b,off+1,none⟩) hb).trans h.list⟩
theorem yU.mono {w w':World}{a:Option Addr}{ss:List Shp}(h:yU w a ss)(hl:Below w.heap.size w w'):yU w' a ss:=
 ⟨h.len,fun hne=>by
  obtain⟨b,off,ha,hb,hr⟩:=h.rows hne;refine⟨b,off,ha,nLt hb hl.size,fun i hi=>?_⟩;obtain⟨fa,fcap,hs⟩:=hr i hi;exact⟨fa,fcap,hs.mono hb hl⟩⟩
theorem yB (n lo hi:Int)(w:World) :
 Calls Tryz.prog 61 #[.int .i64 n,.int .i64 lo,.int .i64 hi] w fun e w'=>e=.returned (.bool (decide (lo<=n)&&decide (n<=hi)))/\w'=w:=by
 go_enter Tryz.func61,Tryz.ntmps61
 go_wp2
 all_goals
  go_ret;refine⟨ze ?_,rfl⟩
  simp;try omega
theorem zbf (n lo hi:Int)(w:World)(h1:lo<=n)(h2:n<=hi) :
 Calls Tryz.prog 61 #[.int .i64 n,.int .i64 lo,.int .i64 hi] w fun e w'=>e=.returned (.bool true)/\w'=w:=by
 refine(yB n lo hi w).mono ?_;rintro e w'⟨rfl,rfl⟩;exact⟨ze (by simp;omega),rfl⟩
theorem zdc (n lo hi:Int)(w:World)(h1:¬(lo<=n/\n<=hi)) :
 Calls Tryz.prog 61 #[.int .i64 n,.int .i64 lo,.int .i64 hi] w fun e w'=>e=.returned (.bool false)/\w'=w:=by
 refine(yB n lo hi w).mono ?_;rintro e w'⟨rfl,rfl⟩;exact⟨ze (by simp;omega),rfl⟩
theorem zil (c:UInt8)(w:World) :
 Calls Tryz.prog 208 #[.int .u8 c.toNat] w fun e w'=>e=.returned (.bool (digit c))/\w'=w:=by
 go_enter Tryz.func208,Tryz.ntmps208
 go_wp2
 all_goals
  go_ret;refine⟨ze ?_,rfl⟩;rw[Bool.eq_iff_iff];simp[digit];try omega
theorem zhY (c:UInt8)(w:World)(h:48<=(c.toNat:Int))(h2:(c.toNat:Int)<=57) :
 Calls Tryz.prog 208 #[.int .u8 c.toNat] w fun e w'=>e=.returned (.bool true)/\w'=w:=by
 refine(zil c w).mono ?_;rintro e w'⟨rfl,rfl⟩;exact⟨ze (by simp[digit];omega),rfl⟩
theorem zcP (c:UInt8)(w:World)(h:¬(48<=(c.toNat:Int)/\(c.toNat:Int)<=57)) :
 Calls Tryz.prog 208 #[.int .u8 c.toNat] w fun e w'=>e=.returned (.bool false)/\w'=w:=by
 refine(zil c w).mono ?_;rintro e w'⟨rfl,rfl⟩;exact⟨ze (by simp[digit];omega),rfl⟩
end Go.Proofs.YtnapmdofidgliaaGreat
namespace Go.Proofs.YtnapmdofidgliaaGreat
structure zkY (rd:Nat->List Nat)(n:Nat)(row:List Nat):Prop where
 nodup:row.Nodup
 mem:∀q,q∈row↔q<n
 ahead:∀r1 p r2,row=r1++p :: r2->∀q∈rd p,q∈r1
theorem zbS {α:Type}[DecidableEq α]:∀(l m:List α),l.Nodup->(∀x∈l,x∈m)->l.length<=m.length:=by
 intro l
 induction l with
 | nil=>intro m _ _;exact Nat.zero_le _
 | cons a l ih=>
  intro m hn hm;rw[List.nodup_cons]at hn;have ha:=hm a (by simp)
  have h1:=ih (m.erase a) hn.2 (fun x hx=>by
   have hne:x≠a:=by rintro rfl;exact hn.1 hx
   exact(List.mem_erase_of_ne hne).2 (hm x (by simp[hx])))
  rw[List.length_erase_of_mem ha]at h1
  have:0<m.length:=List.length_pos_of_mem ha
  simp only[List.length_cons];omega
theorem zql {n:Nat}{l:List Nat}(hn:l.Nodup)(hm:∀x∈l,x<n)(hl:l.length=n)(q:Nat)(hq:q<n):q∈l:=by
 by_cases h:q∈l
 ·exact h
 ·exfalso
  have:=zbS (q :: l) (List.range n) (List.nodup_cons.2 ⟨h,hn⟩) (fun x hx=>by
   rcases List.mem_cons.1 hx with rfl|hx
   ·exact List.mem_range.2 hq
   ·exact List.mem_range.2 (hm x hx))
  simp only[List.length_cons,List.length_range]at this;omega
theorem ziq {r1 r2:List Nat}{p q:Nat}(hq:q∈r1)(hp:p ∉ r1):(r1++p :: r2).idxOf q<(r1++p :: r2).idxOf p:=by
 have h1:∀(l:List Nat),q∈l->(l++p :: r2).idxOf q<l.length:=by
  intro l
  induction l with
  | nil=>intro h;cases h
  | cons a l ih=>
   intro h
   by_cases ha:a=q
   ·subst ha;simp
   ·have hm:q∈l:=by
     rcases List.mem_cons.1 h with h'|h'
     ·exact absurd h'.symm ha
     ·exact h'
    have:=ih hm
    rw[List.cons_append,List.idxOf_cons,List.length_cons,beq_false_of_ne ha,cond_false];omega
 have h2:∀(l:List Nat),p ∉ l->l.length<=(l++p :: r2).idxOf p:=by
  intro l
  induction l with
  | nil=>intro _;exact Nat.zero_le _
  | cons a l ih=>
   intro h;rw[List.mem_cons]at h
   have:=ih (fun hm=>h (Or.inr hm))
   rw[List.cons_append,List.idxOf_cons,List.length_cons,beq_false_of_ne (fun e=>h (Or.inl (Eq.symm e))),cond_false];omega
 exact nLt (h1 r1 hq) (h2 r1 hp)
theorem zkY.zl1 {rd:Nat->List Nat}{n:Nat}{row:List Nat}(h:zkY rd n row):zj8 rd n (fun p=>row.idxOf p):=by
 have hlen:row.length<=n:=by
  have:=zbS row (List.range n) h.nodup (fun x hx=>List.mem_range.2 ((h.mem x).1 hx))
  simpa using this
 refine⟨fun p hp=>nLt (List.idxOf_lt_length_of_mem ((h.mem p).2 hp)) hlen,fun p hp q hq=>?_⟩;have hpm:=(h.mem p).2 hp;obtain⟨r1,r2,e⟩:=List.append_of_mem hpm;have hq1:=h.ahead r1 p r2 e q hq;have hnd:=h.nodup;rw[e]at hnd
 have hp1:p ∉ r1:=by
  intro hm;rw[List.nodup_append]at hnd;exact hnd.2.2 p hm p (by simp) rfl
 refine⟨(h.mem q).1 (by rw[e];simp[hq1]),?_⟩;simp only[e];exact ziq hq1 hp1
theorem zdW {rd:Nat->List Nat}{n:Nat}(hrd:∀p,p<n->∀q∈rd p,q<n)(h:(zH rd n).1=true):zkY rd n (zH rd n).2.row:=by
 have hfar:∀q,((zH rd n).2.far q).isSome->q<n:=by
  have hd:∀f p s,p<n->(∀q,(s.far q).isSome->q<n)->∀q,((down rd f p s).2.far q).isSome->q<n:=by
   intro f
   induction f with
   | zero=>intro p s _ hs q hq;exact hs q hq
   | succ f ih=>
    intro p s hp hs q hq
    have hl:∀(l:List Nat) (t:Far),(∀a∈l,a<n)->(∀q,(t.far q).isSome->q<n)->∀q,((zu (down rd f) l t).2.far q).isSome->q<n:=by
     intro l
     induction l with
     | nil=>intro t _ ht q hq;exact ht q hq
     | cons a l il=>
      intro t ha ht q hq;unfold zu at hq;have h1:=ih a t (ha a (by simp)) ht
      split at hq
      ·exact il _ (fun b hb=>ha b (by simp[hb])) h1 q hq
      ·exact h1 q hq
    have hu:∀q,((s.under p).far q).isSome->q<n:=by
     intro q hq
     by_cases hqp:q=p
     ·omega
     ·simp only[Far.under,if_neg hqp]at hq;exact hs q hq
    unfold down at hq
    rcases hfp:s.far p with _|b
    ·rw[hfp]at hq
     simp only at hq
     split at hq
     ·by_cases hqp:q=p
      ·omega
      ·simp only[Far.behind,if_neg hqp]at hq
       exact hl _ _ (hrd p hp) hu q hq
     ·exact hl _ _ (hrd p hp) hu q hq
    ·rw[hfp]at hq;exact hs q hq
  have hl:∀(l:List Nat) (t:Far),(∀a∈l,a<n)->(∀q,(t.far q).isSome->q<n)->∀q,((zu (down rd (n+1)) l t).2.far q).isSome->q<n:=by
   intro l
   induction l with
   | nil=>intro t _ ht q hq;exact ht q hq
   | cons a l il=>
    intro t ha ht q hq;unfold zu at hq;have h1:=hd (n+1) a t (ha a (by simp)) ht
    split at hq
    ·exact il _ (fun b hb=>ha b (by simp[hb])) h1 q hq
    ·exact h1 q hq
  exact hl _ _ (fun a ha=>List.mem_range.1 ha) (fun q hq=>by cases hq)
 obtain⟨r,_,hall⟩:=zkV rd (n+1) (List.range n) jR (zmY rd) h;refine⟨r.nodup,fun q=>⟨fun hq=>hfar q (by have h2:=(r.mem q).1 hq;unfold zH;rw[h2];rfl),fun hq=>(r.mem q).2 (hall q (List.mem_range.2 hq))⟩,fun r1 p r2 e q hq=>?_⟩;have e':(zu (down rd (n+1)) (List.range n) jR).2.row=r1++p :: r2:=e;have hi:r1.length<(zu (down rd (n+1)) (List.range n) jR).2.row.length:=by rw[e'];simp
 have hx:(zu (down rd (n+1)) (List.range n) jR).2.row[r1.length]=p:=by
  have:(zu (down rd (n+1)) (List.range n) jR).2.row[r1.length]?=some p:=by rw[e'];simp
  rw[List.getElem?_eq_getElem hi]at this;exact Option.some.inj this
 obtain⟨j,hj,hjq⟩:=r.ahead r1.length hi q (by rw[hx];exact hq)
 have:(zu (down rd (n+1)) (List.range n) jR).2.row[j]?=some q:=by rw[List.getElem?_eq_getElem (by omega),hjq]
 rw[e',List.getElem?_append_left hj]at this;exact List.mem_of_getElem? this
def ready (rd:Nat->List Nat)(row:List Nat)(i:Nat):Bool:=!decide (i∈row)&&(rd i).all fun q=>decide (q∈row)
def pick (rd:Nat->List Nat)(n:Nat)(row:List Nat):Option Nat:=(List.range n).find? (ready rd row)
def more (rd:Nat->List Nat)(n:Nat)(row:List Nat):List Nat:=match pick rd n row with|none=>row|some i=>row++[i]
def greedy (rd:Nat->List Nat)(n:Nat):Nat->List Nat
 | 0=>[]
 | k+1=>more rd n (greedy rd n k)
structure Part (rd:Nat->List Nat)(n:Nat)(row:List Nat):Prop where
 nodup:row.Nodup
 mem:∀q∈row,q<n
 ahead:∀r1 p r2,row=r1++p :: r2->∀q∈rd p,q∈r1
theorem zhA {rd:Nat->List Nat}{row:List Nat}{i:Nat}:ready rd row i=true↔i ∉ row/\∀q∈rd i,q∈row:=by
 unfold ready;simp
theorem zoN {r1 r2 row:List Nat}{p i:Nat}(e:row++[i]=r1++p :: r2):(r2=[]/\p=i/\r1=row) \/ ∃r3,r2=r3++[i]/\row=r1++p :: r3:=by
 rcases List.eq_nil_or_concat r2 with rfl|⟨r3,b,rfl⟩
 ·left
  have h2:=List.append_inj' e rfl;exact⟨rfl,by simpa using h2.2.symm,h2.1.symm⟩
 ·right
  rw[List.concat_eq_append]at e ⊢;have e2:row++[i]=(r1++p :: r3)++[b]:=by rw[e];simp
  have h2:=List.append_inj' e2 rfl;exact⟨r3,by simpa using h2.2.symm,h2.1⟩
theorem Part.more {rd:Nat->List Nat}{n:Nat}{row:List Nat}(h:Part rd n row):Part rd n (more rd n row):=by
 change Part rd n (match pick rd n row with|none=>row|some i=>row++[i])
 rcases hp:pick rd n row with _|i
 ·exact h
 ·unfold pick at hp
  have hi:=List.find?_some hp;have hin:=List.mem_of_find?_eq_some hp;rw[zhA]at hi;refine⟨?_,fun q hq=>?_,fun r1 p r2 e q hq=>?_⟩
  ·rw[List.nodup_append]
   exact⟨h.nodup,by simp,fun a ha b hb=>by rw[List.mem_singleton]at hb;subst hb;exact fun e=>hi.1 (e ▸ ha)⟩
  ·rcases List.mem_append.1 hq with hq|hq
   ·exact h.mem q hq
   ·rw[List.mem_singleton]at hq;subst hq;exact List.mem_range.1 hin
  ·rcases zoN e with⟨_,rfl,rfl⟩|⟨r3,_,e3⟩
   ·exact hi.2 q hq
   ·exact h.ahead r1 p r3 e3 q hq
theorem zcq (rd:Nat->List Nat)(n:Nat):∀k,Part rd n (greedy rd n k)
 | 0=>⟨by simp[greedy],fun q hq=>by simp[greedy]at hq,fun r1 p r2 e=>by simp[greedy]at e⟩
 | k+1=>(zcq rd n k).more
theorem Part.zpv {rd:Nat->List Nat}{n:Nat}{row:List Nat}(h:Part rd n row)(hl:row.length=n):zkY rd n row:=
 ⟨h.nodup,fun q=>⟨h.mem q,zql h.nodup h.mem hl q⟩,h.ahead⟩
theorem zpu {rd:Nat->List Nat}{n:Nat}{rk:Nat->Nat}(hr:zj8 rd n rk)(row:List Nat):∀r p,p<n->p ∉ row->rk p<=r->∃i,pick rd n row=some i:=by
 intro r
 have fin:∀p,p<n->p ∉ row->(∀q∈rd p,q∈row)->∃i,pick rd n row=some i:=by
  intro p hp hm ha
  have:(pick rd n row).isSome:=by
   unfold pick;rw[List.find?_isSome];exact⟨p,List.mem_range.2 hp,zhA.2 ⟨hm,ha⟩⟩
  exact Option.isSome_iff_exists.1 this
 induction r with
 | zero=>
  intro p hp hm hk;refine fin p hp hm (fun q hq=>?_)
  have:=(hr.2 p hp q hq).2;omega
 | succ r ih=>
  intro p hp hm hk
  by_cases ha:∀q∈rd p,q∈row
  ·exact fin p hp hm ha
  ·have:∃q,q∈rd p/\q ∉ row:=by
    by_cases h:∃q,q∈rd p/\q ∉ row
    ·exact h
    ·exact absurd (fun q hq=>Classical.byContradiction fun hn=>h ⟨q,hq,hn⟩) ha
   obtain⟨q,hq,hqm⟩:=this;have h1:=hr.2 p hp q hq;exact ih q h1.1 hqm (by omega)
theorem zh9 {rd:Nat->List Nat}{n:Nat}{rk:Nat->Nat}(hr:zj8 rd n rk):∀k,k<=n->(greedy rd n k).length=k:=by
 intro k
 induction k with
 | zero=>intro _;rfl
 | succ k ih=>
  intro hk;have hl:=ih (by omega);have hpart:=zcq rd n k
  have:∃p,p<n/\p ∉ greedy rd n k:=by
   by_cases h:∃p,p<n/\p ∉ greedy rd n k
   ·exact h
   ·exfalso
    have:=zbS (List.range n) (greedy rd n k) List.nodup_range (fun x hx=>Classical.byContradiction fun hn=>h ⟨x,List.mem_range.1 hx,hn⟩)
    simp only[List.length_range]at this;omega
  obtain⟨p,hp,hm⟩:=this;obtain⟨i,hi⟩:=zpu hr (greedy rd n k) (rk p) p hp hm (Nat.le_refl _)
  show(more rd n (greedy rd n k)).length=k+1
  unfold more;rw[hi];simp[hl]
theorem ziJ {rd:Nat->List Nat}{n:Nat}(hrd:∀p,p<n->∀q∈rd p,q<n):(zH rd n).1=decide ((greedy rd n n).length=n):=by
 by_cases h:(zH rd n).1=true
 ·rw[h];exact(decide_eq_true (zh9 (zdW hrd h).zl1 n (Nat.le_refl _))).symm
 ·have hf:(zH rd n).1=false:=by simpa using h
  rw[hf]
  symm
  rw[decide_eq_false_iff_not];intro hl;exact h (zj0 ((zcq rd n n).zpv hl).zl1)
def z8 {α:Type}(D:Nat->List α->α)(row:List Nat)(vs:List α):List α:=row.foldl (fun us p=>us.set p (D p us)) vs
theorem jS {α:Type}(D:Nat->List α->α):∀(row:List Nat) (vs:List α),(z8 D row vs).length=vs.length:=by
 intro row
 induction row with
 | nil=>intro vs;rfl
 | cons a l ih=>intro vs;show(z8 D l (vs.set a (D a vs))).length=_;rw[ih];simp
theorem zfd {α:Type}(D:Nat->List α->α)(p:Nat):∀(row:List Nat) (vs:List α),p ∉ row->(z8 D row vs)[p]?=vs[p]?:=by
 intro row
 induction row with
 | nil=>intro vs _;rfl
 | cons a l ih=>
  intro vs h;rw[List.mem_cons]at h
  show(z8 D l (vs.set a (D a vs)))[p]?=_
  rw[ih _ (fun hm=>h (Or.inr hm)),List.getElem?_set_ne (fun e=>h (Or.inl e.symm))]
theorem zc0 {α:Type}(D:Nat->List α->α)(r1 r2:List Nat)(vs:List α):z8 D (r1++r2) vs=z8 D r2 (z8 D r1 vs):=by
 unfold z8;rw[List.foldl_append]
theorem zo5 {α:Type}(D:Nat->List α->α)(r1 r2:List Nat)(p:Nat)(vs:List α)(hp:p<vs.length)(h2:p ∉ r2):(z8 D (r1++p :: r2) vs)[p]?=some (D p (z8 D r1 vs)):=by
 rw[zc0]
 show(z8 D r2 ((z8 D r1 vs).set p (D p (z8 D r1 vs))))[p]?=_
 rw[zfd D p r2 _ h2,List.getElem?_set_self (by rw[jS];exact hp)]
def zq2 {α:Type}(rd:Nat->List Nat)(n:Nat)(D:Nat->List α->α):Prop:=∀p,p<n->∀us vs:List α,us.length=n->vs.length=n->(∀q∈rd p,us[q]?=vs[q]?)->us[p]?=vs[p]?->D p us=D p vs
theorem zgt {α:Type}{D:Nat->List α->α}{rd:Nat->List Nat}{n:Nat}{row:List Nat}(h:zkY rd n row)(vs:List α)(hl:vs.length=n)(p:Nat)(hp:p<n) :
 ∃us:List α,us.length=n/\(z8 D row vs)[p]?=some (D p us)/\us[p]?=vs[p]?/\∀q∈rd p,us[q]?=(z8 D row vs)[q]?:=by
 obtain⟨r1,r2,e⟩:=List.append_of_mem ((h.mem p).2 hp);have hnd:=h.nodup;rw[e,List.nodup_append]at hnd;have hp1:p ∉ r1:=fun hm=>hnd.2.2 p hm p (by simp) rfl
 have hp2:p ∉ r2:=(List.nodup_cons.1 hnd.2.1).1;refine⟨z8 D r1 vs,by rw[jS,hl],by rw[e];exact zo5 D r1 r2 p vs (by omega) hp2,zfd D p r1 vs hp1,fun q hq=>?_⟩;have hq1:=h.ahead r1 p r2 e q hq;have hq2:q ∉ p :: r2:=fun hm=>hnd.2.2 q hq1 q hm rfl
 rw[e,zc0,zfd D q _ _ hq2]
theorem zn6 {α:Type}{D:Nat->List α->α}{rd:Nat->List Nat}{n:Nat}{r r':List Nat}(h:zkY rd n r)(h':zkY rd n r')(hD:zq2 rd n D)(vs:List α)(hl:vs.length=n):z8 D r vs=z8 D r' vs:=by
 have hr:=h.zl1
 have key:∀k p,p<n->r.idxOf p<k->(z8 D r vs)[p]?=(z8 D r' vs)[p]?:=by
  intro k
  induction k with
  | zero=>intro p _ hk;omega
  | succ k ih=>
   intro p hp hk;obtain⟨us,u1,u2,u3,u4⟩:=zgt (D:=D) h vs hl p hp;obtain⟨us',u1',u2',u3',u4'⟩:=zgt (D:=D) h' vs hl p hp;rw[u2,u2']
   congr 1
   refine hD p hp us us' u1 u1' (fun q hq=>?_) (u3.trans u3'.symm);have h1:=hr.2 p hp q hq;have h2:r.idxOf q<r.idxOf p:=h1.2;rw[u4 q hq,u4' q hq];exact ih q h1.1 (by omega)
 apply List.ext_getElem?
 intro p
 rcases Nat.lt_or_ge p n with hp|hp
 ·exact key (r.idxOf p+1) p hp (Nat.lt_succ_self _)
 ·rw[List.getElem?_eq_none (by rw[jS,hl];exact hp),List.getElem?_eq_none (by rw[jS,hl];exact hp)]
end Go.Proofs.YtnapmdofidgliaaGreat
namespace Go.Proofs.YtnapmdofidgliaaGreat
open Go.RowKit
theorem zl2 {w:World}{lo:Nat}{a:Option Addr}{n cap:Nat}{row:List ByteArray}(h:w.ownsRow lo 9 1 (.slice a n cap) row.length (row.map Value.string))(hl:row.length<=maxLen)(hs:∀s∈row,s.size<=maxLen):zD w a row:=by
 refine⟨hl,hs,fun hne=>?_⟩;obtain⟨_,⟨h0,h1⟩|⟨g,cp,cur,h0,h1⟩⟩:=id h
 ·exact absurd (List.length_eq_zero_iff.1 h1) hne
 ·cases h0
  refine⟨g,0,rfl,(h.lt g rfl).2,fun i hi=>?_⟩;rw[Nat.zero_add,h.cellAt i (by omega)]
  simp[hi]
theorem sA {α:Type}(l:List α)(i:Nat)(x:α):l.toArray.setIfInBounds i x=(l.set i x).toArray:=List.setIfInBounds_toArray ..
theorem s0 {α:Type}(x y:α)(l:List α):(x :: l).set 0 y=y :: l:=rfl
theorem sS {α:Type}(x y:α)(l:List α)(n:Nat):(x :: l).set (n+1) y=x :: l.set n y:=rfl
section
variable {P:Program} {ops:Array Oper} {Q:Exit->Act->World->Prop} {md:Region.Mode} {S:World->Prop}
theorem tH (i:Nat){oi:Oper}{v:Value}{fuel:Nat}{listed:Array Bool}{a a':Act}{w:World}(hi:nth ops.toList i=some oi)(hS:S w)
 (h:wpAnyH P md ops Q S fuel (listed.setIfInBounds i true) a' w) (hs:Region.noSelect ops=true:=by kernel_rfl) (hf:Region.free md ops listed i=true:=by kernel_rfl) (hr:(Region.ready md ops listed).contains i=true:=by kernel_rfl)
 (hw:Region.wanted oi (yielded ops a.tmps)=true:=by rfl)
 (hy:∀w,S w->(execOp a.eval oi).run P w=.ok (.value v) w:=by(intro w hSw;(try dsimp only at hSw);go_simp;try with_reducible rfl))
 (ha:a.put oi.dst v=a':=by((try simp only[Act.put,sA,s0,sS]);rfl))
 (hQ:∀c a w,Q (.panic c) (a.put oi.dst v) w->Q (.panic c) a w:=by exact fun _ _ _ h=>h):wpAnyH P md ops Q S (fuel+1) listed a w:=
 zq0 hi hs hf hr hQ hw hS hy (ha ▸ h)
theorem kH (i:Nat){oi:Oper}{fuel:Nat}{listed:Array Bool}{a a':Act}{w:World}(hi:nth ops.toList i=some oi)(hS:S w)
 (h:wpAnyH P md ops Q S fuel (listed.setIfInBounds i true) a' w) (hs:Region.noSelect ops=true:=by kernel_rfl) (hf:Region.free md ops listed i=true:=by kernel_rfl) (hr:(Region.ready md ops listed).contains i=true:=by kernel_rfl)
 (hw:Region.wanted oi (yielded ops a.tmps)=false:=by rfl)
 (ha:a.put oi.dst undef=a':=by((try simp only[Act.put,sA,s0,sS]);rfl))
 (hQ:∀c a w,Q (.panic c) (a.put oi.dst undef) w->Q (.panic c) a w:=by exact fun _ _ _ h=>h):wpAnyH P md ops Q S (fuel+1) listed a w:=
 zqY hi hs hf hr hQ hw hS (ha ▸ h)
theorem tG (i:Nat){oi:Oper}{v:Value}{fuel:Nat}{listed:Array Bool}{a a':Act}{w:World}(h:wpAnyH P md ops Q S fuel (listed.setIfInBounds i true) a' w)
 (hS:S w:=by assumption) (hi:nth ops.toList i=some oi:=by rfl) (hs:Region.noSelect ops=true:=by kernel_rfl) (hf:Region.free md ops listed i=true:=by kernel_rfl) (hr:(Region.ready md ops listed).contains i=true:=by kernel_rfl)
 (hw:Region.wanted oi (yielded ops a.tmps)=true:=by rfl)
 (hy:∀w,S w->(execOp a.eval oi).run P w=.ok (.value v) w:=by(intro w hSw;(try dsimp only at hSw);go_simp;try with_reducible rfl))
 (ha:a.put oi.dst v=a':=by((try simp only[Act.put,sA,s0,sS]);rfl))
 (hQ:∀c a w,Q (.panic c) (a.put oi.dst v) w->Q (.panic c) a w:=by exact fun _ _ _ h=>h):wpAnyH P md ops Q S (fuel+1) listed a w:=
 zq0 hi hs hf hr hQ hw hS hy (ha ▸ h)
theorem kG (i:Nat){oi:Oper}{fuel:Nat}{listed:Array Bool}{a a':Act}{w:World}(h:wpAnyH P md ops Q S fuel (listed.setIfInBounds i true) a' w)
 (hS:S w:=by assumption) (hi:nth ops.toList i=some oi:=by rfl) (hs:Region.noSelect ops=true:=by kernel_rfl) (hf:Region.free md ops listed i=true:=by kernel_rfl) (hr:(Region.ready md ops listed).contains i=true:=by kernel_rfl)
 (hw:Region.wanted oi (yielded ops a.tmps)=false:=by rfl)
 (ha:a.put oi.dst undef=a':=by((try simp only[Act.put,sA,s0,sS]);rfl))
 (hQ:∀c a w,Q (.panic c) (a.put oi.dst undef) w->Q (.panic c) a w:=by exact fun _ _ _ h=>h):wpAnyH P md ops Q S (fuel+1) listed a w:=
 zqY hi hs hf hr hQ hw hS (ha ▸ h)
theorem cH (i:Nat){oi:Oper}{fuel:Nat}{listed:Array Bool}{a:Act}{w:World}(hi:nth ops.toList i=some oi)
 (h:∀K:Act->World->Prop,Shut (∀a w,S w->(S w->wpAnyH P md ops Q S fuel (listed.setIfInBounds i true) a w)->K a w)->Oper.wp P oi a w K Q)
 (hr:Region.ready md ops listed=[i]:=by kernel_rfl) (hw:Region.wanted oi (yielded ops a.tmps)=true:=by rfl):wpAnyH P md ops Q S (fuel+1) listed a w:=
 zq7 hi hr hw h
end
end Go.Proofs.YtnapmdofidgliaaGreat
namespace Go.Proofs.YtnapmdofidgliaaGreat.LawDoomed
open Go.ChangeShapes Go.WideShapes Go.ChangeAt Go.RowKit
theorem closed:joinedFacts Tryz.pinned.checked.prog 3 Tryz.f3 Rows.fnExactGateDoomedSpec Rows.fnExactGateDoomedRow=true:=by
 unfold joinedFacts;rw[kInPlace,kUnfol,kRecur,kNamed,kLaid,kMaps,kMay,kLifts]
 kernel_rfl
end Go.Proofs.YtnapmdofidgliaaGreat.LawDoomed
namespace Go.Proofs.YtnapmdofidgliaaGreat
open Go.ChangeShapes Go.WideShapes Go.ChangeAt Go.RowKit
section
variable {H:Type} {enc:TypeId × Value->H} {P:Program} {w:World} {base:Nat} {spare:Nat->Bool} {held:Bool}
theorem zgN {a:Addr}{v:Value}(h:w.cell? a=some v):a=⟨a.block,a.off,none⟩/\a.block<w.heap.size:=by
 obtain⟨b,o,s⟩:=a;unfold World.cell? at h
 cases hb:w.heap[b]? with
 | none=>simp[hb]at h
 | some x=>
  have hlt:=(gES hb).1
  cases s with
  | none=>exact⟨rfl,hlt⟩
  | some k=>cases x <;> simp[hb]at h
theorem zhz {t e:TypeId}{fuel:Nat}{cs:List Value}{x:DataW H × List MemPlace}(ht:P.underlying t=some (.slice e))(he:P.underlying e=some .string)(hc:P.cellsOf e=1)
 (h:DataW.trod enc P w base spare held fuel t cs=some x):∃a cap ws,cs=[.slice a ws.length cap]/\zD w a ws:=by
 rcases open_strings ht he hc h with⟨rfl,_⟩|⟨a,len,cap,ss,rfl,_,hl,hm,hz,_,hcell,hws⟩
 ·exact⟨none,0,[],rfl,⟨by simp[maxLen],by simp,fun h=>absurd rfl h⟩⟩
 ·have hle:len<=ss.length:=by rw[hz];split <;> omega
  have hlen:(ss.take len).length=len:=by rw[List.length_take];omega
  refine⟨some a,cap,ss.take len,by rw[hlen],⟨by rw[hlen];omega,fun s hs=>hws s (List.mem_of_mem_take hs),fun hne=>?_⟩⟩
  have hpos:0<len:=by
   rcases Nat.eq_zero_or_pos len with h0|h0
   ·rw[h0]at hne;simp at hne
   ·exact h0
  have h0:=hcell 0 (by omega);obtain⟨ha,hb⟩:=zgN h0;simp only[Addr.add,if_true]at ha hb;refine⟨a.block,a.off,by rw[<- ha],hb,fun i hi=>?_⟩;have hi':i<len:=by omega
  have h1:=hcell i (by omega)
  have e1:a.add i=⟨a.block,a.off+i,none⟩:=by
   unfold Addr.add;split
   ·rename_i h;subst h;simpa using ha
   ·rfl
  rw[e1]at h1;rw[h1,List.getElem_take,List.getD_eq_getElem?_getD,List.getElem?_eq_getElem (by omega)]
  rfl
theorem zjA {t:TypeId}{fs:Array Field}{fuel:Nat}{cs:List Value}{x:DataW H × List MemPlace}(ht:P.underlying t=some (.struct fs))(h:DataW.trod enc P w base spare held fuel t cs=some x)
 (i:Nat) (f:Field) (hf:fs[i]?=some f):∃n y,DataW.trod enc P w base spare held n f.type ((cs.drop f.offset).take (P.cellsOf f.type))=some y:=by
 obtain⟨xs,n,_,_,_,hxl,hall⟩:=DataW.trod_struct ht h;have hi:i<fs.size:=(gES hf).1;exact⟨n,xs[i]'(by omega),by rw[hall i f hf,List.getElem?_eq_getElem (by omega)]⟩
theorem zak {t:TypeId}{fs:Array Field}{fuel:Nat}{cs:List Value}{x:DataW H × List MemPlace}(ht:P.underlying t=some (.struct fs))(h:DataW.trod enc P w base spare held fuel t cs=some x)
 (i tf off:Nat) (c:Value) (hf:(fs[i]?).map (fun f=>(f.type,f.offset))=some (tf,off)) (hone:P.cellsOf tf=1) (hc:cs[off]?=some c):∃n y,DataW.trod enc P w base spare held n tf [c]=some y:=by
 obtain⟨f,hf1,hf2⟩:=Option.map_eq_some_iff.1 hf;simp only[Prod.mk.injEq]at hf2;obtain⟨rfl,rfl⟩:=hf2;obtain⟨n,y,hy⟩:=zjA ht h i f hf1;rw[hone]at hy;obtain⟨hlt,hget⟩:=List.getElem?_eq_some_iff.1 hc;rw[List.drop_eq_getElem_cons hlt,hget]at hy;exact⟨n,y,hy⟩
end
theorem zcg {α:Type}{P:Nat->α->Prop}:∀n:Nat,(∀i,i<n->∃x,P i x)->∃l:List α,l.length=n/\∀i (h:i<l.length),P i l[i]
 | 0,_=>⟨[],rfl,fun i h=>absurd h (by simp)⟩
 | n+1,h=>by
  obtain⟨l,hl,hP⟩:=zcg n (fun i hi=>h i (by omega));obtain⟨x,hx⟩:=h n (by omega);refine⟨l++[x],by simp[hl],fun i hi=>?_⟩
  rcases Nat.lt_or_ge i n with h1|h1
  ·rw[List.getElem_append_left (by omega)];exact hP i (by omega)
  ·have e:i=n:=by simp at hi;omega
   subst e;rw[List.getElem_append_right (by omega)]
   simpa[hl] using hx
theorem add_add (b o m j:Nat):((⟨b,o,none⟩:Addr).add m).add j=⟨b,o+m+j,none⟩:=by
 unfold Addr.add
 by_cases h1:m=0 <;> by_cases h2:j=0 <;> simp[h1,h2]
section
variable {H:Type} {enc:TypeId × Value->H} {P:Program} {w:World} {base:Nat} {spare:Nat->Bool} {held:Bool}
theorem za0 {t e:TypeId}{sz fuel:Nat}{cs:List Value}{x:DataW H × List MemPlace}(ht:P.underlying t=some (.slice e))(hsz:P.cellsOf e=sz)(hpos:0<sz)
 (h:DataW.trod enc P w base spare held fuel t cs=some x) :
 ∃a len cap,cs=[.slice a len cap]/\len<=maxLen/\(0<len->∃b off,a=some ⟨b,off,none⟩/\b<w.heap.size /\
  ∀i,i<len->∃es n y,es.length=sz/\(∀j,j<sz->w.cell? ⟨b,off+i*sz+j,none⟩=es[j]?)/\DataW.trod enc P w base spare held n e es=some y):=by
 rcases DataW.trod_slice ht h with⟨rfl,_⟩|⟨a,len,cap,elems,rest,n,_,rfl,_,hb,hl,hm,hlen,hel,_,_⟩
 ·exact⟨none,0,0,rfl,by simp[maxLen],fun h=>absurd h (by omega)⟩
 ·refine⟨some a,len,cap,rfl,by omega,fun hp=>?_⟩
  have each:∀i,i<len->∃es y,w.cells? base (a.add (i*sz)) sz=some es/\DataW.trod enc P w base spare held n e es=some y:=by
   intro i hi;have h1:=hel i hi;rw[hsz,List.getElem?_eq_getElem (by omega),Option.bind_eq_some_iff]at h1;obtain⟨es,h2,h3⟩:=h1;exact⟨es,_,h2,h3⟩
  obtain⟨es0,y0,hc0,_⟩:=each 0 hp;obtain⟨_,_,hcell0⟩:=World.cells?_some hc0;have h00:=hcell0 0 hpos
  have hes0:∃v,w.cell? a=some v:=by
   have hl0:=(World.cells?_some hc0).2.1;refine⟨es0[0]'(by omega),?_⟩
   have:=h00
   simp only[Nat.zero_mul,Addr.add,if_true]at this;rw[this,List.getElem?_eq_getElem (by omega)]
  obtain⟨v0,hv0⟩:=hes0;obtain⟨ha,hbl⟩:=zgN hv0;refine⟨a.block,a.off,by rw[<- ha],hbl,fun i hi=>?_⟩;obtain⟨es,y,hc,hy⟩:=each i hi;obtain⟨_,hlen',hcell⟩:=World.cells?_some hc;refine⟨es,n,y,hlen',fun j hj=>?_,hy⟩
  have e1:(a.add (i*sz)).add j=⟨a.block,a.off+i*sz+j,none⟩:=by
   have:=add_add a.block a.off (i*sz) j
   rwa [<- ha]at this
  rw[<- e1];exact hcell j hj
end
theorem Tryz.zW:Tryz.prog.cellsOf 9=1:=by kernel_rfl
theorem Tryz.j3:Tryz.prog.cellsOf 3=1:=by kernel_rfl
theorem Tryz.zhJ:Tryz.prog.cellsOf 4=1:=by kernel_rfl
end Go.Proofs.YtnapmdofidgliaaGreat
