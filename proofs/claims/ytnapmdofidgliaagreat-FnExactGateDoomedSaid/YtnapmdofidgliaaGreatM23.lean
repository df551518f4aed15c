import Derived.Test.YtnapmdofidgliaaGreatM17
import Derived.Laws.IdiomStrings
set_option maxHeartbeats 1000000
namespace Go.Proofs.YtnapmdofidgliaaGreat
open Go.RowKit
structure Marked (lo hi:Nat)(w w':World):Prop where
 os:w'.os=w.os
 tape:w'.tape=w.tape
 output:w'.output=w.output
 size:w.heap.size<=w'.heap.size
 out:∀k,k<w.heap.size->(k<lo \/ hi<=k)->w'.heap[k]?=w.heap[k]?
 inn:∀(k:Nat) (C:Array Value) (t:TypeId),lo<=k->k<hi->w.heap[k]?=some (.cells C t)->∃C':Array Value,w'.heap[k]?=some (.cells C' t)/\C'.size=C.size/\∀(j:Nat) a n c,C'[j]?=some (Value.slice a n c)↔C[j]?=some (Value.slice a n c)
theorem Marked.refl (lo hi:Nat)(w:World):Marked lo hi w w:=⟨rfl,rfl,rfl,Nat.le_refl _,fun _ _ _=>rfl,fun _ C _ _ _ h=>⟨C,h,rfl,fun _ _ _ _=>Iff.rfl⟩⟩
theorem Marked.trans {lo hi:Nat}{a b c:World}(h:Marked lo hi a b)(k:Marked lo hi b c):Marked lo hi a c:=
 ⟨k.os.trans h.os,k.tape.trans h.tape,k.output.trans h.output,Nat.le_trans h.size k.size,
  fun i hi ho=>(k.out i (nLt hi h.size) ho).trans (h.out i hi ho),
  fun i C t h1 h2 hC=>by
   obtain⟨C1,hC1,hs1,hk1⟩:=h.inn i C t h1 h2 hC;obtain⟨C2,hC2,hs2,hk2⟩:=k.inn i C1 t h1 h2 hC1;exact⟨C2,hC2,hs2.trans hs1,fun j a n c=>(hk2 j a n c).trans (hk1 j a n c)⟩⟩
theorem Marked.of_below {lo hi:Nat}{w w':World}(h:Below w.heap.size w w'):Marked lo hi w w':=
 ⟨h.os,h.tape,h.output,h.size,fun k hk _=>h.block k hk,fun k C _ _ _ hC=>⟨C,(h.block k (gES hC).1).trans hC,rfl,fun _ _ _ _=>Iff.rfl⟩⟩
theorem Marked.wide {lo hi lo' hi':Nat}{w w':World}(h:Marked lo hi w w')(h1:lo'<=lo)(h2:hi<=hi'):Marked lo' hi' w w':=
 ⟨h.os,h.tape,h.output,h.size,fun k hk ho=>h.out k hk (by omega),fun k C t g1 g2 hC=>by
  by_cases hin:lo<=k/\k<hi
  ·exact h.inn k C t hin.1 hin.2 hC
  ·exact⟨C,(h.out k (gES hC).1 (by omega)).trans hC,rfl,fun _ _ _ _=>Iff.rfl⟩⟩
theorem Marked.put {lo hi b j:Nat}{w w1:World}{C:Array Value}{t:TypeId}(h:Marked lo hi w w1)(hlo:lo<=b)(hhi:b<hi)(hC:w.heap[b]?=some (.cells C t))(hj:∀a n c,C[j]?≠some (Value.slice a n c))(v:Value)(hv:∀a n c,v≠Value.slice a n c):Marked lo hi w (w1.setCell ⟨b,j,none⟩ v):=by
 refine⟨h.os,h.tape,h.output,by have:=h.size;simpa[World.setCell] using this,fun k hk ho=>?_,fun k C0 t0 g1 g2 hC0=>?_⟩
 ·rw[Below.heap_setCell _ _ _ _ (by show k≠b;omega)];exact h.out k hk ho
 ·obtain⟨C1,hC1,hs1,hk1⟩:=h.inn k C0 t0 g1 g2 hC0
  by_cases hkb:k=b
  ·subst hkb
   rw[hC]at hC0;simp only[Option.some.injEq,Obj.cells.injEq]at hC0;obtain⟨rfl,rfl,_⟩:=hC0;refine⟨C1.setIfInBounds j v,zk hC1 _,by simpa using hs1,fun i a n c=>?_⟩
   by_cases hij:j=i
   ·subst hij
    refine⟨fun h=>?_,fun h=>absurd h (hj a n c)⟩
    exfalso
    rw[Array.getElem?_setIfInBounds]at h;simp only[if_true]at h
    split at h
    ·exact hv a n c (Option.some.inj h)
    ·cases h
   ·rw[Array.getElem?_setIfInBounds_ne hij];exact hk1 i a n c
  ·exact⟨C1,(Below.heap_setCell _ _ _ _ (by show k≠b;exact hkb)).trans hC1,hs1,hk1⟩
theorem Marked.cell {lo hi:Nat}{w w':World}(h:Marked lo hi w w'){p:Addr}(hp:p.block<w.heap.size)(ho:p.block<lo \/ hi<=p.block):w'.cell? p=w.cell? p:=by
 unfold World.cell?;rw[h.out p.block hp ho]
theorem Marked.box {lo hi b:Nat}{w w':World}{X:Array Value}(h:Marked lo hi w w')(hX:∀o,w.cell? ⟨b,o,none⟩=X[o]?)(hb:b<w.heap.size)(ho:b<lo \/ hi<=b):∀o,w'.cell? ⟨b,o,none⟩=X[o]?:=
 fun o=>(h.cell (p:=⟨b,o,none⟩) hb ho).trans (hX o)
theorem Marked.below {lo hi B:Nat}{w w':World}(h:Marked lo hi w w')(h1:B<=lo)(h2:B<=w.heap.size):Below B w w':=
 ⟨h.os,h.tape,h.output,h.size,fun k hk=>h.out k (by omega) (Or.inl (by omega))⟩
def zfe (n:Nat):ByteArray:=⟨#[UInt8.ofNat (48+n)]⟩
def digits (n:Nat)(acc:ByteArray):ByteArray:=if n=0 then acc else digits (n / 10) (zfe (n % 10)++acc)
termination_by n
decreasing_by omega
theorem zn3 (acc:ByteArray):digits 0 acc=acc:=by rw[digits];rfl
theorem zo3 {n:Nat}(h:0<n)(acc:ByteArray):digits n acc=digits (n / 10) (zfe (n % 10)++acc):=by
 conv=>lhs;rw[digits]
 rw[if_neg (by omega)]
def zfr (k:Nat):ByteArray:=⟨#[109]⟩++digits k ByteArray.empty
theorem znI (n:Nat)(h:n<9000000000000000000):wrap64 ((n:Int) / 10)=((n / 10:Nat):Int):=by
 rw[yt _ ⟨by omega,by omega⟩];omega
theorem zqQ {k:Nat}(h:k<9000000000000000000):k<10 ^ 19:=Nat.lt_trans h (by decide)
theorem zn9 (n:Nat)(hn:0<n)(h:n<9000000000000000000):(intOf (.int .i64 (wrap64 ((n:Int) / 10)))).toNat<(intOf (.int .i64 (n:Int))).toNat:=by
 rw[znI n h]
 show(((n / 10:Nat):Int)).toNat<((n:Nat):Int).toNat
 rw[Int.toNat_natCast,Int.toNat_natCast];omega
theorem zp5 (n:Nat):((UInt8.ofNat (48+n % 10)).toNat:Int)=48+(n:Int) % 10:=by
 rw[UInt8.toNat_ofNat',Nat.mod_eq_of_lt (by omega)];omega
theorem zoW (w:World)(n:Nat):(convert 195 9 (.slice (some ⟨w.heap.size,0,none⟩) 1 1)).run Tryz.prog (w.alloc (.cells #[.int .u8 (48+(n:Int) % 10)] 5))=.ok (.string (zfe (n % 10))) (w.alloc (.cells #[.int .u8 (48+(n:Int) % 10)] 5)):=by
 refine run_convert_bytes_back _ _ _ 5 ⟨w.heap.size,0,none⟩ 1 [UInt8.ofNat (48+n % 10)] Tryz.underlying195 Tryz.underlying5 Tryz.underlying9 (fun j hj=>?_);have e:j=0:=by simp at hj;omega
 subst e;rw[List.getElem_cons_zero,zp5];have e2:(⟨w.heap.size,0,none⟩:Addr).add 0=⟨w.heap.size,0,none⟩:=rfl;rw[e2,World.cell?_alloc_at (hn:=rfl)]
 rfl
set_option maxRecDepth 20000 in
theorem zgO (k:Nat)(w:World)(hk:0<k)(hk2:k<9000000000000000000) :
 Calls Tryz.prog 90 #[.int .i64 k] w fun e w'=>e=.returned (.string (zfr k))/\Below w.heap.size w w':=by
 have hk0:decide ((k:Int)<=0)=false:=by simp;omega
 go_enter Tryz.func90,Tryz.ntmps90;go_wp2_with fail
 go_loopw [0,3] (fun kv ov wr=>∃(n:Nat) (acc:ByteArray) (d:Nat),kv=.int .i64 n/\ov=.string acc/\n<=k/\n<10 ^ d/\acc.size+d<=19/\digits n acc=digits k ByteArray.empty/\Below w.heap.size w wr) (fun kv _ _=>(intOf kv).toNat)
 case atStart=>exact⟨k,ByteArray.empty,19,rfl,rfl,Nat.le_refl _,zqQ hk2,by simp,rfl,bRf _ _⟩
 case round=>
  obtain⟨n,acc,d,rfl,rfl,hnk,hnd,had,hdig,hB⟩:=hrel;have HF:Hid (n<=k/\n<10 ^ d/\acc.size+d<=19/\digits n acc=digits k ByteArray.empty/\Below w.heap.size w wr):=⟨hnk,hnd,had,hdig,hB⟩
  have HK:Hid (k<9000000000000000000):=hk2;have hacc:acc.size<=19:=by omega
  clear hnk hnd had hdig hB hk2
  by_cases hn:0<n
  ·have hn0:decide ((n:Int) > 0)=true:=by simp;omega
   have hcv:=zoW wr n;have hds:(zfe (n % 10)).size=1:=rfl;go_wp2_with fail
   go_roundw
   case rel=>
    obtain⟨hnk,hnd,had,hdig,hB⟩:=HF.out;have hk2:=HK.out;have hd0:d≠0:=by rintro rfl;simp at hnd;omega
    obtain⟨e,rfl⟩:∃e,d=e+1:=⟨d-1,by omega⟩
    exact⟨n / 10,zfe (n % 10)++acc,e,by rw[znI n (by omega)],rfl,by omega,by rw[Nat.pow_succ]at hnd;omega,by rw[ByteArray.size_append,hds];omega,by rw[<- zo3 hn];exact hdig,hB.alloc hB.size _⟩
   case measure=>
    have hnk:=HF.out.1;have hk2:=HK.out;exact zn9 n hn (by omega)
  ·have hn0:decide ((n:Int) > 0)=false:=by simp;omega
   go_wp2_with fail
   go_ret;have e0:n=0:=by omega
   obtain⟨_,_,_,hdig,hB⟩:=HF.out;subst e0;rw[zn3]at hdig;exact⟨by unfold zfr;rw[<- hdig];rfl,hB⟩
end Go.Proofs.YtnapmdofidgliaaGreat
namespace Go.Proofs.YtnapmdofidgliaaGreat
open Go.ChangeShapes Go.WideShapes Go.ChangeAt Go.RowKit
theorem Tryz.zif:Tryz.prog.cellsOf 116=4:=by kernel_rfl
theorem Tryz.zjv:Tryz.prog.cellsOf 119=5:=by kernel_rfl
theorem Tryz.zjD:Tryz.prog.cellsOf 113=7:=by kernel_rfl
theorem Tryz.zpA:Tryz.prog.cellsOf 32=7:=by kernel_rfl
theorem Tryz.zl0:Tryz.prog.cellsOf 27=1:=by kernel_rfl
theorem Tryz.zmM:Tryz.prog.cellsOf 28=1:=by kernel_rfl
theorem Tryz.zlJ:Tryz.prog.cellsOf 29=1:=by kernel_rfl
theorem Tryz.zm5:Tryz.prog.cellsOf 30=1:=by kernel_rfl
section
variable {H:Type} {enc:TypeId × Value->H} {w:World} {base:Nat} {spare:Nat->Bool} {held:Bool}
theorem zo2 {P:Program}{t:TypeId}{fs:Array Field}{fuel:Nat}{cs:List Value}{x:DataW H × List MemPlace}(ht:P.underlying t=some (.struct fs))(h:DataW.trod enc P w base spare held fuel t cs=some x)
 (i tf off n:Nat) (hf:(fs[i]?).map (fun f=>(f.type,f.offset))=some (tf,off)) (hn:P.cellsOf tf=n):∃m y,DataW.trod enc P w base spare held m tf ((cs.drop off).take n)=some y:=by
 obtain⟨f,hf1,hf2⟩:=Option.map_eq_some_iff.1 hf;simp only[Prod.mk.injEq]at hf2;obtain⟨rfl,rfl⟩:=hf2;subst hn;exact zjA ht h i f hf1
theorem znQ {fuel:Nat}{cs:List Value}{x:DataW H × List MemPlace}(h:DataW.trod enc Tryz.prog w base spare held fuel 116 cs=some x) :
 ∃m:Lg,cs=m.cells.toList/\m.Small:=by
 have hlen:cs.length=4:=by
  obtain⟨_,_,_,_,hl,_,_⟩:=DataW.trod_struct Tryz.underlying116 h;rw[hl];exact Tryz.zif
 match cs,hlen with
 | [c0,c1,c2,c3],_=>
  have hf:=zak Tryz.underlying116 h;obtain⟨_,_,f0⟩:=hf 0 9 0 c0 rfl Tryz.zW rfl;obtain⟨_,_,f1⟩:=hf 1 9 1 c1 rfl Tryz.zW rfl;obtain⟨_,_,f2⟩:=hf 2 3 2 c2 rfl Tryz.j3 rfl;obtain⟨_,_,f3⟩:=hf 3 3 3 c3 rfl Tryz.j3 rfl;obtain⟨x0,e0,_,s0⟩:=DataW.trod_string Tryz.underlying9 f0;obtain⟨x1,e1,_,s1⟩:=DataW.trod_string Tryz.underlying9 f1;obtain⟨x2,e2,_,_⟩:=DataW.trod_int Tryz.underlying3 f2;obtain⟨x3,e3,_,_⟩:=DataW.trod_int Tryz.underlying3 f3;simp only[List.cons.injEq,and_true]at e0 e1 e2 e3;subst e0 e1 e2 e3;exact⟨⟨x0,x1,x2,x3⟩,rfl,s0,s1⟩
theorem zmx {fuel:Nat}{cs:List Value}{x:DataW H × List MemPlace}(h:DataW.trod enc Tryz.prog w base spare held fuel 29 cs=some x) :
 ∃a cap ms,cs=[.slice a (List.length ms) cap]/\zcX w a ms:=by
 obtain⟨a,len,cap,rfl,hm,hr⟩:=za0 Tryz.underlying29 Tryz.zif (by omega) h
 rcases Nat.eq_zero_or_pos len with h0|hp
 ·subst h0
  exact⟨a,cap,[],rfl,⟨by simp[maxLen],fun i h=>absurd h (by simp),fun h=>absurd rfl h⟩⟩
 ·obtain⟨b,off,rfl,hb,hrow⟩:=hr hp
  have hf:∀i,i<len->∃m:Lg,m.Small/\∀j,j<4->w.cell? ⟨b,off+i*4+j,none⟩=m.cells[j]?:=by
   intro i hi;obtain⟨es,n,y,hel,hcell,hy⟩:=hrow i hi;obtain⟨m,rfl,hs⟩:=znQ hy;exact⟨m,hs,fun j hj=>by rw[hcell j hj];simp⟩
  obtain⟨ms,hl,hms⟩:=zcg len hf;exact⟨_,cap,ms,by rw[hl],⟨by omega,fun i hi=>(hms i hi).1,fun _=>⟨b,off,rfl,hb,fun i hi=>(hms i hi).2⟩⟩⟩
theorem zoO {fuel:Nat}{cs:List Value}{x:DataW H × List MemPlace}(h:DataW.trod enc Tryz.prog w base spare held fuel 119 cs=some x) :
 ∃m:Pu,cs=m.cells.toList/\m.Small:=by
 have hlen:cs.length=5:=by
  obtain⟨_,_,_,_,hl,_,_⟩:=DataW.trod_struct Tryz.underlying119 h;rw[hl];exact Tryz.zjv
 match cs,hlen with
 | [c0,c1,c2,c3,c4],_=>
  have hf:=zak Tryz.underlying119 h;obtain⟨_,_,f0⟩:=hf 0 9 0 c0 rfl Tryz.zW rfl;obtain⟨_,_,f1⟩:=hf 1 9 1 c1 rfl Tryz.zW rfl;obtain⟨_,_,f2⟩:=hf 2 9 2 c2 rfl Tryz.zW rfl;obtain⟨_,_,f3⟩:=hf 3 3 3 c3 rfl Tryz.j3 rfl;obtain⟨_,_,f4⟩:=hf 4 3 4 c4 rfl Tryz.j3 rfl;obtain⟨x0,e0,_,s0⟩:=DataW.trod_string Tryz.underlying9 f0;obtain⟨x1,e1,_,s1⟩:=DataW.trod_string Tryz.underlying9 f1;obtain⟨x2,e2,_,s2⟩:=DataW.trod_string Tryz.underlying9 f2;obtain⟨x3,e3,_,_⟩:=DataW.trod_int Tryz.underlying3 f3;obtain⟨x4,e4,_,_⟩:=DataW.trod_int Tryz.underlying3 f4;simp only[List.cons.injEq,and_true]at e0 e1 e2 e3 e4;subst e0 e1 e2 e3 e4;exact⟨⟨x0,x1,x2,x3,x4⟩,rfl,s0,s1,s2⟩
theorem zmH {fuel:Nat}{cs:List Value}{x:DataW H × List MemPlace}(h:DataW.trod enc Tryz.prog w base spare held fuel 30 cs=some x) :
 ∃a cap ms,cs=[.slice a (List.length ms) cap]/\zdF w a ms:=by
 obtain⟨a,len,cap,rfl,hm,hr⟩:=za0 Tryz.underlying30 Tryz.zjv (by omega) h
 rcases Nat.eq_zero_or_pos len with h0|hp
 ·subst h0
  exact⟨a,cap,[],rfl,⟨by simp[maxLen],fun i h=>absurd h (by simp),fun h=>absurd rfl h⟩⟩
 ·obtain⟨b,off,rfl,hb,hrow⟩:=hr hp
  have hf:∀i,i<len->∃m:Pu,m.Small/\∀j,j<5->w.cell? ⟨b,off+i*5+j,none⟩=m.cells[j]?:=by
   intro i hi;obtain⟨es,n,y,hel,hcell,hy⟩:=hrow i hi;obtain⟨m,rfl,hs⟩:=zoO hy;exact⟨m,hs,fun j hj=>by rw[hcell j hj];simp⟩
  obtain⟨ms,hl,hms⟩:=zcg len hf;exact⟨_,cap,ms,by rw[hl],⟨by omega,fun i hi=>(hms i hi).1,fun _=>⟨b,off,rfl,hb,fun i hi=>(hms i hi).2⟩⟩⟩
theorem zmg {fuel:Nat}{cs:List Value}{x:DataW H × List MemPlace}(h:DataW.trod enc Tryz.prog w base spare held fuel 27 cs=some x) :
 ∃a cap ms,cs=[.slice a (List.length ms) cap]/\zbV w a ms:=by
 obtain⟨a,len,cap,rfl,hm,hr⟩:=za0 Tryz.underlying27 Tryz.zik (by omega) h
 rcases Nat.eq_zero_or_pos len with h0|hp
 ·subst h0
  exact⟨a,cap,[],rfl,⟨by simp[maxLen],fun h=>absurd rfl h⟩⟩
 ·obtain⟨b,off,rfl,hb,hrow⟩:=hr hp
  have hf:∀i,i<len->∃o:Ob,∃a0 a1 c0 c1,zpX w b (off+i*7) o a0 a1 c0 c1:=by
   intro i hi;obtain⟨es,n,y,hel,hcell,hy⟩:=hrow i hi;obtain⟨o,a0,a1,c0,c1,rfl,hs⟩:=zmX hy;exact⟨o,a0,a1,c0,c1,hs.small,hs.vals,hs.holds,fun j hj=>by rw[hcell j hj];simp[Ob.row]⟩
  obtain⟨ms,hl,hms⟩:=zcg len hf;exact⟨_,cap,ms,by rw[hl],⟨by omega,fun _=>⟨b,off,rfl,hb,hms⟩⟩⟩
theorem zo1 {fuel:Nat}{cs:List Value}{x:DataW H × List MemPlace}(h:DataW.trod enc Tryz.prog w base spare held fuel 113 cs=some x) :
 ∃(g:Gr) (a:Option Addr) (cap:Nat),cs=(g.cells a cap).toList/\g.Small/\qy w a g.r.vs:=by
 have hlen:cs.length=7:=by
  obtain⟨_,_,_,_,hl,_,_⟩:=DataW.trod_struct Tryz.underlying113 h;rw[hl];exact Tryz.zjD
 match cs,hlen with
 | [c0,c1,c2,c3,c4,c5,c6],_=>
  have hf:=zak Tryz.underlying113 h;obtain⟨_,_,f0⟩:=hf 0 3 0 c0 rfl Tryz.j3 rfl;obtain⟨_,_,f1⟩:=hf 1 9 1 c1 rfl Tryz.zW rfl;obtain⟨_,_,f2⟩:=hf 2 9 2 c2 rfl Tryz.zW rfl;obtain⟨_,_,f3⟩:=zo2 Tryz.underlying113 h 3 111 3 4 rfl Tryz.zlx;obtain⟨x0,e0,_,_⟩:=DataW.trod_int Tryz.underlying3 f0;obtain⟨x1,e1,_,s1⟩:=DataW.trod_string Tryz.underlying9 f1;obtain⟨x2,e2,_,s2⟩:=DataW.trod_string Tryz.underlying9 f2;obtain⟨r,a,cap,e3,hs,hI⟩:=zpZ f3;simp only[List.cons.injEq,and_true]at e0 e1 e2;subst e0 e1 e2;have e3':[c3,c4,c5,c6]=(r.cells a cap).toList:=e3;unfold Rl.cells at e3';simp only[List.cons.injEq,and_true]at e3';obtain⟨e3,e4,e5,e6⟩:=e3';subst e3 e4 e5 e6;exact⟨⟨x0,x1,x2,r⟩,a,cap,rfl,⟨s1,s2,hs⟩,hI⟩
theorem znZ {fuel:Nat}{cs:List Value}{x:DataW H × List MemPlace}(h:DataW.trod enc Tryz.prog w base spare held fuel 28 cs=some x) :
 ∃a cap ms,cs=[.slice a (List.length ms) cap]/\zc2 w a ms:=by
 obtain⟨a,len,cap,rfl,hm,hr⟩:=za0 Tryz.underlying28 Tryz.zjD (by omega) h
 rcases Nat.eq_zero_or_pos len with h0|hp
 ·subst h0
  exact⟨a,cap,[],rfl,⟨by simp[maxLen],fun h=>absurd rfl h⟩⟩
 ·obtain⟨b,off,rfl,hb,hrow⟩:=hr hp
  have hf:∀i,i<len->∃g:Gr,∃a0 c0,zqx w b (off+i*7) g a0 c0:=by
   intro i hi;obtain⟨es,n,y,hel,hcell,hy⟩:=hrow i hi;obtain⟨g,a0,c0,rfl,hs,hI⟩:=zo1 hy;exact⟨g,a0,c0,hs,hI,fun j hj=>by rw[hcell j hj];simp⟩
  obtain⟨ms,hl,hms⟩:=zcg len hf;exact⟨_,cap,ms,by rw[hl],⟨by omega,fun _=>⟨b,off,rfl,hb,hms⟩⟩⟩
theorem zpI {fuel:Nat}{cs:List Value}{x:DataW H × List MemPlace}(h:DataW.trod enc Tryz.prog w base spare held fuel 32 cs=some x) :
 ∃(b:Bk) (a0 a1 a2 a3:Option Addr) (k0 k1 k2 k3:Nat),cs=(b.cells a0 a1 a2 a3 k0 k1 k2 k3).toList/\jk w b a0 a1 a2 a3:=by
 have hlen:cs.length=7:=by
  obtain⟨_,_,_,_,hl,_,_⟩:=DataW.trod_struct Tryz.underlying32 h;rw[hl];exact Tryz.zpA
 match cs,hlen with
 | [c0,c1,c2,c3,c4,c5,c6],_=>
  have hf:=zak Tryz.underlying32 h;obtain⟨_,_,f0⟩:=hf 0 3 0 c0 rfl Tryz.j3 rfl;obtain⟨_,_,f1⟩:=hf 1 3 1 c1 rfl Tryz.j3 rfl;obtain⟨_,_,f2⟩:=hf 2 3 2 c2 rfl Tryz.j3 rfl;obtain⟨_,_,f3⟩:=hf 3 27 3 c3 rfl Tryz.zl0 rfl;obtain⟨_,_,f4⟩:=hf 4 28 4 c4 rfl Tryz.zmM rfl;obtain⟨_,_,f5⟩:=hf 5 29 5 c5 rfl Tryz.zlJ rfl;obtain⟨_,_,f6⟩:=hf 6 30 6 c6 rfl Tryz.zm5 rfl;obtain⟨x0,e0,_,_⟩:=DataW.trod_int Tryz.underlying3 f0;obtain⟨x1,e1,_,_⟩:=DataW.trod_int Tryz.underlying3 f1;obtain⟨x2,e2,_,_⟩:=DataW.trod_int Tryz.underlying3 f2;obtain⟨a0,k0,os,e3,hO⟩:=zmg f3;obtain⟨a1,k1,gs,e4,hG⟩:=znZ f4;obtain⟨a2,k2,ls,e5,hL⟩:=zmx f5;obtain⟨a3,k3,ps,e6,hP⟩:=zmH f6;simp only[List.cons.injEq,and_true]at e0 e1 e2 e3 e4 e5 e6;subst e0 e1 e2 e3 e4 e5 e6;exact⟨⟨x0,x1,x2,os,gs,ls,ps⟩,a0,a1,a2,a3,k0,k1,k2,k3,rfl,⟨hO,hG,hL,hP⟩⟩
end
end Go.Proofs.YtnapmdofidgliaaGreat
