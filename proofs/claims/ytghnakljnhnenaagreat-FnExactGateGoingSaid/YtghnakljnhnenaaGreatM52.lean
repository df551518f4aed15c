import Derived.Test.YtghnakljnhnenaaGreatM51
import Derived.Test.YtghnakljnhnenaaGreatM07
namespace Go.Proofs.YtghnakljnhnenaaGreat
open Go.ChangeShapes Go.WideShapes Go.ChangeAt Go.RowKit
theorem Tryz.zkE:Tryz.prog.cellsOf 100=2:=by kernel_rfl
section
variable {H:Type} {enc:TypeId × Value->H} {w:World} {base:Nat} {spare:Nat->Bool} {held:Bool}
theorem zoF {fuel:Nat} {cs:List Value} {x:DataW H × List MemPlace} (h:DataW.trod enc Tryz.prog w base spare held fuel 100 cs=some x) :
 ∃ m:Tm,cs=m.cells.toList/\m.Small:=by
 have hlen:cs.length=2:=by
  obtain ⟨_,_,_,_,hl,_,_⟩:=DataW.trod_struct Tryz.underlying100 h;rw [hl];exact Tryz.zkE
 match cs,hlen with
 | [c0,c1],_ =>
  have hf:=zak Tryz.underlying100 h;obtain ⟨_,_,f0⟩:=hf 0 9 0 c0 rfl Tryz.yc rfl;obtain ⟨_,_,f1⟩:=hf 1 9 1 c1 rfl Tryz.yc rfl;obtain ⟨x0,e0,_,s0⟩:=DataW.trod_string Tryz.underlying9 f0;obtain ⟨x1,e1,_,s1⟩:=DataW.trod_string Tryz.underlying9 f1;simp only [List.cons.injEq,and_true] at e0 e1;subst e0 e1;exact ⟨⟨x0,x1⟩,rfl,s0,s1⟩
theorem znA {fuel:Nat} {cs:List Value} {x:DataW H × List MemPlace} (h:DataW.trod enc Tryz.prog w base spare held fuel 24 cs=some x) :
 ∃ a cap ts,cs=[.slice a (List.length ts) cap]/\jk w a ts:=by
 obtain ⟨a,len,cap,rfl,hm,hr⟩:=zaX Tryz.underlying24 Tryz.zkE (by omega) h
 rcases Nat.eq_zero_or_pos len with h0 | hp
 ·subst h0
  exact ⟨a,cap,[],rfl,⟨by simp [maxLen],fun i h=>absurd h (by simp),fun h=>absurd rfl h⟩⟩
 ·obtain ⟨b,off,rfl,hb,hrow⟩:=hr hp
  have hf:∀ i,i < len->∃ m:Tm,m.Small/\∀ j,j < 2->w.cell? ⟨b,off+i * 2+j,none⟩=m.cells[j]?:=by
   intro i hi;obtain ⟨es,n,y,hel,hcell,hy⟩:=hrow i hi;obtain ⟨m,rfl,hs⟩:=zoF hy;exact ⟨m,hs,fun j hj=>by rw [hcell j hj];simp⟩
  obtain ⟨ms,hl,hms⟩:=zb6 len hf;exact ⟨_,cap,ms,by rw [hl],⟨by omega,fun i hi=>(hms i hi).1,fun _=>⟨b,off,rfl,hb,fun i hi=>(hms i hi).2⟩⟩⟩
end
end Go.Proofs.YtghnakljnhnenaaGreat
namespace Go.Proofs.YtghnakljnhnenaaGreat
open Go.ChangeShapes Go.WideShapes Go.ChangeAt Go.RowKit
theorem Tryz.zpz:Tryz.prog.cellsOf 26=3:=by kernel_rfl
theorem Tryz.zlY:Tryz.prog.cellsOf 22=1:=by kernel_rfl
theorem Tryz.zn0:Tryz.prog.cellsOf 23=1:=by kernel_rfl
theorem Tryz.zoc:Tryz.prog.cellsOf 24=1:=by kernel_rfl
theorem zpN {H:Type} {enc:TypeId × Value->H} {w:World} {base:Nat} {spare:Nat->Bool} {held:Bool} {fuel:Nat} {cs:List Value} {x:DataW H × List MemPlace}
 (h:DataW.trod enc Tryz.prog w base spare held fuel 26 cs=some x) :
 ∃ (l:Lw) (a b c:Option Addr) (ca cb cc:Nat),cs=(l.cells a b c ca cb cc).toList/\y9 w l a b c:=by
 have hlen:cs.length=3:=by
  obtain ⟨_,_,_,_,hl,_,_⟩:=DataW.trod_struct Tryz.underlying26 h;rw [hl];exact Tryz.zpz
 match cs,hlen with
 | [c0,c1,c2],_ =>
  have hf:=zak Tryz.underlying26 h;obtain ⟨_,_,f0⟩:=hf 0 22 0 c0 rfl Tryz.zlY rfl;obtain ⟨_,_,f1⟩:=hf 1 23 1 c1 rfl Tryz.zn0 rfl;obtain ⟨_,_,f2⟩:=hf 2 24 2 c2 rfl Tryz.zoc rfl;obtain ⟨a,ca,ss,e0,hS⟩:=zmh f0;obtain ⟨b,cb,ms,e1,hM⟩:=znS f1;obtain ⟨c,cc,ts,e2,hT⟩:=znA f2;simp only [List.cons.injEq,and_true] at e0 e1 e2;subst e0 e1 e2;exact ⟨⟨ss,ms,ts⟩,a,b,c,ca,cb,cc,rfl,⟨hS,hM,hT⟩⟩
end Go.Proofs.YtghnakljnhnenaaGreat
namespace Go.Proofs.YtghnakljnhnenaaGreat
open Go.ChangeShapes Go.WideShapes Go.ChangeAt Go.RowKit
theorem Tryz.zhw:Tryz.prog.cellsOf 104=7:=by kernel_rfl
theorem zmu {H:Type} {enc:TypeId × Value->H} {w:World} {base:Nat} {spare:Nat->Bool} {held:Bool} {fuel:Nat} {cs:List Value} {x:DataW H × List MemPlace}
 (h:DataW.trod enc Tryz.prog w base spare held fuel 104 cs=some x) :
 ∃ (o:Ob) (a a':Option Addr) (cap cap':Nat),cs=[.string o.kd,.string o.nm,.string o.tm,.slice a o.vs.length cap,.bool o.en,.slice a' o.hs.length cap',.int .i64 o.vr]/\qB w o a a':=by
 have hlen:cs.length=7:=by
  obtain ⟨_,_,_,_,hl,_,_⟩:=DataW.trod_struct Tryz.underlying104 h;rw [hl];exact Tryz.zhw
 match cs,hlen with
 | [c0,c1,c2,c3,c4,c5,c6],_ =>
  have hf:=zak Tryz.underlying104 h;obtain ⟨_,_,f0⟩:=hf 0 9 0 c0 rfl Tryz.yc rfl;obtain ⟨_,_,f1⟩:=hf 1 9 1 c1 rfl Tryz.yc rfl;obtain ⟨_,_,f2⟩:=hf 2 9 2 c2 rfl Tryz.yc rfl;obtain ⟨_,_,f3⟩:=hf 3 102 3 c3 rfl Tryz.zdW rfl;obtain ⟨_,_,f4⟩:=hf 4 4 4 c4 rfl Tryz.zhd rfl;obtain ⟨_,_,f5⟩:=hf 5 102 5 c5 rfl Tryz.zdW rfl;obtain ⟨_,_,f6⟩:=hf 6 3 6 c6 rfl Tryz.j5 rfl;obtain ⟨kd,e0,_,s0⟩:=DataW.trod_string Tryz.underlying9 f0;obtain ⟨nm,e1,_,s1⟩:=DataW.trod_string Tryz.underlying9 f1;obtain ⟨tm,e2,_,s2⟩:=DataW.trod_string Tryz.underlying9 f2;obtain ⟨a,cap,vs,e3,hV⟩:=zgN Tryz.underlying102 Tryz.underlying9 Tryz.yc f3;obtain ⟨en,e4,_⟩:=DataW.trod_bool Tryz.underlying4 f4;obtain ⟨a',cap',hs,e5,hH⟩:=zgN Tryz.underlying102 Tryz.underlying9 Tryz.yc f5;obtain ⟨vr,e6,_,_⟩:=DataW.trod_int Tryz.underlying3 f6;simp only [List.cons.injEq,and_true] at e0 e1 e2 e3 e4 e5 e6;subst e0 e1 e2 e3 e4 e5 e6;exact ⟨⟨kd,nm,tm,vs,en,hs,vr⟩,a,a',cap,cap',rfl,⟨⟨s0,s1,s2⟩,hV,hH⟩⟩
end Go.Proofs.YtghnakljnhnenaaGreat
namespace Go.Proofs.YtghnakljnhnenaaGreat
open Go.ChangeShapes Go.WideShapes Go.ChangeAt Go.RowKit
theorem Tryz.zoG:Tryz.prog.cellsOf 35=1:=by kernel_rfl
theorem Tryz.zkP:Tryz.prog.cellsOf 107=4:=by kernel_rfl
section
variable {H:Type} {enc:TypeId × Value->H} {w:World} {base:Nat} {spare:Nat->Bool} {held:Bool}
theorem zo8 {fuel:Nat} {cs:List Value} {x:DataW H × List MemPlace} (h:DataW.trod enc Tryz.prog w base spare held fuel 35 cs=some x) :
 ∃ a cap vs,cs=[.slice a (List.length vs) cap]/\qp w a vs:=by
 obtain ⟨a,len,cap,rfl,hm,hr⟩:=zaX Tryz.underlying35 Tryz.j5 (by omega) h
 rcases Nat.eq_zero_or_pos len with h0 | hp
 ·subst h0
  exact ⟨a,cap,[],rfl,⟨by simp [maxLen],fun h=>absurd rfl h⟩⟩
 ·obtain ⟨b,off,rfl,hb,hrow⟩:=hr hp
  have hf:∀ i,i < len->∃ v:Int,w.cell? ⟨b,off+i,none⟩=some (.int .i64 v):=by
   intro i hi;obtain ⟨es,n,y,hel,hcell,hy⟩:=hrow i hi;obtain ⟨v,e0,_,_⟩:=DataW.trod_int Tryz.underlying3 hy;subst e0;exact ⟨v,by simpa using hcell 0 (by omega)⟩
  obtain ⟨vs,hl,hvs⟩:=zb6 len hf;exact ⟨_,cap,vs,by rw [hl],⟨by omega,fun _=>⟨b,off,rfl,hb,hvs⟩⟩⟩
theorem zox {fuel:Nat} {cs:List Value} {x:DataW H × List MemPlace} (h:DataW.trod enc Tryz.prog w base spare held fuel 107 cs=some x) :
 ∃ (r:Rl) (a:Option Addr) (cap:Nat),cs=(r.cells a cap).toList/\r.Small/\qp w a r.vs:=by
 have hlen:cs.length=4:=by
  obtain ⟨_,_,_,_,hl,_,_⟩:=DataW.trod_struct Tryz.underlying107 h;rw [hl];exact Tryz.zkP
 match cs,hlen with
 | [c0,c1,c2,c3],_ =>
  have hf:=zak Tryz.underlying107 h;obtain ⟨_,_,f0⟩:=hf 0 35 0 c0 rfl Tryz.zoG rfl;obtain ⟨_,_,f1⟩:=hf 1 9 1 c1 rfl Tryz.yc rfl;obtain ⟨_,_,f2⟩:=hf 2 9 2 c2 rfl Tryz.yc rfl;obtain ⟨_,_,f3⟩:=hf 3 9 3 c3 rfl Tryz.yc rfl;obtain ⟨a,cap,vs,e0,hI⟩:=zo8 f0;obtain ⟨x1,e1,_,s1⟩:=DataW.trod_string Tryz.underlying9 f1;obtain ⟨x2,e2,_,s2⟩:=DataW.trod_string Tryz.underlying9 f2;obtain ⟨x3,e3,_,s3⟩:=DataW.trod_string Tryz.underlying9 f3;simp only [List.cons.injEq,and_true] at e0 e1 e2 e3;subst e0 e1 e2 e3;exact ⟨⟨vs,x1,x2,x3⟩,a,cap,rfl,⟨s1,s2,s3⟩,hI⟩
end
end Go.Proofs.YtghnakljnhnenaaGreat
