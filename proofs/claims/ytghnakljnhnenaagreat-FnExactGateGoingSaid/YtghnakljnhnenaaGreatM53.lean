import Derived.Test.YtghnakljnhnenaaGreatM52
import Derived.Test.YtghnakljnhnenaaGreatM27
namespace Go.Proofs.YtghnakljnhnenaaGreat
open Go.ChangeShapes Go.WideShapes Go.ChangeAt Go.RowKit
theorem Tryz.zhG:Tryz.prog.cellsOf 112=4:=by kernel_rfl
theorem Tryz.zjq:Tryz.prog.cellsOf 115=5:=by kernel_rfl
theorem Tryz.ziZ:Tryz.prog.cellsOf 109=7:=by kernel_rfl
theorem Tryz.zo0:Tryz.prog.cellsOf 32=7:=by kernel_rfl
theorem Tryz.zlb:Tryz.prog.cellsOf 27=1:=by kernel_rfl
theorem Tryz.zlN:Tryz.prog.cellsOf 28=1:=by kernel_rfl
theorem Tryz.zk3:Tryz.prog.cellsOf 29=1:=by kernel_rfl
theorem Tryz.zmI:Tryz.prog.cellsOf 30=1:=by kernel_rfl
section
variable {H:Type} {enc:TypeId × Value->H} {w:World} {base:Nat} {spare:Nat->Bool} {held:Bool}
theorem znY {P:Program} {t:TypeId} {fs:Array Field} {fuel:Nat} {cs:List Value} {x:DataW H × List MemPlace} (ht:P.underlying t=some (.struct fs)) (h:DataW.trod enc P w base spare held fuel t cs=some x)
 (i tf off n:Nat) (hf:(fs[i]?).map (fun f=>(f.type,f.offset))=some (tf,off)) (hn:P.cellsOf tf=n):∃ m y,DataW.trod enc P w base spare held m tf ((cs.drop off).take n)=some y:=by
 obtain ⟨f,hf1,hf2⟩:=Option.map_eq_some_iff.1 hf;simp only [Prod.mk.injEq] at hf2;obtain ⟨rfl,rfl⟩:=hf2;subst hn;exact zi5 ht h i f hf1
theorem zlU {fuel:Nat} {cs:List Value} {x:DataW H × List MemPlace} (h:DataW.trod enc Tryz.prog w base spare held fuel 112 cs=some x) :
 ∃ m:Lg,cs=m.cells.toList/\m.Small:=by
 have hlen:cs.length=4:=by
  obtain ⟨_,_,_,_,hl,_,_⟩:=DataW.trod_struct Tryz.underlying112 h;rw [hl];exact Tryz.zhG
 match cs,hlen with
 | [c0,c1,c2,c3],_ =>
  have hf:=zak Tryz.underlying112 h;obtain ⟨_,_,f0⟩:=hf 0 9 0 c0 rfl Tryz.yc rfl;obtain ⟨_,_,f1⟩:=hf 1 9 1 c1 rfl Tryz.yc rfl;obtain ⟨_,_,f2⟩:=hf 2 3 2 c2 rfl Tryz.j5 rfl;obtain ⟨_,_,f3⟩:=hf 3 3 3 c3 rfl Tryz.j5 rfl;obtain ⟨x0,e0,_,s0⟩:=DataW.trod_string Tryz.underlying9 f0;obtain ⟨x1,e1,_,s1⟩:=DataW.trod_string Tryz.underlying9 f1;obtain ⟨x2,e2,_,_⟩:=DataW.trod_int Tryz.underlying3 f2;obtain ⟨x3,e3,_,_⟩:=DataW.trod_int Tryz.underlying3 f3;simp only [List.cons.injEq,and_true] at e0 e1 e2 e3;subst e0 e1 e2 e3;exact ⟨⟨x0,x1,x2,x3⟩,rfl,s0,s1⟩
theorem zlf {fuel:Nat} {cs:List Value} {x:DataW H × List MemPlace} (h:DataW.trod enc Tryz.prog w base spare held fuel 29 cs=some x) :
 ∃ a cap ms,cs=[.slice a (List.length ms) cap]/\zb8 w a ms:=by
 obtain ⟨a,len,cap,rfl,hm,hr⟩:=zaX Tryz.underlying29 Tryz.zhG (by omega) h
 rcases Nat.eq_zero_or_pos len with h0 | hp
 ·subst h0
  exact ⟨a,cap,[],rfl,⟨by simp [maxLen],fun i h=>absurd h (by simp),fun h=>absurd rfl h⟩⟩
 ·obtain ⟨b,off,rfl,hb,hrow⟩:=hr hp
  have hf:∀ i,i < len->∃ m:Lg,m.Small/\∀ j,j < 4->w.cell? ⟨b,off+i * 4+j,none⟩=m.cells[j]?:=by
   intro i hi;obtain ⟨es,n,y,hel,hcell,hy⟩:=hrow i hi;obtain ⟨m,rfl,hs⟩:=zlU hy;exact ⟨m,hs,fun j hj=>by rw [hcell j hj];simp⟩
  obtain ⟨ms,hl,hms⟩:=zb6 len hf;exact ⟨_,cap,ms,by rw [hl],⟨by omega,fun i hi=>(hms i hi).1,fun _=>⟨b,off,rfl,hb,fun i hi=>(hms i hi).2⟩⟩⟩
theorem zn2 {fuel:Nat} {cs:List Value} {x:DataW H × List MemPlace} (h:DataW.trod enc Tryz.prog w base spare held fuel 115 cs=some x) :
 ∃ m:Pu,cs=m.cells.toList/\m.Small:=by
 have hlen:cs.length=5:=by
  obtain ⟨_,_,_,_,hl,_,_⟩:=DataW.trod_struct Tryz.underlying115 h;rw [hl];exact Tryz.zjq
 match cs,hlen with
 | [c0,c1,c2,c3,c4],_ =>
  have hf:=zak Tryz.underlying115 h;obtain ⟨_,_,f0⟩:=hf 0 9 0 c0 rfl Tryz.yc rfl;obtain ⟨_,_,f1⟩:=hf 1 9 1 c1 rfl Tryz.yc rfl;obtain ⟨_,_,f2⟩:=hf 2 9 2 c2 rfl Tryz.yc rfl;obtain ⟨_,_,f3⟩:=hf 3 3 3 c3 rfl Tryz.j5 rfl;obtain ⟨_,_,f4⟩:=hf 4 3 4 c4 rfl Tryz.j5 rfl;obtain ⟨x0,e0,_,s0⟩:=DataW.trod_string Tryz.underlying9 f0;obtain ⟨x1,e1,_,s1⟩:=DataW.trod_string Tryz.underlying9 f1;obtain ⟨x2,e2,_,s2⟩:=DataW.trod_string Tryz.underlying9 f2;obtain ⟨x3,e3,_,_⟩:=DataW.trod_int Tryz.underlying3 f3;obtain ⟨x4,e4,_,_⟩:=DataW.trod_int Tryz.underlying3 f4;simp only [List.cons.injEq,and_true] at e0 e1 e2 e3 e4;subst e0 e1 e2 e3 e4;exact ⟨⟨x0,x1,x2,x3,x4⟩,rfl,s0,s1,s2⟩
theorem zm8 {fuel:Nat} {cs:List Value} {x:DataW H × List MemPlace} (h:DataW.trod enc Tryz.prog w base spare held fuel 30 cs=some x) :
 ∃ a cap ms,cs=[.slice a (List.length ms) cap]/\zc2 w a ms:=by
 obtain ⟨a,len,cap,rfl,hm,hr⟩:=zaX Tryz.underlying30 Tryz.zjq (by omega) h
 rcases Nat.eq_zero_or_pos len with h0 | hp
 ·subst h0
  exact ⟨a,cap,[],rfl,⟨by simp [maxLen],fun i h=>absurd h (by simp),fun h=>absurd rfl h⟩⟩
 ·obtain ⟨b,off,rfl,hb,hrow⟩:=hr hp
  have hf:∀ i,i < len->∃ m:Pu,m.Small/\∀ j,j < 5->w.cell? ⟨b,off+i * 5+j,none⟩=m.cells[j]?:=by
   intro i hi;obtain ⟨es,n,y,hel,hcell,hy⟩:=hrow i hi;obtain ⟨m,rfl,hs⟩:=zn2 hy;exact ⟨m,hs,fun j hj=>by rw [hcell j hj];simp⟩
  obtain ⟨ms,hl,hms⟩:=zb6 len hf;exact ⟨_,cap,ms,by rw [hl],⟨by omega,fun i hi=>(hms i hi).1,fun _=>⟨b,off,rfl,hb,fun i hi=>(hms i hi).2⟩⟩⟩
theorem zkU {fuel:Nat} {cs:List Value} {x:DataW H × List MemPlace} (h:DataW.trod enc Tryz.prog w base spare held fuel 27 cs=some x) :
 ∃ a cap ms,cs=[.slice a (List.length ms) cap]/\zby w a ms:=by
 obtain ⟨a,len,cap,rfl,hm,hr⟩:=zaX Tryz.underlying27 Tryz.zhw (by omega) h
 rcases Nat.eq_zero_or_pos len with h0 | hp
 ·subst h0
  exact ⟨a,cap,[],rfl,⟨by simp [maxLen],fun h=>absurd rfl h⟩⟩
 ·obtain ⟨b,off,rfl,hb,hrow⟩:=hr hp
  have hf:∀ i,i < len->∃ o:Ob,∃ a0 a1 c0 c1,zoH w b (off+i * 7) o a0 a1 c0 c1:=by
   intro i hi;obtain ⟨es,n,y,hel,hcell,hy⟩:=hrow i hi;obtain ⟨o,a0,a1,c0,c1,rfl,hs⟩:=zmu hy;exact ⟨o,a0,a1,c0,c1,hs.small,hs.vals,hs.holds,fun j hj=>by rw [hcell j hj];simp [Ob.row]⟩
  obtain ⟨ms,hl,hms⟩:=zb6 len hf;exact ⟨_,cap,ms,by rw [hl],⟨by omega,fun _=>⟨b,off,rfl,hb,hms⟩⟩⟩
theorem znV {fuel:Nat} {cs:List Value} {x:DataW H × List MemPlace} (h:DataW.trod enc Tryz.prog w base spare held fuel 109 cs=some x) :
 ∃ (g:Gr) (a:Option Addr) (cap:Nat),cs=(g.cells a cap).toList/\g.Small/\qp w a g.r.vs:=by
 have hlen:cs.length=7:=by
  obtain ⟨_,_,_,_,hl,_,_⟩:=DataW.trod_struct Tryz.underlying109 h;rw [hl];exact Tryz.ziZ
 match cs,hlen with
 | [c0,c1,c2,c3,c4,c5,c6],_ =>
  have hf:=zak Tryz.underlying109 h;obtain ⟨_,_,f0⟩:=hf 0 3 0 c0 rfl Tryz.j5 rfl;obtain ⟨_,_,f1⟩:=hf 1 9 1 c1 rfl Tryz.yc rfl;obtain ⟨_,_,f2⟩:=hf 2 9 2 c2 rfl Tryz.yc rfl;obtain ⟨_,_,f3⟩:=znY Tryz.underlying109 h 3 107 3 4 rfl Tryz.zkP;obtain ⟨x0,e0,_,_⟩:=DataW.trod_int Tryz.underlying3 f0;obtain ⟨x1,e1,_,s1⟩:=DataW.trod_string Tryz.underlying9 f1;obtain ⟨x2,e2,_,s2⟩:=DataW.trod_string Tryz.underlying9 f2;obtain ⟨r,a,cap,e3,hs,hI⟩:=zox f3;simp only [List.cons.injEq,and_true] at e0 e1 e2;subst e0 e1 e2;have e3':[c3,c4,c5,c6]=(r.cells a cap).toList:=e3;unfold Rl.cells at e3';simp only [List.cons.injEq,and_true] at e3';obtain ⟨e3,e4,e5,e6⟩:=e3';subst e3 e4 e5 e6;exact ⟨⟨x0,x1,x2,r⟩,a,cap,rfl,⟨s1,s2,hs⟩,hI⟩
theorem zmW {fuel:Nat} {cs:List Value} {x:DataW H × List MemPlace} (h:DataW.trod enc Tryz.prog w base spare held fuel 28 cs=some x) :
 ∃ a cap ms,cs=[.slice a (List.length ms) cap]/\zcl w a ms:=by
 obtain ⟨a,len,cap,rfl,hm,hr⟩:=zaX Tryz.underlying28 Tryz.ziZ (by omega) h
 rcases Nat.eq_zero_or_pos len with h0 | hp
 ·subst h0
  exact ⟨a,cap,[],rfl,⟨by simp [maxLen],fun h=>absurd rfl h⟩⟩
 ·obtain ⟨b,off,rfl,hb,hrow⟩:=hr hp
  have hf:∀ i,i < len->∃ g:Gr,∃ a0 c0,zpj w b (off+i * 7) g a0 c0:=by
   intro i hi;obtain ⟨es,n,y,hel,hcell,hy⟩:=hrow i hi;obtain ⟨g,a0,c0,rfl,hs,hI⟩:=znV hy;exact ⟨g,a0,c0,hs,hI,fun j hj=>by rw [hcell j hj];simp⟩
  obtain ⟨ms,hl,hms⟩:=zb6 len hf;exact ⟨_,cap,ms,by rw [hl],⟨by omega,fun _=>⟨b,off,rfl,hb,hms⟩⟩⟩
theorem zoC {fuel:Nat} {cs:List Value} {x:DataW H × List MemPlace} (h:DataW.trod enc Tryz.prog w base spare held fuel 32 cs=some x) :
 ∃ (b:Bk) (a0 a1 a2 a3:Option Addr) (k0 k1 k2 k3:Nat),cs=(b.cells a0 a1 a2 a3 k0 k1 k2 k3).toList/\y7 w b a0 a1 a2 a3:=by
 have hlen:cs.length=7:=by
  obtain ⟨_,_,_,_,hl,_,_⟩:=DataW.trod_struct Tryz.underlying32 h;rw [hl];exact Tryz.zo0
 match cs,hlen with
 | [c0,c1,c2,c3,c4,c5,c6],_ =>
  have hf:=zak Tryz.underlying32 h;obtain ⟨_,_,f0⟩:=hf 0 3 0 c0 rfl Tryz.j5 rfl;obtain ⟨_,_,f1⟩:=hf 1 3 1 c1 rfl Tryz.j5 rfl;obtain ⟨_,_,f2⟩:=hf 2 3 2 c2 rfl Tryz.j5 rfl;obtain ⟨_,_,f3⟩:=hf 3 27 3 c3 rfl Tryz.zlb rfl;obtain ⟨_,_,f4⟩:=hf 4 28 4 c4 rfl Tryz.zlN rfl;obtain ⟨_,_,f5⟩:=hf 5 29 5 c5 rfl Tryz.zk3 rfl;obtain ⟨_,_,f6⟩:=hf 6 30 6 c6 rfl Tryz.zmI rfl;obtain ⟨x0,e0,_,_⟩:=DataW.trod_int Tryz.underlying3 f0;obtain ⟨x1,e1,_,_⟩:=DataW.trod_int Tryz.underlying3 f1;obtain ⟨x2,e2,_,_⟩:=DataW.trod_int Tryz.underlying3 f2;obtain ⟨a0,k0,os,e3,hO⟩:=zkU f3;obtain ⟨a1,k1,gs,e4,hG⟩:=zmW f4;obtain ⟨a2,k2,ls,e5,hL⟩:=zlf f5;obtain ⟨a3,k3,ps,e6,hP⟩:=zm8 f6;simp only [List.cons.injEq,and_true] at e0 e1 e2 e3 e4 e5 e6;subst e0 e1 e2 e3 e4 e5 e6;exact ⟨⟨x0,x1,x2,os,gs,ls,ps⟩,a0,a1,a2,a3,k0,k1,k2,k3,rfl,⟨hO,hG,hL,hP⟩⟩
end
end Go.Proofs.YtghnakljnhnenaaGreat
