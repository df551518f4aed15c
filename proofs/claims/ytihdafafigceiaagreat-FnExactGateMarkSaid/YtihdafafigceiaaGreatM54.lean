import Derived.Test.YtihdafafigceiaaGreatM53
import Derived.Test.YtihdafafigceiaaGreatM26
namespace Go.Proofs.YtihdafafigceiaaGreat
open Go.ChangeShapes Go.WideShapes Go.ChangeAt Go.RowKit
theorem Tryz.zg3:Tryz.prog.cellsOf 108=4:=by kernel_rfl
theorem Tryz.zim:Tryz.prog.cellsOf 111=5:=by kernel_rfl
theorem Tryz.ziU:Tryz.prog.cellsOf 105=7:=by kernel_rfl
theorem Tryz.zod:Tryz.prog.cellsOf 32=7:=by kernel_rfl
theorem Tryz.zkB:Tryz.prog.cellsOf 27=1:=by kernel_rfl
theorem Tryz.zl5:Tryz.prog.cellsOf 28=1:=by kernel_rfl
theorem Tryz.zkl:Tryz.prog.cellsOf 29=1:=by kernel_rfl
theorem Tryz.zlL:Tryz.prog.cellsOf 30=1:=by kernel_rfl
section
variable {H:Type} {enc:TypeId × Value->H} {w:World} {base:Nat} {spare:Nat->Bool} {held:Bool}
theorem zmT {P:Program} {t:TypeId} {fs:Array Field} {fuel:Nat} {cs:List Value} {x:DataW H × List MemPlace} (ht:P.underlying t=some (.struct fs)) (h:DataW.trod enc P w base spare held fuel t cs=some x)
 (i tf off n:Nat) (hf:(fs[i]?).map (fun f=>(f.type,f.offset))=some (tf,off)) (hn:P.cellsOf tf=n):∃ m y,DataW.trod enc P w base spare held m tf ((cs.drop off).take n)=some y:=by
 obtain ⟨f,hf1,hf2⟩:=Option.map_eq_some_iff.1 hf
 simp only [Prod.mk.injEq] at hf2
 obtain ⟨rfl,rfl⟩:=hf2
 subst hn
 exact zjf ht h i f hf1
theorem zmk {fuel:Nat} {cs:List Value} {x:DataW H × List MemPlace} (h:DataW.trod enc Tryz.prog w base spare held fuel 108 cs=some x) :
 ∃ m:Lg,cs=m.cells.toList/\m.Small:=by
 have hlen:cs.length=4:=by
  obtain ⟨_,_,_,_,hl,_,_⟩:=DataW.trod_struct Tryz.underlying108 h
  rw [hl];exact Tryz.zg3
 match cs,hlen with
 | [c0,c1,c2,c3],_ =>
  have hf:=zae Tryz.underlying108 h
  obtain ⟨_,_,f0⟩:=hf 0 9 0 c0 rfl Tryz.zZ rfl
  obtain ⟨_,_,f1⟩:=hf 1 9 1 c1 rfl Tryz.zZ rfl
  obtain ⟨_,_,f2⟩:=hf 2 3 2 c2 rfl Tryz.jV rfl
  obtain ⟨_,_,f3⟩:=hf 3 3 3 c3 rfl Tryz.jV rfl
  obtain ⟨x0,e0,_,s0⟩:=DataW.trod_string Tryz.underlying9 f0
  obtain ⟨x1,e1,_,s1⟩:=DataW.trod_string Tryz.underlying9 f1
  obtain ⟨x2,e2,_,_⟩:=DataW.trod_int Tryz.underlying3 f2
  obtain ⟨x3,e3,_,_⟩:=DataW.trod_int Tryz.underlying3 f3
  simp only [List.cons.injEq,and_true] at e0 e1 e2 e3
  subst e0 e1 e2 e3
  exact ⟨⟨x0,x1,x2,x3⟩,rfl,s0,s1⟩
theorem zkE {fuel:Nat} {cs:List Value} {x:DataW H × List MemPlace} (h:DataW.trod enc Tryz.prog w base spare held fuel 29 cs=some x) :
 ∃ a cap ms,cs=[.slice a (List.length ms) cap]/\zbY w a ms:=by
 obtain ⟨a,len,cap,rfl,hm,hr⟩:=zaO Tryz.underlying29 Tryz.zg3 (by omega) h
 rcases Nat.eq_zero_or_pos len with h0 | hp
 ·subst h0
  exact ⟨a,cap,[],rfl,⟨by simp [maxLen],fun i h=>absurd h (by simp),fun h=>absurd rfl h⟩⟩
 ·obtain ⟨b,off,rfl,hb,hrow⟩:=hr hp
  have hf:∀ i,i < len->∃ m:Lg,m.Small/\∀ j,j < 4->w.cell? ⟨b,off+i * 4+j,none⟩=m.cells[j]?:=by
   intro i hi
   obtain ⟨es,n,y,hel,hcell,hy⟩:=hrow i hi
   obtain ⟨m,rfl,hs⟩:=zmk hy
   exact ⟨m,hs,fun j hj=>by rw [hcell j hj];simp⟩
  obtain ⟨ms,hl,hms⟩:=zbT len hf
  exact ⟨_,cap,ms,by rw [hl],⟨by omega,fun i hi=>(hms i hi).1,fun _=>⟨b,off,rfl,hb,fun i hi=>(hms i hi).2⟩⟩⟩
theorem zmX {fuel:Nat} {cs:List Value} {x:DataW H × List MemPlace} (h:DataW.trod enc Tryz.prog w base spare held fuel 111 cs=some x) :
 ∃ m:Pu,cs=m.cells.toList/\m.Small:=by
 have hlen:cs.length=5:=by
  obtain ⟨_,_,_,_,hl,_,_⟩:=DataW.trod_struct Tryz.underlying111 h
  rw [hl];exact Tryz.zim
 match cs,hlen with
 | [c0,c1,c2,c3,c4],_ =>
  have hf:=zae Tryz.underlying111 h
  obtain ⟨_,_,f0⟩:=hf 0 9 0 c0 rfl Tryz.zZ rfl
  obtain ⟨_,_,f1⟩:=hf 1 9 1 c1 rfl Tryz.zZ rfl
  obtain ⟨_,_,f2⟩:=hf 2 9 2 c2 rfl Tryz.zZ rfl
  obtain ⟨_,_,f3⟩:=hf 3 3 3 c3 rfl Tryz.jV rfl
  obtain ⟨_,_,f4⟩:=hf 4 3 4 c4 rfl Tryz.jV rfl
  obtain ⟨x0,e0,_,s0⟩:=DataW.trod_string Tryz.underlying9 f0
  obtain ⟨x1,e1,_,s1⟩:=DataW.trod_string Tryz.underlying9 f1
  obtain ⟨x2,e2,_,s2⟩:=DataW.trod_string Tryz.underlying9 f2
  obtain ⟨x3,e3,_,_⟩:=DataW.trod_int Tryz.underlying3 f3
  obtain ⟨x4,e4,_,_⟩:=DataW.trod_int Tryz.underlying3 f4
  simp only [List.cons.injEq,and_true] at e0 e1 e2 e3 e4
  subst e0 e1 e2 e3 e4
  exact ⟨⟨x0,x1,x2,x3,x4⟩,rfl,s0,s1,s2⟩
theorem zlT {fuel:Nat} {cs:List Value} {x:DataW H × List MemPlace} (h:DataW.trod enc Tryz.prog w base spare held fuel 30 cs=some x) :
 ∃ a cap ms,cs=[.slice a (List.length ms) cap]/\zcO w a ms:=by
 obtain ⟨a,len,cap,rfl,hm,hr⟩:=zaO Tryz.underlying30 Tryz.zim (by omega) h
 rcases Nat.eq_zero_or_pos len with h0 | hp
 ·subst h0
  exact ⟨a,cap,[],rfl,⟨by simp [maxLen],fun i h=>absurd h (by simp),fun h=>absurd rfl h⟩⟩
 ·obtain ⟨b,off,rfl,hb,hrow⟩:=hr hp
  have hf:∀ i,i < len->∃ m:Pu,m.Small/\∀ j,j < 5->w.cell? ⟨b,off+i * 5+j,none⟩=m.cells[j]?:=by
   intro i hi
   obtain ⟨es,n,y,hel,hcell,hy⟩:=hrow i hi
   obtain ⟨m,rfl,hs⟩:=zmX hy
   exact ⟨m,hs,fun j hj=>by rw [hcell j hj];simp⟩
  obtain ⟨ms,hl,hms⟩:=zbT len hf
  exact ⟨_,cap,ms,by rw [hl],⟨by omega,fun i hi=>(hms i hi).1,fun _=>⟨b,off,rfl,hb,fun i hi=>(hms i hi).2⟩⟩⟩
theorem zkx {fuel:Nat} {cs:List Value} {x:DataW H × List MemPlace} (h:DataW.trod enc Tryz.prog w base spare held fuel 27 cs=some x) :
 ∃ a cap ms,cs=[.slice a (List.length ms) cap]/\zbq w a ms:=by
 obtain ⟨a,len,cap,rfl,hm,hr⟩:=zaO Tryz.underlying27 Tryz.zhc (by omega) h
 rcases Nat.eq_zero_or_pos len with h0 | hp
 ·subst h0
  exact ⟨a,cap,[],rfl,⟨by simp [maxLen],fun h=>absurd rfl h⟩⟩
 ·obtain ⟨b,off,rfl,hb,hrow⟩:=hr hp
  have hf:∀ i,i < len->∃ o:Ob,∃ a0 a1 c0 c1,znX w b (off+i * 7) o a0 a1 c0 c1:=by
   intro i hi
   obtain ⟨es,n,y,hel,hcell,hy⟩:=hrow i hi
   obtain ⟨o,a0,a1,c0,c1,rfl,hs⟩:=zl7 hy
   exact ⟨o,a0,a1,c0,c1,hs.small,hs.vals,hs.holds,fun j hj=>by rw [hcell j hj];simp [Ob.row]⟩
  obtain ⟨ms,hl,hms⟩:=zbT len hf
  exact ⟨_,cap,ms,by rw [hl],⟨by omega,fun _=>⟨b,off,rfl,hb,hms⟩⟩⟩
theorem zmo {fuel:Nat} {cs:List Value} {x:DataW H × List MemPlace} (h:DataW.trod enc Tryz.prog w base spare held fuel 105 cs=some x) :
 ∃ (g:Gr) (a:Option Addr) (cap:Nat),cs=(g.cells a cap).toList/\g.Small/\y8 w a g.r.vs:=by
 have hlen:cs.length=7:=by
  obtain ⟨_,_,_,_,hl,_,_⟩:=DataW.trod_struct Tryz.underlying105 h
  rw [hl];exact Tryz.ziU
 match cs,hlen with
 | [c0,c1,c2,c3,c4,c5,c6],_ =>
  have hf:=zae Tryz.underlying105 h
  obtain ⟨_,_,f0⟩:=hf 0 3 0 c0 rfl Tryz.jV rfl
  obtain ⟨_,_,f1⟩:=hf 1 9 1 c1 rfl Tryz.zZ rfl
  obtain ⟨_,_,f2⟩:=hf 2 9 2 c2 rfl Tryz.zZ rfl
  obtain ⟨_,_,f3⟩:=zmT Tryz.underlying105 h 3 103 3 4 rfl Tryz.zj2
  obtain ⟨x0,e0,_,_⟩:=DataW.trod_int Tryz.underlying3 f0
  obtain ⟨x1,e1,_,s1⟩:=DataW.trod_string Tryz.underlying9 f1
  obtain ⟨x2,e2,_,s2⟩:=DataW.trod_string Tryz.underlying9 f2
  obtain ⟨r,a,cap,e3,hs,hI⟩:=znV f3
  simp only [List.cons.injEq,and_true] at e0 e1 e2
  subst e0 e1 e2
  have e3':[c3,c4,c5,c6]=(r.cells a cap).toList:=e3
  unfold Rl.cells at e3'
  simp only [List.cons.injEq,and_true] at e3'
  obtain ⟨e3,e4,e5,e6⟩:=e3'
  subst e3 e4 e5 e6
  exact ⟨⟨x0,x1,x2,r⟩,a,cap,rfl,⟨s1,s2,hs⟩,hI⟩
theorem zlk {fuel:Nat} {cs:List Value} {x:DataW H × List MemPlace} (h:DataW.trod enc Tryz.prog w base spare held fuel 28 cs=some x) :
 ∃ a cap ms,cs=[.slice a (List.length ms) cap]/\zb8 w a ms:=by
 obtain ⟨a,len,cap,rfl,hm,hr⟩:=zaO Tryz.underlying28 Tryz.ziU (by omega) h
 rcases Nat.eq_zero_or_pos len with h0 | hp
 ·subst h0
  exact ⟨a,cap,[],rfl,⟨by simp [maxLen],fun h=>absurd rfl h⟩⟩
 ·obtain ⟨b,off,rfl,hb,hrow⟩:=hr hp
  have hf:∀ i,i < len->∃ g:Gr,∃ a0 c0,zoH w b (off+i * 7) g a0 c0:=by
   intro i hi
   obtain ⟨es,n,y,hel,hcell,hy⟩:=hrow i hi
   obtain ⟨g,a0,c0,rfl,hs,hI⟩:=zmo hy
   exact ⟨g,a0,c0,hs,hI,fun j hj=>by rw [hcell j hj];simp⟩
  obtain ⟨ms,hl,hms⟩:=zbT len hf
  exact ⟨_,cap,ms,by rw [hl],⟨by omega,fun _=>⟨b,off,rfl,hb,hms⟩⟩⟩
theorem znZ {fuel:Nat} {cs:List Value} {x:DataW H × List MemPlace} (h:DataW.trod enc Tryz.prog w base spare held fuel 32 cs=some x) :
 ∃ (b:Bk) (a0 a1 a2 a3:Option Addr) (k0 k1 k2 k3:Nat),cs=(b.cells a0 a1 a2 a3 k0 k1 k2 k3).toList/\qw w b a0 a1 a2 a3:=by
 have hlen:cs.length=7:=by
  obtain ⟨_,_,_,_,hl,_,_⟩:=DataW.trod_struct Tryz.underlying32 h
  rw [hl];exact Tryz.zod
 match cs,hlen with
 | [c0,c1,c2,c3,c4,c5,c6],_ =>
  have hf:=zae Tryz.underlying32 h
  obtain ⟨_,_,f0⟩:=hf 0 3 0 c0 rfl Tryz.jV rfl
  obtain ⟨_,_,f1⟩:=hf 1 3 1 c1 rfl Tryz.jV rfl
  obtain ⟨_,_,f2⟩:=hf 2 3 2 c2 rfl Tryz.jV rfl
  obtain ⟨_,_,f3⟩:=hf 3 27 3 c3 rfl Tryz.zkB rfl
  obtain ⟨_,_,f4⟩:=hf 4 28 4 c4 rfl Tryz.zl5 rfl
  obtain ⟨_,_,f5⟩:=hf 5 29 5 c5 rfl Tryz.zkl rfl
  obtain ⟨_,_,f6⟩:=hf 6 30 6 c6 rfl Tryz.zlL rfl
  obtain ⟨x0,e0,_,_⟩:=DataW.trod_int Tryz.underlying3 f0
  obtain ⟨x1,e1,_,_⟩:=DataW.trod_int Tryz.underlying3 f1
  obtain ⟨x2,e2,_,_⟩:=DataW.trod_int Tryz.underlying3 f2
  obtain ⟨a0,k0,os,e3,hO⟩:=zkx f3
  obtain ⟨a1,k1,gs,e4,hG⟩:=zlk f4
  obtain ⟨a2,k2,ls,e5,hL⟩:=zkE f5
  obtain ⟨a3,k3,ps,e6,hP⟩:=zlT f6
  simp only [List.cons.injEq,and_true] at e0 e1 e2 e3 e4 e5 e6
  subst e0 e1 e2 e3 e4 e5 e6
  exact ⟨⟨x0,x1,x2,os,gs,ls,ps⟩,a0,a1,a2,a3,k0,k1,k2,k3,rfl,⟨hO,hG,hL,hP⟩⟩
end
end Go.Proofs.YtihdafafigceiaaGreat
