import Derived.Test.YtaickbhifenbjaaGreatM46
import Derived.Test.YtaickbhifenbjaaGreatM02
import Derived.Test.YtaickbhifenbjaaGreatM04
import Derived.Test.YtaickbhifenbjaaGreatM05
import Derived.Test.YtaickbhifenbjaaGreatM06
namespace Go.Proofs.YtaickbhifenbjaaGreat
open Go.ChangeShapes Go.WideShapes Go.ChangeAt Go.RowKit
theorem Tryz.zil:Tryz.prog.cellsOf 83=2:=by kernel_rfl
theorem Tryz.zkX:Tryz.prog.cellsOf 81=1:=by kernel_rfl
section
variable {H:Type} {enc:TypeId × Value->H} {w:World} {base:Nat} {spare:Nat->Bool} {held:Bool}
theorem zkJ {fuel:Nat} {cs:List Value} {x:DataW H × List MemPlace} (h:DataW.trod enc Tryz.prog w base spare held fuel 81 cs=some x) :
 ∃ a cap fs,cs=[.slice a (List.length fs) cap]/\zR w a fs:=by
 obtain ⟨a,len,cap,rfl,hm,hr⟩:=zaG Tryz.underlying81 Tryz.zhZ (by omega) h
 rcases Nat.eq_zero_or_pos len with h0 | hp
 ·subst h0
  exact ⟨a,cap,[],rfl,⟨by simp [maxLen],fun h=>absurd rfl h⟩⟩
 ·obtain ⟨b,off,rfl,hb,hrow⟩:=hr hp
  have hf:∀ i,i < len->∃ f:Fld,∃ wa wcap,zdJ w b (off+i * 11) f wa wcap:=by
   intro i hi
   obtain ⟨es,n,y,hel,hcell,hy⟩:=hrow i hi
   obtain ⟨nm,kd,ls,ms,wa,wcap,ws,to,rl,mu,fx,df,wg,rfl,hS,s0,s5,s9,s10⟩:=zmM hy
   refine ⟨⟨nm,kd,ls,ms,ws,to,rl,mu,fx,df,wg⟩,wa,wcap,⟨s0,s5,s9,s10⟩,hS,fun j hj=>?_⟩
   rw [hcell j hj]
   simp [Fld.cells]
  obtain ⟨fs,hl,hfs⟩:=zbD len hf
  refine ⟨_,cap,fs,by rw [hl],⟨by omega,fun _=>⟨b,off,rfl,hb,fun i hi=>hfs i hi⟩⟩⟩
theorem zmN {fuel:Nat} {cs:List Value} {x:DataW H × List MemPlace} (h:DataW.trod enc Tryz.prog w base spare held fuel 83 cs=some x) :
 ∃ kd a cap fs,cs=[.string kd,.slice a (List.length fs) cap]/\kd.size<=maxLen/\zR w a fs:=by
 have hlen:cs.length=2:=by
  obtain ⟨_,_,_,_,hl,_,_⟩:=DataW.trod_struct Tryz.underlying83 h
  rw [hl];exact Tryz.zil
 match cs,hlen with
 | [c0,c1],_ =>
  have hf:=jQ Tryz.underlying83 h
  obtain ⟨_,_,f0⟩:=hf 0 9 0 c0 rfl Tryz.zQ rfl
  obtain ⟨_,_,f1⟩:=hf 1 81 1 c1 rfl Tryz.zkX rfl
  obtain ⟨kd,e0,_,s0⟩:=DataW.trod_string Tryz.underlying9 f0
  obtain ⟨a,cap,fs,e1,hF⟩:=zkJ f1
  simp only [List.cons.injEq,and_true] at e0 e1
  subst e0 e1
  exact ⟨kd,a,cap,fs,rfl,s0,hF⟩
theorem zk0 {fuel:Nat} {cs:List Value} {x:DataW H × List MemPlace} (h:DataW.trod enc Tryz.prog w base spare held fuel 22 cs=some x) :
 ∃ a cap ss,cs=[.slice a (List.length ss) cap]/\yL w a ss:=by
 obtain ⟨a,len,cap,rfl,hm,hr⟩:=zaG Tryz.underlying22 Tryz.zil (by omega) h
 rcases Nat.eq_zero_or_pos len with h0 | hp
 ·subst h0
  exact ⟨a,cap,[],rfl,⟨by simp [maxLen],fun h=>absurd rfl h⟩⟩
 ·obtain ⟨b,off,rfl,hb,hrow⟩:=hr hp
  have hf:∀ i,i < len->∃ s:Shp,∃ fa fcap,zjL w b (off+i * 2) s fa fcap:=by
   intro i hi
   obtain ⟨es,n,y,hel,hcell,hy⟩:=hrow i hi
   obtain ⟨kd,fa,fcap,fs,rfl,s0,hF⟩:=zmN hy
   exact ⟨⟨kd,fs⟩,fa,fcap,s0,hF,hcell 0 (by omega),hcell 1 (by omega)⟩
  obtain ⟨ss,hl,hss⟩:=zbD len hf
  exact ⟨_,cap,ss,by rw [hl],⟨by omega,fun _=>⟨b,off,rfl,hb,fun i hi=>hss i hi⟩⟩⟩
end
end Go.Proofs.YtaickbhifenbjaaGreat
namespace Go.Proofs.YtaickbhifenbjaaGreat
open Go.ChangeShapes Go.WideShapes Go.ChangeAt Go.RowKit
theorem Tryz.zjH:Tryz.prog.cellsOf 86=6:=by kernel_rfl
section
variable {H:Type} {enc:TypeId × Value->H} {w:World} {base:Nat} {spare:Nat->Bool} {held:Bool}
theorem znH {fuel:Nat} {cs:List Value} {x:DataW H × List MemPlace} (h:DataW.trod enc Tryz.prog w base spare held fuel 86 cs=some x) :
 ∃ m:Mnd,cs=m.cells.toList/\m.Small:=by
 have hlen:cs.length=6:=by
  obtain ⟨_,_,_,_,hl,_,_⟩:=DataW.trod_struct Tryz.underlying86 h
  rw [hl];exact Tryz.zjH
 match cs,hlen with
 | [c0,c1,c2,c3,c4,c5],_ =>
  have hf:=jQ Tryz.underlying86 h
  obtain ⟨_,_,f0⟩:=hf 0 9 0 c0 rfl Tryz.zQ rfl
  obtain ⟨_,_,f1⟩:=hf 1 9 1 c1 rfl Tryz.zQ rfl
  obtain ⟨_,_,f2⟩:=hf 2 9 2 c2 rfl Tryz.zQ rfl
  obtain ⟨_,_,f3⟩:=hf 3 9 3 c3 rfl Tryz.zQ rfl
  obtain ⟨_,_,f4⟩:=hf 4 9 4 c4 rfl Tryz.zQ rfl
  obtain ⟨_,_,f5⟩:=hf 5 9 5 c5 rfl Tryz.zQ rfl
  obtain ⟨x0,e0,_,s0⟩:=DataW.trod_string Tryz.underlying9 f0
  obtain ⟨x1,e1,_,s1⟩:=DataW.trod_string Tryz.underlying9 f1
  obtain ⟨x2,e2,_,s2⟩:=DataW.trod_string Tryz.underlying9 f2
  obtain ⟨x3,e3,_,s3⟩:=DataW.trod_string Tryz.underlying9 f3
  obtain ⟨x4,e4,_,s4⟩:=DataW.trod_string Tryz.underlying9 f4
  obtain ⟨x5,e5,_,s5⟩:=DataW.trod_string Tryz.underlying9 f5
  simp only [List.cons.injEq,and_true] at e0 e1 e2 e3 e4 e5
  subst e0 e1 e2 e3 e4 e5
  exact ⟨⟨x0,x1,x2,x3,x4,x5⟩,rfl,s0,s1,s2,s3,s4,s5⟩
theorem zmP {fuel:Nat} {cs:List Value} {x:DataW H × List MemPlace} (h:DataW.trod enc Tryz.prog w base spare held fuel 23 cs=some x) :
 ∃ a cap ms,cs=[.slice a (List.length ms) cap]/\y7 w a ms:=by
 obtain ⟨a,len,cap,rfl,hm,hr⟩:=zaG Tryz.underlying23 Tryz.zjH (by omega) h
 rcases Nat.eq_zero_or_pos len with h0 | hp
 ·subst h0
  exact ⟨a,cap,[],rfl,⟨by simp [maxLen],fun i h=>absurd h (by simp),fun h=>absurd rfl h⟩⟩
 ·obtain ⟨b,off,rfl,hb,hrow⟩:=hr hp
  have hf:∀ i,i < len->∃ m:Mnd,m.Small/\∀ j,j < 6->w.cell? ⟨b,off+i * 6+j,none⟩=m.cells[j]?:=by
   intro i hi
   obtain ⟨es,n,y,hel,hcell,hy⟩:=hrow i hi
   obtain ⟨m,rfl,hs⟩:=znH hy
   exact ⟨m,hs,fun j hj=>by rw [hcell j hj];simp⟩
  obtain ⟨ms,hl,hms⟩:=zbD len hf
  exact ⟨_,cap,ms,by rw [hl],⟨by omega,fun i hi=>(hms i hi).1,fun _=>⟨b,off,rfl,hb,fun i hi=>(hms i hi).2⟩⟩⟩
end
end Go.Proofs.YtaickbhifenbjaaGreat
namespace Go.Proofs.YtaickbhifenbjaaGreat
open Go.ChangeShapes Go.WideShapes Go.ChangeAt Go.RowKit
theorem Tryz.zjw:Tryz.prog.cellsOf 89=2:=by kernel_rfl
section
variable {H:Type} {enc:TypeId × Value->H} {w:World} {base:Nat} {spare:Nat->Bool} {held:Bool}
theorem znF {fuel:Nat} {cs:List Value} {x:DataW H × List MemPlace} (h:DataW.trod enc Tryz.prog w base spare held fuel 89 cs=some x) :
 ∃ m:Tm,cs=m.cells.toList/\m.Small:=by
 have hlen:cs.length=2:=by
  obtain ⟨_,_,_,_,hl,_,_⟩:=DataW.trod_struct Tryz.underlying89 h
  rw [hl];exact Tryz.zjw
 match cs,hlen with
 | [c0,c1],_ =>
  have hf:=jQ Tryz.underlying89 h
  obtain ⟨_,_,f0⟩:=hf 0 9 0 c0 rfl Tryz.zQ rfl
  obtain ⟨_,_,f1⟩:=hf 1 9 1 c1 rfl Tryz.zQ rfl
  obtain ⟨x0,e0,_,s0⟩:=DataW.trod_string Tryz.underlying9 f0
  obtain ⟨x1,e1,_,s1⟩:=DataW.trod_string Tryz.underlying9 f1
  simp only [List.cons.injEq,and_true] at e0 e1
  subst e0 e1
  exact ⟨⟨x0,x1⟩,rfl,s0,s1⟩
theorem zmu {fuel:Nat} {cs:List Value} {x:DataW H × List MemPlace} (h:DataW.trod enc Tryz.prog w base spare held fuel 24 cs=some x) :
 ∃ a cap ts,cs=[.slice a (List.length ts) cap]/\qJ w a ts:=by
 obtain ⟨a,len,cap,rfl,hm,hr⟩:=zaG Tryz.underlying24 Tryz.zjw (by omega) h
 rcases Nat.eq_zero_or_pos len with h0 | hp
 ·subst h0
  exact ⟨a,cap,[],rfl,⟨by simp [maxLen],fun i h=>absurd h (by simp),fun h=>absurd rfl h⟩⟩
 ·obtain ⟨b,off,rfl,hb,hrow⟩:=hr hp
  have hf:∀ i,i < len->∃ m:Tm,m.Small/\∀ j,j < 2->w.cell? ⟨b,off+i * 2+j,none⟩=m.cells[j]?:=by
   intro i hi
   obtain ⟨es,n,y,hel,hcell,hy⟩:=hrow i hi
   obtain ⟨m,rfl,hs⟩:=znF hy
   exact ⟨m,hs,fun j hj=>by rw [hcell j hj];simp⟩
  obtain ⟨ms,hl,hms⟩:=zbD len hf
  exact ⟨_,cap,ms,by rw [hl],⟨by omega,fun i hi=>(hms i hi).1,fun _=>⟨b,off,rfl,hb,fun i hi=>(hms i hi).2⟩⟩⟩
end
end Go.Proofs.YtaickbhifenbjaaGreat
namespace Go.Proofs.YtaickbhifenbjaaGreat
open Go.ChangeShapes Go.WideShapes Go.ChangeAt Go.RowKit
theorem Tryz.znZ:Tryz.prog.cellsOf 26=3:=by kernel_rfl
theorem Tryz.zlE:Tryz.prog.cellsOf 22=1:=by kernel_rfl
theorem Tryz.zmT:Tryz.prog.cellsOf 23=1:=by kernel_rfl
theorem Tryz.zmf:Tryz.prog.cellsOf 24=1:=by kernel_rfl
theorem znU {H:Type} {enc:TypeId × Value->H} {w:World} {base:Nat} {spare:Nat->Bool} {held:Bool} {fuel:Nat} {cs:List Value} {x:DataW H × List MemPlace}
 (h:DataW.trod enc Tryz.prog w base spare held fuel 26 cs=some x) :
 ∃ (l:Lw) (a b c:Option Addr) (ca cb cc:Nat),cs=(l.cells a b c ca cb cc).toList/\qp w l a b c:=by
 have hlen:cs.length=3:=by
  obtain ⟨_,_,_,_,hl,_,_⟩:=DataW.trod_struct Tryz.underlying26 h
  rw [hl];exact Tryz.znZ
 match cs,hlen with
 | [c0,c1,c2],_ =>
  have hf:=jQ Tryz.underlying26 h
  obtain ⟨_,_,f0⟩:=hf 0 22 0 c0 rfl Tryz.zlE rfl
  obtain ⟨_,_,f1⟩:=hf 1 23 1 c1 rfl Tryz.zmT rfl
  obtain ⟨_,_,f2⟩:=hf 2 24 2 c2 rfl Tryz.zmf rfl
  obtain ⟨a,ca,ss,e0,hS⟩:=zk0 f0
  obtain ⟨b,cb,ms,e1,hM⟩:=zmP f1
  obtain ⟨c,cc,ts,e2,hT⟩:=zmu f2
  simp only [List.cons.injEq,and_true] at e0 e1 e2
  subst e0 e1 e2
  exact ⟨⟨ss,ms,ts⟩,a,b,c,ca,cb,cc,rfl,⟨hS,hM,hT⟩⟩
end Go.Proofs.YtaickbhifenbjaaGreat
