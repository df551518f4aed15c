import Derived.Test.YtaickbhifenbjaaGreatM47
import Derived.Test.YtaickbhifenbjaaGreatM08
import Derived.Test.YtaickbhifenbjaaGreatM06
import Derived.Test.YtaickbhifenbjaaGreatM09
namespace Go.Proofs.YtaickbhifenbjaaGreat
open Go.ChangeShapes Go.WideShapes Go.ChangeAt Go.RowKit
theorem Tryz.zgC:Tryz.prog.cellsOf 93=7:=by kernel_rfl
theorem zlT {H:Type} {enc:TypeId × Value->H} {w:World} {base:Nat} {spare:Nat->Bool} {held:Bool} {fuel:Nat} {cs:List Value} {x:DataW H × List MemPlace}
 (h:DataW.trod enc Tryz.prog w base spare held fuel 93 cs=some x) :
 ∃ (o:Ob) (a a':Option Addr) (cap cap':Nat),cs=[.string o.kd,.string o.nm,.string o.tm,.slice a o.vs.length cap,.bool o.en,.slice a' o.hs.length cap',.int .i64 o.vr]/\qG w o a a':=by
 have hlen:cs.length=7:=by
  obtain ⟨_,_,_,_,hl,_,_⟩:=DataW.trod_struct Tryz.underlying93 h
  rw [hl];exact Tryz.zgC
 match cs,hlen with
 | [c0,c1,c2,c3,c4,c5,c6],_ =>
  have hf:=jQ Tryz.underlying93 h
  obtain ⟨_,_,f0⟩:=hf 0 9 0 c0 rfl Tryz.zQ rfl
  obtain ⟨_,_,f1⟩:=hf 1 9 1 c1 rfl Tryz.zQ rfl
  obtain ⟨_,_,f2⟩:=hf 2 9 2 c2 rfl Tryz.zQ rfl
  obtain ⟨_,_,f3⟩:=hf 3 91 3 c3 rfl Tryz.zdg rfl
  obtain ⟨_,_,f4⟩:=hf 4 4 4 c4 rfl Tryz.zgk rfl
  obtain ⟨_,_,f5⟩:=hf 5 91 5 c5 rfl Tryz.zdg rfl
  obtain ⟨_,_,f6⟩:=hf 6 3 6 c6 rfl Tryz.jL rfl
  obtain ⟨kd,e0,_,s0⟩:=DataW.trod_string Tryz.underlying9 f0
  obtain ⟨nm,e1,_,s1⟩:=DataW.trod_string Tryz.underlying9 f1
  obtain ⟨tm,e2,_,s2⟩:=DataW.trod_string Tryz.underlying9 f2
  obtain ⟨a,cap,vs,e3,hV⟩:=zgg Tryz.underlying91 Tryz.underlying9 Tryz.zQ f3
  obtain ⟨en,e4,_⟩:=DataW.trod_bool Tryz.underlying4 f4
  obtain ⟨a',cap',hs,e5,hH⟩:=zgg Tryz.underlying91 Tryz.underlying9 Tryz.zQ f5
  obtain ⟨vr,e6,_,_⟩:=DataW.trod_int Tryz.underlying3 f6
  simp only [List.cons.injEq,and_true] at e0 e1 e2 e3 e4 e5 e6
  subst e0 e1 e2 e3 e4 e5 e6
  exact ⟨⟨kd,nm,tm,vs,en,hs,vr⟩,a,a',cap,cap',rfl,⟨⟨s0,s1,s2⟩,hV,hH⟩⟩
end Go.Proofs.YtaickbhifenbjaaGreat
namespace Go.Proofs.YtaickbhifenbjaaGreat
open Go.ChangeShapes Go.WideShapes Go.ChangeAt Go.RowKit
theorem Tryz.znB:Tryz.prog.cellsOf 95=1:=by kernel_rfl
theorem Tryz.zjz:Tryz.prog.cellsOf 97=4:=by kernel_rfl
section
variable {H:Type} {enc:TypeId × Value->H} {w:World} {base:Nat} {spare:Nat->Bool} {held:Bool}
theorem znK {fuel:Nat} {cs:List Value} {x:DataW H × List MemPlace} (h:DataW.trod enc Tryz.prog w base spare held fuel 95 cs=some x) :
 ∃ a cap vs,cs=[.slice a (List.length vs) cap]/\yJ w a vs:=by
 obtain ⟨a,len,cap,rfl,hm,hr⟩:=zaG Tryz.underlying95 Tryz.jL (by omega) h
 rcases Nat.eq_zero_or_pos len with h0 | hp
 ·subst h0
  exact ⟨a,cap,[],rfl,⟨by simp [maxLen],fun h=>absurd rfl h⟩⟩
 ·obtain ⟨b,off,rfl,hb,hrow⟩:=hr hp
  have hf:∀ i,i < len->∃ v:Int,w.cell? ⟨b,off+i,none⟩=some (.int .i64 v):=by
   intro i hi
   obtain ⟨es,n,y,hel,hcell,hy⟩:=hrow i hi
   obtain ⟨v,e0,_,_⟩:=DataW.trod_int Tryz.underlying3 hy
   subst e0
   exact ⟨v,by simpa using hcell 0 (by omega)⟩
  obtain ⟨vs,hl,hvs⟩:=zbD len hf
  exact ⟨_,cap,vs,by rw [hl],⟨by omega,fun _=>⟨b,off,rfl,hb,hvs⟩⟩⟩
theorem znS {fuel:Nat} {cs:List Value} {x:DataW H × List MemPlace} (h:DataW.trod enc Tryz.prog w base spare held fuel 97 cs=some x) :
 ∃ (r:Rl) (a:Option Addr) (cap:Nat),cs=(r.cells a cap).toList/\r.Small/\yJ w a r.vs:=by
 have hlen:cs.length=4:=by
  obtain ⟨_,_,_,_,hl,_,_⟩:=DataW.trod_struct Tryz.underlying97 h
  rw [hl];exact Tryz.zjz
 match cs,hlen with
 | [c0,c1,c2,c3],_ =>
  have hf:=jQ Tryz.underlying97 h
  obtain ⟨_,_,f0⟩:=hf 0 95 0 c0 rfl Tryz.znB rfl
  obtain ⟨_,_,f1⟩:=hf 1 9 1 c1 rfl Tryz.zQ rfl
  obtain ⟨_,_,f2⟩:=hf 2 9 2 c2 rfl Tryz.zQ rfl
  obtain ⟨_,_,f3⟩:=hf 3 9 3 c3 rfl Tryz.zQ rfl
  obtain ⟨a,cap,vs,e0,hI⟩:=znK f0
  obtain ⟨x1,e1,_,s1⟩:=DataW.trod_string Tryz.underlying9 f1
  obtain ⟨x2,e2,_,s2⟩:=DataW.trod_string Tryz.underlying9 f2
  obtain ⟨x3,e3,_,s3⟩:=DataW.trod_string Tryz.underlying9 f3
  simp only [List.cons.injEq,and_true] at e0 e1 e2 e3
  subst e0 e1 e2 e3
  exact ⟨⟨vs,x1,x2,x3⟩,a,cap,rfl,⟨s1,s2,s3⟩,hI⟩
end
end Go.Proofs.YtaickbhifenbjaaGreat
namespace Go.Proofs.YtaickbhifenbjaaGreat
open Go.ChangeShapes Go.WideShapes Go.ChangeAt Go.RowKit
theorem Tryz.zgD:Tryz.prog.cellsOf 102=4:=by kernel_rfl
theorem Tryz.ziF:Tryz.prog.cellsOf 105=5:=by kernel_rfl
theorem Tryz.zh2:Tryz.prog.cellsOf 99=7:=by kernel_rfl
theorem Tryz.znk:Tryz.prog.cellsOf 32=7:=by kernel_rfl
theorem Tryz.zjU:Tryz.prog.cellsOf 27=1:=by kernel_rfl
theorem Tryz.zk7:Tryz.prog.cellsOf 28=1:=by kernel_rfl
theorem Tryz.zkd:Tryz.prog.cellsOf 29=1:=by kernel_rfl
theorem Tryz.zk3:Tryz.prog.cellsOf 30=1:=by kernel_rfl
section
variable {H:Type} {enc:TypeId × Value->H} {w:World} {base:Nat} {spare:Nat->Bool} {held:Bool}
theorem zmF {P:Program} {t:TypeId} {fs:Array Field} {fuel:Nat} {cs:List Value} {x:DataW H × List MemPlace} (ht:P.underlying t=some (.struct fs)) (h:DataW.trod enc P w base spare held fuel t cs=some x)
 (i tf off n:Nat) (hf:(fs[i]?).map (fun f=>(f.type,f.offset))=some (tf,off)) (hn:P.cellsOf tf=n):∃ m y,DataW.trod enc P w base spare held m tf ((cs.drop off).take n)=some y:=by
 obtain ⟨f,hf1,hf2⟩:=Option.map_eq_some_iff.1 hf
 simp only [Prod.mk.injEq] at hf2
 obtain ⟨rfl,rfl⟩:=hf2
 subst hn
 exact ziM ht h i f hf1
theorem zlp {fuel:Nat} {cs:List Value} {x:DataW H × List MemPlace} (h:DataW.trod enc Tryz.prog w base spare held fuel 102 cs=some x) :
 ∃ m:Lg,cs=m.cells.toList/\m.Small:=by
 have hlen:cs.length=4:=by
  obtain ⟨_,_,_,_,hl,_,_⟩:=DataW.trod_struct Tryz.underlying102 h
  rw [hl];exact Tryz.zgD
 match cs,hlen with
 | [c0,c1,c2,c3],_ =>
  have hf:=jQ Tryz.underlying102 h
  obtain ⟨_,_,f0⟩:=hf 0 9 0 c0 rfl Tryz.zQ rfl
  obtain ⟨_,_,f1⟩:=hf 1 9 1 c1 rfl Tryz.zQ rfl
  obtain ⟨_,_,f2⟩:=hf 2 3 2 c2 rfl Tryz.jL rfl
  obtain ⟨_,_,f3⟩:=hf 3 3 3 c3 rfl Tryz.jL rfl
  obtain ⟨x0,e0,_,s0⟩:=DataW.trod_string Tryz.underlying9 f0
  obtain ⟨x1,e1,_,s1⟩:=DataW.trod_string Tryz.underlying9 f1
  obtain ⟨x2,e2,_,_⟩:=DataW.trod_int Tryz.underlying3 f2
  obtain ⟨x3,e3,_,_⟩:=DataW.trod_int Tryz.underlying3 f3
  simp only [List.cons.injEq,and_true] at e0 e1 e2 e3
  subst e0 e1 e2 e3
  exact ⟨⟨x0,x1,x2,x3⟩,rfl,s0,s1⟩
theorem zks {fuel:Nat} {cs:List Value} {x:DataW H × List MemPlace} (h:DataW.trod enc Tryz.prog w base spare held fuel 29 cs=some x) :
 ∃ a cap ms,cs=[.slice a (List.length ms) cap]/\zbL w a ms:=by
 obtain ⟨a,len,cap,rfl,hm,hr⟩:=zaG Tryz.underlying29 Tryz.zgD (by omega) h
 rcases Nat.eq_zero_or_pos len with h0 | hp
 ·subst h0
  exact ⟨a,cap,[],rfl,⟨by simp [maxLen],fun i h=>absurd h (by simp),fun h=>absurd rfl h⟩⟩
 ·obtain ⟨b,off,rfl,hb,hrow⟩:=hr hp
  have hf:∀ i,i < len->∃ m:Lg,m.Small/\∀ j,j < 4->w.cell? ⟨b,off+i * 4+j,none⟩=m.cells[j]?:=by
   intro i hi
   obtain ⟨es,n,y,hel,hcell,hy⟩:=hrow i hi
   obtain ⟨m,rfl,hs⟩:=zlp hy
   exact ⟨m,hs,fun j hj=>by rw [hcell j hj];simp⟩
  obtain ⟨ms,hl,hms⟩:=zbD len hf
  exact ⟨_,cap,ms,by rw [hl],⟨by omega,fun i hi=>(hms i hi).1,fun _=>⟨b,off,rfl,hb,fun i hi=>(hms i hi).2⟩⟩⟩
theorem zl5 {fuel:Nat} {cs:List Value} {x:DataW H × List MemPlace} (h:DataW.trod enc Tryz.prog w base spare held fuel 105 cs=some x) :
 ∃ m:Pu,cs=m.cells.toList/\m.Small:=by
 have hlen:cs.length=5:=by
  obtain ⟨_,_,_,_,hl,_,_⟩:=DataW.trod_struct Tryz.underlying105 h
  rw [hl];exact Tryz.ziF
 match cs,hlen with
 | [c0,c1,c2,c3,c4],_ =>
  have hf:=jQ Tryz.underlying105 h
  obtain ⟨_,_,f0⟩:=hf 0 9 0 c0 rfl Tryz.zQ rfl
  obtain ⟨_,_,f1⟩:=hf 1 9 1 c1 rfl Tryz.zQ rfl
  obtain ⟨_,_,f2⟩:=hf 2 9 2 c2 rfl Tryz.zQ rfl
  obtain ⟨_,_,f3⟩:=hf 3 3 3 c3 rfl Tryz.jL rfl
  obtain ⟨_,_,f4⟩:=hf 4 3 4 c4 rfl Tryz.jL rfl
  obtain ⟨x0,e0,_,s0⟩:=DataW.trod_string Tryz.underlying9 f0
  obtain ⟨x1,e1,_,s1⟩:=DataW.trod_string Tryz.underlying9 f1
  obtain ⟨x2,e2,_,s2⟩:=DataW.trod_string Tryz.underlying9 f2
  obtain ⟨x3,e3,_,_⟩:=DataW.trod_int Tryz.underlying3 f3
  obtain ⟨x4,e4,_,_⟩:=DataW.trod_int Tryz.underlying3 f4
  simp only [List.cons.injEq,and_true] at e0 e1 e2 e3 e4
  subst e0 e1 e2 e3 e4
  exact ⟨⟨x0,x1,x2,x3,x4⟩,rfl,s0,s1,s2⟩
theorem zly {fuel:Nat} {cs:List Value} {x:DataW H × List MemPlace} (h:DataW.trod enc Tryz.prog w base spare held fuel 30 cs=some x) :
 ∃ a cap ms,cs=[.slice a (List.length ms) cap]/\zcF w a ms:=by
 obtain ⟨a,len,cap,rfl,hm,hr⟩:=zaG Tryz.underlying30 Tryz.ziF (by omega) h
 rcases Nat.eq_zero_or_pos len with h0 | hp
 ·subst h0
  exact ⟨a,cap,[],rfl,⟨by simp [maxLen],fun i h=>absurd h (by simp),fun h=>absurd rfl h⟩⟩
 ·obtain ⟨b,off,rfl,hb,hrow⟩:=hr hp
  have hf:∀ i,i < len->∃ m:Pu,m.Small/\∀ j,j < 5->w.cell? ⟨b,off+i * 5+j,none⟩=m.cells[j]?:=by
   intro i hi
   obtain ⟨es,n,y,hel,hcell,hy⟩:=hrow i hi
   obtain ⟨m,rfl,hs⟩:=zl5 hy
   exact ⟨m,hs,fun j hj=>by rw [hcell j hj];simp⟩
  obtain ⟨ms,hl,hms⟩:=zbD len hf
  exact ⟨_,cap,ms,by rw [hl],⟨by omega,fun i hi=>(hms i hi).1,fun _=>⟨b,off,rfl,hb,fun i hi=>(hms i hi).2⟩⟩⟩
theorem zkg {fuel:Nat} {cs:List Value} {x:DataW H × List MemPlace} (h:DataW.trod enc Tryz.prog w base spare held fuel 27 cs=some x) :
 ∃ a cap ms,cs=[.slice a (List.length ms) cap]/\zbr w a ms:=by
 obtain ⟨a,len,cap,rfl,hm,hr⟩:=zaG Tryz.underlying27 Tryz.zgC (by omega) h
 rcases Nat.eq_zero_or_pos len with h0 | hp
 ·subst h0
  exact ⟨a,cap,[],rfl,⟨by simp [maxLen],fun h=>absurd rfl h⟩⟩
 ·obtain ⟨b,off,rfl,hb,hrow⟩:=hr hp
  have hf:∀ i,i < len->∃ o:Ob,∃ a0 a1 c0 c1,znw w b (off+i * 7) o a0 a1 c0 c1:=by
   intro i hi
   obtain ⟨es,n,y,hel,hcell,hy⟩:=hrow i hi
   obtain ⟨o,a0,a1,c0,c1,rfl,hs⟩:=zlT hy
   exact ⟨o,a0,a1,c0,c1,hs.small,hs.vals,hs.holds,fun j hj=>by rw [hcell j hj];simp [Ob.row]⟩
  obtain ⟨ms,hl,hms⟩:=zbD len hf
  exact ⟨_,cap,ms,by rw [hl],⟨by omega,fun _=>⟨b,off,rfl,hb,hms⟩⟩⟩
theorem zmp {fuel:Nat} {cs:List Value} {x:DataW H × List MemPlace} (h:DataW.trod enc Tryz.prog w base spare held fuel 99 cs=some x) :
 ∃ (g:Gr) (a:Option Addr) (cap:Nat),cs=(g.cells a cap).toList/\g.Small/\yJ w a g.r.vs:=by
 have hlen:cs.length=7:=by
  obtain ⟨_,_,_,_,hl,_,_⟩:=DataW.trod_struct Tryz.underlying99 h
  rw [hl];exact Tryz.zh2
 match cs,hlen with
 | [c0,c1,c2,c3,c4,c5,c6],_ =>
  have hf:=jQ Tryz.underlying99 h
  obtain ⟨_,_,f0⟩:=hf 0 3 0 c0 rfl Tryz.jL rfl
  obtain ⟨_,_,f1⟩:=hf 1 9 1 c1 rfl Tryz.zQ rfl
  obtain ⟨_,_,f2⟩:=hf 2 9 2 c2 rfl Tryz.zQ rfl
  obtain ⟨_,_,f3⟩:=zmF Tryz.underlying99 h 3 97 3 4 rfl Tryz.zjz
  obtain ⟨x0,e0,_,_⟩:=DataW.trod_int Tryz.underlying3 f0
  obtain ⟨x1,e1,_,s1⟩:=DataW.trod_string Tryz.underlying9 f1
  obtain ⟨x2,e2,_,s2⟩:=DataW.trod_string Tryz.underlying9 f2
  obtain ⟨r,a,cap,e3,hs,hI⟩:=znS f3
  simp only [List.cons.injEq,and_true] at e0 e1 e2
  subst e0 e1 e2
  have e3':[c3,c4,c5,c6]=(r.cells a cap).toList:=e3
  unfold Rl.cells at e3'
  simp only [List.cons.injEq,and_true] at e3'
  obtain ⟨e3,e4,e5,e6⟩:=e3'
  subst e3 e4 e5 e6
  exact ⟨⟨x0,x1,x2,r⟩,a,cap,rfl,⟨s1,s2,hs⟩,hI⟩
theorem zlI {fuel:Nat} {cs:List Value} {x:DataW H × List MemPlace} (h:DataW.trod enc Tryz.prog w base spare held fuel 28 cs=some x) :
 ∃ a cap ms,cs=[.slice a (List.length ms) cap]/\zbb w a ms:=by
 obtain ⟨a,len,cap,rfl,hm,hr⟩:=zaG Tryz.underlying28 Tryz.zh2 (by omega) h
 rcases Nat.eq_zero_or_pos len with h0 | hp
 ·subst h0
  exact ⟨a,cap,[],rfl,⟨by simp [maxLen],fun h=>absurd rfl h⟩⟩
 ·obtain ⟨b,off,rfl,hb,hrow⟩:=hr hp
  have hf:∀ i,i < len->∃ g:Gr,∃ a0 c0,zoz w b (off+i * 7) g a0 c0:=by
   intro i hi
   obtain ⟨es,n,y,hel,hcell,hy⟩:=hrow i hi
   obtain ⟨g,a0,c0,rfl,hs,hI⟩:=zmp hy
   exact ⟨g,a0,c0,hs,hI,fun j hj=>by rw [hcell j hj];simp⟩
  obtain ⟨ms,hl,hms⟩:=zbD len hf
  exact ⟨_,cap,ms,by rw [hl],⟨by omega,fun _=>⟨b,off,rfl,hb,hms⟩⟩⟩
theorem znm {fuel:Nat} {cs:List Value} {x:DataW H × List MemPlace} (h:DataW.trod enc Tryz.prog w base spare held fuel 32 cs=some x) :
 ∃ (b:Bk) (a0 a1 a2 a3:Option Addr) (k0 k1 k2 k3:Nat),cs=(b.cells a0 a1 a2 a3 k0 k1 k2 k3).toList/\qA w b a0 a1 a2 a3:=by
 have hlen:cs.length=7:=by
  obtain ⟨_,_,_,_,hl,_,_⟩:=DataW.trod_struct Tryz.underlying32 h
  rw [hl];exact Tryz.znk
 match cs,hlen with
 | [c0,c1,c2,c3,c4,c5,c6],_ =>
  have hf:=jQ Tryz.underlying32 h
  obtain ⟨_,_,f0⟩:=hf 0 3 0 c0 rfl Tryz.jL rfl
  obtain ⟨_,_,f1⟩:=hf 1 3 1 c1 rfl Tryz.jL rfl
  obtain ⟨_,_,f2⟩:=hf 2 3 2 c2 rfl Tryz.jL rfl
  obtain ⟨_,_,f3⟩:=hf 3 27 3 c3 rfl Tryz.zjU rfl
  obtain ⟨_,_,f4⟩:=hf 4 28 4 c4 rfl Tryz.zk7 rfl
  obtain ⟨_,_,f5⟩:=hf 5 29 5 c5 rfl Tryz.zkd rfl
  obtain ⟨_,_,f6⟩:=hf 6 30 6 c6 rfl Tryz.zk3 rfl
  obtain ⟨x0,e0,_,_⟩:=DataW.trod_int Tryz.underlying3 f0
  obtain ⟨x1,e1,_,_⟩:=DataW.trod_int Tryz.underlying3 f1
  obtain ⟨x2,e2,_,_⟩:=DataW.trod_int Tryz.underlying3 f2
  obtain ⟨a0,k0,os,e3,hO⟩:=zkg f3
  obtain ⟨a1,k1,gs,e4,hG⟩:=zlI f4
  obtain ⟨a2,k2,ls,e5,hL⟩:=zks f5
  obtain ⟨a3,k3,ps,e6,hP⟩:=zly f6
  simp only [List.cons.injEq,and_true] at e0 e1 e2 e3 e4 e5 e6
  subst e0 e1 e2 e3 e4 e5 e6
  exact ⟨⟨x0,x1,x2,os,gs,ls,ps⟩,a0,a1,a2,a3,k0,k1,k2,k3,rfl,⟨hO,hG,hL,hP⟩⟩
end
end Go.Proofs.YtaickbhifenbjaaGreat
namespace Go.Proofs.YtaickbhifenbjaaGreat
open Go.ChangeShapes Go.WideShapes Go.ChangeAt Go.RowKit
theorem Tryz.zn0:Tryz.prog.cellsOf 34=4:=by kernel_rfl
section
variable {H:Type} {enc:TypeId × Value->H} {w:World} {base:Nat} {spare:Nat->Bool} {held:Bool}
theorem znY {fuel:Nat} {cs:List Value} {x:DataW H × List MemPlace} (h:DataW.trod enc Tryz.prog w base spare held fuel 34 cs=some x) :
 ∃ r:Ac,cs=r.cells.toList/\r.Small:=by
 have hlen:cs.length=4:=by
  obtain ⟨_,_,_,_,hl,_,_⟩:=DataW.trod_struct Tryz.underlying34 h
  rw [hl];exact Tryz.zn0
 match cs,hlen with
 | [c0,c1,c2,c3],_ =>
  have hf:=jQ Tryz.underlying34 h
  obtain ⟨_,_,f0⟩:=hf 0 3 0 c0 rfl Tryz.jL rfl
  obtain ⟨_,_,f1⟩:=hf 1 9 1 c1 rfl Tryz.zQ rfl
  obtain ⟨_,_,f2⟩:=hf 2 9 2 c2 rfl Tryz.zQ rfl
  obtain ⟨_,_,f3⟩:=hf 3 9 3 c3 rfl Tryz.zQ rfl
  obtain ⟨x0,e0,_,_⟩:=DataW.trod_int Tryz.underlying3 f0
  obtain ⟨x1,e1,_,s1⟩:=DataW.trod_string Tryz.underlying9 f1
  obtain ⟨x2,e2,_,s2⟩:=DataW.trod_string Tryz.underlying9 f2
  obtain ⟨x3,e3,_,s3⟩:=DataW.trod_string Tryz.underlying9 f3
  simp only [List.cons.injEq,and_true] at e0 e1 e2 e3
  subst e0 e1 e2 e3
  exact ⟨⟨x0,x1,x2,x3⟩,rfl,s1,s2,s3⟩
end
end Go.Proofs.YtaickbhifenbjaaGreat
