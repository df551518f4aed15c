import Derived.Test.YtecncindgjdbiaaGreatM06
import Derived.Test.YtecncindgjdbiaaGreatM07
set_option maxHeartbeats 400000
namespace Go.Proofs.YtecncindgjdbiaaGreat
open Go.RowKit
structure jT (w:World)(o:Ob)(a a':OA):Prop where
 small:o.Small
 vals:zF w a o.vs
 holds:zF w a' o.hs
theorem jT.mono {w w':World}{o:Ob}{a a':OA}(h:jT w o a a')(hb:Bw w w'):jT w' o a a':=
 ⟨h.small,h.vals.mono hb,h.holds.mono hb⟩
theorem zcH (a:OA)(cap:Nat)(ws:List BA)(v:BA)(w:World)(hw:zF w a ws) :
 Calls Tryz.prog 186 #[.l a ws.length cap,.s v] w fun e w'=>e=.returned (.bool (has ws v))/\w'=w:=by
 have hl:=hw.len;unfold maxLen at hl
 by_cases hne:ws=[]
 ·subst hne
  go_enter Tryz.func186,Tryz.ntmps186
  go_wp2
  go_loop [5] (fun i=>i=.i 0) (fun i=>0)
  case atStart=>rfl
  case round=>
   subst hrel
   go_wp2
   go_ret;exact⟨rfl,rfl⟩
 ·obtain⟨b,off,rfl,hb,hc⟩:=hw.cells hne
  clear hw;have HL:Hid (0<ws.length):=List.length_pos_iff.2 hne;clear hne;go_enter Tryz.func186,Tryz.ntmps186
  go_wp2
  go_loop [5] (fun i=>∃k:Nat,k<=ws.length/\i=.i k/\has (ws.take k) v=false) (fun i=>ws.length-(intOf i).toNat)
  case atStart=>exact⟨0,Nat.zero_le _,rfl,rfl⟩
  case round=>
   obtain⟨k,hk,rfl,hall⟩:=hrel
   by_cases hlt:k<ws.length
   ·have hck:=hc k hlt
    clear hc;have HS:Hid (has (ws.take (k+1)) v=(false||decide (ws[k]=v))):=by rw[znu ws v k hlt,hall];rfl
    have HN:Hid (ws[k]=v->has ws v=true):=fun h=>zqw ws v k hlt h
    clear hall
    by_cases he:ws[k]=v
    ·have hbe:(ws[k].toList == v.toList)=true:=by rw[beq_toList];simpa using he
     have HE:Hid (ws[k]=v):=he;clear he
     go_wp2
     go_ret;exact⟨ze (HN.o HE.o).symm,rfl⟩
    ·have hbe:(ws[k].toList == v.toList)=false:=by rw[beq_toList];simpa using he
     have HE:Hid (¬ws[k]=v):=he;clear he
     go_wp2
     go_round
     case rel=>exact⟨k+1,by omega,by go_num,by rw[HS.o,decide_eq_false HE.o];rfl⟩
     case measure=>simp[intOf];omega
   ·have HA:Hid (has ws v=false):=by rw[<- zo5 ws v k (by omega)];exact hall
    clear hall hc
    go_wp2
    go_ret;exact⟨ze HA.o.symm,rfl⟩
end Go.Proofs.YtecncindgjdbiaaGreat
namespace Go.Proofs.YtecncindgjdbiaaGreat
open Go.ChangeShapes Go.WideShapes Go.ChangeAt Go.RowKit
theorem Tryz.zlf:Tryz.prog.cellsOf 101=6:=by kernel_rfl
section
variable {H:Type} {enc:TypeId × Value->H} {w:World} {base:Nat} {spare:Nat->Bool} {held:Bool}
theorem zpz {fuel:Nat}{cs:List Value}{x:DataW H × List MemPlace}(h:DataW.trod enc Tryz.prog w base spare held fuel 101 cs=some x) :
 ∃m:Mnd,cs=m.cells.toList/\m.Small:=by
 have hlen:cs.length=6:=by
  obtain⟨_,_,_,_,hl,_,_⟩:=DataW.trod_struct Tryz.underlying101 h;rw[hl];exact Tryz.zlf
 match cs,hlen with
 | [c0,c1,c2,c3,c4,c5],_=>
  have hf:=zai Tryz.underlying101 h;obtain⟨_,_,f0⟩:=hf 0 9 0 c0 rfl Tryz.zS rfl;obtain⟨_,_,f1⟩:=hf 1 9 1 c1 rfl Tryz.zS rfl;obtain⟨_,_,f2⟩:=hf 2 9 2 c2 rfl Tryz.zS rfl;obtain⟨_,_,f3⟩:=hf 3 9 3 c3 rfl Tryz.zS rfl;obtain⟨_,_,f4⟩:=hf 4 9 4 c4 rfl Tryz.zS rfl;obtain⟨_,_,f5⟩:=hf 5 9 5 c5 rfl Tryz.zS rfl;obtain⟨x0,e0,_,s0⟩:=DataW.trod_string Tryz.underlying9 f0;obtain⟨x1,e1,_,s1⟩:=DataW.trod_string Tryz.underlying9 f1;obtain⟨x2,e2,_,s2⟩:=DataW.trod_string Tryz.underlying9 f2;obtain⟨x3,e3,_,s3⟩:=DataW.trod_string Tryz.underlying9 f3;obtain⟨x4,e4,_,s4⟩:=DataW.trod_string Tryz.underlying9 f4;obtain⟨x5,e5,_,s5⟩:=DataW.trod_string Tryz.underlying9 f5;simp only[List.cons.injEq,and_true]at e0 e1 e2 e3 e4 e5;subst e0 e1 e2 e3 e4 e5;exact⟨⟨x0,x1,x2,x3,x4,x5⟩,rfl,s0,s1,s2,s3,s4,s5⟩
theorem zoT {fuel:Nat}{cs:List Value}{x:DataW H × List MemPlace}(h:DataW.trod enc Tryz.prog w base spare held fuel 23 cs=some x) :
 ∃a cap ms,cs=[.l a (List.length ms) cap]/\qL w a ms:=by
 obtain⟨a,len,cap,rfl,hm,hr⟩:=zaV Tryz.underlying23 Tryz.zlf (by omega) h
 rcases Nat.eq_zero_or_pos len with h0|hp
 ·subst h0
  exact⟨a,cap,[],rfl,⟨by simp[maxLen],fun i h=>absurd h (by simp),fun h=>absurd rfl h⟩⟩
 ·obtain⟨b,off,rfl,hb,hrow⟩:=hr hp
  have hf:∀i,i<len->∃m:Mnd,m.Small/\∀j,j<6->w.cell? (aD b (off+i*6+j))=m.cells[j]?:=by
   intro i hi;obtain⟨es,n,y,hel,hcell,hy⟩:=hrow i hi;obtain⟨m,rfl,hs⟩:=zpz hy;exact⟨m,hs,fun j hj=>by rw[hcell j hj];simp⟩
  obtain⟨ms,hl,hms⟩:=zb2 len hf;exact⟨_,cap,ms,by rw[hl],⟨by omega,fun i hi=>(hms i hi).1,fun _=>⟨b,off,rfl,hb,fun i hi=>(hms i hi).2⟩⟩⟩
end
end Go.Proofs.YtecncindgjdbiaaGreat
