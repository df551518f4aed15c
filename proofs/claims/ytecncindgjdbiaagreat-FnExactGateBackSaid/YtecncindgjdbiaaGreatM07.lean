import Derived.Test.YtecncindgjdbiaaGreatM05
set_option maxHeartbeats 400000
namespace Go.Proofs.YtecncindgjdbiaaGreat
open Go.RowKit
def zqU (ss:List Shp)(v:BA)(e:Ending):Prop:=
 (zJ ss v=false->e=.returned (.i (-1)))/\(zJ ss v=true->∃k,∃h:k<ss.length,e=.returned (.i (k:Nat))/\shapeOf ss v=ss[k])
theorem zhW (a:OA)(cap:Nat)(ss:List Shp)(v:BA)(w:World)(hw:yR w a ss) :
 Calls Tryz.prog 150 #[.l a ss.length cap,.s v] w fun e w'=>zqU ss v e/\w'=w:=by
 have hl:=hw.len;unfold maxLen at hl;go_enter Tryz.func150,Tryz.ntmps150
 go_wp2
 go_loop [5] (fun i=>∃k:Nat,k<=ss.length/\i=.i k/\zJ (ss.take k) v=false) (fun i=>ss.length-(intOf i).toNat)
 case atStart=>exact⟨0,Nat.zero_le _,rfl,rfl⟩
 case round=>
  obtain⟨k,hk,rfl,hno⟩:=hrel
  by_cases hlt:k<ss.length
  ·obtain⟨b,off,rfl,hb,hr⟩:=hw.rows (by rintro rfl;simp at hlt)
   obtain⟨fa,fcap,hs⟩:=hr k hlt;have hck:=hs.kind;clear hw hr hs
   by_cases he:ss[k].kd=v
   ·have hbe:(ss[k].kd.toList == v.toList)=true:=by rw[beq_toList];simpa using he
    have HA:Hid (zJ ss v=true):=zjy ss v k hlt he;have HB:Hid (shapeOf ss v=ss[k]):=zfQ ss v k hlt hno he;clear he hno
    go_wp2
    go_ret;exact⟨⟨fun h=>(by rw[HA.o]at h;cases h),fun _=>⟨k,hlt,rfl,HB.o⟩⟩,rfl⟩
   ·have hbe:(ss[k].kd.toList == v.toList)=false:=by rw[beq_toList];simpa using he
    have HS:Hid (zJ (ss.take (k+1)) v=false):=by unfold Hid;rw[zgF ss v k hlt,hno,decide_eq_false he];rfl
    clear he hno
    go_wp2
    go_round
    case rel=>exact⟨k+1,by omega,by go_num,HS.o⟩
    case measure=>simp[intOf];omega
  ·have HA:Hid (zJ ss v=false):=by rw[<- zh8 ss v k (by omega)];exact hno
   clear hno hw
   go_wp2
   go_ret;exact⟨⟨fun _=>rfl,fun h=>by rw[HA.o]at h;cases h⟩,rfl⟩
theorem zeg (a:OA)(cap:Nat)(ss:List Shp)(v:BA)(w:World)(hw:yR w a ss)(h:zJ ss v=false) :
 Calls Tryz.prog 150 #[.l a ss.length cap,.s v] w fun e w'=>e=.returned (.i (-1))/\w'=w:=by
 refine(zhW a cap ss v w hw).mono ?_;rintro e w'⟨⟨h1,_⟩,rfl⟩;exact⟨h1 h,rfl⟩
theorem jV (a:OA)(cap:Nat)(ss:List Shp)(v:BA)(w:World)(hw:yR w a ss)(h:zJ ss v=true) :
 Calls Tryz.prog 150 #[.l a ss.length cap,.s v] w fun e w'=>∃k,∃h:k<ss.length,e=.returned (.i (k:Nat))/\shapeOf ss v=ss[k]/\w'=w:=by
 refine(zhW a cap ss v w hw).mono ?_;rintro e w'⟨⟨_,h2⟩,rfl⟩;obtain⟨k,hk,he,hs⟩:=h2 h;exact⟨k,hk,he,hs,rfl⟩
theorem yg {w:World}{p:Addr}{v:Value}{b o:Nat}(h:b≠p.block):(w.setCell p v).cell? (aD b o)=w.cell? (aD b o):=by
 unfold World.cell?;rw[Below.heap_setCell _ _ _ _ h]
theorem zbS {w:World}{b g o:Nat}(h:b≠g){v0 v1 v2 v3 v4 v5 v6:Value}:(((((((w.setCell (aD g 0) v0).setCell (aD g 1) v1).setCell (aD g 2) v2).setCell (aD g 3) v3).setCell (aD g 4) v4).setCell (aD g 5) v5).setCell (aD g 6) v6).cell? (aD b o)=w.cell? (aD b o):=by
 rw[yg h,yg h,yg h,yg h,yg h,yg h,yg h]
end Go.Proofs.YtecncindgjdbiaaGreat
namespace Go.Proofs.YtecncindgjdbiaaGreat
open Go.ChangeShapes Go.WideShapes Go.ChangeAt Go.RowKit
theorem Tryz.zjj:Tryz.prog.cellsOf 98=2:=by kernel_rfl
theorem Tryz.zmH:Tryz.prog.cellsOf 96=1:=by kernel_rfl
section
variable {H:Type} {enc:TypeId × Value->H} {w:World} {base:Nat} {spare:Nat->Bool} {held:Bool}
theorem zm6 {fuel:Nat}{cs:List Value}{x:DataW H × List MemPlace}(h:DataW.trod enc Tryz.prog w base spare held fuel 96 cs=some x) :
 ∃a cap fs,cs=[.l a (List.length fs) cap]/\yc w a fs:=by
 obtain⟨a,len,cap,rfl,hm,hr⟩:=zaV Tryz.underlying96 Tryz.zks (by omega) h
 rcases Nat.eq_zero_or_pos len with h0|hp
 ·subst h0
  exact⟨a,cap,[],rfl,⟨by simp[maxLen],fun h=>absurd rfl h⟩⟩
 ·obtain⟨b,off,rfl,hb,hrow⟩:=hr hp
  have hf:∀i,i<len->∃f:Fld,∃wa wcap,ze5 w b (off+i*11) f wa wcap:=by
   intro i hi;obtain⟨es,n,y,hel,hcell,hy⟩:=hrow i hi;obtain⟨nm,kd,ls,ms,wa,wcap,ws,to,rl,mu,fx,df,wg,rfl,hS,s0,s5,s9,s10⟩:=zoj hy;refine⟨⟨nm,kd,ls,ms,ws,to,rl,mu,fx,df,wg⟩,wa,wcap,⟨s0,s5,s9,s10⟩,hS,fun j hj=>?_⟩;rw[hcell j hj]
   simp[Fld.cells]
  obtain⟨fs,hl,hfs⟩:=zb2 len hf;refine⟨_,cap,fs,by rw[hl],⟨by omega,fun _=>⟨b,off,rfl,hb,fun i hi=>hfs i hi⟩⟩⟩
theorem zoH {fuel:Nat}{cs:List Value}{x:DataW H × List MemPlace}(h:DataW.trod enc Tryz.prog w base spare held fuel 98 cs=some x) :
 ∃kd a cap fs,cs=[.s kd,.l a (List.length fs) cap]/\kd.size<=maxLen/\yc w a fs:=by
 have hlen:cs.length=2:=by
  obtain⟨_,_,_,_,hl,_,_⟩:=DataW.trod_struct Tryz.underlying98 h;rw[hl];exact Tryz.zjj
 match cs,hlen with
 | [c0,c1],_=>
  have hf:=zai Tryz.underlying98 h;obtain⟨_,_,f0⟩:=hf 0 9 0 c0 rfl Tryz.zS rfl;obtain⟨_,_,f1⟩:=hf 1 96 1 c1 rfl Tryz.zmH rfl;obtain⟨kd,e0,_,s0⟩:=DataW.trod_string Tryz.underlying9 f0;obtain⟨a,cap,fs,e1,hF⟩:=zm6 f1;simp only[List.cons.injEq,and_true]at e0 e1;subst e0 e1;exact⟨kd,a,cap,fs,rfl,s0,hF⟩
theorem zm9 {fuel:Nat}{cs:List Value}{x:DataW H × List MemPlace}(h:DataW.trod enc Tryz.prog w base spare held fuel 22 cs=some x) :
 ∃a cap ss,cs=[.l a (List.length ss) cap]/\yR w a ss:=by
 obtain⟨a,len,cap,rfl,hm,hr⟩:=zaV Tryz.underlying22 Tryz.zjj (by omega) h
 rcases Nat.eq_zero_or_pos len with h0|hp
 ·subst h0
  exact⟨a,cap,[],rfl,⟨by simp[maxLen],fun h=>absurd rfl h⟩⟩
 ·obtain⟨b,off,rfl,hb,hrow⟩:=hr hp
  have hf:∀i,i<len->∃s:Shp,∃fa fcap,zln w b (off+i*2) s fa fcap:=by
   intro i hi;obtain⟨es,n,y,hel,hcell,hy⟩:=hrow i hi;obtain⟨kd,fa,fcap,fs,rfl,s0,hF⟩:=zoH hy;exact⟨⟨kd,fs⟩,fa,fcap,s0,hF,hcell 0 (by omega),hcell 1 (by omega)⟩
  obtain⟨ss,hl,hss⟩:=zb2 len hf;exact⟨_,cap,ss,by rw[hl],⟨by omega,fun _=>⟨b,off,rfl,hb,fun i hi=>hss i hi⟩⟩⟩
end
end Go.Proofs.YtecncindgjdbiaaGreat
