import Derived.Test.YtbfgkhgmnfghgaaGreatM08
import Derived.Test.YtbfgkhgmnfghgaaGreatM09
set_option maxHeartbeats 1000000
namespace Go.Proofs.YtbfgkhgmnfghgaaGreat
open Go.RowKit
theorem jg (a0:OA)(cap0:Nat)(ss:List Shp)(o:Ob)(a a':OA)(cap cap':Nat)(w:World)(hw:yX w a0 ss)(_ho:jT w o a a')(hc:zB ss o=true) :
 Calls Tryz.prog 113 #[.l a0 ss.length cap0,.agg #[.s o.kd,.s o.nm,.s o.tm,.l a o.vs.length cap,.bool o.en,.l a' o.hs.length cap',.i o.vr]] w fun e w'=>∃fa fcap,e=.returned (.tuple #[.l fa (shapeOf ss o.kd).fs.length fcap,.bool true])/\yc w fa (shapeOf ss o.kd).fs/\Bw w w':=by
 unfold zB at hc;simp only[Bool.and_eq_true,decide_eq_true_eq]at hc;have HK:=hid hc.1;have HL:=hid hc.2;clear hc;have hl:=hw.len;unfold maxLen at hl;go_enter Tryz.func113,Tryz.ntmps113;go_wp2_with fail
 refine(jZ _ _ _ _ _ (hw.mono (bAl _ _)) HK.o).mono ?_;rintro e w1⟨ix,hix,rfl,hsh,rfl⟩;have HSh:=hid hsh;clear hsh;obtain⟨b,off,rfl,hb,hr⟩:=hw.rows (by rintro rfl;simp at hix);obtain⟨fa,fcap,hs⟩:=hr ix hix;have hcl:=hs.list;have hfl:=hs.zdS;have hixI:(ix:Int)<(ss.length:Int):=by omega
 have hix0:decide ((ix:Int)<0)=false:=by simp
 have hneq:((ss[ix].fs.length:Int) != (o.vs.length:Int))=false:=by have h1:=HL.o;have h2:=HSh.o;rw[h2]at h1;simp[h1]
 have hbw:=hb;clear hr hs;go_wp2_with fail
 go_quiet (fail)
 go_wp2_with fail
 go_ret2
 rw[HSh.o];exact⟨fa,fcap,rfl,hfl,below_drewN (bAl _ _) _⟩
theorem zdn (a0:OA)(cap0:Nat)(ss:List Shp)(o:Ob)(a a':OA)(cap cap':Nat)(w:World)(hw:yX w a0 ss)(_ho:jT w o a a')(hc:zB ss o=false) :
 Calls Tryz.prog 113 #[.l a0 ss.length cap0,.agg #[.s o.kd,.s o.nm,.s o.tm,.l a o.vs.length cap,.bool o.en,.l a' o.hs.length cap',.i o.vr]] w fun e w'=>∃v,e=.returned (.tuple #[v,.bool false])/\Bw w w':=by
 have hl:=hw.len;unfold maxLen at hl
 by_cases hk:zJ ss o.kd=true
 ·have HK:=hid hk
  have HL:Hid (¬o.vs.length=(shapeOf ss o.kd).fs.length):=by unfold zB at hc;rw[hk]at hc;simpa[Hid] using hc
  clear hc hk;go_enter Tryz.func113,Tryz.ntmps113;go_wp2_with fail
  refine(jZ _ _ _ _ _ (hw.mono (bAl _ _)) HK.o).mono ?_;rintro e w1⟨ix,hix,rfl,hsh,rfl⟩;have HSh:=hid hsh;clear hsh;obtain⟨b,off,rfl,hb,hr⟩:=hw.rows (by rintro rfl;simp at hix);obtain⟨fa,fcap,hs⟩:=hr ix hix;have hcl:=hs.list;have hixI:(ix:Int)<(ss.length:Int):=by omega
  have hix0:decide ((ix:Int)<0)=false:=by simp
  have hneq:((ss[ix].fs.length:Int) != (o.vs.length:Int))=true:=by have h1:=HL.o;have h2:=HSh.o;rw[h2]at h1;rw[bne_iff_ne];omega
  have hbw:=hb;clear hr hs;go_wp2_with fail
  go_quiet (fail)
  go_wp2_with fail
  go_ret2
  exact⟨_,rfl,below_drewN (zw _ _ _) _⟩
 ·have HK:Hid (zJ ss o.kd=false):=by simpa[Hid] using hk
  clear hc hk;go_enter Tryz.func113,Tryz.ntmps113;go_wp2_with fail
  refine(zeA _ _ _ _ _ (hw.mono (bAl _ _)) HK.o).mono ?_;rintro e w1⟨rfl,rfl⟩;go_wp2_with fail
  go_quiet (fail)
  go_wp2_with fail
  go_ret2
  exact⟨_,rfl,below_drewN (zw _ _ _) _⟩
end Go.Proofs.YtbfgkhgmnfghgaaGreat
namespace Go.Proofs.YtbfgkhgmnfghgaaGreat
open Go.ChangeShapes Go.WideShapes Go.ChangeAt Go.RowKit
theorem Tryz.zlW:Tryz.prog.cellsOf 106=2:=by kernel_rfl
section
variable {H:Type} {enc:TypeId × Value->H} {w:World} {base:Nat} {spare:Nat->Bool} {held:Bool}
theorem zqj {fuel:Nat}{cs:List Value}{x:DataW H × List MemPlace}(h:DataW.trod enc Tryz.prog w base spare held fuel 106 cs=some x) :
 ∃m:Tm,cs=m.cells.toList/\m.Small:=by
 have hlen:cs.length=2:=by
  obtain⟨_,_,_,_,hl,_,_⟩:=DataW.trod_struct Tryz.underlying106 h;rw[hl];exact Tryz.zlW
 match cs,hlen with
 | [c0,c1],_=>
  have hf:=zaf Tryz.underlying106 h;obtain⟨_,_,f0⟩:=hf 0 9 0 c0 rfl Tryz.zT rfl;obtain⟨_,_,f1⟩:=hf 1 9 1 c1 rfl Tryz.zT rfl;obtain⟨x0,e0,_,s0⟩:=DataW.trod_string Tryz.underlying9 f0;obtain⟨x1,e1,_,s1⟩:=DataW.trod_string Tryz.underlying9 f1;simp only[List.cons.injEq,and_true]at e0 e1;subst e0 e1;exact⟨⟨x0,x1⟩,rfl,s0,s1⟩
theorem zoE {fuel:Nat}{cs:List Value}{x:DataW H × List MemPlace}(h:DataW.trod enc Tryz.prog w base spare held fuel 24 cs=some x) :
 ∃a cap ts,cs=[.l a (List.length ts) cap]/\jS w a ts:=by
 obtain⟨a,len,cap,rfl,hm,hr⟩:=za1 Tryz.underlying24 Tryz.zlW (by omega) h
 rcases Nat.eq_zero_or_pos len with h0|hp
 ·subst h0
  exact⟨a,cap,[],rfl,⟨by simp[maxLen],fun i h=>absurd h (by simp),fun h=>absurd rfl h⟩⟩
 ·obtain⟨b,off,rfl,hb,hrow⟩:=hr hp
  have hf:∀i,i<len->∃m:Tm,m.Small/\∀j,j<2->w.cell? (aD b (off+i*2+j))=m.cells[j]?:=by
   intro i hi;obtain⟨es,n,y,hel,hcell,hy⟩:=hrow i hi;obtain⟨m,rfl,hs⟩:=zqj hy;exact⟨m,hs,fun j hj=>by rw[hcell j hj];simp⟩
  obtain⟨ms,hl,hms⟩:=zcd len hf;exact⟨_,cap,ms,by rw[hl],⟨by omega,fun i hi=>(hms i hi).1,fun _=>⟨b,off,rfl,hb,fun i hi=>(hms i hi).2⟩⟩⟩
end
end Go.Proofs.YtbfgkhgmnfghgaaGreat
namespace Go.Proofs.YtbfgkhgmnfghgaaGreat
open Go.ChangeShapes Go.WideShapes Go.ChangeAt Go.RowKit
theorem Tryz.zik:Tryz.prog.cellsOf 110=7:=by kernel_rfl
theorem znA {H:Type}{enc:TypeId × Value->H}{w:World}{base:Nat}{spare:Nat->Bool}{held:Bool}{fuel:Nat}{cs:List Value}{x:DataW H × List MemPlace}
 (h:DataW.trod enc Tryz.prog w base spare held fuel 110 cs=some x) :
 ∃(o:Ob) (a a':OA) (cap cap':Nat),cs=[.s o.kd,.s o.nm,.s o.tm,.l a o.vs.length cap,.bool o.en,.l a' o.hs.length cap',.i o.vr]/\jT w o a a':=by
 have hlen:cs.length=7:=by
  obtain⟨_,_,_,_,hl,_,_⟩:=DataW.trod_struct Tryz.underlying110 h;rw[hl];exact Tryz.zik
 match cs,hlen with
 | [c0,c1,c2,c3,c4,c5,c6],_=>
  have hf:=zaf Tryz.underlying110 h;obtain⟨_,_,f0⟩:=hf 0 9 0 c0 rfl Tryz.zT rfl;obtain⟨_,_,f1⟩:=hf 1 9 1 c1 rfl Tryz.zT rfl;obtain⟨_,_,f2⟩:=hf 2 9 2 c2 rfl Tryz.zT rfl;obtain⟨_,_,f3⟩:=hf 3 108 3 c3 rfl Tryz.zer rfl;obtain⟨_,_,f4⟩:=hf 4 4 4 c4 rfl Tryz.zhB rfl;obtain⟨_,_,f5⟩:=hf 5 108 5 c5 rfl Tryz.zer rfl;obtain⟨_,_,f6⟩:=hf 6 3 6 c6 rfl Tryz.jX rfl;obtain⟨kd,e0,_,s0⟩:=DataW.trod_string Tryz.underlying9 f0;obtain⟨nm,e1,_,s1⟩:=DataW.trod_string Tryz.underlying9 f1;obtain⟨tm,e2,_,s2⟩:=DataW.trod_string Tryz.underlying9 f2;obtain⟨a,cap,vs,e3,hV⟩:=zh2 Tryz.underlying108 Tryz.underlying9 Tryz.zT f3;obtain⟨en,e4,_⟩:=DataW.trod_bool Tryz.underlying4 f4;obtain⟨a',cap',hs,e5,hH⟩:=zh2 Tryz.underlying108 Tryz.underlying9 Tryz.zT f5;obtain⟨vr,e6,_,_⟩:=DataW.trod_int Tryz.underlying3 f6;simp only[List.cons.injEq,and_true]at e0 e1 e2 e3 e4 e5 e6;subst e0 e1 e2 e3 e4 e5 e6;exact⟨⟨kd,nm,tm,vs,en,hs,vr⟩,a,a',cap,cap',rfl,⟨⟨s0,s1,s2⟩,hV,hH⟩⟩
end Go.Proofs.YtbfgkhgmnfghgaaGreat
