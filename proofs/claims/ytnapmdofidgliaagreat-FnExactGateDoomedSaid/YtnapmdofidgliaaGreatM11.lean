import Derived.Test.YtnapmdofidgliaaGreatM09
set_option maxHeartbeats 1000000
namespace Go.Proofs.YtnapmdofidgliaaGreat
open Go.RowKit
theorem qY (a0:Option Addr)(cap0:Nat)(ss:List Shp)(o:Ob)(a a':Option Addr)(cap cap':Nat)(w:World)(hw:yU w a0 ss)(_ho:jK w o a a')(hc:zy ss o=true) :
 Calls Tryz.prog 65 #[.slice a0 ss.length cap0,.agg #[.string o.kd,.string o.nm,.string o.tm,.slice a o.vs.length cap,.bool o.en,.slice a' o.hs.length cap',.int .i64 o.vr]] w fun e w'=>∃fa fcap,e=.returned (.tuple #[.slice fa (shapeOf ss o.kd).fs.length fcap,.bool true])/\zY w fa (shapeOf ss o.kd).fs/\Below w.heap.size w w':=by
 unfold zy at hc;simp only[Bool.and_eq_true,decide_eq_true_eq]at hc;have HK:=hid hc.1;have HL:=hid hc.2;clear hc;have hl:=hw.len;unfold maxLen at hl;go_enter Tryz.func65,Tryz.ntmps65;go_wp2_with fail
 refine(jJ _ _ _ _ _ (hw.mono (bAl _ _)) HK.out).mono ?_;rintro e w1⟨ix,hix,rfl,hsh,rfl⟩;have HSh:=hid hsh;clear hsh;obtain⟨b,off,rfl,hb,hr⟩:=hw.rows (by rintro rfl;simp at hix);obtain⟨fa,fcap,hs⟩:=hr ix hix;have hcl:=hs.list;have hfl:=hs.zdk;have hixI:(ix:Int)<(ss.length:Int):=by omega
 have hix0:decide ((ix:Int)<0)=false:=by simp
 have hneq:((ss[ix].fs.length:Int) != (o.vs.length:Int))=false:=by have h1:=HL.out;have h2:=HSh.out;rw[h2]at h1;simp[h1]
 have hbw:=hb;clear hr hs;go_wp2_with fail
 go_quiet (fail)
 go_wp2_with fail
 go_ret2
 rw[HSh.out];exact⟨fa,fcap,rfl,hfl,below_drewN (bAl _ _) _⟩
theorem zdg (a0:Option Addr)(cap0:Nat)(ss:List Shp)(o:Ob)(a a':Option Addr)(cap cap':Nat)(w:World)(hw:yU w a0 ss)(_ho:jK w o a a')(hc:zy ss o=false) :
 Calls Tryz.prog 65 #[.slice a0 ss.length cap0,.agg #[.string o.kd,.string o.nm,.string o.tm,.slice a o.vs.length cap,.bool o.en,.slice a' o.hs.length cap',.int .i64 o.vr]] w fun e w'=>∃v,e=.returned (.tuple #[v,.bool false])/\Below w.heap.size w w':=by
 have hl:=hw.len;unfold maxLen at hl
 by_cases hk:zG ss o.kd=true
 ·have HK:=hid hk
  have HL:Hid (¬o.vs.length=(shapeOf ss o.kd).fs.length):=by unfold zy at hc;rw[hk]at hc;simpa[Hid] using hc
  clear hc hk;go_enter Tryz.func65,Tryz.ntmps65;go_wp2_with fail
  refine(jJ _ _ _ _ _ (hw.mono (bAl _ _)) HK.out).mono ?_;rintro e w1⟨ix,hix,rfl,hsh,rfl⟩;have HSh:=hid hsh;clear hsh;obtain⟨b,off,rfl,hb,hr⟩:=hw.rows (by rintro rfl;simp at hix);obtain⟨fa,fcap,hs⟩:=hr ix hix;have hcl:=hs.list;have hixI:(ix:Int)<(ss.length:Int):=by omega
  have hix0:decide ((ix:Int)<0)=false:=by simp
  have hneq:((ss[ix].fs.length:Int) != (o.vs.length:Int))=true:=by have h1:=HL.out;have h2:=HSh.out;rw[h2]at h1;rw[bne_iff_ne];omega
  have hbw:=hb;clear hr hs;go_wp2_with fail
  go_quiet (fail)
  go_wp2_with fail
  go_ret2
  exact⟨_,rfl,below_drewN (zw _ _ _) _⟩
 ·have HK:Hid (zG ss o.kd=false):=by simpa[Hid] using hk
  clear hc hk;go_enter Tryz.func65,Tryz.ntmps65;go_wp2_with fail
  refine(zd2 _ _ _ _ _ (hw.mono (bAl _ _)) HK.out).mono ?_;rintro e w1⟨rfl,rfl⟩;go_wp2_with fail
  go_quiet (fail)
  go_wp2_with fail
  go_ret2
  exact⟨_,rfl,below_drewN (zw _ _ _) _⟩
end Go.Proofs.YtnapmdofidgliaaGreat
namespace Go.Proofs.YtnapmdofidgliaaGreat
open Go.ChangeShapes Go.WideShapes Go.ChangeAt Go.RowKit
theorem Tryz.zlv:Tryz.prog.cellsOf 104=2:=by kernel_rfl
section
variable {H:Type} {enc:TypeId × Value->H} {w:World} {base:Nat} {spare:Nat->Bool} {held:Bool}
theorem zp2 {fuel:Nat}{cs:List Value}{x:DataW H × List MemPlace}(h:DataW.trod enc Tryz.prog w base spare held fuel 104 cs=some x) :
 ∃m:Tm,cs=m.cells.toList/\m.Small:=by
 have hlen:cs.length=2:=by
  obtain⟨_,_,_,_,hl,_,_⟩:=DataW.trod_struct Tryz.underlying104 h;rw[hl];exact Tryz.zlv
 match cs,hlen with
 | [c0,c1],_=>
  have hf:=zak Tryz.underlying104 h;obtain⟨_,_,f0⟩:=hf 0 9 0 c0 rfl Tryz.zW rfl;obtain⟨_,_,f1⟩:=hf 1 9 1 c1 rfl Tryz.zW rfl;obtain⟨x0,e0,_,s0⟩:=DataW.trod_string Tryz.underlying9 f0;obtain⟨x1,e1,_,s1⟩:=DataW.trod_string Tryz.underlying9 f1;simp only[List.cons.injEq,and_true]at e0 e1;subst e0 e1;exact⟨⟨x0,x1⟩,rfl,s0,s1⟩
theorem zoj {fuel:Nat}{cs:List Value}{x:DataW H × List MemPlace}(h:DataW.trod enc Tryz.prog w base spare held fuel 24 cs=some x) :
 ∃a cap ts,cs=[.slice a (List.length ts) cap]/\jX w a ts:=by
 obtain⟨a,len,cap,rfl,hm,hr⟩:=za0 Tryz.underlying24 Tryz.zlv (by omega) h
 rcases Nat.eq_zero_or_pos len with h0|hp
 ·subst h0
  exact⟨a,cap,[],rfl,⟨by simp[maxLen],fun i h=>absurd h (by simp),fun h=>absurd rfl h⟩⟩
 ·obtain⟨b,off,rfl,hb,hrow⟩:=hr hp
  have hf:∀i,i<len->∃m:Tm,m.Small/\∀j,j<2->w.cell? ⟨b,off+i*2+j,none⟩=m.cells[j]?:=by
   intro i hi;obtain⟨es,n,y,hel,hcell,hy⟩:=hrow i hi;obtain⟨m,rfl,hs⟩:=zp2 hy;exact⟨m,hs,fun j hj=>by rw[hcell j hj];simp⟩
  obtain⟨ms,hl,hms⟩:=zcg len hf;exact⟨_,cap,ms,by rw[hl],⟨by omega,fun i hi=>(hms i hi).1,fun _=>⟨b,off,rfl,hb,fun i hi=>(hms i hi).2⟩⟩⟩
end
end Go.Proofs.YtnapmdofidgliaaGreat
namespace Go.Proofs.YtnapmdofidgliaaGreat
open Go.ChangeShapes Go.WideShapes Go.ChangeAt Go.RowKit
theorem Tryz.zik:Tryz.prog.cellsOf 108=7:=by kernel_rfl
theorem zmX {H:Type}{enc:TypeId × Value->H}{w:World}{base:Nat}{spare:Nat->Bool}{held:Bool}{fuel:Nat}{cs:List Value}{x:DataW H × List MemPlace}
 (h:DataW.trod enc Tryz.prog w base spare held fuel 108 cs=some x) :
 ∃(o:Ob) (a a':Option Addr) (cap cap':Nat),cs=[.string o.kd,.string o.nm,.string o.tm,.slice a o.vs.length cap,.bool o.en,.slice a' o.hs.length cap',.int .i64 o.vr]/\jK w o a a':=by
 have hlen:cs.length=7:=by
  obtain⟨_,_,_,_,hl,_,_⟩:=DataW.trod_struct Tryz.underlying108 h;rw[hl];exact Tryz.zik
 match cs,hlen with
 | [c0,c1,c2,c3,c4,c5,c6],_=>
  have hf:=zak Tryz.underlying108 h;obtain⟨_,_,f0⟩:=hf 0 9 0 c0 rfl Tryz.zW rfl;obtain⟨_,_,f1⟩:=hf 1 9 1 c1 rfl Tryz.zW rfl;obtain⟨_,_,f2⟩:=hf 2 9 2 c2 rfl Tryz.zW rfl;obtain⟨_,_,f3⟩:=hf 3 106 3 c3 rfl Tryz.zek rfl;obtain⟨_,_,f4⟩:=hf 4 4 4 c4 rfl Tryz.zhJ rfl;obtain⟨_,_,f5⟩:=hf 5 106 5 c5 rfl Tryz.zek rfl;obtain⟨_,_,f6⟩:=hf 6 3 6 c6 rfl Tryz.j3 rfl;obtain⟨kd,e0,_,s0⟩:=DataW.trod_string Tryz.underlying9 f0;obtain⟨nm,e1,_,s1⟩:=DataW.trod_string Tryz.underlying9 f1;obtain⟨tm,e2,_,s2⟩:=DataW.trod_string Tryz.underlying9 f2;obtain⟨a,cap,vs,e3,hV⟩:=zhz Tryz.underlying106 Tryz.underlying9 Tryz.zW f3;obtain⟨en,e4,_⟩:=DataW.trod_bool Tryz.underlying4 f4;obtain⟨a',cap',hs,e5,hH⟩:=zhz Tryz.underlying106 Tryz.underlying9 Tryz.zW f5;obtain⟨vr,e6,_,_⟩:=DataW.trod_int Tryz.underlying3 f6;simp only[List.cons.injEq,and_true]at e0 e1 e2 e3 e4 e5 e6;subst e0 e1 e2 e3 e4 e5 e6;exact⟨⟨kd,nm,tm,vs,en,hs,vr⟩,a,a',cap,cap',rfl,⟨⟨s0,s1,s2⟩,hV,hH⟩⟩
end Go.Proofs.YtnapmdofidgliaaGreat
