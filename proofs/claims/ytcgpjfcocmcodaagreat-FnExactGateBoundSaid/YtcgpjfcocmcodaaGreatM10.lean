import Derived.Test.YtcgpjfcocmcodaaGreatM08
import Derived.Test.YtcgpjfcocmcodaaGreatM09
set_option maxHeartbeats 2000000
namespace Go.Proofs.YtcgpjfcocmcodaaGreat
open Go.RowKit
theorem je (a0:OA)(cap0:Nat)(ss:List Shp)(o:Ob)(a a':OA)(cap cap':Nat)(w:World)(hw:yT w a0 ss)(_ho:jU w o a a')(hc:zB ss o=true) :
 Calls Tryz.prog 121 #[.l a0 ss.length cap0,.agg #[.s o.kd,.s o.nm,.s o.tm,.l a o.vs.length cap,.bool o.en,.l a' o.hs.length cap',.i o.vr]] w fun e w'=>∃fa fcap,e=.returned (.tuple #[.l fa (shapeOf ss o.kd).fs.length fcap,.bool true])/\yg w fa (shapeOf ss o.kd).fs/\Bw w w':=by
 unfold zB at hc;simp only[Bool.and_eq_true,decide_eq_true_eq]at hc;have HK:=hid hc.1;have HL:=hid hc.2;clear hc;have hl:=hw.len;unfold maxLen at hl;go_enter Tryz.func121,Tryz.ntmps121;go_wp2_with fail
 refine(jW _ _ _ _ _ (hw.mono (bAl _ _)) HK.o).mono ?_;rintro e w1⟨ix,hix,rfl,hsh,rfl⟩;have HSh:=hid hsh;clear hsh;obtain⟨b,off,rfl,hb,hr⟩:=hw.rows (by rintro rfl;simp at hix);obtain⟨fa,fcap,hs⟩:=hr ix hix;have hcl:=hs.list;have hfl:=hs.zdS;have hixI:(ix:Int)<(ss.length:Int):=by omega
 have hix0:decide ((ix:Int)<0)=false:=by simp
 have hneq:((ss[ix].fs.length:Int) != (o.vs.length:Int))=false:=by have h1:=HL.o;have h2:=HSh.o;rw[h2]at h1;simp[h1]
 have hbw:=hb;clear hr hs;go_wp2_with fail
 go_quiet (fail)
 go_wp2_with fail
 go_ret2
 rw[HSh.o];exact⟨fa,fcap,rfl,hfl,below_drewN (bAl _ _) _⟩
theorem zdh (a0:OA)(cap0:Nat)(ss:List Shp)(o:Ob)(a a':OA)(cap cap':Nat)(w:World)(hw:yT w a0 ss)(_ho:jU w o a a')(hc:zB ss o=false) :
 Calls Tryz.prog 121 #[.l a0 ss.length cap0,.agg #[.s o.kd,.s o.nm,.s o.tm,.l a o.vs.length cap,.bool o.en,.l a' o.hs.length cap',.i o.vr]] w fun e w'=>∃v,e=.returned (.tuple #[v,.bool false])/\Bw w w':=by
 have hl:=hw.len;unfold maxLen at hl
 by_cases hk:zJ ss o.kd=true
 ·have HK:=hid hk
  have HL:Hid (¬o.vs.length=(shapeOf ss o.kd).fs.length):=by unfold zB at hc;rw[hk]at hc;simpa[Hid] using hc
  clear hc hk;go_enter Tryz.func121,Tryz.ntmps121;go_wp2_with fail
  refine(jW _ _ _ _ _ (hw.mono (bAl _ _)) HK.o).mono ?_;rintro e w1⟨ix,hix,rfl,hsh,rfl⟩;have HSh:=hid hsh;clear hsh;obtain⟨b,off,rfl,hb,hr⟩:=hw.rows (by rintro rfl;simp at hix);obtain⟨fa,fcap,hs⟩:=hr ix hix;have hcl:=hs.list;have hixI:(ix:Int)<(ss.length:Int):=by omega
  have hix0:decide ((ix:Int)<0)=false:=by simp
  have hneq:((ss[ix].fs.length:Int) != (o.vs.length:Int))=true:=by have h1:=HL.o;have h2:=HSh.o;rw[h2]at h1;rw[bne_iff_ne];omega
  have hbw:=hb;clear hr hs;go_wp2_with fail
  go_quiet (fail)
  go_wp2_with fail
  go_ret2
  exact⟨_,rfl,below_drewN (zw _ _ _) _⟩
 ·have HK:Hid (zJ ss o.kd=false):=by simpa[Hid] using hk
  clear hc hk;go_enter Tryz.func121,Tryz.ntmps121;go_wp2_with fail
  refine(zeq _ _ _ _ _ (hw.mono (bAl _ _)) HK.o).mono ?_;rintro e w1⟨rfl,rfl⟩;go_wp2_with fail
  go_quiet (fail)
  go_wp2_with fail
  go_ret2
  exact⟨_,rfl,below_drewN (zw _ _ _) _⟩
end Go.Proofs.YtcgpjfcocmcodaaGreat
namespace Go.Proofs.YtcgpjfcocmcodaaGreat
open Go.ChangeShapes Go.WideShapes Go.ChangeAt Go.RowKit
theorem Tryz.zly:Tryz.prog.cellsOf 103=2:=by kernel_rfl
section
variable {H:Type} {enc:TypeId × Value->H} {w:World} {base:Nat} {spare:Nat->Bool} {held:Bool}
theorem zpZ {fuel:Nat}{cs:List Value}{x:DataW H × List MemPlace}(h:DataW.trod enc Tryz.prog w base spare held fuel 103 cs=some x) :
 ∃m:Tm,cs=m.cells.toList/\m.Small:=by
 have hlen:cs.length=2:=by
  obtain⟨_,_,_,_,hl,_,_⟩:=DataW.trod_struct Tryz.underlying103 h;rw[hl];exact Tryz.zly
 match cs,hlen with
 | [c0,c1],_=>
  have hf:=zai Tryz.underlying103 h;obtain⟨_,_,f0⟩:=hf 0 9 0 c0 rfl Tryz.zT rfl;obtain⟨_,_,f1⟩:=hf 1 9 1 c1 rfl Tryz.zT rfl;obtain⟨x0,e0,_,s0⟩:=DataW.trod_string Tryz.underlying9 f0;obtain⟨x1,e1,_,s1⟩:=DataW.trod_string Tryz.underlying9 f1;simp only[List.cons.injEq,and_true]at e0 e1;subst e0 e1;exact⟨⟨x0,x1⟩,rfl,s0,s1⟩
theorem zo3 {fuel:Nat}{cs:List Value}{x:DataW H × List MemPlace}(h:DataW.trod enc Tryz.prog w base spare held fuel 24 cs=some x) :
 ∃a cap ts,cs=[.l a (List.length ts) cap]/\jR w a ts:=by
 obtain⟨a,len,cap,rfl,hm,hr⟩:=zaY Tryz.underlying24 Tryz.zly (by omega) h
 rcases Nat.eq_zero_or_pos len with h0|hp
 ·subst h0
  exact⟨a,cap,[],rfl,⟨by simp[maxLen],fun i h=>absurd h (by simp),fun h=>absurd rfl h⟩⟩
 ·obtain⟨b,off,rfl,hb,hrow⟩:=hr hp
  have hf:∀i,i<len->∃m:Tm,m.Small/\∀j,j<2->w.cell? (aD b (off+i*2+j))=m.cells[j]?:=by
   intro i hi;obtain⟨es,n,y,hel,hcell,hy⟩:=hrow i hi;obtain⟨m,rfl,hs⟩:=zpZ hy;exact⟨m,hs,fun j hj=>by rw[hcell j hj];simp⟩
  obtain⟨ms,hl,hms⟩:=zb6 len hf;exact⟨_,cap,ms,by rw[hl],⟨by omega,fun i hi=>(hms i hi).1,fun _=>⟨b,off,rfl,hb,fun i hi=>(hms i hi).2⟩⟩⟩
end
end Go.Proofs.YtcgpjfcocmcodaaGreat
namespace Go.Proofs.YtcgpjfcocmcodaaGreat
open Go.ChangeShapes Go.WideShapes Go.ChangeAt Go.RowKit
theorem Tryz.zil:Tryz.prog.cellsOf 107=7:=by kernel_rfl
theorem zmE {H:Type}{enc:TypeId × Value->H}{w:World}{base:Nat}{spare:Nat->Bool}{held:Bool}{fuel:Nat}{cs:List Value}{x:DataW H × List MemPlace}
 (h:DataW.trod enc Tryz.prog w base spare held fuel 107 cs=some x) :
 ∃(o:Ob) (a a':OA) (cap cap':Nat),cs=[.s o.kd,.s o.nm,.s o.tm,.l a o.vs.length cap,.bool o.en,.l a' o.hs.length cap',.i o.vr]/\jU w o a a':=by
 have hlen:cs.length=7:=by
  obtain⟨_,_,_,_,hl,_,_⟩:=DataW.trod_struct Tryz.underlying107 h;rw[hl];exact Tryz.zil
 match cs,hlen with
 | [c0,c1,c2,c3,c4,c5,c6],_=>
  have hf:=zai Tryz.underlying107 h;obtain⟨_,_,f0⟩:=hf 0 9 0 c0 rfl Tryz.zT rfl;obtain⟨_,_,f1⟩:=hf 1 9 1 c1 rfl Tryz.zT rfl;obtain⟨_,_,f2⟩:=hf 2 9 2 c2 rfl Tryz.zT rfl;obtain⟨_,_,f3⟩:=hf 3 105 3 c3 rfl Tryz.zeg rfl;obtain⟨_,_,f4⟩:=hf 4 4 4 c4 rfl Tryz.zh0 rfl;obtain⟨_,_,f5⟩:=hf 5 105 5 c5 rfl Tryz.zeg rfl;obtain⟨_,_,f6⟩:=hf 6 3 6 c6 rfl Tryz.jX rfl;obtain⟨kd,e0,_,s0⟩:=DataW.trod_string Tryz.underlying9 f0;obtain⟨nm,e1,_,s1⟩:=DataW.trod_string Tryz.underlying9 f1;obtain⟨tm,e2,_,s2⟩:=DataW.trod_string Tryz.underlying9 f2;obtain⟨a,cap,vs,e3,hV⟩:=zhO Tryz.underlying105 Tryz.underlying9 Tryz.zT f3;obtain⟨en,e4,_⟩:=DataW.trod_bool Tryz.underlying4 f4;obtain⟨a',cap',hs,e5,hH⟩:=zhO Tryz.underlying105 Tryz.underlying9 Tryz.zT f5;obtain⟨vr,e6,_,_⟩:=DataW.trod_int Tryz.underlying3 f6;simp only[List.cons.injEq,and_true]at e0 e1 e2 e3 e4 e5 e6;subst e0 e1 e2 e3 e4 e5 e6;exact⟨⟨kd,nm,tm,vs,en,hs,vr⟩,a,a',cap,cap',rfl,⟨⟨s0,s1,s2⟩,hV,hH⟩⟩
end Go.Proofs.YtcgpjfcocmcodaaGreat
namespace Go.Proofs.YtcgpjfcocmcodaaGreat
open Go.RowKit
theorem zbq (ls ms lo hi:Int)(w:World) :
 Calls Tryz.prog 180 #[.i ls,.i ms,.i lo,.i hi] w fun e w'=>e=.returned (.bool (q9 ls ms lo hi))/\w'=w:=by
 go_enter Tryz.func180,Tryz.ntmps180
 go_wp2
 all_goals
  go_ret;refine⟨ze ?_,rfl⟩;rw[Bool.eq_iff_iff];simp[q9];try omega
theorem zbF (nm:BA)(kd ls ms:Int)(a:OA)(n cap:Nat)(to:BA)(rl:Int)(mu fx:Bool)(df wg:BA)(w:World) :
 Calls Tryz.prog 255 #[.agg #[.s nm,.i kd,.i ls,.i ms,.l a n cap,.s to,.i rl,.bool mu,.bool fx,.s df,.s wg]] w fun e w'=>e=.returned (.bool (yM 1 ls ms n to rl wg))/\Bw w w':=by
 go_enter Tryz.func255,Tryz.ntmps255
 go_wp2
 all_goals
  go_ret;refine⟨ze ?_,bAl _ _⟩
  simp_all [yM]
  try (rw[Bool.eq_iff_iff];simp)
theorem zcG (nm:BA)(kd ls ms:Int)(a:OA)(n cap:Nat)(to:BA)(rl:Int)(mu fx:Bool)(df wg:BA)(w:World) :
 Calls Tryz.prog 258 #[.agg #[.s nm,.i kd,.i ls,.i ms,.l a n cap,.s to,.i rl,.bool mu,.bool fx,.s df,.s wg]] w fun e w'=>e=.returned (.bool (yM 2 ls ms n to rl wg))/\Bw w w':=by
 go_enter Tryz.func258,Tryz.ntmps258
 go_wp2
 all_goals
  go_ret;refine⟨ze ?_,bAl _ _⟩
  simp_all [yM]
  try (rw[Bool.eq_iff_iff];simp)
theorem zcD (nm:BA)(kd ls ms:Int)(a:OA)(n cap:Nat)(to:BA)(rl:Int)(mu fx:Bool)(df wg:BA)(w:World) :
 Calls Tryz.prog 263 #[.agg #[.s nm,.i kd,.i ls,.i ms,.l a n cap,.s to,.i rl,.bool mu,.bool fx,.s df,.s wg]] w fun e w'=>e=.returned (.bool (yM 3 ls ms n to rl wg))/\Bw w w':=by
 go_enter Tryz.func263,Tryz.ntmps263
 go_wp2
 all_goals
  go_ret;refine⟨ze ?_,bAl _ _⟩
  simp_all [yM]
  try (rw[Bool.eq_iff_iff];simp)
theorem zcE (nm:BA)(kd ls ms:Int)(a:OA)(n cap:Nat)(to:BA)(rl:Int)(mu fx:Bool)(df wg:BA)(w:World) :
 Calls Tryz.prog 266 #[.agg #[.s nm,.i kd,.i ls,.i ms,.l a n cap,.s to,.i rl,.bool mu,.bool fx,.s df,.s wg]] w fun e w'=>e=.returned (.bool (yM 4 ls ms n to rl wg))/\Bw w w':=by
 go_enter Tryz.func266,Tryz.ntmps266
 go_wp2
 all_goals
  go_ret;refine⟨ze ?_,bAl _ _⟩
  simp_all [yM]
  try (rw[Bool.eq_iff_iff];simp)
theorem zcn (nm:BA)(ls ms:Int)(a:OA)(cap:Nat)(ws:List BA)(to:BA)(rl:Int)(mu fx:Bool)(df wg:BA)(a0:OA)(cap0:Nat)(ss:List Shp)(w:World)(hwg:wg.size<=maxLen) :
 Calls Tryz.prog 257 #[.agg #[.s nm,.i 1,.i ls,.i ms,.l a ws.length cap,.s to,.i rl,.bool mu,.bool fx,.s df,.s wg],.l a0 ss.length cap0] w fun e w'=>e=.returned (.bool (zW ss ⟨nm,1,ls,ms,ws,to,rl,mu,fx,df,wg⟩))/\Bw w w':=by
 have HF:Hid (zW ss ⟨nm,1,ls,ms,ws,to,rl,mu,fx,df,wg⟩=(q9 ls ms 0 1000000&&(wg.toList.isEmpty||zx wg))):=by simp[zW,Hid]
 by_cases hr:q9 ls ms 0 1000000=true
 ·by_cases he:wg.toList.isEmpty=true
  ·go_enter Tryz.func257,Tryz.ntmps257
   go_wp2_with (go_at_call 180;refine(zbq _ _ _ _ _).mono ?_;rintro e w'⟨rfl,rfl⟩)
   go_ret;exact⟨ze (by rw[HF.o,hr,he];rfl),bAl _ _⟩
  ·have he':wg.toList.isEmpty=false:=by simpa using he
   clear he;go_enter Tryz.func257,Tryz.ntmps257
   go_wp2_with (first|(go_at_call 180;refine(zbq _ _ _ _ _).mono ?_;rintro e w'⟨rfl,rfl⟩)|(go_at_call 40;refine(zH _ _ hwg).mono ?_;rintro e w'⟨rfl,rfl⟩))
   go_ret;exact⟨ze (by rw[HF.o,hr,he'];rfl),bAl _ _⟩
 ·have hr':q9 ls ms 0 1000000=false:=by simpa using hr
  clear hr;go_enter Tryz.func257,Tryz.ntmps257
  go_wp2_with (go_at_call 180;refine(zbq _ _ _ _ _).mono ?_;rintro e w'⟨rfl,rfl⟩)
  go_ret;exact⟨ze (by rw[HF.o,hr'];rfl),bAl _ _⟩
theorem zdv (nm:BA)(ls ms:Int)(a:OA)(cap:Nat)(ws:List BA)(to:BA)(rl:Int)(mu fx:Bool)(df wg:BA)(a0:OA)(cap0:Nat)(ss:List Shp)(w:World) :
 Calls Tryz.prog 265 #[.agg #[.s nm,.i 3,.i ls,.i ms,.l a ws.length cap,.s to,.i rl,.bool mu,.bool fx,.s df,.s wg],.l a0 ss.length cap0] w fun e w'=>e=.returned (.bool (zW ss ⟨nm,3,ls,ms,ws,to,rl,mu,fx,df,wg⟩))/\Bw w w':=by
 have HF:Hid (zW ss ⟨nm,3,ls,ms,ws,to,rl,mu,fx,df,wg⟩=q9 ls ms 1 40):=by simp[zW,Hid]
 go_enter Tryz.func265,Tryz.ntmps265
 go_wp2_with (go_at_call 180;refine(zbq _ _ _ _ _).mono ?_;rintro e w'⟨rfl,rfl⟩)
 go_ret;exact⟨ze HF.o.symm,bAl _ _⟩
theorem zdz (nm:BA)(ls ms:Int)(a:OA)(cap:Nat)(ws:List BA)(to:BA)(rl:Int)(mu fx:Bool)(df wg:BA)(a0:OA)(cap0:Nat)(ss:List Shp)(w:World)(hw:zG w a ws) :
 Calls Tryz.prog 260 #[.agg #[.s nm,.i 2,.i ls,.i ms,.l a ws.length cap,.s to,.i rl,.bool mu,.bool fx,.s df,.s wg],.l a0 ss.length cap0] w fun e w'=>e=.returned (.bool (zW ss ⟨nm,2,ls,ms,ws,to,rl,mu,fx,df,wg⟩))/\Bw w w':=by
 have HF:Hid (zW ss ⟨nm,2,ls,ms,ws,to,rl,mu,fx,df,wg⟩=(decide (1<=ws.length)&&decide (ws.length<=6)&&asc ws)):=by simp[zW,Hid]
 have hl:=hw.len;unfold maxLen at hl
 by_cases h1:0<ws.length
 ·by_cases h6:ws.length<=6
  ·go_enter Tryz.func260,Tryz.ntmps260
   go_wp2_with (go_at_call 234;refine(zjN _ _ _ _ (by exact hw.mono (bAl _ _))).mono ?_;rintro e w'⟨rfl,rfl⟩)
   go_ret;exact⟨ze (by rw[HF.o,decide_eq_true (show 1<=ws.length by omega),decide_eq_true h6];rfl),bAl _ _⟩
  ·go_enter Tryz.func260,Tryz.ntmps260
   go_wp2_with fail
   go_ret;exact⟨ze (by rw[HF.o,decide_eq_true (show 1<=ws.length by omega),decide_eq_false (show ¬ws.length<=6 by omega)];rfl),bAl _ _⟩
 ·go_enter Tryz.func260,Tryz.ntmps260
  go_wp2_with fail
  go_ret;exact⟨ze (by rw[HF.o,decide_eq_false (show ¬1<=ws.length by omega)];rfl),bAl _ _⟩
theorem ze4 (nm:BA)(kd ls ms:Int)(sl:Value)(to:BA)(rl:Int)(mu fx:Bool)(df wg:BA)(s:BA)(w:World)(hs:s.size<=maxLen) :
 Calls Tryz.prog 256 #[.agg #[.s nm,.i kd,.i ls,.i ms,sl,.s to,.i rl,.bool mu,.bool fx,.s df,.s wg],.s s] w
  fun e w'=>e=.returned (.bool (zaF ls ms s))/\Bw w w':=by
 by_cases hd:zak s=true
 ·have HE:Hid (zay s=zgF s):=by unfold zay Hid;rw[hd];rfl
  have HF:Hid (zaF ls ms s=(decide (ls<=zgF s)&&decide (zgF s<=ms))):=by unfold zaF Hid;rw[hd];rfl
  go_enter Tryz.func256,Tryz.ntmps256
  go_wp2_with (go_at_call 149;refine(zdr _ _ hs).mono ?_;rintro e w'⟨rfl,rfl⟩)
  all_goals
   go_ret;refine⟨ze ?_,bAl _ _⟩;rw[HF.o];have:=HE.o;rw[Bool.eq_iff_iff];simp;omega
 ·have hd':zak s=false:=by simpa using hd
  have HF:Hid (zaF ls ms s=false):=by unfold zaF Hid;rw[hd'];rfl
  go_enter Tryz.func256,Tryz.ntmps256
  go_wp2_with (go_at_call 149;refine(zdr _ _ hs).mono ?_;rintro e w'⟨rfl,rfl⟩)
  go_ret;exact⟨ze HF.o.symm,bAl _ _⟩
def zn (lo:Nat)(w:World)(a:OA)(ws:List BA):Prop:=
 (a=none/\ws=[]) \/ ∃g C,a=some (aD g 0)/\lo<=g/\w.heap[g]?=some (.cells C 9)/\∀i (h:i<ws.length),C[i]?=some (.s ws[i])
theorem zn.zdq {lo:Nat}{w:World}{v:Value}{ws:List BA}(h:w.ownsRow lo 9 1 v ws.length (ws.map Value.string)):∃a cap,v=.l a ws.length cap/\zn lo w a ws:=by
 obtain⟨_,⟨rfl,h0⟩|⟨g,cap,cur,rfl,hg,hh,_,_,_,ht⟩⟩:=h
 ·exact⟨none,0,by rw[h0],Or.inl ⟨rfl,List.length_eq_zero_iff.1 h0⟩⟩
 ·refine⟨some (aD g 0),cap,rfl,Or.inr ⟨g,cur,rfl,hg,hh,fun i hi=>?_⟩⟩
  have h1:(cur.toList.take (ws.length*1))[i]?=(ws.map Value.string)[i]?:=by rw[ht]
  rw[List.getElem?_take_of_lt (by omega),List.getElem?_map,List.getElem?_eq_getElem hi]at h1
  simpa using h1
theorem zn.mono {lo:Nat}{w w':World}{a:OA}{ws:List BA}(h:zn lo w a ws)(hb:Bw w w'):zn lo w' a ws:=by
 rcases h with⟨rfl,rfl⟩|⟨g,C,rfl,hg,hh,hc⟩
 ·exact Or.inl ⟨rfl,rfl⟩
 ·exact Or.inr ⟨g,C,rfl,hg,(hb.block g (gES hh).1).trans hh,hc⟩
theorem zn.at {lo:Nat}{w:World}{a:OA}{ws:List BA}(h:zn lo w a ws)(hl:ws.length<=maxLen)(hs:∀s∈ws,s.size<=maxLen):zG w a ws:=by
 refine⟨hl,hs,fun hne=>?_⟩
 rcases h with⟨_,rfl⟩|⟨g,C,rfl,_,hh,hc⟩
 ·exact absurd rfl hne
 ·refine⟨g,0,rfl,(gES hh).1,fun i hi=>?_⟩
  simp only[World.cell?,hh,Nat.zero_add]
  simpa using hc i hi
def zrE (w:World)(b o:Nat)(v0 v1 v2 v3 v4 v5:Value):World:=(((((w.setCell (aD b o) v0).setCell (aD b (o+1)) v1).setCell (aD b (o+2)) v2).setCell (aD b (o+3)) v3).setCell (aD b (o+4)) v4).setCell (aD b (o+5)) v5
def zox (C:AV)(o:Nat)(v0 v1 v2 v3 v4 v5:Value):AV:=(((((C.setIfInBounds o v0).setIfInBounds (o+1) v1).setIfInBounds (o+2) v2).setIfInBounds (o+3) v3).setIfInBounds (o+4) v4).setIfInBounds (o+5) v5
theorem zoy {w:World}{b o:Nat}{C:AV}{t:TypeId}(h:w.heap[b]?=some (.cells C t))(v0 v1 v2 v3 v4 v5:Value):(zrE w b o v0 v1 v2 v3 v4 v5).heap[b]?=some (.cells (zox C o v0 v1 v2 v3 v4 v5) t):=
 zi (zi (zi (zi (zi (zi h v0) v1) v2) v3) v4) v5
theorem zpi {B:Nat}{a w:World}(h:Below B a w){b:Nat}(hb:B<=b)(o:Nat)(v0 v1 v2 v3 v4 v5:Value):Below B a (zrE w b o v0 v1 v2 v3 v4 v5):=
 (((((h.setCell hb v0).setCell hb v1).setCell hb v2).setCell hb v3).setCell hb v4).setCell hb v5
theorem zqj (C:AV)(o:Nat)(v0 v1 v2 v3 v4 v5:Value):(zox C o v0 v1 v2 v3 v4 v5).size=C.size:=by simp[zox]
theorem zq7 (C:AV)(o i:Nat)(v0 v1 v2 v3 v4 v5:Value)(h:i<o \/ o+6<=i):(zox C o v0 v1 v2 v3 v4 v5)[i]?=C[i]?:=by
 unfold zox
 iterate 6 rw[Array.getElem?_setIfInBounds,if_neg (by omega)]
theorem zri (C:AV)(o j:Nat)(v0 v1 v2 v3 v4 v5:Value)(hj:j<6)(ho:o+6<=C.size):(zox C o v0 v1 v2 v3 v4 v5)[o+j]?=(#[v0,v1,v2,v3,v4,v5]:AV)[j]?:=by
 have hc:j=0 \/ j=1 \/ j=2 \/ j=3 \/ j=4 \/ j=5:=by omega
 unfold zox
 rcases hc with h|h|h|h|h|h <;> subst h <;> simp[Array.getElem?_setIfInBounds] <;> omega
theorem jd.put {lo:Nat}{w:World}{bo:Nat}{ms:List Mnd}{k:Nat}(h:jd lo w bo ms k)(hk:k<ms.length) :
 jd lo (zrE w bo (k*6) (.s ms[k].kd) (.s ms[k].fd) (.s ms[k].wh) (.s ms[k].wi) (.s ms[k].pt) (.s ms[k].fr)) bo ms (k+1):=by
 obtain⟨C,hC,hsz,hr⟩:=h.rows;refine⟨h.low,_,zoy hC _ _ _ _ _ _,by rw[zqj];exact hsz,fun i hi hik j hj=>?_⟩
 rcases Nat.lt_or_ge i k with hlt|hge
 ·rw[zq7 _ _ _ _ _ _ _ _ _ (by omega)]
  exact hr i hi hlt j hj
 ·have e:i=k:=by omega
  subst e;rw[zri _ _ _ _ _ _ _ _ _ hj (by omega)]
  rfl
theorem zjY (m:Mnd)(w:World) :
 Calls Tryz.prog 80 #[.agg m.cells] w fun e w'=>e=.returned (.agg m.cells)/\Bw w w':=by
 unfold Mnd.cells;go_enter Tryz.func80,Tryz.ntmps80;go_wp2_with fail
 refine bodyPost_ret (v:=.agg #[.s m.kd,.s m.fd,.s m.wh,.s m.wi,.s m.pt,.s m.fr]) (by simp[results,Tryz.results80,go_sem]) rfl ⟨rfl,?_⟩;exact(((bAl _ _).alloc (by simp) _).alloc (by simp;omega) _)
def zpD:AV:=#[.s ByteArray.empty,.s ByteArray.empty,.s ByteArray.empty,.s ByteArray.empty,.s ByteArray.empty,.s ByteArray.empty]
def znh (n:Nat):AV:=madeCells zpD (n*6)
theorem ziR (a:OA)(cap:Nat)(ms:List Mnd)(w:World)(hw:qL w a ms)(hl:ms.length<=1048576) :
 Calls Tryz.prog 31 #[.l a ms.length cap] w fun e w'=>e=.returned (.l (some (aD w.heap.size 0)) ms.length ms.length)/\jd w.heap.size w' w.heap.size ms ms.length/\Bw w w':=by
 have hmk:∀w:World,(Instr.makeSlice 44 (.i ms.length) (.i ms.length)).run Tryz.prog w=.ok (.l (some (aD w.heap.size 0)) ms.length ms.length) (w.alloc (.cells (znh ms.length) 136)):=
  fun w=>jE (P:=Tryz.prog) 44 136 (.agg zpD) 6 96 Tryz.underlying44 (by kernel_rfl) ms.length (by omega) (by omega) w
 go_enter Tryz.func31,Tryz.ntmps31;go_wp2_with fail
 clear hmk
 go_loopw [4] (fun i wr=>∃k:Nat,k<=ms.length/\i=.i k/\jd w.heap.size wr w.heap.size ms k/\Bw w wr) (fun i _=>ms.length-(intOf i).toNat)
 case atStart=>exact⟨0,Nat.zero_le _,rfl,⟨Nat.le_refl _,znh ms.length,(MapKept.heap_alloc w _).1,size_madeCells _ _,fun i _ h=>absurd h (by omega)⟩,bAl _ _⟩
 case round=>
  obtain⟨k,hk,rfl,hown,hB⟩:=hrel
  by_cases hlt:k<ms.length
  ·obtain⟨b,off,rfl,hb,c0,c1,c2,c3,c4,c5⟩:=hw.load hB k hlt
   have hltI:(k:Int)<(ms.length:Int):=by omega
   clear hw;go_wp2_with fail
   refine(zjY ms[k] _).mono ?_;rintro e w1⟨rfl,hb1⟩;have hB1:=hB.trans (hb1.mono hB.size);have hown1:=hown.later hb1
   have hbo:w.heap.size<wr.heap.size:=by
    obtain⟨C',hC',_⟩:=hown.rows;exact(gES hC').1
   obtain⟨C,hC,hsz,_⟩:=hown1.rows;have hfz:∀o,w1.frozen? (aD w.heap.size o)=false:=fun o=>zh hC
   have hex:∀o,o<ms.length*6->∃v,w1.cell? (aD w.heap.size o)=some v:=fun o ho=>⟨C[o]'(by omega),by rw[cell_of_block hC];exact Array.getElem?_eq_getElem (by omega)⟩
   obtain⟨v0,hv0⟩:=hex (k*6) (by omega);obtain⟨v1,hv1⟩:=hex (k*6+1) (by omega);obtain⟨v2,hv2⟩:=hex (k*6+2) (by omega);obtain⟨v3,hv3⟩:=hex (k*6+3) (by omega);obtain⟨v4,hv4⟩:=hex (k*6+4) (by omega);obtain⟨v5,hv5⟩:=hex (k*6+5) (by omega);have HP:Hid (jd w.heap.size w1 w.heap.size ms k):=hown1;clear hex hC hsz c0 c1 c2 c3 c4 c5 hown hown1;unfold Mnd.cells;go_wp2_with fail
   exact⟨⟨k+1,by omega,by go_num,HP.o.put hlt,zpi hB1 (Nat.le_refl _) _ _ _ _ _ _ _⟩,by simp[intOf];omega⟩
  ·have HF:Hid (jd w.heap.size wr w.heap.size ms ms.length):=by
    have e:k=ms.length:=by omega
    subst e;exact hown
   clear hw hown;go_wp2_with fail
   go_ret;exact⟨rfl,HF.o,hB⟩
theorem zgd (a:OA)(cap:Nat)(vs:List Int)(left:Int)(w:World)(hl:vs.length<=maxLen)(h0:0<=left)(h1:left<=1048576) :
 Calls Tryz.prog 154 #[.l a vs.length cap,.i left] w fun e w'=>e=.returned (.i (zL vs.length left))/\w'=w:=by
 unfold maxLen at hl
 by_cases hf:(vs.length:Int)<=left
 ·have HF:=hid (zM hf)
  go_enter Tryz.func154,Tryz.ntmps154;go_wp2_with fail
  go_ret;exact⟨zo HF.o.symm,rfl⟩
 ·have HF:=hid (zC hf)
  go_enter Tryz.func154,Tryz.ntmps154;go_wp2_with fail
  go_ret;exact⟨zo HF.o.symm,rfl⟩
theorem zeU (r:Rl)(a:OA)(cap:Nat)(left:Int)(w:World)(hm:r.Small)(hl:r.vs.length<=maxLen)(h0:0<=left)(h1:left<=1048576) :
 Calls Tryz.prog 115 #[.agg (r.cells a cap),.i left] w fun e w'=>e=.returned (.i (zL r.sz left))/\Bw w w':=by
 have k1:=hm.kd;have k2:=hm.tm;have k3:=hm.px;have k4:=hl;unfold maxLen at k1 k2 k3 k4;unfold Rl.cells;have hB:∀ob,Bw w (w.alloc ob):=fun ob=>bAl _ _
 by_cases hv:(r.vs.length:Int)<=left
 rotate_left
 ·have HF:Hid (zL r.sz left=-1):=zC (by unfold Rl.sz;omega)
  go_enter Tryz.func115,Tryz.ntmps115;go_wp2_with fail
  refine(zgd _ _ _ _ _ hl h0 h1).mono ?_;rintro e w1⟨rfl,rfl⟩;rw[zC (by omega)];go_wp2_with fail
  go_ret;exact⟨zo HF.o.symm,hB _⟩
 by_cases hf:(r.sz:Int)<=left
 ·have HF:Hid (zL r.sz left=left-r.vs.length-r.kd.size-r.tm.size-r.px.size):=by
   unfold Hid;rw[zM hf];unfold Rl.sz;omega
  unfold Rl.sz at hf;go_enter Tryz.func115,Tryz.ntmps115;go_wp2_with fail
  refine(zgd _ _ _ _ _ hl h0 h1).mono ?_;rintro e w1⟨rfl,rfl⟩;rw[zM hv];go_wp2_with fail
  go_ret;exact⟨zo HF.o.symm,hB _⟩
 ·have HF:Hid (zL r.sz left=-1):=zC hf
  have HN:Hid (¬((r.vs.length+r.kd.size+r.tm.size+r.px.size:Nat):Int)<=left):=hf;clear hf;go_enter Tryz.func115,Tryz.ntmps115;go_wp2_with fail
  refine(zgd _ _ _ _ _ hl h0 h1).mono ?_;rintro e w1⟨rfl,rfl⟩;rw[zM hv];go_wp2_with fail
  all_goals go_ret
  all_goals first|exact⟨zo HF.o.symm,hB _⟩|(exfalso;have:=HN.o;simp at *;omega)
theorem zoE (a:OA)(cap:Nat)(vs:List Int)(w:World)(hw:qm w a vs)(hl:vs.length<=1048576) :
 Calls Tryz.prog 164 #[.l a vs.length cap] w fun e w'=>e=.returned (.l (some (aD w.heap.size 0)) vs.length vs.length)/\w'=w.alloc (.cells (zbe vs) 3):=by
 have hmk:∀w:World,(Instr.makeSlice 109 (.i vs.length) (.i vs.length)).run Tryz.prog w=.ok (.l (some (aD w.heap.size 0)) vs.length vs.length) (w.alloc (.cells (intCells vs 0) 3)):=by
  intro w;have h:=run_make_row' (P:=Tryz.prog) 109 3 (.i 0) 8 Tryz.underlying109 (by kernel_rfl) rfl .i64 .i64 vs.length (by omega) (by omega) w;rw[zkI]at h;exact h
 go_enter Tryz.func164,Tryz.ntmps164;go_wp2_with fail
 clear hmk
 go_loopw [4] (fun i wr=>∃k:Nat,k<=vs.length/\i=.i k/\wr=w.alloc (.cells (intCells vs k) 3)) (fun i _=>vs.length-(intOf i).toNat)
 case atStart=>exact⟨0,Nat.zero_le _,rfl,rfl⟩
 case round=>
  obtain⟨k,hk,rfl,rfl⟩:=hrel
  by_cases hlt:k<vs.length
  ·obtain⟨b,off,rfl,hb,hck⟩:=hw.load (bRf _ _) k hlt
   clear hw;have hold:=zmJ vs k hlt;have HS:=hid (zmz vs k hlt);have hltI:(k:Int)<(vs.length:Int):=by omega
   go_wp2
   go_roundw
   case rel=>exact⟨k+1,by omega,by go_num,by rw[HS.o]⟩
   case measure=>simp[intOf];omega
  ·have HA:Hid (intCells vs k=zbe vs):=zl6 vs k (by omega)
   clear hw
   go_wp2
   go_ret;exact⟨rfl,by rw[HA.o]⟩
theorem zow (a a':OA)(cap cap':Nat)(vs:List Int)(w:World)(hw:qm w a vs)(hw':qm w a' vs) :
 Calls Tryz.prog 188 #[.l a vs.length cap,.l a' vs.length cap'] w fun e w'=>e=.returned (.bool true)/\Bw w w':=by
 have hl:=hw.len;unfold maxLen at hl;have hnn:((vs.length:Int) != vs.length)=false:=by simp
 go_enter Tryz.func188,Tryz.ntmps188;go_wp2_with fail
 go_loopw [5] (fun i wr=>∃k:Nat,k<=vs.length/\i=.i k/\Bw w wr) (fun i _=>vs.length-(intOf i).toNat)
 case atStart=>exact⟨0,Nat.zero_le _,rfl,bRf _ _⟩
 case round=>
  obtain⟨k,hk,rfl,hB⟩:=hrel
  by_cases hlt:k<vs.length
  ·obtain⟨b,off,rfl,hb,c0⟩:=hw.load hB k hlt
   obtain⟨b',off',rfl,hb',d0⟩:=hw'.load hB k hlt;have hltI:(k:Int)<(vs.length:Int):=by omega
   have hne:(vs[k] != vs[k])=false:=by simp
   clear hw hw';go_wp2_with fail
   first
    | exact⟨⟨k+1,by omega,by go_num,hB⟩,by simp[intOf];omega⟩
    | (go_quiet (fail);go_wp2_with fail;exact⟨⟨k+1,by omega,by go_num,below_drewN hB _⟩,by simp[intOf];omega⟩)
  ·clear hw hw'
   go_wp2_with fail
   go_ret;exact⟨rfl,hB⟩
theorem zrM (w:World)(o1 o2 o3 o4:Obj):((((w.alloc o1).alloc o2).alloc o3).alloc o4).heap[w.heap.size+1+1+1]?=some o4:=by
 have h:=MapKept.heap_alloc (((w.alloc o1).alloc o2).alloc o3) o4
 simpa using h.1
theorem zrj (w:World)(o1 o2 o3 o4:Obj):Bw w ((((w.alloc o1).alloc o2).alloc o3).alloc o4):=
 (((bAl _ _).alloc (by simp) _).alloc (by simp;omega) _).alloc (by simp;omega) _
theorem zkc (r:Rl)(a:OA)(cap:Nat)(w:World)(hw:qm w a r.vs)(hl:r.vs.length<=1048576) :
 Calls Tryz.prog 130 #[.agg (r.cells a cap)] w
  fun e w'=>∃bk,e=.returned (.agg (r.cells (some (aD bk 0)) r.vs.length))/\w.heap.size<=bk/\bk<w'.heap.size/\w'.heap[bk]?=some (.cells (zbe r.vs) 3)/\Bw w w':=by
 unfold Rl.cells;go_enter Tryz.func130,Tryz.ntmps130
 go_wp2_with (go_at_call 164;refine(zoE _ _ _ _ (by exact hw.mono (((bAl _ _).alloc (by simp) _).alloc (by simp;omega) _)) hl).mono ?_;rintro e w'⟨rfl,rfl⟩)
 refine bodyPost_ret (v:=.agg #[.l (some (aD (w.heap.size+1+1+1) 0)) r.vs.length r.vs.length,.s r.kd,.s r.tm,.s r.px]) (by simp[results,Tryz.results130,go_sem]) rfl ⟨w.heap.size+1+1+1,rfl,by omega,by simp,zrM _ _ _ _ _,zrj _ _ _ _ _⟩
theorem zkz (r:Rl)(a a':OA)(cap cap':Nat)(w:World)(hw:qm w a r.vs)(hw':qm w a' r.vs) :
 Calls Tryz.prog 151 #[.agg (r.cells a cap),.agg (r.cells a' cap')] w fun e w'=>e=.returned (.bool true)/\Bw w w':=by
 unfold Rl.cells;go_enter Tryz.func151,Tryz.ntmps151;go_wp2_with fail
 refine(zow _ _ _ _ _ _ (hw.mono (zw _ _ _)) (hw'.mono (zw _ _ _))).mono ?_;rintro e w1⟨rfl,hb1⟩;have hX1:=za (za (zl w _ _) (by simp) (bAl _ _)) (by simp;omega) hb1;have hY1:=za (zq2 w _ _ _) (by simp) hb1;have hz:w.heap.size+1<w1.heap.size:=by have:=hb1.size;simp at this;omega
 have hB1:=(zw w _ _).trans (hb1.mono (by simp;omega));clear hb1;go_wp2_with fail
 go_ret;exact⟨rfl,hB1⟩
end Go.Proofs.YtcgpjfcocmcodaaGreat
