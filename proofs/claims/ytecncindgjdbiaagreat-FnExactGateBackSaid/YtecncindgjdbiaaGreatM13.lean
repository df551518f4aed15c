import Derived.Test.YtecncindgjdbiaaGreatM11
import Derived.Test.YtecncindgjdbiaaGreatM10
set_option maxHeartbeats 800000
namespace Go.Proofs.YtecncindgjdbiaaGreat
open Go.RowKit
theorem zbm (ls ms lo hi:Int)(w:World) :
 Calls Tryz.prog 176 #[.i ls,.i ms,.i lo,.i hi] w fun e w'=>e=.returned (.bool (jl ls ms lo hi))/\w'=w:=by
 go_enter Tryz.func176,Tryz.ntmps176
 go_wp2
 all_goals
  go_ret;refine⟨ze ?_,rfl⟩;rw[Bool.eq_iff_iff];simp[jl];try omega
theorem zbG (nm:BA)(kd ls ms:Int)(a:OA)(n cap:Nat)(to:BA)(rl:Int)(mu fx:Bool)(df wg:BA)(w:World) :
 Calls Tryz.prog 256 #[.agg #[.s nm,.i kd,.i ls,.i ms,.l a n cap,.s to,.i rl,.bool mu,.bool fx,.s df,.s wg]] w fun e w'=>e=.returned (.bool (yK 1 ls ms n to rl wg))/\Bw w w':=by
 go_enter Tryz.func256,Tryz.ntmps256
 go_wp2
 all_goals
  go_ret;refine⟨ze ?_,bAl _ _⟩
  simp_all [yK]
  try (rw[Bool.eq_iff_iff];simp)
theorem zcz (nm:BA)(kd ls ms:Int)(a:OA)(n cap:Nat)(to:BA)(rl:Int)(mu fx:Bool)(df wg:BA)(w:World) :
 Calls Tryz.prog 259 #[.agg #[.s nm,.i kd,.i ls,.i ms,.l a n cap,.s to,.i rl,.bool mu,.bool fx,.s df,.s wg]] w fun e w'=>e=.returned (.bool (yK 2 ls ms n to rl wg))/\Bw w w':=by
 go_enter Tryz.func259,Tryz.ntmps259
 go_wp2
 all_goals
  go_ret;refine⟨ze ?_,bAl _ _⟩
  simp_all [yK]
  try (rw[Bool.eq_iff_iff];simp)
theorem zcv (nm:BA)(kd ls ms:Int)(a:OA)(n cap:Nat)(to:BA)(rl:Int)(mu fx:Bool)(df wg:BA)(w:World) :
 Calls Tryz.prog 264 #[.agg #[.s nm,.i kd,.i ls,.i ms,.l a n cap,.s to,.i rl,.bool mu,.bool fx,.s df,.s wg]] w fun e w'=>e=.returned (.bool (yK 3 ls ms n to rl wg))/\Bw w w':=by
 go_enter Tryz.func264,Tryz.ntmps264
 go_wp2
 all_goals
  go_ret;refine⟨ze ?_,bAl _ _⟩
  simp_all [yK]
  try (rw[Bool.eq_iff_iff];simp)
theorem zcu (nm:BA)(kd ls ms:Int)(a:OA)(n cap:Nat)(to:BA)(rl:Int)(mu fx:Bool)(df wg:BA)(w:World) :
 Calls Tryz.prog 267 #[.agg #[.s nm,.i kd,.i ls,.i ms,.l a n cap,.s to,.i rl,.bool mu,.bool fx,.s df,.s wg]] w fun e w'=>e=.returned (.bool (yK 4 ls ms n to rl wg))/\Bw w w':=by
 go_enter Tryz.func267,Tryz.ntmps267
 go_wp2
 all_goals
  go_ret;refine⟨ze ?_,bAl _ _⟩
  simp_all [yK]
  try (rw[Bool.eq_iff_iff];simp)
theorem zcl (nm:BA)(ls ms:Int)(a:OA)(cap:Nat)(ws:List BA)(to:BA)(rl:Int)(mu fx:Bool)(df wg:BA)(a0:OA)(cap0:Nat)(ss:List Shp)(w:World)(hwg:wg.size<=maxLen) :
 Calls Tryz.prog 258 #[.agg #[.s nm,.i 1,.i ls,.i ms,.l a ws.length cap,.s to,.i rl,.bool mu,.bool fx,.s df,.s wg],.l a0 ss.length cap0] w fun e w'=>e=.returned (.bool (zW ss ⟨nm,1,ls,ms,ws,to,rl,mu,fx,df,wg⟩))/\Bw w w':=by
 have HF:Hid (zW ss ⟨nm,1,ls,ms,ws,to,rl,mu,fx,df,wg⟩=(jl ls ms 0 1000000&&(wg.toList.isEmpty||zy wg))):=by simp[zW,Hid]
 by_cases hr:jl ls ms 0 1000000=true
 ·by_cases he:wg.toList.isEmpty=true
  ·go_enter Tryz.func258,Tryz.ntmps258
   go_wp2_with (go_at_call 176;refine(zbm _ _ _ _ _).mono ?_;rintro e w'⟨rfl,rfl⟩)
   go_ret;exact⟨ze (by rw[HF.o,hr,he];rfl),bAl _ _⟩
  ·have he':wg.toList.isEmpty=false:=by simpa using he
   clear he;go_enter Tryz.func258,Tryz.ntmps258
   go_wp2_with (first|(go_at_call 176;refine(zbm _ _ _ _ _).mono ?_;rintro e w'⟨rfl,rfl⟩)|(go_at_call 161;refine(zH _ _ hwg).mono ?_;rintro e w'⟨rfl,rfl⟩))
   go_ret;exact⟨ze (by rw[HF.o,hr,he'];rfl),bAl _ _⟩
 ·have hr':jl ls ms 0 1000000=false:=by simpa using hr
  clear hr;go_enter Tryz.func258,Tryz.ntmps258
  go_wp2_with (go_at_call 176;refine(zbm _ _ _ _ _).mono ?_;rintro e w'⟨rfl,rfl⟩)
  go_ret;exact⟨ze (by rw[HF.o,hr'];rfl),bAl _ _⟩
theorem zdv (nm:BA)(ls ms:Int)(a:OA)(cap:Nat)(ws:List BA)(to:BA)(rl:Int)(mu fx:Bool)(df wg:BA)(a0:OA)(cap0:Nat)(ss:List Shp)(w:World) :
 Calls Tryz.prog 266 #[.agg #[.s nm,.i 3,.i ls,.i ms,.l a ws.length cap,.s to,.i rl,.bool mu,.bool fx,.s df,.s wg],.l a0 ss.length cap0] w fun e w'=>e=.returned (.bool (zW ss ⟨nm,3,ls,ms,ws,to,rl,mu,fx,df,wg⟩))/\Bw w w':=by
 have HF:Hid (zW ss ⟨nm,3,ls,ms,ws,to,rl,mu,fx,df,wg⟩=jl ls ms 1 40):=by simp[zW,Hid]
 go_enter Tryz.func266,Tryz.ntmps266
 go_wp2_with (go_at_call 176;refine(zbm _ _ _ _ _).mono ?_;rintro e w'⟨rfl,rfl⟩)
 go_ret;exact⟨ze HF.o.symm,bAl _ _⟩
theorem zdi (nm:BA)(ls ms:Int)(a:OA)(cap:Nat)(ws:List BA)(to:BA)(rl:Int)(mu fx:Bool)(df wg:BA)(a0:OA)(cap0:Nat)(ss:List Shp)(w:World)(hw:zF w a ws) :
 Calls Tryz.prog 261 #[.agg #[.s nm,.i 2,.i ls,.i ms,.l a ws.length cap,.s to,.i rl,.bool mu,.bool fx,.s df,.s wg],.l a0 ss.length cap0] w fun e w'=>e=.returned (.bool (zW ss ⟨nm,2,ls,ms,ws,to,rl,mu,fx,df,wg⟩))/\Bw w w':=by
 have HF:Hid (zW ss ⟨nm,2,ls,ms,ws,to,rl,mu,fx,df,wg⟩=(decide (1<=ws.length)&&decide (ws.length<=6)&&asc ws)):=by simp[zW,Hid]
 have hl:=hw.len;unfold maxLen at hl
 by_cases h1:0<ws.length
 ·by_cases h6:ws.length<=6
  ·go_enter Tryz.func261,Tryz.ntmps261
   go_wp2_with (go_at_call 234;refine(zjN _ _ _ _ (by exact hw.mono (bAl _ _))).mono ?_;rintro e w'⟨rfl,rfl⟩)
   go_ret;exact⟨ze (by rw[HF.o,decide_eq_true (show 1<=ws.length by omega),decide_eq_true h6];rfl),bAl _ _⟩
  ·go_enter Tryz.func261,Tryz.ntmps261
   go_wp2_with fail
   go_ret;exact⟨ze (by rw[HF.o,decide_eq_true (show 1<=ws.length by omega),decide_eq_false (show ¬ws.length<=6 by omega)];rfl),bAl _ _⟩
 ·go_enter Tryz.func261,Tryz.ntmps261
  go_wp2_with fail
  go_ret;exact⟨ze (by rw[HF.o,decide_eq_false (show ¬1<=ws.length by omega)];rfl),bAl _ _⟩
theorem zfa (nm:BA)(kd ls ms:Int)(sl:Value)(to:BA)(rl:Int)(mu fx:Bool)(df wg:BA)(s:BA)(w:World)(hs:s.size<=maxLen) :
 Calls Tryz.prog 257 #[.agg #[.s nm,.i kd,.i ls,.i ms,sl,.s to,.i rl,.bool mu,.bool fx,.s df,.s wg],.s s] w
  fun e w'=>e=.returned (.bool (zaC ls ms s))/\Bw w w':=by
 by_cases hd:zaj s=true
 ·have HE:Hid (zaw s=zgd s):=by unfold zaw Hid;rw[hd];rfl
  have HF:Hid (zaC ls ms s=(decide (ls<=zgd s)&&decide (zgd s<=ms))):=by unfold zaC Hid;rw[hd];rfl
  go_enter Tryz.func257,Tryz.ntmps257
  go_wp2_with (go_at_call 236;refine(zdq _ _ hs).mono ?_;rintro e w'⟨rfl,rfl⟩)
  all_goals
   go_ret;refine⟨ze ?_,bAl _ _⟩;rw[HF.o];have:=HE.o;rw[Bool.eq_iff_iff];simp;omega
 ·have hd':zaj s=false:=by simpa using hd
  have HF:Hid (zaC ls ms s=false):=by unfold zaC Hid;rw[hd'];rfl
  go_enter Tryz.func257,Tryz.ntmps257
  go_wp2_with (go_at_call 236;refine(zdq _ _ hs).mono ?_;rintro e w'⟨rfl,rfl⟩)
  go_ret;exact⟨ze HF.o.symm,bAl _ _⟩
def zn (lo:Nat)(w:World)(a:OA)(ws:List BA):Prop:=
 (a=none/\ws=[]) \/ ∃g C,a=some (aD g 0)/\lo<=g/\w.heap[g]?=some (.cells C 9)/\∀i (h:i<ws.length),C[i]?=some (.s ws[i])
theorem zn.zdl {lo:Nat}{w:World}{v:Value}{ws:List BA}(h:w.ownsRow lo 9 1 v ws.length (ws.map Value.string)):∃a cap,v=.l a ws.length cap/\zn lo w a ws:=by
 obtain⟨_,⟨rfl,h0⟩|⟨g,cap,cur,rfl,hg,hh,_,_,_,ht⟩⟩:=h
 ·exact⟨none,0,by rw[h0],Or.inl ⟨rfl,List.length_eq_zero_iff.1 h0⟩⟩
 ·refine⟨some (aD g 0),cap,rfl,Or.inr ⟨g,cur,rfl,hg,hh,fun i hi=>?_⟩⟩
  have h1:(cur.toList.take (ws.length*1))[i]?=(ws.map Value.string)[i]?:=by rw[ht]
  rw[List.getElem?_take_of_lt (by omega),List.getElem?_map,List.getElem?_eq_getElem hi]at h1
  simpa using h1
theorem zn.mono {lo:Nat}{w w':World}{a:OA}{ws:List BA}(h:zn lo w a ws)(hb:Bw w w'):zn lo w' a ws:=by
 rcases h with⟨rfl,rfl⟩|⟨g,C,rfl,hg,hh,hc⟩
 ·exact Or.inl ⟨rfl,rfl⟩
 ·exact Or.inr ⟨g,C,rfl,hg,(hb.block g (gES hh).1).trans hh,hc⟩
theorem zn.at {lo:Nat}{w:World}{a:OA}{ws:List BA}(h:zn lo w a ws)(hl:ws.length<=maxLen)(hs:∀s∈ws,s.size<=maxLen):zF w a ws:=by
 refine⟨hl,hs,fun hne=>?_⟩
 rcases h with⟨_,rfl⟩|⟨g,C,rfl,_,hh,hc⟩
 ·exact absurd rfl hne
 ·refine⟨g,0,rfl,(gES hh).1,fun i hi=>?_⟩
  simp only[World.cell?,hh,Nat.zero_add]
  simpa using hc i hi
theorem zkD (a:OA)(cap:Nat)(ts:List Tm)(x y:BA)(w:World)(hw:jQ w a ts) :
 Calls Tryz.prog 152 #[.l a ts.length cap,.s x,.s y] w fun e w'=>e=.returned (.bool (under ts 4 x y))/\w'=w:=by
 by_cases hxy:x=y
 ·have HF:=hid (zdU ts 4 x y hxy)
  have hbe:(x.toList == y.toList)=true:=by rw[beq_toList];simpa using hxy
  clear hxy;go_enter Tryz.func152,Tryz.ntmps152;go_wp2_with fail
  go_ret;exact⟨ze HF.o.symm,rfl⟩
 have hbe:(x.toList == y.toList)=false:=by rw[beq_toList];simpa using hxy
 have HXY:=hid hxy;clear hxy;go_enter Tryz.func152,Tryz.ntmps152;go_wp2_with fail
 go_loop [1,7] (fun p i=>∃(k:Nat) (z:BA),k<=4/\p=.s z/\i=.i k/\¬z=y/\under ts 4 x y=under ts (4-k) z y) (fun _ i=>4-(intOf i).toNat)
 case atStart=>exact⟨0,x,Nat.zero_le _,rfl,rfl,HXY.o,rfl⟩
 case round=>
  obtain⟨k,z,hk,rfl,rfl,hz,hu⟩:=hrel;have HZ:=qw hz hu;clear hz hu hbe
  by_cases hlt:k<4
  ·have hltI:(k:Int)<4:=by omega
   obtain⟨m,hm⟩:∃m,4-k=m+1:=⟨3-k,by omega⟩
   by_cases h0:(over ts z).size=0
   ·have HF:Hid (under ts 4 x y=false):=by rw[HZ.o.2,hm];exact zkn ts m HZ.o.1 h0
    have h0':(over ts z).toList.isEmpty=true:=by rw[zx];simpa using h0
    clear h0 hm
    go_wp2_with (go_at_call 144;refine(zcK _ _ _ _ _ hw).mono ?_;rintro e w'⟨rfl,rfl⟩)
    go_ret;exact⟨ze HF.o.symm,rfl⟩
   ·have HO:Hid (under ts 4 x y=under ts m (over ts z) y):=by rw[Hid,HZ.o.2,hm];exact zmL ts m HZ.o.1 h0
    have h0':(over ts z).toList.isEmpty=false:=by rw[zx];simpa using h0
    clear h0
    by_cases hy:over ts z=y
    ·have HF:Hid (under ts 4 x y=true):=by rw[Hid,HO.o];exact zdU ts m _ _ hy
     have hy':((over ts z).toList == y.toList)=true:=by rw[beq_toList];simpa using hy
     clear hy
     go_wp2_with (go_at_call 144;refine(zcK _ _ _ _ _ hw).mono ?_;rintro e w'⟨rfl,rfl⟩)
     go_ret;exact⟨ze HF.o.symm,rfl⟩
    ·have hy':((over ts z).toList == y.toList)=false:=by rw[beq_toList];simpa using hy
     have HY:=hid hy;clear hy
     go_wp2_with (go_at_call 144;refine(zcK _ _ _ _ _ hw).mono ?_;rintro e w'⟨rfl,rfl⟩)
     go_round
     case rel=>exact⟨k+1,over ts z,by omega,rfl,by go_num,HY.o,by rw[HO.o,show 4-(k+1)=m by omega]⟩
     case measure=>simp[intOf];omega
  ·have HF:Hid (under ts 4 x y=false):=by
    have e:4-k=0:=by omega
    rw[Hid,HZ.o.2,e];exact zlA ts HZ.o.1
   go_wp2_with fail
   go_ret;exact⟨ze HF.o.symm,rfl⟩
theorem zkQ (a:OA)(cap:Nat)(ts:List Tm)(x y:BA)(w:World)(hw:jQ w a ts) :
 Calls Tryz.prog 231 #[.l a ts.length cap,.s x,.s y] w fun e w'=>e=.returned (.bool (under ts 4 x y))/\Bw w w':=by
 by_cases hxy:x=y
 ·have HF:=hid (zdU ts 4 x y hxy)
  have hbe:(x.toList == y.toList)=true:=by rw[beq_toList];simpa using hxy
  clear hxy;go_enter Tryz.func231,Tryz.ntmps231;go_wp2_with fail
  go_ret;exact⟨ze HF.o.symm,bRf _ _⟩
 have hbe:(x.toList == y.toList)=false:=by rw[beq_toList];simpa using hxy
 have HXY:=hid hxy;clear hxy;go_enter Tryz.func231,Tryz.ntmps231;go_wp2_with fail
 go_loopw [1,10] (fun p i wr=>∃(k:Nat) (z:BA),k<=4/\p=.s z/\i=.i k/\¬z=y/\under ts 4 x y=under ts (4-k) z y/\Bw w wr) (fun _ i _=>4-(intOf i).toNat)
 case atStart=>exact⟨0,x,Nat.zero_le _,rfl,rfl,HXY.o,rfl,bRf _ _⟩
 case round=>
  obtain⟨k,z,hk,rfl,rfl,hz,hu,hB⟩:=hrel;have HZ:=qw hz hu;clear hz hu hbe
  by_cases hlt:k<4
  ·have hltI:(k:Int)<4:=by omega
   obtain⟨m,hm⟩:∃m,4-k=m+1:=⟨3-k,by omega⟩
   by_cases h0:(over ts z).size=0
   ·have HF:Hid (under ts 4 x y=false):=by rw[HZ.o.2,hm];exact zkn ts m HZ.o.1 h0
    have h0':(over ts z).toList.isEmpty=true:=by rw[zx];simpa using h0
    clear h0 hm;go_wp2_with fail
    refine(zd1 _ _ _ _ _ (hw.mono hB)).mono ?_;rintro e w1⟨rfl,hb1⟩;have hB1:=hB.trans (hb1.mono hB.size);clear hb1;go_wp2_with fail
    go_ret;exact⟨ze HF.o.symm,hB1⟩
   ·have HO:Hid (under ts 4 x y=under ts m (over ts z) y):=by rw[Hid,HZ.o.2,hm];exact zmL ts m HZ.o.1 h0
    have h0':(over ts z).toList.isEmpty=false:=by rw[zx];simpa using h0
    clear h0
    by_cases hy:over ts z=y
    ·have HF:Hid (under ts 4 x y=true):=by rw[Hid,HO.o];exact zdU ts m _ _ hy
     have hy':((over ts z).toList == y.toList)=true:=by rw[beq_toList];simpa using hy
     clear hy;go_wp2_with fail
     refine(zd1 _ _ _ _ _ (hw.mono hB)).mono ?_;rintro e w1⟨rfl,hb1⟩;have hB1:=hB.trans (hb1.mono hB.size);clear hb1;go_wp2_with fail
     go_ret;exact⟨ze HF.o.symm,hB1⟩
    ·have hy':((over ts z).toList == y.toList)=false:=by rw[beq_toList];simpa using hy
     have HY:=hid hy;clear hy;go_wp2_with fail
     refine(zd1 _ _ _ _ _ (hw.mono hB)).mono ?_;rintro e w1⟨rfl,hb1⟩;have hB1:=hB.trans (hb1.mono hB.size);clear hb1;go_wp2_with fail
     exact⟨⟨k+1,over ts z,by omega,rfl,by go_num,HY.o,by rw[HO.o,show 4-(k+1)=m by omega],hB1⟩,by simp[intOf];omega⟩
  ·have HF:Hid (under ts 4 x y=false):=by
    have e:4-k=0:=by omega
    rw[Hid,HZ.o.2,e];exact zlA ts HZ.o.1
   go_wp2_with fail
   go_ret;exact⟨ze HF.o.symm,hB⟩
end Go.Proofs.YtecncindgjdbiaaGreat
namespace Go.Proofs.YtecncindgjdbiaaGreat
open Go.ChangeShapes Go.WideShapes Go.ChangeAt Go.RowKit
theorem Tryz.zpL:Tryz.prog.cellsOf 110=1:=by kernel_rfl
theorem Tryz.zk9:Tryz.prog.cellsOf 112=4:=by kernel_rfl
section
variable {H:Type} {enc:TypeId × Value->H} {w:World} {base:Nat} {spare:Nat->Bool} {held:Bool}
theorem zpm {fuel:Nat}{cs:List Value}{x:DataW H × List MemPlace}(h:DataW.trod enc Tryz.prog w base spare held fuel 110 cs=some x) :
 ∃a cap vs,cs=[.l a (List.length vs) cap]/\y9 w a vs:=by
 obtain⟨a,len,cap,rfl,hm,hr⟩:=zaV Tryz.underlying110 Tryz.jX (by omega) h
 rcases Nat.eq_zero_or_pos len with h0|hp
 ·subst h0
  exact⟨a,cap,[],rfl,⟨by simp[maxLen],fun h=>absurd rfl h⟩⟩
 ·obtain⟨b,off,rfl,hb,hrow⟩:=hr hp
  have hf:∀i,i<len->∃v:Int,w.cell? (aD b (off+i))=some (.i v):=by
   intro i hi;obtain⟨es,n,y,hel,hcell,hy⟩:=hrow i hi;obtain⟨v,e0,_,_⟩:=DataW.trod_int Tryz.underlying3 hy;subst e0;exact⟨v,by simpa using hcell 0 (by omega)⟩
  obtain⟨vs,hl,hvs⟩:=zb2 len hf;exact⟨_,cap,vs,by rw[hl],⟨by omega,fun _=>⟨b,off,rfl,hb,hvs⟩⟩⟩
theorem zpY {fuel:Nat}{cs:List Value}{x:DataW H × List MemPlace}(h:DataW.trod enc Tryz.prog w base spare held fuel 112 cs=some x) :
 ∃(r:Rl) (a:OA) (cap:Nat),cs=(r.cells a cap).toList/\r.Small/\y9 w a r.vs:=by
 have hlen:cs.length=4:=by
  obtain⟨_,_,_,_,hl,_,_⟩:=DataW.trod_struct Tryz.underlying112 h;rw[hl];exact Tryz.zk9
 match cs,hlen with
 | [c0,c1,c2,c3],_=>
  have hf:=zai Tryz.underlying112 h;obtain⟨_,_,f0⟩:=hf 0 110 0 c0 rfl Tryz.zpL rfl;obtain⟨_,_,f1⟩:=hf 1 9 1 c1 rfl Tryz.zS rfl;obtain⟨_,_,f2⟩:=hf 2 9 2 c2 rfl Tryz.zS rfl;obtain⟨_,_,f3⟩:=hf 3 9 3 c3 rfl Tryz.zS rfl;obtain⟨a,cap,vs,e0,hI⟩:=zpm f0;obtain⟨x1,e1,_,s1⟩:=DataW.trod_string Tryz.underlying9 f1;obtain⟨x2,e2,_,s2⟩:=DataW.trod_string Tryz.underlying9 f2;obtain⟨x3,e3,_,s3⟩:=DataW.trod_string Tryz.underlying9 f3;simp only[List.cons.injEq,and_true]at e0 e1 e2 e3;subst e0 e1 e2 e3;exact⟨⟨vs,x1,x2,x3⟩,a,cap,rfl,⟨s1,s2,s3⟩,hI⟩
end
end Go.Proofs.YtecncindgjdbiaaGreat
