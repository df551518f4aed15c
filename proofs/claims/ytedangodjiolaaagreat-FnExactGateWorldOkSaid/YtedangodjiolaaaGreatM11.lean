import Derived.Test.YtedangodjiolaaaGreatM09
set_option maxHeartbeats 800000
namespace Go.Proofs.YtedangodjiolaaaGreat
open Go.RowKit
theorem zoh (nm:BA)(ls ms:Int)(a:OA)(cap:Nat)(ws:List BA)(to:BA)(rl:Int)(mu fx:Bool)(df wg:BA)(v:BA)(w:World)(hv:v.size<=maxLen) :
 Calls Tryz.prog 126 #[.agg #[.s nm,.i 1,.i ls,.i ms,.l a ws.length cap,.s to,.i rl,.bool mu,.bool fx,.s df,.s wg],.s v] w
  fun e w'=>e=.returned (.bool (fits 1 ls ms ws v))/\Bw w w':=by
 rw[zp3]
 by_cases hd:zan v=true
 ·have HE:Hid (qU v=zfX v):=by unfold qU Hid;rw[hd];rfl
  have HF:Hid (zaK ls ms v=(decide (ls<=qU v)&&decide (qU v<=ms))):=by rw[HE.o];exact zmK _ _ _ hd
  have h0:0<=qU v:=by rw[HE.o];exact zc7 v hd
  go_enter Tryz.func126,Tryz.ntmps126
  go_wp2_with (first
   | (go_at_call 184;refine(zd8 _ _ hv).mono ?_;rintro e w'⟨rfl,rfl⟩)
   | (go_at_call 40;refine(zN _ _ _ _).mono ?_;rintro e w'⟨rfl,rfl⟩))
  go_ret;exact⟨ze HF.o.symm,bAl _ _⟩
 ·have hd':zan v=false:=by simpa using hd
  have HF:Hid (zaK ls ms v=false):=zkl _ _ _ hd';have h0:qU v<0:=by unfold qU;rw[hd'];simp
  go_enter Tryz.func126,Tryz.ntmps126
  go_wp2_with (first
   | (go_at_call 184;refine(zd8 _ _ hv).mono ?_;rintro e w'⟨rfl,rfl⟩)
   | (go_at_call 40;refine(zN _ _ _ _).mono ?_;rintro e w'⟨rfl,rfl⟩))
  go_ret;exact⟨ze HF.o.symm,bAl _ _⟩
theorem znP (nm:BA)(ls ms:Int)(a:OA)(cap:Nat)(ws:List BA)(to:BA)(rl:Int)(mu fx:Bool)(df wg:BA)(v:BA)(w:World)(hws:zK w a ws) :
 Calls Tryz.prog 126 #[.agg #[.s nm,.i 2,.i ls,.i ms,.l a ws.length cap,.s to,.i rl,.bool mu,.bool fx,.s df,.s wg],.s v] w
  fun e w'=>e=.returned (.bool (fits 2 ls ms ws v))/\Bw w w':=by
 by_cases hz:v.size=0
 ·rw[zas _ _ _ _ _ hz]
  have hne:v.toList.isEmpty=true:=by rw[zB];simp[hz]
  clear hz hws;go_enter Tryz.func126,Tryz.ntmps126;go_wp2_with fail
  go_ret;exact⟨rfl,bAl _ _⟩
 ·rw[zn7 _ _ _ _ hz]
  have hne:v.toList.isEmpty=false:=by rw[zB];simp[hz]
  go_enter Tryz.func126,Tryz.ntmps126
  go_wp2_with (go_at_call 182;refine(zcF _ _ _ _ _ (by exact hws.mono (bAl _ _))).mono ?_;rintro e w'⟨rfl,rfl⟩)
  go_ret;exact⟨rfl,bAl _ _⟩
theorem zoQ (nm:BA)(ls ms:Int)(a:OA)(cap:Nat)(ws:List BA)(to:BA)(rl:Int)(mu fx:Bool)(df wg:BA)(v:BA)(w:World)(hv:v.size<=maxLen) :
 Calls Tryz.prog 126 #[.agg #[.s nm,.i 4,.i ls,.i ms,.l a ws.length cap,.s to,.i rl,.bool mu,.bool fx,.s df,.s wg],.s v] w
  fun e w'=>e=.returned (.bool (fits 4 ls ms ws v))/\Bw w w':=by
 rw[zpd];go_enter Tryz.func126,Tryz.ntmps126
 go_wp2_with (go_at_call 44;refine(zh _ _ hv).mono ?_;rintro e w'⟨rfl,rfl⟩)
 go_ret;exact⟨rfl,bAl _ _⟩
theorem zj4 (nm:BA)(kd ls ms:Int)(a:OA)(cap:Nat)(ws:List BA)(to:BA)(rl:Int)(mu fx:Bool)(df wg:BA)(v:BA)(w:World)(h1:kd≠1)(h2:kd≠2)(h3:kd≠3)(h4:kd≠4) :
 Calls Tryz.prog 126 #[.agg #[.s nm,.i kd,.i ls,.i ms,.l a ws.length cap,.s to,.i rl,.bool mu,.bool fx,.s df,.s wg],.s v] w
  fun e w'=>e=.returned (.bool (fits kd ls ms ws v))/\Bw w w':=by
 rw[zfQ kd ls ms ws v h1 h2 h3 h4];have e1:(kd == 1)=false:=by simpa using h1
 have e2:(kd == 2)=false:=by simpa using h2
 have e3:(kd == 3)=false:=by simpa using h3
 have e4:(kd == 4)=false:=by simpa using h4
 clear h1 h2 h3 h4;go_enter Tryz.func126,Tryz.ntmps126;go_wp2_with fail
 go_ret;exact⟨rfl,bAl _ _⟩
theorem zoz (nm:BA)(ls ms:Int)(a:OA)(cap:Nat)(ws:List BA)(to:BA)(rl:Int)(mu fx:Bool)(df wg:BA)(v:BA)(w:World)(hv:v.size<=maxLen) :
 Calls Tryz.prog 126 #[.agg #[.s nm,.i 3,.i ls,.i ms,.l a ws.length cap,.s to,.i rl,.bool mu,.bool fx,.s df,.s wg],.s v] w
  fun e w'=>e=.returned (.bool (fits 3 ls ms ws v))/\Bw w w':=by
 unfold maxLen at hv;go_enter Tryz.func126,Tryz.ntmps126;go_wp2_with fail
 go_loop [6] (fun i=>∃k:Nat,k<=v.size/\i=.i k/\(v.data.toList.take k).all qj=true) (fun i=>v.size-(intOf i).toNat)
 case atStart=>exact⟨0,Nat.zero_le _,rfl,rfl⟩
 case round=>
  obtain⟨k,hk,rfl,hall⟩:=hrel
  by_cases hlt:k<v.size
  ·have HS:Hid ((v.data.toList.take (k+1)).all qj=(true&&qj v[k])):=by rw[za0 _ v k hlt,hall];rfl
   have HN:Hid (qj v[k]=false->fits 3 ls ms ws v=false):=fun h=>zk0 ls ms ws v (zca qj v k hlt h)
   clear hall
   by_cases h33:33<=(v[k].toNat:Int)/\(v[k].toNat:Int)<=126
   ·have HC:Hid (qj v[k]=true):=by simp[qj,Hid];omega
    obtain⟨ha,hb⟩:=h33
    go_wp2_with (go_at_call 40;refine(zbO _ _ _ _ (by omega) (by omega)).mono ?_;rintro e w'⟨rfl,rfl⟩)
    go_round
    case rel=>exact⟨k+1,by omega,by go_num,by rw[HS.o,HC.o];rfl⟩
    case measure=>simp[intOf];omega
   ·have HC:Hid (qj v[k]=false):=by simp[qj,Hid];omega
    have HD:Hid (¬(33<=(v[k].toNat:Int)/\(v[k].toNat:Int)<=126)):=h33;clear h33;have hby:(v[k].toNat:Int)<256:=by have:=v[k].toNat_lt;omega
    go_wp2_with (go_at_call 40;refine(zdm _ _ _ _ (by have:=HD.o;omega)).mono ?_;rintro e w'⟨rfl,rfl⟩)
    go_ret;exact⟨ze (HN.o HC.o).symm,bAl _ _⟩
  ·have HA:Hid (zbF v=true):=by unfold zbF Hid;rw[<- zaB v k (by omega)];exact hall
   clear hall
   by_cases hz:v.size=0
   ·have HF:Hid (fits 3 ls ms ws v=false):=zas _ _ _ _ _ hz
    have hne:v.toList.isEmpty=true:=by rw[zB];simp[hz]
    clear hz;go_wp2_with fail
    go_ret;exact⟨ze HF.o.symm,bAl _ _⟩
   ·have HF:Hid (fits 3 ls ms ws v=(decide (ls<=v.size)&&decide ((v.size:Int)<=ms))):=zkM ls ms ws v HA.o hz
    have hne:v.toList.isEmpty=false:=by rw[zB];simp[hz]
    go_wp2_with (go_at_call 40;refine(zN _ _ _ _).mono ?_;rintro e w'⟨rfl,rfl⟩)
    go_ret;exact⟨ze HF.o.symm,bAl _ _⟩
theorem yZ (nm:BA)(kd ls ms:Int)(a:OA)(cap:Nat)(ws:List BA)(to:BA)(rl:Int)(mu fx:Bool)(df wg:BA)(v:BA)(w:World)(hv:v.size<=maxLen)(hws:zK w a ws) :
 Calls Tryz.prog 126 #[.agg #[.s nm,.i kd,.i ls,.i ms,.l a ws.length cap,.s to,.i rl,.bool mu,.bool fx,.s df,.s wg],.s v] w
  fun e w'=>e=.returned (.bool (fits kd ls ms ws v))/\Bw w w':=by
 by_cases h1:kd=1
 ·subst h1;exact zoh nm ls ms a cap ws to rl mu fx df wg v w hv
 by_cases h2:kd=2
 ·subst h2;exact znP nm ls ms a cap ws to rl mu fx df wg v w hws
 by_cases h3:kd=3
 ·subst h3;exact zoz nm ls ms a cap ws to rl mu fx df wg v w hv
 by_cases h4:kd=4
 ·subst h4;exact zoQ nm ls ms a cap ws to rl mu fx df wg v w hv
 exact zj4 nm kd ls ms a cap ws to rl mu fx df wg v w h1 h2 h3 h4
theorem zA.setCell {lo:Nat}{w:World}{a:OA}{ws:List BA}(h:zA lo w a ws)(p:Addr)(hp:p.block<lo)(v:Value):zA lo (w.setCell p v) a ws:=by
 rcases h with⟨rfl,rfl⟩|⟨g,C,rfl,hg,hh,hc⟩
 ·exact Or.inl ⟨rfl,rfl⟩
 ·exact Or.inr ⟨g,C,rfl,hg,(Below.heap_setCell _ _ _ _ (by omega)).trans hh,hc⟩
theorem zA.low {lo lo':Nat}{w:World}{a:OA}{ws:List BA}(h:zA lo w a ws)(hl:lo'<=lo):zA lo' w a ws:=by
 rcases h with⟨rfl,rfl⟩|⟨g,C,rfl,hg,hh,hc⟩
 ·exact Or.inl ⟨rfl,rfl⟩
 ·exact Or.inr ⟨g,C,rfl,by omega,hh,hc⟩
end Go.Proofs.YtedangodjiolaaaGreat
