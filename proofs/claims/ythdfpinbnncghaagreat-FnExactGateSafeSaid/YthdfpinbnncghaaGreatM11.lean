import Derived.Test.YthdfpinbnncghaaGreatM09
set_option maxHeartbeats 1000000
namespace Go.Proofs.YthdfpinbnncghaaGreat
open Go.RowKit
theorem zoS (nm:BA)(ls ms:Int)(a:OA)(cap:Nat)(ws:List BA)(to:BA)(rl:Int)(mu fx:Bool)(df wg:BA)(v:BA)(w:World)(hv:v.size<=maxLen) :
 Calls Tryz.prog 137 #[.agg #[.s nm,.i 1,.i ls,.i ms,.l a ws.length cap,.s to,.i rl,.bool mu,.bool fx,.s df,.s wg],.s v] w
  fun e w'=>e=.returned (.bool (fits 1 ls ms ws v))/\Bw w w':=by
 rw[zrq]
 by_cases hd:zat v=true
 ·have HE:Hid (jg v=zg7 v):=by unfold jg Hid;rw[hd];rfl
  have HF:Hid (zaP ls ms v=(decide (ls<=jg v)&&decide (jg v<=ms))):=by rw[HE.o];exact zm4 _ _ _ hd
  have h0:0<=jg v:=by rw[HE.o];exact zdx v hd
  go_enter Tryz.func137,Tryz.ntmps137
  go_wp2_with (first
   | (go_at_call 193;refine(zen _ _ hv).mono ?_;rintro e w'⟨rfl,rfl⟩)
   | (go_at_call 57;refine(zM _ _ _ _).mono ?_;rintro e w'⟨rfl,rfl⟩))
  go_ret;exact⟨ze HF.o.symm,bAl _ _⟩
 ·have hd':zat v=false:=by simpa using hd
  have HF:Hid (zaP ls ms v=false):=zkg _ _ _ hd';have h0:jg v<0:=by unfold jg;rw[hd'];simp
  go_enter Tryz.func137,Tryz.ntmps137
  go_wp2_with (first
   | (go_at_call 193;refine(zen _ _ hv).mono ?_;rintro e w'⟨rfl,rfl⟩)
   | (go_at_call 57;refine(zM _ _ _ _).mono ?_;rintro e w'⟨rfl,rfl⟩))
  go_ret;exact⟨ze HF.o.symm,bAl _ _⟩
theorem zpL (nm:BA)(ls ms:Int)(a:OA)(cap:Nat)(ws:List BA)(to:BA)(rl:Int)(mu fx:Bool)(df wg:BA)(v:BA)(w:World)(hws:zJ w a ws) :
 Calls Tryz.prog 137 #[.agg #[.s nm,.i 2,.i ls,.i ms,.l a ws.length cap,.s to,.i rl,.bool mu,.bool fx,.s df,.s wg],.s v] w
  fun e w'=>e=.returned (.bool (fits 2 ls ms ws v))/\Bw w w':=by
 by_cases hz:v.size=0
 ·rw[zaA _ _ _ _ _ hz]
  have hne:v.toList.isEmpty=true:=by rw[zy];simp[hz]
  clear hz hws;go_enter Tryz.func137,Tryz.ntmps137;go_wp2_with fail
  go_ret;exact⟨rfl,bAl _ _⟩
 ·rw[zoY _ _ _ _ hz]
  have hne:v.toList.isEmpty=false:=by rw[zy];simp[hz]
  go_enter Tryz.func137,Tryz.ntmps137
  go_wp2_with (go_at_call 191;refine(zc0 _ _ _ _ _ (by exact hws.mono (bAl _ _))).mono ?_;rintro e w'⟨rfl,rfl⟩)
  go_ret;exact⟨rfl,bAl _ _⟩
theorem zpf (nm:BA)(ls ms:Int)(a:OA)(cap:Nat)(ws:List BA)(to:BA)(rl:Int)(mu fx:Bool)(df wg:BA)(v:BA)(w:World)(hv:v.size<=maxLen) :
 Calls Tryz.prog 137 #[.agg #[.s nm,.i 4,.i ls,.i ms,.l a ws.length cap,.s to,.i rl,.bool mu,.bool fx,.s df,.s wg],.s v] w
  fun e w'=>e=.returned (.bool (fits 4 ls ms ws v))/\Bw w w':=by
 rw[zqs];go_enter Tryz.func137,Tryz.ntmps137
 go_wp2_with (go_at_call 100;refine(zi _ _ hv).mono ?_;rintro e w'⟨rfl,rfl⟩)
 go_ret;exact⟨rfl,bAl _ _⟩
theorem zj9 (nm:BA)(kd ls ms:Int)(a:OA)(cap:Nat)(ws:List BA)(to:BA)(rl:Int)(mu fx:Bool)(df wg:BA)(v:BA)(w:World)(h1:kd≠1)(h2:kd≠2)(h3:kd≠3)(h4:kd≠4) :
 Calls Tryz.prog 137 #[.agg #[.s nm,.i kd,.i ls,.i ms,.l a ws.length cap,.s to,.i rl,.bool mu,.bool fx,.s df,.s wg],.s v] w
  fun e w'=>e=.returned (.bool (fits kd ls ms ws v))/\Bw w w':=by
 rw[zgf kd ls ms ws v h1 h2 h3 h4];have e1:(kd == 1)=false:=by simpa using h1
 have e2:(kd == 2)=false:=by simpa using h2
 have e3:(kd == 3)=false:=by simpa using h3
 have e4:(kd == 4)=false:=by simpa using h4
 clear h1 h2 h3 h4;go_enter Tryz.func137,Tryz.ntmps137;go_wp2_with fail
 go_ret;exact⟨rfl,bAl _ _⟩
theorem zpA (nm:BA)(ls ms:Int)(a:OA)(cap:Nat)(ws:List BA)(to:BA)(rl:Int)(mu fx:Bool)(df wg:BA)(v:BA)(w:World)(hv:v.size<=maxLen) :
 Calls Tryz.prog 137 #[.agg #[.s nm,.i 3,.i ls,.i ms,.l a ws.length cap,.s to,.i rl,.bool mu,.bool fx,.s df,.s wg],.s v] w
  fun e w'=>e=.returned (.bool (fits 3 ls ms ws v))/\Bw w w':=by
 unfold maxLen at hv;go_enter Tryz.func137,Tryz.ntmps137;go_wp2_with fail
 go_loop [6] (fun i=>∃k:Nat,k<=v.size/\i=.i k/\(v.data.toList.take k).all qA=true) (fun i=>v.size-(intOf i).toNat)
 case atStart=>exact⟨0,Nat.zero_le _,rfl,rfl⟩
 case round=>
  obtain⟨k,hk,rfl,hall⟩:=hrel
  by_cases hlt:k<v.size
  ·have HS:Hid ((v.data.toList.take (k+1)).all qA=(true&&qA v[k])):=by rw[zaY _ v k hlt,hall];rfl
   have HN:Hid (qA v[k]=false->fits 3 ls ms ws v=false):=fun h=>zlj ls ms ws v (zcp qA v k hlt h)
   clear hall
   by_cases h33:33<=(v[k].toNat:Int)/\(v[k].toNat:Int)<=126
   ·have HC:Hid (qA v[k]=true):=by simp[qA,Hid];omega
    obtain⟨ha,hb⟩:=h33
    go_wp2_with (go_at_call 57;refine(zbJ _ _ _ _ (by omega) (by omega)).mono ?_;rintro e w'⟨rfl,rfl⟩)
    go_round
    case rel=>exact⟨k+1,by omega,by go_num,by rw[HS.o,HC.o];rfl⟩
    case measure=>simp[intOf];omega
   ·have HC:Hid (qA v[k]=false):=by simp[qA,Hid];omega
    have HD:Hid (¬(33<=(v[k].toNat:Int)/\(v[k].toNat:Int)<=126)):=h33;clear h33;have hby:(v[k].toNat:Int)<256:=by have:=v[k].toNat_lt;omega
    go_wp2_with (go_at_call 57;refine(zdG _ _ _ _ (by have:=HD.o;omega)).mono ?_;rintro e w'⟨rfl,rfl⟩)
    go_ret;exact⟨ze (HN.o HC.o).symm,bAl _ _⟩
  ·have HA:Hid (zbW v=true):=by unfold zbW Hid;rw[<- zaE v k (by omega)];exact hall
   clear hall
   by_cases hz:v.size=0
   ·have HF:Hid (fits 3 ls ms ws v=false):=zaA _ _ _ _ _ hz
    have hne:v.toList.isEmpty=true:=by rw[zy];simp[hz]
    clear hz;go_wp2_with fail
    go_ret;exact⟨ze HF.o.symm,bAl _ _⟩
   ·have HF:Hid (fits 3 ls ms ws v=(decide (ls<=v.size)&&decide ((v.size:Int)<=ms))):=zlp ls ms ws v HA.o hz
    have hne:v.toList.isEmpty=false:=by rw[zy];simp[hz]
    go_wp2_with (go_at_call 57;refine(zM _ _ _ _).mono ?_;rintro e w'⟨rfl,rfl⟩)
    go_ret;exact⟨ze HF.o.symm,bAl _ _⟩
theorem qm (nm:BA)(kd ls ms:Int)(a:OA)(cap:Nat)(ws:List BA)(to:BA)(rl:Int)(mu fx:Bool)(df wg:BA)(v:BA)(w:World)(hv:v.size<=maxLen)(hws:zJ w a ws) :
 Calls Tryz.prog 137 #[.agg #[.s nm,.i kd,.i ls,.i ms,.l a ws.length cap,.s to,.i rl,.bool mu,.bool fx,.s df,.s wg],.s v] w
  fun e w'=>e=.returned (.bool (fits kd ls ms ws v))/\Bw w w':=by
 by_cases h1:kd=1
 ·subst h1;exact zoS nm ls ms a cap ws to rl mu fx df wg v w hv
 by_cases h2:kd=2
 ·subst h2;exact zpL nm ls ms a cap ws to rl mu fx df wg v w hws
 by_cases h3:kd=3
 ·subst h3;exact zpA nm ls ms a cap ws to rl mu fx df wg v w hv
 by_cases h4:kd=4
 ·subst h4;exact zpf nm ls ms a cap ws to rl mu fx df wg v w hv
 exact zj9 nm kd ls ms a cap ws to rl mu fx df wg v w h1 h2 h3 h4
theorem zA.setCell {lo:Nat}{w:World}{a:OA}{ws:List BA}(h:zA lo w a ws)(p:Addr)(hp:p.block<lo)(v:Value):zA lo (w.setCell p v) a ws:=by
 rcases h with⟨rfl,rfl⟩|⟨g,C,rfl,hg,hh,hc⟩
 ·exact Or.inl ⟨rfl,rfl⟩
 ·exact Or.inr ⟨g,C,rfl,hg,(Below.heap_setCell _ _ _ _ (by omega)).trans hh,hc⟩
theorem zA.low {lo lo':Nat}{w:World}{a:OA}{ws:List BA}(h:zA lo w a ws)(hl:lo'<=lo):zA lo' w a ws:=by
 rcases h with⟨rfl,rfl⟩|⟨g,C,rfl,hg,hh,hc⟩
 ·exact Or.inl ⟨rfl,rfl⟩
 ·exact Or.inr ⟨g,C,rfl,by omega,hh,hc⟩
theorem zis (a:OA)(cap:Nat)(vs:List Int)(w:World)(hw:yJ w a vs)(hv:yZ vs=true) :
 Calls Tryz.prog 77 #[.l a vs.length cap] w fun e w'=>e=.returned (.int .u8 (bitsOf (yG vs)))/\w'=w:=by
 have hl:=hw.len;unfold maxLen at hl;have HV:Hid (∀i (h:i<vs.length),1<=vs[i]/\vs[i]<=5):=fun i h=>zf3 hv i h
 clear hv;go_enter Tryz.func77,Tryz.ntmps77;go_wp2_with fail
 go_loop [3,8] (fun s i=>∃k:Nat,k<=vs.length/\i=.i k/\s=.int .u8 (bitsOf (yG (vs.take k)))) (fun _ i=>vs.length-(intOf i).toNat)
 case atStart=>exact⟨0,Nat.zero_le _,rfl,rfl⟩
 case round=>
  obtain⟨k,hk,rfl,rfl⟩:=hrel
  by_cases hlt:k<vs.length
  ·obtain⟨b,off,rfl,hb,hck⟩:=hw.load (bRf _ _) k hlt
   have hltI:(k:Int)<(vs.length:Int):=by omega
   obtain⟨hv1,hv5⟩:=HV.o k hlt;have hv0:¬vs[k]<0:=by omega
   have HS:Hid (bitsOf (yG (vs.take (k+1)))=orI (bitsOf (yG (vs.take k))) (zix vs[k])):=by
    unfold Hid;rw[zrS _ _ ⟨hv1,hv5⟩];exact zf9 fun v _=>zgn vs v k hlt
   clear hw;go_wp2_with fail
   go_round
   case rel=>exact⟨k+1,by omega,by go_num,by rw[HS.o];rfl⟩
   case measure=>simp[intOf];omega
  ·have HF:Hid (bitsOf (yG (vs.take k))=bitsOf (yG vs)):=by unfold Hid;rw[tOl (by omega)]
   clear hw;go_wp2_with fail
   go_ret;exact⟨zk HF.o,rfl⟩
end Go.Proofs.YthdfpinbnncghaaGreat
