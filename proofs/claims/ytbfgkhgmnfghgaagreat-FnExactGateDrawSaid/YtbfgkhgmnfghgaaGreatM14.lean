import Derived.Test.YtbfgkhgmnfghgaaGreatM11
import Derived.Test.YtbfgkhgmnfghgaaGreatM12
set_option maxHeartbeats 1000000
namespace Go.Proofs.YtbfgkhgmnfghgaaGreat
open Go.RowKit
theorem zrT {o:Ob}{l:Int}(h:(zdR o:Int)<=l)(hl:l<=1048576):o.vs.length<=1048576/\o.hs.length<=1048576:=by
 unfold zdR qW at h;omega
theorem zdy (v:Int)(w:World) :
 Calls Tryz.prog 234 #[.i v] w fun e w'=>e=.returned (.bool (za5 v))/\w'=w:=by
 go_enter Tryz.func234,Tryz.ntmps234
 go_wp2
 all_goals
  go_ret;refine⟨ze ?_,rfl⟩;rw[Bool.eq_iff_iff];simp[za5];try omega
theorem zdZ {vs:List Int}{k:Nat}(h:k<vs.length)(hn:za5 vs[k]=false):qy vs k=false:=by
 unfold qy;rw[getD_at vs k _ h,hn];rfl
theorem zbE {vs:List Int}(h:0<vs.length)(hn:za5 vs[0]=true):qy vs 0=true:=by
 unfold qy;rw[getD_at vs 0 _ h,hn];rfl
theorem ziu {vs:List Int}{k:Nat}(h:k+1<vs.length)(hn:za5 vs[k+1]=true):qy vs (k+1)=decide (vs[k]<vs[k+1]):=by
 unfold qy;rw[getD_at vs (k+1) _ h,Nat.add_sub_cancel,getD_at vs k _ (by omega),hn];simp
theorem qI (a:OA)(cap:Nat)(vs:List Int)(w:World)(hw:qp w a vs) :
 Calls Tryz.prog 216 #[.l a vs.length cap] w fun e w'=>e=.returned (.bool (jd vs))/\w'=w:=by
 have hl:=hw.len;unfold maxLen at hl;have HG:Hid (up (qy vs) vs.length=false->jd vs=false):=fun h=>by unfold jd;rw[h,Bool.and_false]
 go_enter Tryz.func216,Tryz.ntmps216;go_wp2_with fail
 go_loop [7] (fun i=>∃k:Nat,k<=vs.length/\i=.i k/\up (qy vs) k=true) (fun i=>vs.length-(intOf i).toNat)
 case atStart=>exact⟨0,Nat.zero_le _,rfl,rfl⟩
 case round=>
  obtain⟨k,hk,rfl,hup⟩:=hrel
  by_cases hlt:k<vs.length
  ·obtain⟨b,off,rfl,hb,hck⟩:=hw.load (bRf _ _) k hlt
   have hltI:(k:Int)<(vs.length:Int):=by omega
   by_cases hn:za5 vs[k]=true
   ·by_cases hk0:k=0
    ·have HF:Hid (up (qy vs) (k+1)=true):=by subst hk0;unfold Hid;rw[q9,zbE hlt hn];rfl
     have hg:decide (0<k)=false:=by simp;omega
     have HN:=hid hn;clear hn hup hk0 hw
     go_wp2_with (go_at_call 234;refine(zh HN.o (zdy _ _)).mono ?_;rintro e w'⟨rfl,rfl⟩)
     go_round
     case rel=>exact⟨k+1,by omega,by go_num,HF.o⟩
     case measure=>simp[intOf];omega
    ·obtain⟨m,rfl⟩:∃m,k=m+1:=⟨k-1,by omega⟩
     obtain⟨b',off',e',hb',hcm⟩:=hw.load (bRf _ _) m (by omega);simp only[Option.some.injEq,Addr.mk.injEq]at e';obtain⟨rfl,rfl,_⟩:=e';have HU:Hid (up (qy vs) (m+1+1)=decide (vs[m]<vs[m+1])):=by unfold Hid;rw[q9,hup,ziu hlt hn];rfl
     have HNN:Hid (¬vs[m]<vs[m+1]->jd vs=false):=fun h=>HG.o (zaV hlt (by rw[ziu hlt hn];simpa using h))
     have HN:=hid hn;clear hn hup hk0 hw
     by_cases hls:vs[m]<vs[m+1]
     ·have hls':decide (vs[m+1]<=vs[m])=false:=by simp;omega
      have HLS:=hid hls;clear hls
      go_wp2_with (go_at_call 234;refine(zh HN.o (zdy _ _)).mono ?_;rintro e w'⟨rfl,rfl⟩)
      go_round
      case rel=>exact⟨m+1+1,by omega,by go_num,by rw[HU.o];simpa using HLS.o⟩
      case measure=>simp[intOf];omega
     ·have hls':vs[m+1]<=vs[m]:=by omega
      have HLS:=hid hls;clear hls
      go_wp2_with (go_at_call 234;refine(zh HN.o (zdy _ _)).mono ?_;rintro e w'⟨rfl,rfl⟩)
      go_ret;exact⟨ze (HNN.o HLS.o).symm,rfl⟩
   ·have hn':za5 vs[k]=false:=by simpa using hn
    have HF:=hid (HG.o (zaV hlt (zdZ hlt hn')));have HN:=hid hn';clear hn hn' hup hw
    go_wp2_with (go_at_call 234;refine(zh HN.o (zdy _ _)).mono ?_;rintro e w'⟨rfl,rfl⟩)
    go_ret;exact⟨ze HF.o.symm,rfl⟩
  ·have HF:Hid (jd vs=decide (0<vs.length)):=by
    have e:k=vs.length:=by omega
    subst e;unfold Hid jd;rw[hup,Bool.and_true]
   clear hw hup;go_wp2_with fail
   go_ret;exact⟨ze (by rw[HF.o]),rfl⟩
theorem zfR {α:Type}(p:α->Bool)(l:List α)(k:Nat)(h:k<l.length):(l.take (k+1)).any p=((l.take k).any p||p l[k]):=by
 rw[tSe h,List.any_append];simp
theorem zrj {α:Type}(p:α->Bool)(l:List α)(k:Nat)(h:k<l.length)(hp:p l[k]=true):l.any p=true:=by
 rw[List.any_eq_true];exact⟨l[k],List.getElem_mem h,hp⟩
def zhR (P:Program)(fid:Nat)(q:Value)(ts:List Tm)(w:World)(p:Tm->Bool):Prop:=
 ∀w1,Bw w w1->∀i (h:i<ts.length),Calls P fid #[.agg ts[i].cells,q] w1 fun e w'=>e=.returned (.bool (p ts[i]))/\Bw w1 w'
theorem zjO (a:OA)(cap:Nat)(ts:List Tm)(q:Value)(p:Tm->Bool)(w:World)(hw:jS w a ts)(hf:zhR Tryz.prog 207 q ts w p) :
 Calls Tryz.prog 208 #[.l a ts.length cap,.func (.func 207) #[] #[q]] w fun e w'=>∃r:Int,e=.returned (.i r)/\decide (0<=r)=ts.any p/\Bw w w':=by
 have hl:=hw.len;unfold maxLen at hl;go_enter Tryz.func208,Tryz.ntmps208;go_wp2_with fail
 go_loopw [8] (fun i wr=>∃k:Nat,k<=ts.length/\i=.i k/\(ts.take k).any p=false/\Bw w wr) (fun i _=>ts.length-(intOf i).toNat)
 case atStart=>exact⟨0,Nat.zero_le _,rfl,rfl,bRf _ _⟩
 case round=>
  obtain⟨k,hk,rfl,hno,hB⟩:=hrel
  by_cases hlt:k<ts.length
  ·obtain⟨b,off,rfl,hb,c0,c1⟩:=hw.load hB k hlt
   have hltI:(k:Int)<(ts.length:Int):=by omega
   have hc:=hf wr hB k hlt;clear hw hf
   by_cases he:p ts[k]=true
   ·have HA:Hid (ts.any p=true):=zrj p ts k hlt he
    have HE:Hid (p ts[k]=true):=he;clear he hno;go_wp2_with fail
    refine(zh HE.o hc).mono ?_;rintro e w2⟨rfl,hb2⟩;go_wp2_with fail
    go_ret;exact⟨_,rfl,by rw[HA.o];simp,hB.trans (hb2.mono hB.size)⟩
   ·have he':p ts[k]=false:=by simpa using he
    have HS:Hid ((ts.take (k+1)).any p=false):=by unfold Hid;rw[zfR p ts k hlt,hno,he'];rfl
    have HE:Hid (p ts[k]=false):=he';clear he he' hno;go_wp2_with fail
    refine(zh HE.o hc).mono ?_;rintro e w2⟨rfl,hb2⟩;go_wp2_with fail
    exact⟨⟨k+1,by omega,by go_num,HS.o,hB.trans (hb2.mono hB.size)⟩,by simp[intOf];omega⟩
  ·have HA:Hid (ts.any p=false):=by unfold Hid;rw[<- hno,tOl (by omega)]
   clear hno hw hf;go_wp2_with fail
   go_ret;exact⟨_,rfl,by rw[HA.o];rfl,hB⟩
theorem zgZ (a:OA)(cap:Nat)(ts:List Tm)(q:Value)(p:Tm->Bool)(w:World)(hw:jS w a ts)(hf:zhR Tryz.prog 207 q ts w p) :
 Calls Tryz.prog 162 #[.l a ts.length cap,.func (.func 207) #[] #[q]] w fun e w'=>e=.returned (.bool (ts.any p))/\Bw w w':=by
 go_enter Tryz.func162,Tryz.ntmps162;go_wp2_with fail
 refine(zjO _ _ _ _ _ _ hw hf).mono ?_;rintro e w2⟨r,rfl,hr,hb2⟩;go_wp2_with fail
 go_ret;exact⟨rfl,hb2⟩
theorem zjA (a:OA)(cap:Nat)(ts:List Tm)(q:Value)(p:Tm->Bool)(w:World)(hw:jS w a ts)(hf:zhR Tryz.prog 163 q ts w p) :
 Calls Tryz.prog 208 #[.l a ts.length cap,.func (.func 163) #[] #[q]] w fun e w'=>∃r:Int,e=.returned (.i r)/\decide (0<=r)=ts.any p/\Bw w w':=by
 have hl:=hw.len;unfold maxLen at hl;go_enter Tryz.func208,Tryz.ntmps208;go_wp2_with fail
 go_loopw [8] (fun i wr=>∃k:Nat,k<=ts.length/\i=.i k/\(ts.take k).any p=false/\Bw w wr) (fun i _=>ts.length-(intOf i).toNat)
 case atStart=>exact⟨0,Nat.zero_le _,rfl,rfl,bRf _ _⟩
 case round=>
  obtain⟨k,hk,rfl,hno,hB⟩:=hrel
  by_cases hlt:k<ts.length
  ·obtain⟨b,off,rfl,hb,c0,c1⟩:=hw.load hB k hlt
   have hltI:(k:Int)<(ts.length:Int):=by omega
   have hc:=hf wr hB k hlt;clear hw hf
   by_cases he:p ts[k]=true
   ·have HA:Hid (ts.any p=true):=zrj p ts k hlt he
    have HE:Hid (p ts[k]=true):=he;clear he hno;go_wp2_with fail
    refine(zh HE.o hc).mono ?_;rintro e w2⟨rfl,hb2⟩;go_wp2_with fail
    go_ret;exact⟨_,rfl,by rw[HA.o];simp,hB.trans (hb2.mono hB.size)⟩
   ·have he':p ts[k]=false:=by simpa using he
    have HS:Hid ((ts.take (k+1)).any p=false):=by unfold Hid;rw[zfR p ts k hlt,hno,he'];rfl
    have HE:Hid (p ts[k]=false):=he';clear he he' hno;go_wp2_with fail
    refine(zh HE.o hc).mono ?_;rintro e w2⟨rfl,hb2⟩;go_wp2_with fail
    exact⟨⟨k+1,by omega,by go_num,HS.o,hB.trans (hb2.mono hB.size)⟩,by simp[intOf];omega⟩
  ·have HA:Hid (ts.any p=false):=by unfold Hid;rw[<- hno,tOl (by omega)]
   clear hno hw hf;go_wp2_with fail
   go_ret;exact⟨_,rfl,by rw[HA.o];rfl,hB⟩
theorem zgQ (a:OA)(cap:Nat)(ts:List Tm)(q:Value)(p:Tm->Bool)(w:World)(hw:jS w a ts)(hf:zhR Tryz.prog 163 q ts w p) :
 Calls Tryz.prog 162 #[.l a ts.length cap,.func (.func 163) #[] #[q]] w fun e w'=>e=.returned (.bool (ts.any p))/\Bw w w':=by
 go_enter Tryz.func162,Tryz.ntmps162;go_wp2_with fail
 refine(zjA _ _ _ _ _ _ hw hf).mono ?_;rintro e w2⟨r,rfl,hr,hb2⟩;go_wp2_with fail
 go_ret;exact⟨rfl,hb2⟩
theorem zmo (t:Tm)(v:BA)(bn:Nat)(w:World)(hb:bn<w.heap.size)(hn:w.cell? (aD bn 0)=some (.s v)) :
 Calls Tryz.prog 207 #[.agg t.cells,.pointer (some (aD bn 0))] w fun e w'=>e=.returned (.bool (t.nm.toList == v.toList))/\Bw w w':=by
 unfold Tm.cells;go_enter Tryz.func207,Tryz.ntmps207;go_wp2_with fail
 go_ret;exact⟨rfl,bAl _ _⟩
theorem znH (ts:List Tm)(v:BA)(bn:Nat)(w:World)(hb:bn<w.heap.size)(hn:w.cell? (aD bn 0)=some (.s v)) :
 zhR Tryz.prog 207 (.pointer (some (aD bn 0))) ts w (fun t=>decide (t.nm=v)):=fun w1 hB i hi=>by
 refine(zmo ts[i] v bn w1 (nLt hb hB.size) ((hB.cell (p:=(aD bn 0)) hb).trans hn)).mono ?_;rintro e w'⟨rfl,hb'⟩;exact⟨ze (beq_toList _ _),hb'⟩
theorem zc7 (a:OA)(cap:Nat)(ts:List Tm)(v:BA)(w:World)(hw:jS w a ts) :
 Calls Tryz.prog 161 #[.l a ts.length cap,.s v] w fun e w'=>e=.returned (.bool (yC ts v))/\Bw w w':=by
 go_enter Tryz.func161,Tryz.ntmps161;go_wp2_with fail
 refine(zgZ _ _ _ _ _ _ (hw.mono (bAl _ _)) (znH ts v _ _ (by simp) (by rw[World.cell?_alloc_at _ _ _ _ rfl];rfl))).mono ?_;rintro e w2⟨rfl,hb2⟩;go_wp2_with fail
 go_ret;exact⟨rfl,(bAl _ _).trans (hb2.mono (by simp))⟩
theorem zkT (a:OA)(cap:Nat)(ts:List Tm)(t:Tm)(w:World)(hw:jS w a ts) :
 Calls Tryz.prog 164 #[.l a ts.length cap,.agg t.cells] w fun e w'=>e=.returned (.bool (!zee ts t))/\Bw w w':=by
 unfold Tm.cells;go_enter Tryz.func164,Tryz.ntmps164;go_wp2_with fail
 go_loopw [5,8] (fun p i wr=>∃(k:Nat) (z:BA),k<=4/\p=.s z/\i=.i k/\ze9 ts 4 t.ov=ze9 ts (4-k) z/\Bw w wr) (fun _ i _=>4-(intOf i).toNat)
 case atStart=>exact⟨0,t.ov,Nat.zero_le _,rfl,rfl,rfl,bAl _ _⟩
 case round=>
  obtain⟨k,z,hk,rfl,rfl,hz,hB⟩:=hrel
  by_cases hlt:k<4
  ·have hltI:(k:Int)<4:=by omega
   have HZ:Hid (ze9 ts 4 t.ov=ze9 ts (4-(k+1)) (over ts z)):=by
    obtain⟨m,hm⟩:∃m,4-k=m+1:=⟨3-k,by omega⟩
    rw[Hid,hz,hm,show 4-(k+1)=m by omega];rfl
   clear hz;go_wp2_with fail
   refine(zec _ _ _ _ _ (hw.mono hB)).mono ?_;rintro e w1⟨rfl,hb1⟩;have hB1:=hB.trans (hb1.mono hB.size);clear hb1;go_wp2_with fail
   exact⟨⟨k+1,over ts z,by omega,rfl,by go_num,HZ.o,hB1⟩,by simp[intOf];omega⟩
  ·have HF:Hid (zee ts t=z.toList.isEmpty):=by
    have e:4-k=0:=by omega
    rw[e]at hz;unfold Hid zee;rw[hz,zy];rfl
   clear hz;go_wp2_with fail
   go_ret;exact⟨ze (by rw[HF.o]),hB⟩
theorem zoD (a:OA)(cap:Nat)(ts:List Tm)(t:Tm)(bn:Nat)(w:World)(hw:jS w a ts)(hb:bn<w.heap.size)(hn:w.cell? (aD bn 0)=some (.l a ts.length cap)) :
 Calls Tryz.prog 163 #[.agg t.cells,.pointer (some (aD bn 0))] w fun e w'=>e=.returned (.bool (!zee ts t))/\Bw w w':=by
 unfold Tm.cells;go_enter Tryz.func163,Tryz.ntmps163;go_wp2_with fail
 refine(zkT _ _ _ t _ (hw.mono (bAl _ _))).mono ?_;rintro e w2⟨rfl,hb2⟩;go_wp2_with fail
 go_ret;exact⟨rfl,(bAl _ _).trans (hb2.mono (by simp))⟩
theorem zqB (a:OA)(cap:Nat)(ts:List Tm)(bn:Nat)(w:World)(hw:jS w a ts)(hb:bn<w.heap.size)(hn:w.cell? (aD bn 0)=some (.l a ts.length cap)) :
 zhR Tryz.prog 163 (.pointer (some (aD bn 0))) ts w (fun t=>!zee ts t):=fun w1 hB i _=>
 zoD a cap ts ts[i] bn w1 (hw.mono hB) (nLt hb hB.size) ((hB.cell (p:=(aD bn 0)) hb).trans hn)
theorem zk4 (a:OA)(cap:Nat)(ts:List Tm)(x y:BA)(w:World)(hw:jS w a ts) :
 Calls Tryz.prog 152 #[.l a ts.length cap,.s x,.s y] w fun e w'=>e=.returned (.bool (under ts 4 x y))/\w'=w:=by
 by_cases hxy:x=y
 ·have HF:=hid (zeE ts 4 x y hxy)
  have hbe:(x.toList == y.toList)=true:=by rw[beq_toList];simpa using hxy
  clear hxy;go_enter Tryz.func152,Tryz.ntmps152;go_wp2_with fail
  go_ret;exact⟨ze HF.o.symm,rfl⟩
 have hbe:(x.toList == y.toList)=false:=by rw[beq_toList];simpa using hxy
 have HXY:=hid hxy;clear hxy;go_enter Tryz.func152,Tryz.ntmps152;go_wp2_with fail
 go_loop [1,7] (fun p i=>∃(k:Nat) (z:BA),k<=4/\p=.s z/\i=.i k/\¬z=y/\under ts 4 x y=under ts (4-k) z y) (fun _ i=>4-(intOf i).toNat)
 case atStart=>exact⟨0,x,Nat.zero_le _,rfl,rfl,HXY.o,rfl⟩
 case round=>
  obtain⟨k,z,hk,rfl,rfl,hz,hu⟩:=hrel;have HZ:=yU hz hu;clear hz hu hbe
  by_cases hlt:k<4
  ·have hltI:(k:Int)<4:=by omega
   obtain⟨m,hm⟩:∃m,4-k=m+1:=⟨3-k,by omega⟩
   by_cases h0:(over ts z).size=0
   ·have HF:Hid (under ts 4 x y=false):=by rw[HZ.o.2,hm];exact zkB ts m HZ.o.1 h0
    have h0':(over ts z).toList.isEmpty=true:=by rw[zy];simpa using h0
    clear h0 hm
    go_wp2_with (go_at_call 146;refine(zc3 _ _ _ _ _ hw).mono ?_;rintro e w'⟨rfl,rfl⟩)
    go_ret;exact⟨ze HF.o.symm,rfl⟩
   ·have HO:Hid (under ts 4 x y=under ts m (over ts z) y):=by rw[Hid,HZ.o.2,hm];exact zn6 ts m HZ.o.1 h0
    have h0':(over ts z).toList.isEmpty=false:=by rw[zy];simpa using h0
    clear h0
    by_cases hy:over ts z=y
    ·have HF:Hid (under ts 4 x y=true):=by rw[Hid,HO.o];exact zeE ts m _ _ hy
     have hy':((over ts z).toList == y.toList)=true:=by rw[beq_toList];simpa using hy
     clear hy
     go_wp2_with (go_at_call 146;refine(zc3 _ _ _ _ _ hw).mono ?_;rintro e w'⟨rfl,rfl⟩)
     go_ret;exact⟨ze HF.o.symm,rfl⟩
    ·have hy':((over ts z).toList == y.toList)=false:=by rw[beq_toList];simpa using hy
     have HY:=hid hy;clear hy
     go_wp2_with (go_at_call 146;refine(zc3 _ _ _ _ _ hw).mono ?_;rintro e w'⟨rfl,rfl⟩)
     go_round
     case rel=>exact⟨k+1,over ts z,by omega,rfl,by go_num,HY.o,by rw[HO.o,show 4-(k+1)=m by omega]⟩
     case measure=>simp[intOf];omega
  ·have HF:Hid (under ts 4 x y=false):=by
    have e:4-k=0:=by omega
    rw[Hid,HZ.o.2,e];exact zlP ts HZ.o.1
   go_wp2_with fail
   go_ret;exact⟨ze HF.o.symm,rfl⟩
theorem zll (a:OA)(cap:Nat)(ts:List Tm)(x y:BA)(w:World)(hw:jS w a ts) :
 Calls Tryz.prog 235 #[.l a ts.length cap,.s x,.s y] w fun e w'=>e=.returned (.bool (under ts 4 x y))/\Bw w w':=by
 by_cases hxy:x=y
 ·have HF:=hid (zeE ts 4 x y hxy)
  have hbe:(x.toList == y.toList)=true:=by rw[beq_toList];simpa using hxy
  clear hxy;go_enter Tryz.func235,Tryz.ntmps235;go_wp2_with fail
  go_ret;exact⟨ze HF.o.symm,bRf _ _⟩
 have hbe:(x.toList == y.toList)=false:=by rw[beq_toList];simpa using hxy
 have HXY:=hid hxy;clear hxy;go_enter Tryz.func235,Tryz.ntmps235;go_wp2_with fail
 go_loopw [1,10] (fun p i wr=>∃(k:Nat) (z:BA),k<=4/\p=.s z/\i=.i k/\¬z=y/\under ts 4 x y=under ts (4-k) z y/\Bw w wr) (fun _ i _=>4-(intOf i).toNat)
 case atStart=>exact⟨0,x,Nat.zero_le _,rfl,rfl,HXY.o,rfl,bRf _ _⟩
 case round=>
  obtain⟨k,z,hk,rfl,rfl,hz,hu,hB⟩:=hrel;have HZ:=yU hz hu;clear hz hu hbe
  by_cases hlt:k<4
  ·have hltI:(k:Int)<4:=by omega
   obtain⟨m,hm⟩:∃m,4-k=m+1:=⟨3-k,by omega⟩
   by_cases h0:(over ts z).size=0
   ·have HF:Hid (under ts 4 x y=false):=by rw[HZ.o.2,hm];exact zkB ts m HZ.o.1 h0
    have h0':(over ts z).toList.isEmpty=true:=by rw[zy];simpa using h0
    clear h0 hm;go_wp2_with fail
    refine(zec _ _ _ _ _ (hw.mono hB)).mono ?_;rintro e w1⟨rfl,hb1⟩;have hB1:=hB.trans (hb1.mono hB.size);clear hb1;go_wp2_with fail
    go_ret;exact⟨ze HF.o.symm,hB1⟩
   ·have HO:Hid (under ts 4 x y=under ts m (over ts z) y):=by rw[Hid,HZ.o.2,hm];exact zn6 ts m HZ.o.1 h0
    have h0':(over ts z).toList.isEmpty=false:=by rw[zy];simpa using h0
    clear h0
    by_cases hy:over ts z=y
    ·have HF:Hid (under ts 4 x y=true):=by rw[Hid,HO.o];exact zeE ts m _ _ hy
     have hy':((over ts z).toList == y.toList)=true:=by rw[beq_toList];simpa using hy
     clear hy;go_wp2_with fail
     refine(zec _ _ _ _ _ (hw.mono hB)).mono ?_;rintro e w1⟨rfl,hb1⟩;have hB1:=hB.trans (hb1.mono hB.size);clear hb1;go_wp2_with fail
     go_ret;exact⟨ze HF.o.symm,hB1⟩
    ·have hy':((over ts z).toList == y.toList)=false:=by rw[beq_toList];simpa using hy
     have HY:=hid hy;clear hy;go_wp2_with fail
     refine(zec _ _ _ _ _ (hw.mono hB)).mono ?_;rintro e w1⟨rfl,hb1⟩;have hB1:=hB.trans (hb1.mono hB.size);clear hb1;go_wp2_with fail
     exact⟨⟨k+1,over ts z,by omega,rfl,by go_num,HY.o,by rw[HO.o,show 4-(k+1)=m by omega],hB1⟩,by simp[intOf];omega⟩
  ·have HF:Hid (under ts 4 x y=false):=by
    have e:4-k=0:=by omega
    rw[Hid,HZ.o.2,e];exact zlP ts HZ.o.1
   go_wp2_with fail
   go_ret;exact⟨ze HF.o.symm,hB⟩
end Go.Proofs.YtbfgkhgmnfghgaaGreat
namespace Go.Proofs.YtbfgkhgmnfghgaaGreat
open Go.ChangeShapes Go.WideShapes Go.ChangeAt Go.RowKit
theorem Tryz.zqr:Tryz.prog.cellsOf 112=1:=by kernel_rfl
theorem Tryz.zlx:Tryz.prog.cellsOf 114=4:=by kernel_rfl
section
variable {H:Type} {enc:TypeId × Value->H} {w:World} {base:Nat} {spare:Nat->Bool} {held:Bool}
theorem zqn {fuel:Nat}{cs:List Value}{x:DataW H × List MemPlace}(h:DataW.trod enc Tryz.prog w base spare held fuel 112 cs=some x) :
 ∃a cap vs,cs=[.l a (List.length vs) cap]/\qp w a vs:=by
 obtain⟨a,len,cap,rfl,hm,hr⟩:=za1 Tryz.underlying112 Tryz.jX (by omega) h
 rcases Nat.eq_zero_or_pos len with h0|hp
 ·subst h0
  exact⟨a,cap,[],rfl,⟨by simp[maxLen],fun h=>absurd rfl h⟩⟩
 ·obtain⟨b,off,rfl,hb,hrow⟩:=hr hp
  have hf:∀i,i<len->∃v:Int,w.cell? (aD b (off+i))=some (.i v):=by
   intro i hi;obtain⟨es,n,y,hel,hcell,hy⟩:=hrow i hi;obtain⟨v,e0,_,_⟩:=DataW.trod_int Tryz.underlying3 hy;subst e0;exact⟨v,by simpa using hcell 0 (by omega)⟩
  obtain⟨vs,hl,hvs⟩:=zcd len hf;exact⟨_,cap,vs,by rw[hl],⟨by omega,fun _=>⟨b,off,rfl,hb,hvs⟩⟩⟩
theorem zpZ {fuel:Nat}{cs:List Value}{x:DataW H × List MemPlace}(h:DataW.trod enc Tryz.prog w base spare held fuel 114 cs=some x) :
 ∃(r:Rl) (a:OA) (cap:Nat),cs=(r.cells a cap).toList/\r.Small/\qp w a r.vs:=by
 have hlen:cs.length=4:=by
  obtain⟨_,_,_,_,hl,_,_⟩:=DataW.trod_struct Tryz.underlying114 h;rw[hl];exact Tryz.zlx
 match cs,hlen with
 | [c0,c1,c2,c3],_=>
  have hf:=zaf Tryz.underlying114 h;obtain⟨_,_,f0⟩:=hf 0 112 0 c0 rfl Tryz.zqr rfl;obtain⟨_,_,f1⟩:=hf 1 9 1 c1 rfl Tryz.zT rfl;obtain⟨_,_,f2⟩:=hf 2 9 2 c2 rfl Tryz.zT rfl;obtain⟨_,_,f3⟩:=hf 3 9 3 c3 rfl Tryz.zT rfl;obtain⟨a,cap,vs,e0,hI⟩:=zqn f0;obtain⟨x1,e1,_,s1⟩:=DataW.trod_string Tryz.underlying9 f1;obtain⟨x2,e2,_,s2⟩:=DataW.trod_string Tryz.underlying9 f2;obtain⟨x3,e3,_,s3⟩:=DataW.trod_string Tryz.underlying9 f3;simp only[List.cons.injEq,and_true]at e0 e1 e2 e3;subst e0 e1 e2 e3;exact⟨⟨vs,x1,x2,x3⟩,a,cap,rfl,⟨s1,s2,s3⟩,hI⟩
end
end Go.Proofs.YtbfgkhgmnfghgaaGreat
