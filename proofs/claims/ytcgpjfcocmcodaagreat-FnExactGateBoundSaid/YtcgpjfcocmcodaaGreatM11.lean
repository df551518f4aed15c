import Derived.Test.YtcgpjfcocmcodaaGreatM10
set_option maxHeartbeats 1000000
namespace Go.Proofs.YtcgpjfcocmcodaaGreat
open Go.RowKit
theorem zrB {o:Ob}{l:Int}(h:(zdZ o:Int)<=l)(hl:l<=1048576):o.vs.length<=1048576/\o.hs.length<=1048576:=by
 unfold zdZ qQ at h;omega
theorem zdd (v:Int)(w:World) :
 Calls Tryz.prog 231 #[.i v] w fun e w'=>e=.returned (.bool (za1 v))/\w'=w:=by
 go_enter Tryz.func231,Tryz.ntmps231
 go_wp2
 all_goals
  go_ret;refine⟨ze ?_,rfl⟩;rw[Bool.eq_iff_iff];simp[za1];try omega
theorem zdJ {vs:List Int}{k:Nat}(h:k<vs.length)(hn:za1 vs[k]=false):qw vs k=false:=by
 unfold qw;rw[getD_at vs k _ h,hn];rfl
theorem zby {vs:List Int}(h:0<vs.length)(hn:za1 vs[0]=true):qw vs 0=true:=by
 unfold qw;rw[getD_at vs 0 _ h,hn];rfl
theorem zin {vs:List Int}{k:Nat}(h:k+1<vs.length)(hn:za1 vs[k+1]=true):qw vs (k+1)=decide (vs[k]<vs[k+1]):=by
 unfold qw;rw[getD_at vs (k+1) _ h,Nat.add_sub_cancel,getD_at vs k _ (by omega),hn];simp
theorem qE (a:OA)(cap:Nat)(vs:List Int)(w:World)(hw:qm w a vs) :
 Calls Tryz.prog 214 #[.l a vs.length cap] w fun e w'=>e=.returned (.bool (jc vs))/\w'=w:=by
 have hl:=hw.len;unfold maxLen at hl;have HG:Hid (up (qw vs) vs.length=false->jc vs=false):=fun h=>by unfold jc;rw[h,Bool.and_false]
 go_enter Tryz.func214,Tryz.ntmps214;go_wp2_with fail
 go_loop [7] (fun i=>∃k:Nat,k<=vs.length/\i=.i k/\up (qw vs) k=true) (fun i=>vs.length-(intOf i).toNat)
 case atStart=>exact⟨0,Nat.zero_le _,rfl,rfl⟩
 case round=>
  obtain⟨k,hk,rfl,hup⟩:=hrel
  by_cases hlt:k<vs.length
  ·obtain⟨b,off,rfl,hb,hck⟩:=hw.load (bRf _ _) k hlt
   have hltI:(k:Int)<(vs.length:Int):=by omega
   by_cases hn:za1 vs[k]=true
   ·by_cases hk0:k=0
    ·have HF:Hid (up (qw vs) (k+1)=true):=by subst hk0;unfold Hid;rw[q8,zby hlt hn];rfl
     have hg:decide (0<k)=false:=by simp;omega
     have HN:=hid hn;clear hn hup hk0 hw
     go_wp2_with (go_at_call 231;refine(zf HN.o (zdd _ _)).mono ?_;rintro e w'⟨rfl,rfl⟩)
     go_round
     case rel=>exact⟨k+1,by omega,by go_num,HF.o⟩
     case measure=>simp[intOf];omega
    ·obtain⟨m,rfl⟩:∃m,k=m+1:=⟨k-1,by omega⟩
     obtain⟨b',off',e',hb',hcm⟩:=hw.load (bRf _ _) m (by omega);simp only[Option.some.injEq,Addr.mk.injEq]at e';obtain⟨rfl,rfl,_⟩:=e';have HU:Hid (up (qw vs) (m+1+1)=decide (vs[m]<vs[m+1])):=by unfold Hid;rw[q8,hup,zin hlt hn];rfl
     have HNN:Hid (¬vs[m]<vs[m+1]->jc vs=false):=fun h=>HG.o (zaK hlt (by rw[zin hlt hn];simpa using h))
     have HN:=hid hn;clear hn hup hk0 hw
     by_cases hls:vs[m]<vs[m+1]
     ·have hls':decide (vs[m+1]<=vs[m])=false:=by simp;omega
      have HLS:=hid hls;clear hls
      go_wp2_with (go_at_call 231;refine(zf HN.o (zdd _ _)).mono ?_;rintro e w'⟨rfl,rfl⟩)
      go_round
      case rel=>exact⟨m+1+1,by omega,by go_num,by rw[HU.o];simpa using HLS.o⟩
      case measure=>simp[intOf];omega
     ·have hls':vs[m+1]<=vs[m]:=by omega
      have HLS:=hid hls;clear hls
      go_wp2_with (go_at_call 231;refine(zf HN.o (zdd _ _)).mono ?_;rintro e w'⟨rfl,rfl⟩)
      go_ret;exact⟨ze (HNN.o HLS.o).symm,rfl⟩
   ·have hn':za1 vs[k]=false:=by simpa using hn
    have HF:=hid (HG.o (zaK hlt (zdJ hlt hn')));have HN:=hid hn';clear hn hn' hup hw
    go_wp2_with (go_at_call 231;refine(zf HN.o (zdd _ _)).mono ?_;rintro e w'⟨rfl,rfl⟩)
    go_ret;exact⟨ze HF.o.symm,rfl⟩
  ·have HF:Hid (jc vs=decide (0<vs.length)):=by
    have e:k=vs.length:=by omega
    subst e;unfold Hid jc;rw[hup,Bool.and_true]
   clear hw hup;go_wp2_with fail
   go_ret;exact⟨ze (by rw[HF.o]),rfl⟩
theorem zfV {α:Type}(p:α->Bool)(l:List α)(k:Nat)(h:k<l.length):(l.take (k+1)).any p=((l.take k).any p||p l[k]):=by
 rw[tSe h,List.any_append];simp
theorem zqA {α:Type}(p:α->Bool)(l:List α)(k:Nat)(h:k<l.length)(hp:p l[k]=true):l.any p=true:=by
 rw[List.any_eq_true];exact⟨l[k],List.getElem_mem h,hp⟩
def zh4 (P:Program)(fid:Nat)(q:Value)(ts:List Tm)(w:World)(p:Tm->Bool):Prop:=
 ∀w1,Bw w w1->∀i (h:i<ts.length),Calls P fid #[.agg ts[i].cells,q] w1 fun e w'=>e=.returned (.bool (p ts[i]))/\Bw w1 w'
theorem zkq (a:OA)(cap:Nat)(ts:List Tm)(q:Value)(p:Tm->Bool)(w:World)(hw:jR w a ts)(hf:zh4 Tryz.prog 93 q ts w p) :
 Calls Tryz.prog 141 #[.l a ts.length cap,.func (.func 93) #[] #[q]] w fun e w'=>∃r:Int,e=.returned (.i r)/\decide (0<=r)=ts.any p/\Bw w w':=by
 have hl:=hw.len;unfold maxLen at hl;go_enter Tryz.func141,Tryz.ntmps141;go_wp2_with fail
 go_loopw [8] (fun i wr=>∃k:Nat,k<=ts.length/\i=.i k/\(ts.take k).any p=false/\Bw w wr) (fun i _=>ts.length-(intOf i).toNat)
 case atStart=>exact⟨0,Nat.zero_le _,rfl,rfl,bRf _ _⟩
 case round=>
  obtain⟨k,hk,rfl,hno,hB⟩:=hrel
  by_cases hlt:k<ts.length
  ·obtain⟨b,off,rfl,hb,c0,c1⟩:=hw.load hB k hlt
   have hltI:(k:Int)<(ts.length:Int):=by omega
   have hc:=hf wr hB k hlt;clear hw hf
   by_cases he:p ts[k]=true
   ·have HA:Hid (ts.any p=true):=zqA p ts k hlt he
    have HE:Hid (p ts[k]=true):=he;clear he hno;go_wp2_with fail
    refine(zf HE.o hc).mono ?_;rintro e w2⟨rfl,hb2⟩;go_wp2_with fail
    go_ret;exact⟨_,rfl,by rw[HA.o];simp,hB.trans (hb2.mono hB.size)⟩
   ·have he':p ts[k]=false:=by simpa using he
    have HS:Hid ((ts.take (k+1)).any p=false):=by unfold Hid;rw[zfV p ts k hlt,hno,he'];rfl
    have HE:Hid (p ts[k]=false):=he';clear he he' hno;go_wp2_with fail
    refine(zf HE.o hc).mono ?_;rintro e w2⟨rfl,hb2⟩;go_wp2_with fail
    exact⟨⟨k+1,by omega,by go_num,HS.o,hB.trans (hb2.mono hB.size)⟩,by simp[intOf];omega⟩
  ·have HA:Hid (ts.any p=false):=by unfold Hid;rw[<- hno,tOl (by omega)]
   clear hno hw hf;go_wp2_with fail
   go_ret;exact⟨_,rfl,by rw[HA.o];rfl,hB⟩
theorem zgw (a:OA)(cap:Nat)(ts:List Tm)(q:Value)(p:Tm->Bool)(w:World)(hw:jR w a ts)(hf:zh4 Tryz.prog 93 q ts w p) :
 Calls Tryz.prog 92 #[.l a ts.length cap,.func (.func 93) #[] #[q]] w fun e w'=>e=.returned (.bool (ts.any p))/\Bw w w':=by
 go_enter Tryz.func92,Tryz.ntmps92;go_wp2_with fail
 refine(zkq _ _ _ _ _ _ hw hf).mono ?_;rintro e w2⟨r,rfl,hr,hb2⟩;go_wp2_with fail
 go_ret;exact⟨rfl,hb2⟩
theorem zjC (a:OA)(cap:Nat)(ts:List Tm)(q:Value)(p:Tm->Bool)(w:World)(hw:jR w a ts)(hf:zh4 Tryz.prog 169 q ts w p) :
 Calls Tryz.prog 141 #[.l a ts.length cap,.func (.func 169) #[] #[q]] w fun e w'=>∃r:Int,e=.returned (.i r)/\decide (0<=r)=ts.any p/\Bw w w':=by
 have hl:=hw.len;unfold maxLen at hl;go_enter Tryz.func141,Tryz.ntmps141;go_wp2_with fail
 go_loopw [8] (fun i wr=>∃k:Nat,k<=ts.length/\i=.i k/\(ts.take k).any p=false/\Bw w wr) (fun i _=>ts.length-(intOf i).toNat)
 case atStart=>exact⟨0,Nat.zero_le _,rfl,rfl,bRf _ _⟩
 case round=>
  obtain⟨k,hk,rfl,hno,hB⟩:=hrel
  by_cases hlt:k<ts.length
  ·obtain⟨b,off,rfl,hb,c0,c1⟩:=hw.load hB k hlt
   have hltI:(k:Int)<(ts.length:Int):=by omega
   have hc:=hf wr hB k hlt;clear hw hf
   by_cases he:p ts[k]=true
   ·have HA:Hid (ts.any p=true):=zqA p ts k hlt he
    have HE:Hid (p ts[k]=true):=he;clear he hno;go_wp2_with fail
    refine(zf HE.o hc).mono ?_;rintro e w2⟨rfl,hb2⟩;go_wp2_with fail
    go_ret;exact⟨_,rfl,by rw[HA.o];simp,hB.trans (hb2.mono hB.size)⟩
   ·have he':p ts[k]=false:=by simpa using he
    have HS:Hid ((ts.take (k+1)).any p=false):=by unfold Hid;rw[zfV p ts k hlt,hno,he'];rfl
    have HE:Hid (p ts[k]=false):=he';clear he he' hno;go_wp2_with fail
    refine(zf HE.o hc).mono ?_;rintro e w2⟨rfl,hb2⟩;go_wp2_with fail
    exact⟨⟨k+1,by omega,by go_num,HS.o,hB.trans (hb2.mono hB.size)⟩,by simp[intOf];omega⟩
  ·have HA:Hid (ts.any p=false):=by unfold Hid;rw[<- hno,tOl (by omega)]
   clear hno hw hf;go_wp2_with fail
   go_ret;exact⟨_,rfl,by rw[HA.o];rfl,hB⟩
theorem zhg (a:OA)(cap:Nat)(ts:List Tm)(q:Value)(p:Tm->Bool)(w:World)(hw:jR w a ts)(hf:zh4 Tryz.prog 169 q ts w p) :
 Calls Tryz.prog 92 #[.l a ts.length cap,.func (.func 169) #[] #[q]] w fun e w'=>e=.returned (.bool (ts.any p))/\Bw w w':=by
 go_enter Tryz.func92,Tryz.ntmps92;go_wp2_with fail
 refine(zjC _ _ _ _ _ _ hw hf).mono ?_;rintro e w2⟨r,rfl,hr,hb2⟩;go_wp2_with fail
 go_ret;exact⟨rfl,hb2⟩
theorem zmA (t:Tm)(v:BA)(bn:Nat)(w:World)(hb:bn<w.heap.size)(hn:w.cell? (aD bn 0)=some (.s v)) :
 Calls Tryz.prog 93 #[.agg t.cells,.pointer (some (aD bn 0))] w fun e w'=>e=.returned (.bool (t.nm.toList == v.toList))/\Bw w w':=by
 unfold Tm.cells;go_enter Tryz.func93,Tryz.ntmps93;go_wp2_with fail
 go_ret;exact⟨rfl,bAl _ _⟩
theorem znr (ts:List Tm)(v:BA)(bn:Nat)(w:World)(hb:bn<w.heap.size)(hn:w.cell? (aD bn 0)=some (.s v)) :
 zh4 Tryz.prog 93 (.pointer (some (aD bn 0))) ts w (fun t=>decide (t.nm=v)):=fun w1 hB i hi=>by
 refine(zmA ts[i] v bn w1 (nLt hb hB.size) ((hB.cell (p:=(aD bn 0)) hb).trans hn)).mono ?_;rintro e w'⟨rfl,hb'⟩;exact⟨ze (beq_toList _ _),hb'⟩
theorem zbW (a:OA)(cap:Nat)(ts:List Tm)(v:BA)(w:World)(hw:jR w a ts) :
 Calls Tryz.prog 39 #[.l a ts.length cap,.s v] w fun e w'=>e=.returned (.bool (z8 ts v))/\Bw w w':=by
 go_enter Tryz.func39,Tryz.ntmps39;go_wp2_with fail
 refine(zgw _ _ _ _ _ _ (hw.mono (bAl _ _)) (znr ts v _ _ (by simp) (by rw[World.cell?_alloc_at _ _ _ _ rfl];rfl))).mono ?_;rintro e w2⟨rfl,hb2⟩;go_wp2_with fail
 go_ret;exact⟨rfl,(bAl _ _).trans (hb2.mono (by simp))⟩
theorem zlg (a:OA)(cap:Nat)(ts:List Tm)(t:Tm)(w:World)(hw:jR w a ts) :
 Calls Tryz.prog 170 #[.l a ts.length cap,.agg t.cells] w fun e w'=>e=.returned (.bool (!zek ts t))/\Bw w w':=by
 unfold Tm.cells;go_enter Tryz.func170,Tryz.ntmps170;go_wp2_with fail
 go_loopw [5,8] (fun p i wr=>∃(k:Nat) (z:BA),k<=4/\p=.s z/\i=.i k/\ze7 ts 4 t.ov=ze7 ts (4-k) z/\Bw w wr) (fun _ i _=>4-(intOf i).toNat)
 case atStart=>exact⟨0,t.ov,Nat.zero_le _,rfl,rfl,rfl,bAl _ _⟩
 case round=>
  obtain⟨k,z,hk,rfl,rfl,hz,hB⟩:=hrel
  by_cases hlt:k<4
  ·have hltI:(k:Int)<4:=by omega
   have HZ:Hid (ze7 ts 4 t.ov=ze7 ts (4-(k+1)) (over ts z)):=by
    obtain⟨m,hm⟩:∃m,4-k=m+1:=⟨3-k,by omega⟩
    rw[Hid,hz,hm,show 4-(k+1)=m by omega];rfl
   clear hz;go_wp2_with fail
   refine(zei _ _ _ _ _ (hw.mono hB)).mono ?_;rintro e w1⟨rfl,hb1⟩;have hB1:=hB.trans (hb1.mono hB.size);clear hb1;go_wp2_with fail
   exact⟨⟨k+1,over ts z,by omega,rfl,by go_num,HZ.o,hB1⟩,by simp[intOf];omega⟩
  ·have HF:Hid (zek ts t=z.toList.isEmpty):=by
    have e:4-k=0:=by omega
    rw[e]at hz;unfold Hid zek;rw[hz,zy];rfl
   clear hz;go_wp2_with fail
   go_ret;exact⟨ze (by rw[HF.o]),hB⟩
theorem zpj (a:OA)(cap:Nat)(ts:List Tm)(t:Tm)(bn:Nat)(w:World)(hw:jR w a ts)(hb:bn<w.heap.size)(hn:w.cell? (aD bn 0)=some (.l a ts.length cap)) :
 Calls Tryz.prog 169 #[.agg t.cells,.pointer (some (aD bn 0))] w fun e w'=>e=.returned (.bool (!zek ts t))/\Bw w w':=by
 unfold Tm.cells;go_enter Tryz.func169,Tryz.ntmps169;go_wp2_with fail
 refine(zlg _ _ _ t _ (hw.mono (bAl _ _))).mono ?_;rintro e w2⟨rfl,hb2⟩;go_wp2_with fail
 go_ret;exact⟨rfl,(bAl _ _).trans (hb2.mono (by simp))⟩
theorem zqd (a:OA)(cap:Nat)(ts:List Tm)(bn:Nat)(w:World)(hw:jR w a ts)(hb:bn<w.heap.size)(hn:w.cell? (aD bn 0)=some (.l a ts.length cap)) :
 zh4 Tryz.prog 169 (.pointer (some (aD bn 0))) ts w (fun t=>!zek ts t):=fun w1 hB i _=>
 zpj a cap ts ts[i] bn w1 (hw.mono hB) (nLt hb hB.size) ((hB.cell (p:=(aD bn 0)) hb).trans hn)
theorem zli (a:OA)(cap:Nat)(ts:List Tm)(x y:BA)(w:World)(hw:jR w a ts) :
 Calls Tryz.prog 76 #[.l a ts.length cap,.s x,.s y] w fun e w'=>e=.returned (.bool (under ts 4 x y))/\w'=w:=by
 by_cases hxy:x=y
 ·have HF:=hid (zd6 ts 4 x y hxy)
  have hbe:(x.toList == y.toList)=true:=by rw[beq_toList];simpa using hxy
  clear hxy;go_enter Tryz.func76,Tryz.ntmps76;go_wp2_with fail
  go_ret;exact⟨ze HF.o.symm,rfl⟩
 have hbe:(x.toList == y.toList)=false:=by rw[beq_toList];simpa using hxy
 have HXY:=hid hxy;clear hxy;go_enter Tryz.func76,Tryz.ntmps76;go_wp2_with fail
 go_loop [1,7] (fun p i=>∃(k:Nat) (z:BA),k<=4/\p=.s z/\i=.i k/\¬z=y/\under ts 4 x y=under ts (4-k) z y) (fun _ i=>4-(intOf i).toNat)
 case atStart=>exact⟨0,x,Nat.zero_le _,rfl,rfl,HXY.o,rfl⟩
 case round=>
  obtain⟨k,z,hk,rfl,rfl,hz,hu⟩:=hrel;have HZ:=ql hz hu;clear hz hu hbe
  by_cases hlt:k<4
  ·have hltI:(k:Int)<4:=by omega
   obtain⟨m,hm⟩:∃m,4-k=m+1:=⟨3-k,by omega⟩
   by_cases h0:(over ts z).size=0
   ·have HF:Hid (under ts 4 x y=false):=by rw[HZ.o.2,hm];exact zkk ts m HZ.o.1 h0
    have h0':(over ts z).toList.isEmpty=true:=by rw[zy];simpa using h0
    clear h0 hm
    go_wp2_with (go_at_call 126;refine(zcW _ _ _ _ _ hw).mono ?_;rintro e w'⟨rfl,rfl⟩)
    go_ret;exact⟨ze HF.o.symm,rfl⟩
   ·have HO:Hid (under ts 4 x y=under ts m (over ts z) y):=by rw[Hid,HZ.o.2,hm];exact znR ts m HZ.o.1 h0
    have h0':(over ts z).toList.isEmpty=false:=by rw[zy];simpa using h0
    clear h0
    by_cases hy:over ts z=y
    ·have HF:Hid (under ts 4 x y=true):=by rw[Hid,HO.o];exact zd6 ts m _ _ hy
     have hy':((over ts z).toList == y.toList)=true:=by rw[beq_toList];simpa using hy
     clear hy
     go_wp2_with (go_at_call 126;refine(zcW _ _ _ _ _ hw).mono ?_;rintro e w'⟨rfl,rfl⟩)
     go_ret;exact⟨ze HF.o.symm,rfl⟩
    ·have hy':((over ts z).toList == y.toList)=false:=by rw[beq_toList];simpa using hy
     have HY:=hid hy;clear hy
     go_wp2_with (go_at_call 126;refine(zcW _ _ _ _ _ hw).mono ?_;rintro e w'⟨rfl,rfl⟩)
     go_round
     case rel=>exact⟨k+1,over ts z,by omega,rfl,by go_num,HY.o,by rw[HO.o,show 4-(k+1)=m by omega]⟩
     case measure=>simp[intOf];omega
  ·have HF:Hid (under ts 4 x y=false):=by
    have e:4-k=0:=by omega
    rw[Hid,HZ.o.2,e];exact zlM ts HZ.o.1
   go_wp2_with fail
   go_ret;exact⟨ze HF.o.symm,rfl⟩
theorem zkK (a:OA)(cap:Nat)(ts:List Tm)(x y:BA)(w:World)(hw:jR w a ts) :
 Calls Tryz.prog 98 #[.l a ts.length cap,.s x,.s y] w fun e w'=>e=.returned (.bool (under ts 4 x y))/\Bw w w':=by
 by_cases hxy:x=y
 ·have HF:=hid (zd6 ts 4 x y hxy)
  have hbe:(x.toList == y.toList)=true:=by rw[beq_toList];simpa using hxy
  clear hxy;go_enter Tryz.func98,Tryz.ntmps98;go_wp2_with fail
  go_ret;exact⟨ze HF.o.symm,bRf _ _⟩
 have hbe:(x.toList == y.toList)=false:=by rw[beq_toList];simpa using hxy
 have HXY:=hid hxy;clear hxy;go_enter Tryz.func98,Tryz.ntmps98;go_wp2_with fail
 go_loopw [1,10] (fun p i wr=>∃(k:Nat) (z:BA),k<=4/\p=.s z/\i=.i k/\¬z=y/\under ts 4 x y=under ts (4-k) z y/\Bw w wr) (fun _ i _=>4-(intOf i).toNat)
 case atStart=>exact⟨0,x,Nat.zero_le _,rfl,rfl,HXY.o,rfl,bRf _ _⟩
 case round=>
  obtain⟨k,z,hk,rfl,rfl,hz,hu,hB⟩:=hrel;have HZ:=ql hz hu;clear hz hu hbe
  by_cases hlt:k<4
  ·have hltI:(k:Int)<4:=by omega
   obtain⟨m,hm⟩:∃m,4-k=m+1:=⟨3-k,by omega⟩
   by_cases h0:(over ts z).size=0
   ·have HF:Hid (under ts 4 x y=false):=by rw[HZ.o.2,hm];exact zkk ts m HZ.o.1 h0
    have h0':(over ts z).toList.isEmpty=true:=by rw[zy];simpa using h0
    clear h0 hm;go_wp2_with fail
    refine(zei _ _ _ _ _ (hw.mono hB)).mono ?_;rintro e w1⟨rfl,hb1⟩;have hB1:=hB.trans (hb1.mono hB.size);clear hb1;go_wp2_with fail
    go_ret;exact⟨ze HF.o.symm,hB1⟩
   ·have HO:Hid (under ts 4 x y=under ts m (over ts z) y):=by rw[Hid,HZ.o.2,hm];exact znR ts m HZ.o.1 h0
    have h0':(over ts z).toList.isEmpty=false:=by rw[zy];simpa using h0
    clear h0
    by_cases hy:over ts z=y
    ·have HF:Hid (under ts 4 x y=true):=by rw[Hid,HO.o];exact zd6 ts m _ _ hy
     have hy':((over ts z).toList == y.toList)=true:=by rw[beq_toList];simpa using hy
     clear hy;go_wp2_with fail
     refine(zei _ _ _ _ _ (hw.mono hB)).mono ?_;rintro e w1⟨rfl,hb1⟩;have hB1:=hB.trans (hb1.mono hB.size);clear hb1;go_wp2_with fail
     go_ret;exact⟨ze HF.o.symm,hB1⟩
    ·have hy':((over ts z).toList == y.toList)=false:=by rw[beq_toList];simpa using hy
     have HY:=hid hy;clear hy;go_wp2_with fail
     refine(zei _ _ _ _ _ (hw.mono hB)).mono ?_;rintro e w1⟨rfl,hb1⟩;have hB1:=hB.trans (hb1.mono hB.size);clear hb1;go_wp2_with fail
     exact⟨⟨k+1,over ts z,by omega,rfl,by go_num,HY.o,by rw[HO.o,show 4-(k+1)=m by omega],hB1⟩,by simp[intOf];omega⟩
  ·have HF:Hid (under ts 4 x y=false):=by
    have e:4-k=0:=by omega
    rw[Hid,HZ.o.2,e];exact zlM ts HZ.o.1
   go_wp2_with fail
   go_ret;exact⟨ze HF.o.symm,hB⟩
end Go.Proofs.YtcgpjfcocmcodaaGreat
namespace Go.Proofs.YtcgpjfcocmcodaaGreat
open Go.ChangeShapes Go.WideShapes Go.ChangeAt Go.RowKit
theorem Tryz.zqh:Tryz.prog.cellsOf 109=1:=by kernel_rfl
theorem Tryz.zlG:Tryz.prog.cellsOf 111=4:=by kernel_rfl
section
variable {H:Type} {enc:TypeId × Value->H} {w:World} {base:Nat} {spare:Nat->Bool} {held:Bool}
theorem zp7 {fuel:Nat}{cs:List Value}{x:DataW H × List MemPlace}(h:DataW.trod enc Tryz.prog w base spare held fuel 109 cs=some x) :
 ∃a cap vs,cs=[.l a (List.length vs) cap]/\qm w a vs:=by
 obtain⟨a,len,cap,rfl,hm,hr⟩:=zaY Tryz.underlying109 Tryz.jX (by omega) h
 rcases Nat.eq_zero_or_pos len with h0|hp
 ·subst h0
  exact⟨a,cap,[],rfl,⟨by simp[maxLen],fun h=>absurd rfl h⟩⟩
 ·obtain⟨b,off,rfl,hb,hrow⟩:=hr hp
  have hf:∀i,i<len->∃v:Int,w.cell? (aD b (off+i))=some (.i v):=by
   intro i hi;obtain⟨es,n,y,hel,hcell,hy⟩:=hrow i hi;obtain⟨v,e0,_,_⟩:=DataW.trod_int Tryz.underlying3 hy;subst e0;exact⟨v,by simpa using hcell 0 (by omega)⟩
  obtain⟨vs,hl,hvs⟩:=zb6 len hf;exact⟨_,cap,vs,by rw[hl],⟨by omega,fun _=>⟨b,off,rfl,hb,hvs⟩⟩⟩
theorem zpF {fuel:Nat}{cs:List Value}{x:DataW H × List MemPlace}(h:DataW.trod enc Tryz.prog w base spare held fuel 111 cs=some x) :
 ∃(r:Rl) (a:OA) (cap:Nat),cs=(r.cells a cap).toList/\r.Small/\qm w a r.vs:=by
 have hlen:cs.length=4:=by
  obtain⟨_,_,_,_,hl,_,_⟩:=DataW.trod_struct Tryz.underlying111 h;rw[hl];exact Tryz.zlG
 match cs,hlen with
 | [c0,c1,c2,c3],_=>
  have hf:=zai Tryz.underlying111 h;obtain⟨_,_,f0⟩:=hf 0 109 0 c0 rfl Tryz.zqh rfl;obtain⟨_,_,f1⟩:=hf 1 9 1 c1 rfl Tryz.zT rfl;obtain⟨_,_,f2⟩:=hf 2 9 2 c2 rfl Tryz.zT rfl;obtain⟨_,_,f3⟩:=hf 3 9 3 c3 rfl Tryz.zT rfl;obtain⟨a,cap,vs,e0,hI⟩:=zp7 f0;obtain⟨x1,e1,_,s1⟩:=DataW.trod_string Tryz.underlying9 f1;obtain⟨x2,e2,_,s2⟩:=DataW.trod_string Tryz.underlying9 f2;obtain⟨x3,e3,_,s3⟩:=DataW.trod_string Tryz.underlying9 f3;simp only[List.cons.injEq,and_true]at e0 e1 e2 e3;subst e0 e1 e2 e3;exact⟨⟨vs,x1,x2,x3⟩,a,cap,rfl,⟨s1,s2,s3⟩,hI⟩
end
end Go.Proofs.YtcgpjfcocmcodaaGreat
