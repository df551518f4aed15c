import Derived.Test.YtnapmdofidgliaaGreatM10
import Derived.Test.YtnapmdofidgliaaGreatM11
set_option maxHeartbeats 1000000
namespace Go.Proofs.YtnapmdofidgliaaGreat
open Go.RowKit
theorem zq4 {o:Ob}{l:Int}(h:(zdN o:Int)<=l)(hl:l<=1048576):o.vs.length<=1048576/\o.hs.length<=1048576:=by
 unfold zdN qX at h;omega
theorem zda (v:Int)(w:World) :
 Calls Tryz.prog 218 #[.int .i64 v] w fun e w'=>e=.returned (.bool (za6 v))/\w'=w:=by
 go_enter Tryz.func218,Tryz.ntmps218
 go_wp2
 all_goals
  go_ret;refine⟨ze ?_,rfl⟩;rw[Bool.eq_iff_iff];simp[za6];try omega
theorem zdC {vs:List Int}{k:Nat}(h:k<vs.length)(hn:za6 vs[k]=false):ql vs k=false:=by
 unfold ql;rw[getD_at vs k _ h,hn];rfl
theorem zbM {vs:List Int}(h:0<vs.length)(hn:za6 vs[0]=true):ql vs 0=true:=by
 unfold ql;rw[getD_at vs 0 _ h,hn];rfl
theorem zij {vs:List Int}{k:Nat}(h:k+1<vs.length)(hn:za6 vs[k+1]=true):ql vs (k+1)=decide (vs[k]<vs[k+1]):=by
 unfold ql;rw[getD_at vs (k+1) _ h,Nat.add_sub_cancel,getD_at vs k _ (by omega),hn];simp
theorem qE (a:Option Addr)(cap:Nat)(vs:List Int)(w:World)(hw:qy w a vs) :
 Calls Tryz.prog 200 #[.slice a vs.length cap] w fun e w'=>e=.returned (.bool (jc vs))/\w'=w:=by
 have hl:=hw.len;unfold maxLen at hl;have HG:Hid (up (ql vs) vs.length=false->jc vs=false):=fun h=>by unfold jc;rw[h,Bool.and_false]
 go_enter Tryz.func200,Tryz.ntmps200;go_wp2_with fail
 go_loop [7] (fun i=>∃k:Nat,k<=vs.length/\i=.int .i64 k/\up (ql vs) k=true) (fun i=>vs.length-(intOf i).toNat)
 case atStart=>exact⟨0,Nat.zero_le _,rfl,rfl⟩
 case round=>
  obtain⟨k,hk,rfl,hup⟩:=hrel
  by_cases hlt:k<vs.length
  ·obtain⟨b,off,rfl,hb,hck⟩:=hw.load (bRf _ _) k hlt
   have hltI:(k:Int)<(vs.length:Int):=by omega
   by_cases hn:za6 vs[k]=true
   ·by_cases hk0:k=0
    ·have HF:Hid (up (ql vs) (k+1)=true):=by subst hk0;unfold Hid;rw[q9,zbM hlt hn];rfl
     have hg:decide (0<k)=false:=by simp;omega
     have HN:=hid hn;clear hn hup hk0 hw
     go_wp2_with (go_at_call 218;refine(zf HN.out (zda _ _)).mono ?_;rintro e w'⟨rfl,rfl⟩)
     go_round
     case rel=>exact⟨k+1,by omega,by go_num,HF.out⟩
     case measure=>simp[intOf];omega
    ·obtain⟨m,rfl⟩:∃m,k=m+1:=⟨k-1,by omega⟩
     obtain⟨b',off',e',hb',hcm⟩:=hw.load (bRf _ _) m (by omega);simp only[Option.some.injEq,Addr.mk.injEq]at e';obtain⟨rfl,rfl,_⟩:=e';have HU:Hid (up (ql vs) (m+1+1)=decide (vs[m]<vs[m+1])):=by unfold Hid;rw[q9,hup,zij hlt hn];rfl
     have HNN:Hid (¬vs[m]<vs[m+1]->jc vs=false):=fun h=>HG.out (zaP hlt (by rw[zij hlt hn];simpa using h))
     have HN:=hid hn;clear hn hup hk0 hw
     by_cases hls:vs[m]<vs[m+1]
     ·have hls':decide (vs[m+1]<=vs[m])=false:=by simp;omega
      have HLS:=hid hls;clear hls
      go_wp2_with (go_at_call 218;refine(zf HN.out (zda _ _)).mono ?_;rintro e w'⟨rfl,rfl⟩)
      go_round
      case rel=>exact⟨m+1+1,by omega,by go_num,by rw[HU.out];simpa using HLS.out⟩
      case measure=>simp[intOf];omega
     ·have hls':vs[m+1]<=vs[m]:=by omega
      have HLS:=hid hls;clear hls
      go_wp2_with (go_at_call 218;refine(zf HN.out (zda _ _)).mono ?_;rintro e w'⟨rfl,rfl⟩)
      go_ret;exact⟨ze (HNN.out HLS.out).symm,rfl⟩
   ·have hn':za6 vs[k]=false:=by simpa using hn
    have HF:=hid (HG.out (zaP hlt (zdC hlt hn')));have HN:=hid hn';clear hn hn' hup hw
    go_wp2_with (go_at_call 218;refine(zf HN.out (zda _ _)).mono ?_;rintro e w'⟨rfl,rfl⟩)
    go_ret;exact⟨ze HF.out.symm,rfl⟩
  ·have HF:Hid (jc vs=decide (0<vs.length)):=by
    have e:k=vs.length:=by omega
    subst e;unfold Hid jc;rw[hup,Bool.and_true]
   clear hw hup;go_wp2_with fail
   go_ret;exact⟨ze (by rw[HF.out]),rfl⟩
theorem zfJ {α:Type}(p:α->Bool)(l:List α)(k:Nat)(h:k<l.length):(l.take (k+1)).any p=((l.take k).any p||p l[k]):=by
 rw[tSe h,List.any_append];simp
theorem zqi {α:Type}(p:α->Bool)(l:List α)(k:Nat)(h:k<l.length)(hp:p l[k]=true):l.any p=true:=by
 rw[List.any_eq_true];exact⟨l[k],List.getElem_mem h,hp⟩
def zhT (P:Program)(fid:Nat)(q:Value)(ts:List Tm)(w:World)(p:Tm->Bool):Prop:=
 ∀w1,Below w.heap.size w w1->∀i (h:i<ts.length),Calls P fid #[.agg ts[i].cells,q] w1 fun e w'=>e=.returned (.bool (p ts[i]))/\Below w1.heap.size w1 w'
theorem zjf (a:Option Addr)(cap:Nat)(ts:List Tm)(q:Value)(p:Tm->Bool)(w:World)(hw:jX w a ts)(hf:zhT Tryz.prog 191 q ts w p) :
 Calls Tryz.prog 192 #[.slice a ts.length cap,.func (.func 191) #[] #[q]] w fun e w'=>∃r:Int,e=.returned (.int .i64 r)/\decide (0<=r)=ts.any p/\Below w.heap.size w w':=by
 have hl:=hw.len;unfold maxLen at hl;go_enter Tryz.func192,Tryz.ntmps192;go_wp2_with fail
 go_loopw [8] (fun i wr=>∃k:Nat,k<=ts.length/\i=.int .i64 k/\(ts.take k).any p=false/\Below w.heap.size w wr) (fun i _=>ts.length-(intOf i).toNat)
 case atStart=>exact⟨0,Nat.zero_le _,rfl,rfl,bRf _ _⟩
 case round=>
  obtain⟨k,hk,rfl,hno,hB⟩:=hrel
  by_cases hlt:k<ts.length
  ·obtain⟨b,off,rfl,hb,c0,c1⟩:=hw.load hB k hlt
   have hltI:(k:Int)<(ts.length:Int):=by omega
   have hc:=hf wr hB k hlt;clear hw hf
   by_cases he:p ts[k]=true
   ·have HA:Hid (ts.any p=true):=zqi p ts k hlt he
    have HE:Hid (p ts[k]=true):=he;clear he hno;go_wp2_with fail
    refine(zf HE.out hc).mono ?_;rintro e w2⟨rfl,hb2⟩;go_wp2_with fail
    go_ret;exact⟨_,rfl,by rw[HA.out];simp,hB.trans (hb2.mono hB.size)⟩
   ·have he':p ts[k]=false:=by simpa using he
    have HS:Hid ((ts.take (k+1)).any p=false):=by unfold Hid;rw[zfJ p ts k hlt,hno,he'];rfl
    have HE:Hid (p ts[k]=false):=he';clear he he' hno;go_wp2_with fail
    refine(zf HE.out hc).mono ?_;rintro e w2⟨rfl,hb2⟩;go_wp2_with fail
    exact⟨⟨k+1,by omega,by go_num,HS.out,hB.trans (hb2.mono hB.size)⟩,by simp[intOf];omega⟩
  ·have HA:Hid (ts.any p=false):=by unfold Hid;rw[<- hno,tOl (by omega)]
   clear hno hw hf;go_wp2_with fail
   go_ret;exact⟨_,rfl,by rw[HA.out];rfl,hB⟩
theorem zgT (a:Option Addr)(cap:Nat)(ts:List Tm)(q:Value)(p:Tm->Bool)(w:World)(hw:jX w a ts)(hf:zhT Tryz.prog 191 q ts w p) :
 Calls Tryz.prog 149 #[.slice a ts.length cap,.func (.func 191) #[] #[q]] w fun e w'=>e=.returned (.bool (ts.any p))/\Below w.heap.size w w':=by
 go_enter Tryz.func149,Tryz.ntmps149;go_wp2_with fail
 refine(zjf _ _ _ _ _ _ hw hf).mono ?_;rintro e w2⟨r,rfl,hr,hb2⟩;go_wp2_with fail
 go_ret;exact⟨rfl,hb2⟩
theorem zkj (a:Option Addr)(cap:Nat)(ts:List Tm)(q:Value)(p:Tm->Bool)(w:World)(hw:jX w a ts)(hf:zhT Tryz.prog 150 q ts w p) :
 Calls Tryz.prog 192 #[.slice a ts.length cap,.func (.func 150) #[] #[q]] w fun e w'=>∃r:Int,e=.returned (.int .i64 r)/\decide (0<=r)=ts.any p/\Below w.heap.size w w':=by
 have hl:=hw.len;unfold maxLen at hl;go_enter Tryz.func192,Tryz.ntmps192;go_wp2_with fail
 go_loopw [8] (fun i wr=>∃k:Nat,k<=ts.length/\i=.int .i64 k/\(ts.take k).any p=false/\Below w.heap.size w wr) (fun i _=>ts.length-(intOf i).toNat)
 case atStart=>exact⟨0,Nat.zero_le _,rfl,rfl,bRf _ _⟩
 case round=>
  obtain⟨k,hk,rfl,hno,hB⟩:=hrel
  by_cases hlt:k<ts.length
  ·obtain⟨b,off,rfl,hb,c0,c1⟩:=hw.load hB k hlt
   have hltI:(k:Int)<(ts.length:Int):=by omega
   have hc:=hf wr hB k hlt;clear hw hf
   by_cases he:p ts[k]=true
   ·have HA:Hid (ts.any p=true):=zqi p ts k hlt he
    have HE:Hid (p ts[k]=true):=he;clear he hno;go_wp2_with fail
    refine(zf HE.out hc).mono ?_;rintro e w2⟨rfl,hb2⟩;go_wp2_with fail
    go_ret;exact⟨_,rfl,by rw[HA.out];simp,hB.trans (hb2.mono hB.size)⟩
   ·have he':p ts[k]=false:=by simpa using he
    have HS:Hid ((ts.take (k+1)).any p=false):=by unfold Hid;rw[zfJ p ts k hlt,hno,he'];rfl
    have HE:Hid (p ts[k]=false):=he';clear he he' hno;go_wp2_with fail
    refine(zf HE.out hc).mono ?_;rintro e w2⟨rfl,hb2⟩;go_wp2_with fail
    exact⟨⟨k+1,by omega,by go_num,HS.out,hB.trans (hb2.mono hB.size)⟩,by simp[intOf];omega⟩
  ·have HA:Hid (ts.any p=false):=by unfold Hid;rw[<- hno,tOl (by omega)]
   clear hno hw hf;go_wp2_with fail
   go_ret;exact⟨_,rfl,by rw[HA.out];rfl,hB⟩
theorem zgq (a:Option Addr)(cap:Nat)(ts:List Tm)(q:Value)(p:Tm->Bool)(w:World)(hw:jX w a ts)(hf:zhT Tryz.prog 150 q ts w p) :
 Calls Tryz.prog 149 #[.slice a ts.length cap,.func (.func 150) #[] #[q]] w fun e w'=>e=.returned (.bool (ts.any p))/\Below w.heap.size w w':=by
 go_enter Tryz.func149,Tryz.ntmps149;go_wp2_with fail
 refine(zkj _ _ _ _ _ _ hw hf).mono ?_;rintro e w2⟨r,rfl,hr,hb2⟩;go_wp2_with fail
 go_ret;exact⟨rfl,hb2⟩
theorem zlZ (t:Tm)(v:ByteArray)(bn:Nat)(w:World)(hb:bn<w.heap.size)(hn:w.cell? ⟨bn,0,none⟩=some (.string v)) :
 Calls Tryz.prog 191 #[.agg t.cells,.pointer (some ⟨bn,0,none⟩)] w fun e w'=>e=.returned (.bool (t.nm.toList == v.toList))/\Below w.heap.size w w':=by
 unfold Tm.cells;go_enter Tryz.func191,Tryz.ntmps191;go_wp2_with fail
 go_ret;exact⟨rfl,bAl _ _⟩
theorem zmW (ts:List Tm)(v:ByteArray)(bn:Nat)(w:World)(hb:bn<w.heap.size)(hn:w.cell? ⟨bn,0,none⟩=some (.string v)) :
 zhT Tryz.prog 191 (.pointer (some ⟨bn,0,none⟩)) ts w (fun t=>decide (t.nm=v)):=fun w1 hB i hi=>by
 refine(zlZ ts[i] v bn w1 (nLt hb hB.size) ((hB.cell (p:=⟨bn,0,none⟩) hb).trans hn)).mono ?_;rintro e w'⟨rfl,hb'⟩;exact⟨ze (beq_toList _ _),hb'⟩
theorem zb4 (a:Option Addr)(cap:Nat)(ts:List Tm)(v:ByteArray)(w:World)(hw:jX w a ts) :
 Calls Tryz.prog 148 #[.slice a ts.length cap,.string v] w fun e w'=>e=.returned (.bool (yG ts v))/\Below w.heap.size w w':=by
 go_enter Tryz.func148,Tryz.ntmps148;go_wp2_with fail
 refine(zgT _ _ _ _ _ _ (hw.mono (bAl _ _)) (zmW ts v _ _ (by simp) (by rw[World.cell?_alloc_at _ _ _ _ rfl];rfl))).mono ?_;rintro e w2⟨rfl,hb2⟩;go_wp2_with fail
 go_ret;exact⟨rfl,(bAl _ _).trans (hb2.mono (by simp))⟩
theorem zkT (a:Option Addr)(cap:Nat)(ts:List Tm)(t:Tm)(w:World)(hw:jX w a ts) :
 Calls Tryz.prog 151 #[.slice a ts.length cap,.agg t.cells] w fun e w'=>e=.returned (.bool (!zd7 ts t))/\Below w.heap.size w w':=by
 unfold Tm.cells;go_enter Tryz.func151,Tryz.ntmps151;go_wp2_with fail
 go_loopw [5,8] (fun p i wr=>∃(k:Nat) (z:ByteArray),k<=4/\p=.string z/\i=.int .i64 k/\zeR ts 4 t.ov=zeR ts (4-k) z/\Below w.heap.size w wr) (fun _ i _=>4-(intOf i).toNat)
 case atStart=>exact⟨0,t.ov,Nat.zero_le _,rfl,rfl,rfl,bAl _ _⟩
 case round=>
  obtain⟨k,z,hk,rfl,rfl,hz,hB⟩:=hrel
  by_cases hlt:k<4
  ·have hltI:(k:Int)<4:=by omega
   have HZ:Hid (zeR ts 4 t.ov=zeR ts (4-(k+1)) (over ts z)):=by
    obtain⟨m,hm⟩:∃m,4-k=m+1:=⟨3-k,by omega⟩
    rw[Hid,hz,hm,show 4-(k+1)=m by omega];rfl
   clear hz;go_wp2_with fail
   refine(zd1 _ _ _ _ _ (hw.mono hB)).mono ?_;rintro e w1⟨rfl,hb1⟩;have hB1:=hB.trans (hb1.mono hB.size);clear hb1;go_wp2_with fail
   exact⟨⟨k+1,over ts z,by omega,rfl,by go_num,HZ.out,hB1⟩,by simp[intOf];omega⟩
  ·have HF:Hid (zd7 ts t=z.toList.isEmpty):=by
    have e:4-k=0:=by omega
    rw[e]at hz;unfold Hid zd7;rw[hz,zq];rfl
   clear hz;go_wp2_with fail
   go_ret;exact⟨ze (by rw[HF.out]),hB⟩
theorem zoe (a:Option Addr)(cap:Nat)(ts:List Tm)(t:Tm)(bn:Nat)(w:World)(hw:jX w a ts)(hb:bn<w.heap.size)(hn:w.cell? ⟨bn,0,none⟩=some (.slice a ts.length cap)) :
 Calls Tryz.prog 150 #[.agg t.cells,.pointer (some ⟨bn,0,none⟩)] w fun e w'=>e=.returned (.bool (!zd7 ts t))/\Below w.heap.size w w':=by
 unfold Tm.cells;go_enter Tryz.func150,Tryz.ntmps150;go_wp2_with fail
 refine(zkT _ _ _ t _ (hw.mono (bAl _ _))).mono ?_;rintro e w2⟨rfl,hb2⟩;go_wp2_with fail
 go_ret;exact⟨rfl,(bAl _ _).trans (hb2.mono (by simp))⟩
theorem zpN (a:Option Addr)(cap:Nat)(ts:List Tm)(bn:Nat)(w:World)(hw:jX w a ts)(hb:bn<w.heap.size)(hn:w.cell? ⟨bn,0,none⟩=some (.slice a ts.length cap)) :
 zhT Tryz.prog 150 (.pointer (some ⟨bn,0,none⟩)) ts w (fun t=>!zd7 ts t):=fun w1 hB i _=>
 zoe a cap ts ts[i] bn w1 (hw.mono hB) (nLt hb hB.size) ((hB.cell (p:=⟨bn,0,none⟩) hb).trans hn)
theorem zk3 (a:Option Addr)(cap:Nat)(ts:List Tm)(x y:ByteArray)(w:World)(hw:jX w a ts) :
 Calls Tryz.prog 139 #[.slice a ts.length cap,.string x,.string y] w fun e w'=>e=.returned (.bool (under ts 4 x y))/\w'=w:=by
 by_cases hxy:x=y
 ·have HF:=hid (zdV ts 4 x y hxy)
  have hbe:(x.toList == y.toList)=true:=by rw[beq_toList];simpa using hxy
  clear hxy;go_enter Tryz.func139,Tryz.ntmps139;go_wp2_with fail
  go_ret;exact⟨ze HF.out.symm,rfl⟩
 have hbe:(x.toList == y.toList)=false:=by rw[beq_toList];simpa using hxy
 have HXY:=hid hxy;clear hxy;go_enter Tryz.func139,Tryz.ntmps139;go_wp2_with fail
 go_loop [1,7] (fun p i=>∃(k:Nat) (z:ByteArray),k<=4/\p=.string z/\i=.int .i64 k/\¬z=y/\under ts 4 x y=under ts (4-k) z y) (fun _ i=>4-(intOf i).toNat)
 case atStart=>exact⟨0,x,Nat.zero_le _,rfl,rfl,HXY.out,rfl⟩
 case round=>
  obtain⟨k,z,hk,rfl,rfl,hz,hu⟩:=hrel;have HZ:=jC hz hu;clear hz hu hbe
  by_cases hlt:k<4
  ·have hltI:(k:Int)<4:=by omega
   obtain⟨m,hm⟩:∃m,4-k=m+1:=⟨3-k,by omega⟩
   by_cases h0:(over ts z).size=0
   ·have HF:Hid (under ts 4 x y=false):=by rw[HZ.out.2,hm];exact zjr ts m HZ.out.1 h0
    have h0':(over ts z).toList.isEmpty=true:=by rw[zq];simpa using h0
    clear h0 hm
    go_wp2_with (go_at_call 132;refine(zbv _ _ _ _ _ hw).mono ?_;rintro e w'⟨rfl,rfl⟩)
    go_ret;exact⟨ze HF.out.symm,rfl⟩
   ·have HO:Hid (under ts 4 x y=under ts m (over ts z) y):=by rw[Hid,HZ.out.2,hm];exact zmL ts m HZ.out.1 h0
    have h0':(over ts z).toList.isEmpty=false:=by rw[zq];simpa using h0
    clear h0
    by_cases hy:over ts z=y
    ·have HF:Hid (under ts 4 x y=true):=by rw[Hid,HO.out];exact zdV ts m _ _ hy
     have hy':((over ts z).toList == y.toList)=true:=by rw[beq_toList];simpa using hy
     clear hy
     go_wp2_with (go_at_call 132;refine(zbv _ _ _ _ _ hw).mono ?_;rintro e w'⟨rfl,rfl⟩)
     go_ret;exact⟨ze HF.out.symm,rfl⟩
    ·have hy':((over ts z).toList == y.toList)=false:=by rw[beq_toList];simpa using hy
     have HY:=hid hy;clear hy
     go_wp2_with (go_at_call 132;refine(zbv _ _ _ _ _ hw).mono ?_;rintro e w'⟨rfl,rfl⟩)
     go_round
     case rel=>exact⟨k+1,over ts z,by omega,rfl,by go_num,HY.out,by rw[HO.out,show 4-(k+1)=m by omega]⟩
     case measure=>simp[intOf];omega
  ·have HF:Hid (under ts 4 x y=false):=by
    have e:4-k=0:=by omega
    rw[Hid,HZ.out.2,e];exact zla ts HZ.out.1
   go_wp2_with fail
   go_ret;exact⟨ze HF.out.symm,rfl⟩
theorem zkP (a:Option Addr)(cap:Nat)(ts:List Tm)(x y:ByteArray)(w:World)(hw:jX w a ts) :
 Calls Tryz.prog 219 #[.slice a ts.length cap,.string x,.string y] w fun e w'=>e=.returned (.bool (under ts 4 x y))/\Below w.heap.size w w':=by
 by_cases hxy:x=y
 ·have HF:=hid (zdV ts 4 x y hxy)
  have hbe:(x.toList == y.toList)=true:=by rw[beq_toList];simpa using hxy
  clear hxy;go_enter Tryz.func219,Tryz.ntmps219;go_wp2_with fail
  go_ret;exact⟨ze HF.out.symm,bRf _ _⟩
 have hbe:(x.toList == y.toList)=false:=by rw[beq_toList];simpa using hxy
 have HXY:=hid hxy;clear hxy;go_enter Tryz.func219,Tryz.ntmps219;go_wp2_with fail
 go_loopw [1,10] (fun p i wr=>∃(k:Nat) (z:ByteArray),k<=4/\p=.string z/\i=.int .i64 k/\¬z=y/\under ts 4 x y=under ts (4-k) z y/\Below w.heap.size w wr) (fun _ i _=>4-(intOf i).toNat)
 case atStart=>exact⟨0,x,Nat.zero_le _,rfl,rfl,HXY.out,rfl,bRf _ _⟩
 case round=>
  obtain⟨k,z,hk,rfl,rfl,hz,hu,hB⟩:=hrel;have HZ:=jC hz hu;clear hz hu hbe
  by_cases hlt:k<4
  ·have hltI:(k:Int)<4:=by omega
   obtain⟨m,hm⟩:∃m,4-k=m+1:=⟨3-k,by omega⟩
   by_cases h0:(over ts z).size=0
   ·have HF:Hid (under ts 4 x y=false):=by rw[HZ.out.2,hm];exact zjr ts m HZ.out.1 h0
    have h0':(over ts z).toList.isEmpty=true:=by rw[zq];simpa using h0
    clear h0 hm;go_wp2_with fail
    refine(zd1 _ _ _ _ _ (hw.mono hB)).mono ?_;rintro e w1⟨rfl,hb1⟩;have hB1:=hB.trans (hb1.mono hB.size);clear hb1;go_wp2_with fail
    go_ret;exact⟨ze HF.out.symm,hB1⟩
   ·have HO:Hid (under ts 4 x y=under ts m (over ts z) y):=by rw[Hid,HZ.out.2,hm];exact zmL ts m HZ.out.1 h0
    have h0':(over ts z).toList.isEmpty=false:=by rw[zq];simpa using h0
    clear h0
    by_cases hy:over ts z=y
    ·have HF:Hid (under ts 4 x y=true):=by rw[Hid,HO.out];exact zdV ts m _ _ hy
     have hy':((over ts z).toList == y.toList)=true:=by rw[beq_toList];simpa using hy
     clear hy;go_wp2_with fail
     refine(zd1 _ _ _ _ _ (hw.mono hB)).mono ?_;rintro e w1⟨rfl,hb1⟩;have hB1:=hB.trans (hb1.mono hB.size);clear hb1;go_wp2_with fail
     go_ret;exact⟨ze HF.out.symm,hB1⟩
    ·have hy':((over ts z).toList == y.toList)=false:=by rw[beq_toList];simpa using hy
     have HY:=hid hy;clear hy;go_wp2_with fail
     refine(zd1 _ _ _ _ _ (hw.mono hB)).mono ?_;rintro e w1⟨rfl,hb1⟩;have hB1:=hB.trans (hb1.mono hB.size);clear hb1;go_wp2_with fail
     exact⟨⟨k+1,over ts z,by omega,rfl,by go_num,HY.out,by rw[HO.out,show 4-(k+1)=m by omega],hB1⟩,by simp[intOf];omega⟩
  ·have HF:Hid (under ts 4 x y=false):=by
    have e:4-k=0:=by omega
    rw[Hid,HZ.out.2,e];exact zla ts HZ.out.1
   go_wp2_with fail
   go_ret;exact⟨ze HF.out.symm,hB⟩
end Go.Proofs.YtnapmdofidgliaaGreat
namespace Go.Proofs.YtnapmdofidgliaaGreat
open Go.ChangeShapes Go.WideShapes Go.ChangeAt Go.RowKit
theorem Tryz.zpQ:Tryz.prog.cellsOf 35=1:=by kernel_rfl
theorem Tryz.zlx:Tryz.prog.cellsOf 111=4:=by kernel_rfl
section
variable {H:Type} {enc:TypeId × Value->H} {w:World} {base:Nat} {spare:Nat->Bool} {held:Bool}
theorem zpK {fuel:Nat}{cs:List Value}{x:DataW H × List MemPlace}(h:DataW.trod enc Tryz.prog w base spare held fuel 35 cs=some x) :
 ∃a cap vs,cs=[.slice a (List.length vs) cap]/\qy w a vs:=by
 obtain⟨a,len,cap,rfl,hm,hr⟩:=za0 Tryz.underlying35 Tryz.j3 (by omega) h
 rcases Nat.eq_zero_or_pos len with h0|hp
 ·subst h0
  exact⟨a,cap,[],rfl,⟨by simp[maxLen],fun h=>absurd rfl h⟩⟩
 ·obtain⟨b,off,rfl,hb,hrow⟩:=hr hp
  have hf:∀i,i<len->∃v:Int,w.cell? ⟨b,off+i,none⟩=some (.int .i64 v):=by
   intro i hi;obtain⟨es,n,y,hel,hcell,hy⟩:=hrow i hi;obtain⟨v,e0,_,_⟩:=DataW.trod_int Tryz.underlying3 hy;subst e0;exact⟨v,by simpa using hcell 0 (by omega)⟩
  obtain⟨vs,hl,hvs⟩:=zcg len hf;exact⟨_,cap,vs,by rw[hl],⟨by omega,fun _=>⟨b,off,rfl,hb,hvs⟩⟩⟩
theorem zpZ {fuel:Nat}{cs:List Value}{x:DataW H × List MemPlace}(h:DataW.trod enc Tryz.prog w base spare held fuel 111 cs=some x) :
 ∃(r:Rl) (a:Option Addr) (cap:Nat),cs=(r.cells a cap).toList/\r.Small/\qy w a r.vs:=by
 have hlen:cs.length=4:=by
  obtain⟨_,_,_,_,hl,_,_⟩:=DataW.trod_struct Tryz.underlying111 h;rw[hl];exact Tryz.zlx
 match cs,hlen with
 | [c0,c1,c2,c3],_=>
  have hf:=zak Tryz.underlying111 h;obtain⟨_,_,f0⟩:=hf 0 35 0 c0 rfl Tryz.zpQ rfl;obtain⟨_,_,f1⟩:=hf 1 9 1 c1 rfl Tryz.zW rfl;obtain⟨_,_,f2⟩:=hf 2 9 2 c2 rfl Tryz.zW rfl;obtain⟨_,_,f3⟩:=hf 3 9 3 c3 rfl Tryz.zW rfl;obtain⟨a,cap,vs,e0,hI⟩:=zpK f0;obtain⟨x1,e1,_,s1⟩:=DataW.trod_string Tryz.underlying9 f1;obtain⟨x2,e2,_,s2⟩:=DataW.trod_string Tryz.underlying9 f2;obtain⟨x3,e3,_,s3⟩:=DataW.trod_string Tryz.underlying9 f3;simp only[List.cons.injEq,and_true]at e0 e1 e2 e3;subst e0 e1 e2 e3;exact⟨⟨vs,x1,x2,x3⟩,a,cap,rfl,⟨s1,s2,s3⟩,hI⟩
end
end Go.Proofs.YtnapmdofidgliaaGreat
