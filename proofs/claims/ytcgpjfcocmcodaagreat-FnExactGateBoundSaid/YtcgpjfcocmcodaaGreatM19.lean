import Derived.Test.YtcgpjfcocmcodaaGreatM14
set_option maxHeartbeats 2000000
namespace Go.Proofs.YtcgpjfcocmcodaaGreat
open Go.RowKit
def isSet (s:BA):Bool:=!s.toList.isEmpty
def zP (m:Mnd):List BA:=[m.wh,m.fr].filter isSet
def turns (m:Mnd)(s:Shp)(p:Nat):Bool:=decide (m.kd=s.kd)&&decide (m.fd=(s.fs.getD p zbw).nm)
set_option maxRecDepth 20000 in
theorem zfQ (m:Mnd)(w:World) :
 Calls Tryz.prog 202 #[.agg m.cells] w fun e w'=>∃v,e=.returned v/\w'.ownsRow w.heap.size 9 1 v (zP m).length ((zP m).map Value.string)/\Bw w w':=by
 unfold Mnd.cells;obtain⟨i0,hi,hz0,hz1',hz2⟩:=info_parts Tryz.zcV;go_enter Tryz.func202,Tryz.ntmps202;go_wp2_with fail
 go_loopw [3,12] (fun nv0 iv wr=>∃(k:Nat) (nv:Value),nv=nv0/\k<=2/\iv=.i k/\wr.ownsRow (w.heap.size+2) 9 1 nv (([m.wh,m.fr].take k).filter isSet).length ((([m.wh,m.fr].take k).filter isSet).map Value.string)/\wr.heap[w.heap.size+1]?=some (.cells #[.s m.wh,.s m.fr] 9)/\Bw w wr) (fun _ iv _=>2-(intOf iv).toNat)
 case atStart=>exact⟨0,_,rfl,by omega,rfl,World.ownsRow_nil _ _ _ _,(zQ _ _ _).2,zw _ _ _⟩
 case round=>
  obtain⟨k,nv,hnv,hk,rfl,hown,hlit,hB⟩:=hrel;subst hnv
  by_cases hlt:k<2
  ·have hltI:(k:Int)<2:=by omega
   obtain⟨x,hx,HT⟩:∃x,(#[.s m.wh,.s m.fr]:AV)[k]?=some (.s x)/\Hid (([m.wh,m.fr].take (k+1)).filter isSet=([m.wh,m.fr].take k).filter isSet++if isSet x=true then [x] else []):=by
    rcases k with _|_|k
    ·refine⟨m.wh,rfl,?_⟩
     by_cases h:isSet m.wh=true <;> simp[Hid,h]
    ·refine⟨m.fr,rfl,?_⟩
     by_cases h:isSet m.fr=true <;> by_cases h':isSet m.wh=true <;> simp[Hid,h,h']
    ·omega
   have hcx:wr.cell? (aD (w.heap.size+1) k)=some (.s x):=by rw[cell_of_block hlit];exact hx
   have hlen:(([m.wh,m.fr].take k).filter isSet).length<=2:=Nat.le_trans (List.length_filter_le _ _) (by simp;omega);have HB:=zbQ hlit hB ((gES hlit).1);have HW:=hid hown;clear hlit hB hx hown
   by_cases hs:x.toList.isEmpty=true
   ·have HE:Hid (isSet x=false):=by unfold Hid isSet;rw[hs];rfl
    go_wp2_with fail
    have HT':([m.wh,m.fr].take (k+1)).filter isSet=([m.wh,m.fr].take k).filter isSet:=by rw[HT.o,HE.o];simp
    exact⟨⟨k+1,_,rfl,by omega,by go_num,by rw[HT'];exact HW.o,HB.o.1,HB.o.2.1⟩,zq hlt⟩
   ·have hs':x.toList.isEmpty=false:=by simpa using hs
    have HE:Hid (isSet x=true):=by unfold Hid isSet;rw[hs'];rfl
    clear hs
    go_wp2_with (at_builtin;refine wpList_append_own _ rfl (.tmp 18) (.tmp 20) 105 rfl (w.heap.size+2) 9 i0 (.s ByteArray.empty) 1 16 Tryz.underlying105 hi hz0 hz1' hz2 rfl (by decide) _ _ _ rfl (HW.o.alloc _) (aD wr.heap.size 0) 1 1 [.s x] rfl rfl (zfo _ _ _) (by intro u hu;simp at hu;subst hu;rfl) (by unfold maxLen;omega) (by omega) (by have:=HB.o.2.2;simp;omega) ?_;intro v' w1 hown' hgr _)
    have HT':([m.wh,m.fr].take (k+1)).filter isSet=([m.wh,m.fr].take k).filter isSet++[x]:=by rw[HT.o,HE.o];simp
    have hgb:∀g,nv.ownBlock=some g->w.heap.size+2<=g:=fun g hg=>(HW.o.lt g hg).1
    refine⟨⟨k+1,_,rfl,by omega,by go_num,?_,?_,zdo HB.o.2.1 HB.o.2.1.size hgr (fun g hg=>by have:=hgb g hg;omega)⟩,zq hlt⟩
    ·rw[HT',List.length_append,List.map_append];exact hown'
    ·rw[zaQ hgr (by have:=HB.o.2.2;simp;omega) (fun g hg=>by have:=hgb g hg;omega),Below.heap_alloc _ _ _ HB.o.2.2];exact HB.o.1
  ·have e:k=2:=by omega
   subst e;have HF:Hid (wr.ownsRow w.heap.size 9 1 nv (zP m).length ((zP m).map Value.string)/\Bw w wr):=⟨zdi hown (by omega),hB⟩
   clear hown hlit hB;go_wp2_with fail
   go_ret;exact⟨nv,rfl,HF.o⟩
theorem zlm (m:Mnd)(s:Shp)(fa:OA)(fcap p:Nat)(w:World)(hf:yg w fa s.fs)(hp:p<s.fs.length) :
 Calls Tryz.prog 207 #[.agg m.cells,.agg #[.s s.kd,.l fa s.fs.length fcap],.i p] w fun e w'=>e=.returned (.bool (turns m s p))/\Bw w w':=by
 unfold Mnd.cells;have hB:∀o1 o2,Bw w ((w.alloc o1).alloc o2):=fun o1 o2=>zw w o1 o2
 have hl:=hf.len;unfold maxLen at hl;obtain⟨b,off,rfl,hb,hr⟩:=hf.rows (by intro e;rw[e]at hp;simp at hp);obtain⟨wa,wcap,hf0⟩:=hr p hp;obtain⟨c0,c1,c2,c3,c4,c5,c6,c7,c8,c9,c10⟩:=hf0.load;have hpI:(p:Int)<(s.fs.length:Int):=by omega
 have HD:Hid ((s.fs.getD p zbw).nm=s.fs[p].nm):=by unfold Hid;rw[getD_at _ _ _ hp]
 clear hf hr hf0 c1 c2 c3 c4 c5 c6 c7 c8 c9 c10
 by_cases h1:m.kd=s.kd
 ·by_cases h2:m.fd=s.fs[p].nm
  ·have HR:Hid (turns m s p=true):=by unfold Hid turns;rw[HD.o];simp[h1,h2]
   have hq:(m.kd.toList == s.kd.toList)=true:=by rw[beq_toList];simpa using h1
   have hr:(m.fd.toList == s.fs[p].nm.toList)=true:=by rw[beq_toList];simpa using h2
   clear h1 h2;go_enter Tryz.func207,Tryz.ntmps207;go_wp2_with fail
   go_quiet (fail)
   go_wp2_with fail
   go_ret;exact⟨by rw[HR.o];rfl,below_drewN (hB _ _) _⟩
  ·have HR:Hid (turns m s p=false):=by unfold Hid turns;rw[HD.o];simp[h1,h2]
   have hq:(m.kd.toList == s.kd.toList)=true:=by rw[beq_toList];simpa using h1
   have hr:(m.fd.toList == s.fs[p].nm.toList)=false:=by rw[beq_toList];simpa using h2
   clear h1 h2;go_enter Tryz.func207,Tryz.ntmps207;go_wp2_with fail
   go_quiet (fail)
   go_wp2_with fail
   go_ret;exact⟨by rw[HR.o];rfl,below_drewN (hB _ _) _⟩
 ·have HR:Hid (turns m s p=false):=by unfold Hid turns;rw[HD.o];simp[h1]
  have hq:(m.kd.toList == s.kd.toList)=false:=by rw[beq_toList];simpa using h1
  clear h1;go_enter Tryz.func207,Tryz.ntmps207;go_wp2_with fail
  go_quiet (fail)
  go_wp2_with fail
  go_ret;exact⟨by rw[HR.o];rfl,below_drewN (hB _ _) _⟩
theorem znK (a0:OA)(cap0:Nat)(ss:List Shp)(nm:BA)(ls ms:Int)(a:OA)(cap:Nat)(ws:List BA)(to:BA)(rl:Int)(mu fx:Bool)(df wg:BA)(w:World)(hnm:nm.size<=maxLen)(hdf:df.size<=maxLen)(hwg:wg.size<=maxLen)(hws:zG w a ws) :
 Calls Tryz.prog 190 #[.l a0 ss.length cap0,.agg #[.s nm,.i 1,.i ls,.i ms,.l a ws.length cap,.s to,.i rl,.bool mu,.bool fx,.s df,.s wg]] w
  fun e w'=>e=.returned (.bool (zx nm&&yH ss ⟨nm,1,ls,ms,ws,to,rl,mu,fx,df,wg⟩))/\Bw w w':=by
 have HO:Hid ((zx nm&&yH ss ⟨nm,1,ls,ms,ws,to,rl,mu,fx,df,wg⟩)=(zx nm&&(yM 1 ls ms ws.length to rl wg&&zW ss ⟨nm,1,ls,ms,ws,to,rl,mu,fx,df,wg⟩&&(df.toList.isEmpty||fits 1 ls ms ws df)))):=rfl
 generalize (zx nm&&yH ss ⟨nm,1,ls,ms,ws,to,rl,mu,fx,df,wg⟩)=res at HO
 by_cases hn:zx nm=true
 rotate_left
 ·have HNm:Hid (zx nm=false):=by simpa[Hid] using hn
  clear hn;go_enter Tryz.func190,Tryz.ntmps190;go_wp2_with fail
  refine(zf HNm.o (zk _ _ hnm)).mono ?_;rintro e w1⟨rfl,rfl⟩;go_wp2_with fail
  go_ret;exact⟨ze (by rw[HO.o,HNm.o];rfl),bAl _ _⟩
 have HNm:=hid hn;clear hn
 by_cases hbare:yM 1 ls ms ws.length to rl wg=true
 rotate_left
 ·have HBare:Hid (yM 1 ls ms ws.length to rl wg=false):=by simpa[Hid] using hbare
  clear hbare;go_enter Tryz.func190,Tryz.ntmps190;go_wp2_with fail
  refine(zf HNm.o (zk _ _ hnm)).mono ?_;rintro e w1⟨rfl,rfl⟩;go_wp2_with fail
  refine(zf HBare.o (zeh _ _ _ _ _ _ _ _ _ _ _ _ _)).mono ?_;rintro e w2⟨rfl,hb2⟩;have hX2:=za (zl w _ _) (by simp) hb2;have hz2:w.heap.size<w2.heap.size:=by have:=hb2.size;simp at this;omega
  have hB2:Bw w w2:=(bAl _ _).trans (hb2.mono (by simp));clear hb2;go_wp2_with fail
  go_ret;exact⟨ze (by rw[HO.o,HNm.o,HBare.o];rfl),hB2⟩
 have HBare:=hid hbare;clear hbare
 by_cases hd:df.toList.isEmpty=true
 ·have HD:=hid hd
  have HR:Hid (res=zW ss ⟨nm,1,ls,ms,ws,to,rl,mu,fx,df,wg⟩):=by unfold Hid;rw[HO.o,HNm.o,HBare.o,hd];simp
  clear HO;go_enter Tryz.func190,Tryz.ntmps190;go_wp2_with fail
  refine(zf HNm.o (zk _ _ hnm)).mono ?_;rintro e w1⟨rfl,rfl⟩;go_wp2_with fail
  refine(zf HBare.o (zeh _ _ _ _ _ _ _ _ _ _ _ _ _)).mono ?_;rintro e w2⟨rfl,hb2⟩;have hX2:=za (zl w _ _) (by simp) hb2;have hz2:w.heap.size<w2.heap.size:=by have:=hb2.size;simp at this;omega
  have hB2:Bw w w2:=(bAl _ _).trans (hb2.mono (by simp));clear hb2
  go_wp2_with (go_at_call 25;refine(zk _ _ hwg).mono ?_;rintro e w5⟨rfl,rfl⟩)
  all_goals
   go_ret;refine⟨ze ?_,hB2⟩;rw[HR.o]
   simp_all [zW,q9]
   try omega
 have hd':df.toList.isEmpty=false:=by simpa using hd
 have HD:=hid hd';clear hd
 by_cases hfit:fits 1 ls ms ws df=true
 rotate_left
 ·have HFit:Hid (fits 1 ls ms ws df=false):=by simpa[Hid] using hfit
  clear hfit;go_enter Tryz.func190,Tryz.ntmps190;go_wp2_with fail
  refine(zf HNm.o (zk _ _ hnm)).mono ?_;rintro e w1⟨rfl,rfl⟩;go_wp2_with fail
  refine(zf HBare.o (zeh _ _ _ _ _ _ _ _ _ _ _ _ _)).mono ?_;rintro e w2⟨rfl,hb2⟩;have hX2:=za (zl w _ _) (by simp) hb2;have hz2:w.heap.size<w2.heap.size:=by have:=hb2.size;simp at this;omega
  have hB2:Bw w w2:=(bAl _ _).trans (hb2.mono (by simp));clear hb2;go_wp2_with fail
  refine(zf HFit.o (yX _ _ _ _ _ _ _ _ _ _ _ _ _ _ _ hdf (hws.mono hB2))).mono ?_;rintro e w3⟨rfl,hb3⟩;have hX3:=za hX2 hz2 hb3;have hz3:w.heap.size<w3.heap.size:=by have:=hb3.size;omega
  have hB3:Bw w w3:=hB2.trans (hb3.mono (by omega));clear hb3 hX2 hz2 hB2;go_wp2_with fail
  go_ret;exact⟨ze (by rw[HO.o,HNm.o,HBare.o,HD.o,HFit.o];simp),hB3⟩
 ·have HFit:=hid hfit
  have HR:Hid (res=zW ss ⟨nm,1,ls,ms,ws,to,rl,mu,fx,df,wg⟩):=by unfold Hid;rw[HO.o,HNm.o,HBare.o,HD.o,hfit];simp
  clear hfit HO;go_enter Tryz.func190,Tryz.ntmps190;go_wp2_with fail
  refine(zf HNm.o (zk _ _ hnm)).mono ?_;rintro e w1⟨rfl,rfl⟩;go_wp2_with fail
  refine(zf HBare.o (zeh _ _ _ _ _ _ _ _ _ _ _ _ _)).mono ?_;rintro e w2⟨rfl,hb2⟩;have hX2:=za (zl w _ _) (by simp) hb2;have hz2:w.heap.size<w2.heap.size:=by have:=hb2.size;simp at this;omega
  have hB2:Bw w w2:=(bAl _ _).trans (hb2.mono (by simp));clear hb2;go_wp2_with fail
  refine(zf HFit.o (yX _ _ _ _ _ _ _ _ _ _ _ _ _ _ _ hdf (hws.mono hB2))).mono ?_;rintro e w3⟨rfl,hb3⟩;have hX3:=za hX2 hz2 hb3;have hz3:w.heap.size<w3.heap.size:=by have:=hb3.size;omega
  have hB3:Bw w w3:=hB2.trans (hb3.mono (by omega));clear hb3 hX2 hz2 hB2
  go_wp2_with (go_at_call 25;refine(zk _ _ hwg).mono ?_;rintro e w5⟨rfl,rfl⟩)
  all_goals
   go_ret;refine⟨ze ?_,hB3⟩;rw[HR.o]
   simp_all [zW,q9]
   try omega
theorem znZ (a0:OA)(cap0:Nat)(ss:List Shp)(nm:BA)(ls ms:Int)(a:OA)(cap:Nat)(ws:List BA)(to:BA)(rl:Int)(mu fx:Bool)(df wg:BA)(w:World)(hnm:nm.size<=maxLen)(hdf:df.size<=maxLen)(hws:zG w a ws) :
 Calls Tryz.prog 190 #[.l a0 ss.length cap0,.agg #[.s nm,.i 2,.i ls,.i ms,.l a ws.length cap,.s to,.i rl,.bool mu,.bool fx,.s df,.s wg]] w
  fun e w'=>e=.returned (.bool (zx nm&&yH ss ⟨nm,2,ls,ms,ws,to,rl,mu,fx,df,wg⟩))/\Bw w w':=by
 have HO:Hid ((zx nm&&yH ss ⟨nm,2,ls,ms,ws,to,rl,mu,fx,df,wg⟩)=(zx nm&&(yM 2 ls ms ws.length to rl wg&&zW ss ⟨nm,2,ls,ms,ws,to,rl,mu,fx,df,wg⟩&&(df.toList.isEmpty||fits 2 ls ms ws df)))):=rfl
 generalize (zx nm&&yH ss ⟨nm,2,ls,ms,ws,to,rl,mu,fx,df,wg⟩)=res at HO
 by_cases hn:zx nm=true
 rotate_left
 ·have HNm:Hid (zx nm=false):=by simpa[Hid] using hn
  clear hn;go_enter Tryz.func190,Tryz.ntmps190;go_wp2_with fail
  refine(zf HNm.o (zk _ _ hnm)).mono ?_;rintro e w1⟨rfl,rfl⟩;go_wp2_with fail
  go_ret;exact⟨ze (by rw[HO.o,HNm.o];rfl),bAl _ _⟩
 have HNm:=hid hn;clear hn
 by_cases hbare:yM 2 ls ms ws.length to rl wg=true
 rotate_left
 ·have HBare:Hid (yM 2 ls ms ws.length to rl wg=false):=by simpa[Hid] using hbare
  clear hbare;go_enter Tryz.func190,Tryz.ntmps190;go_wp2_with fail
  refine(zf HNm.o (zk _ _ hnm)).mono ?_;rintro e w1⟨rfl,rfl⟩;go_wp2_with fail
  refine(zf HBare.o (zb1 _ _ _ _ _ _ _ _ _ _ _ _ _)).mono ?_;rintro e w2⟨rfl,hb2⟩;have hX2:=za (zl w _ _) (by simp) hb2;have hz2:w.heap.size<w2.heap.size:=by have:=hb2.size;simp at this;omega
  have hB2:Bw w w2:=(bAl _ _).trans (hb2.mono (by simp));clear hb2;go_wp2_with fail
  go_ret;exact⟨ze (by rw[HO.o,HNm.o,HBare.o];rfl),hB2⟩
 have HBare:=hid hbare;clear hbare
 by_cases hd:df.toList.isEmpty=true
 ·have HD:=hid hd
  have HR:Hid (res=zW ss ⟨nm,2,ls,ms,ws,to,rl,mu,fx,df,wg⟩):=by unfold Hid;rw[HO.o,HNm.o,HBare.o,hd];simp
  clear HO;have HSn:Hid (zW ss ⟨nm,2,ls,ms,ws,to,rl,mu,fx,df,wg⟩=(decide (1<=ws.length)&&decide (ws.length<=6)&&asc ws)):=by simp[zW,Hid]
  have hl:=hws.len;unfold maxLen at hl
  by_cases h16:1<=ws.length/\ws.length<=6
  ·obtain⟨h1,h6⟩:=h16
   go_enter Tryz.func190,Tryz.ntmps190;go_wp2_with fail
   refine(zf HNm.o (zk _ _ hnm)).mono ?_;rintro e w1⟨rfl,rfl⟩;go_wp2_with fail
   refine(zf HBare.o (zb1 _ _ _ _ _ _ _ _ _ _ _ _ _)).mono ?_;rintro e w2⟨rfl,hb2⟩;have hX2:=za (zl w _ _) (by simp) hb2;have hz2:w.heap.size<w2.heap.size:=by have:=hb2.size;simp at this;omega
   have hB2:Bw w w2:=(bAl _ _).trans (hb2.mono (by simp));clear hb2;go_wp2_with fail
   refine(zbH _ _ _ _ (by omega) (by omega)).mono ?_;rintro e w5⟨rfl,rfl⟩;go_wp2_with fail
   refine(zas _ _ _ _ (hws.mono hB2)).mono ?_;rintro e w6⟨rfl,nd,rfl⟩;go_wp2_with fail
   go_ret;exact⟨ze (by rw[HR.o,HSn.o,decide_eq_true h1,decide_eq_true h6];rfl),below_drewN hB2 _⟩
  ·have HS0:Hid (zW ss ⟨nm,2,ls,ms,ws,to,rl,mu,fx,df,wg⟩=false):=by
    rw[HSn.o];unfold Hid
    by_cases h1:1<=ws.length
    ·rw[decide_eq_false (show ¬ws.length<=6 by omega)];simp
    ·rw[decide_eq_false h1];rfl
   go_enter Tryz.func190,Tryz.ntmps190;go_wp2_with fail
   refine(zf HNm.o (zk _ _ hnm)).mono ?_;rintro e w1⟨rfl,rfl⟩;go_wp2_with fail
   refine(zf HBare.o (zb1 _ _ _ _ _ _ _ _ _ _ _ _ _)).mono ?_;rintro e w2⟨rfl,hb2⟩;have hX2:=za (zl w _ _) (by simp) hb2;have hz2:w.heap.size<w2.heap.size:=by have:=hb2.size;simp at this;omega
   have hB2:Bw w w2:=(bAl _ _).trans (hb2.mono (by simp));clear hb2;go_wp2_with fail
   refine(zdl _ _ _ _ (by omega)).mono ?_;rintro e w5⟨rfl,rfl⟩;go_wp2_with fail
   go_ret;exact⟨ze (by rw[HR.o,HS0.o]),hB2⟩
 have hd':df.toList.isEmpty=false:=by simpa using hd
 have HD:=hid hd';clear hd
 by_cases hfit:fits 2 ls ms ws df=true
 rotate_left
 ·have HFit:Hid (fits 2 ls ms ws df=false):=by simpa[Hid] using hfit
  clear hfit;go_enter Tryz.func190,Tryz.ntmps190;go_wp2_with fail
  refine(zf HNm.o (zk _ _ hnm)).mono ?_;rintro e w1⟨rfl,rfl⟩;go_wp2_with fail
  refine(zf HBare.o (zb1 _ _ _ _ _ _ _ _ _ _ _ _ _)).mono ?_;rintro e w2⟨rfl,hb2⟩;have hX2:=za (zl w _ _) (by simp) hb2;have hz2:w.heap.size<w2.heap.size:=by have:=hb2.size;simp at this;omega
  have hB2:Bw w w2:=(bAl _ _).trans (hb2.mono (by simp));clear hb2;go_wp2_with fail
  refine(zf HFit.o (yX _ _ _ _ _ _ _ _ _ _ _ _ _ _ _ hdf (hws.mono hB2))).mono ?_;rintro e w3⟨rfl,hb3⟩;have hX3:=za hX2 hz2 hb3;have hz3:w.heap.size<w3.heap.size:=by have:=hb3.size;omega
  have hB3:Bw w w3:=hB2.trans (hb3.mono (by omega));clear hb3 hX2 hz2 hB2;go_wp2_with fail
  go_ret;exact⟨ze (by rw[HO.o,HNm.o,HBare.o,HD.o,HFit.o];simp),hB3⟩
 ·have HFit:=hid hfit
  have HR:Hid (res=zW ss ⟨nm,2,ls,ms,ws,to,rl,mu,fx,df,wg⟩):=by unfold Hid;rw[HO.o,HNm.o,HBare.o,HD.o,hfit];simp
  clear hfit HO;have HSn:Hid (zW ss ⟨nm,2,ls,ms,ws,to,rl,mu,fx,df,wg⟩=(decide (1<=ws.length)&&decide (ws.length<=6)&&asc ws)):=by simp[zW,Hid]
  have hl:=hws.len;unfold maxLen at hl
  by_cases h16:1<=ws.length/\ws.length<=6
  ·obtain⟨h1,h6⟩:=h16
   go_enter Tryz.func190,Tryz.ntmps190;go_wp2_with fail
   refine(zf HNm.o (zk _ _ hnm)).mono ?_;rintro e w1⟨rfl,rfl⟩;go_wp2_with fail
   refine(zf HBare.o (zb1 _ _ _ _ _ _ _ _ _ _ _ _ _)).mono ?_;rintro e w2⟨rfl,hb2⟩;have hX2:=za (zl w _ _) (by simp) hb2;have hz2:w.heap.size<w2.heap.size:=by have:=hb2.size;simp at this;omega
   have hB2:Bw w w2:=(bAl _ _).trans (hb2.mono (by simp));clear hb2;go_wp2_with fail
   refine(zf HFit.o (yX _ _ _ _ _ _ _ _ _ _ _ _ _ _ _ hdf (hws.mono hB2))).mono ?_;rintro e w3⟨rfl,hb3⟩;have hX3:=za hX2 hz2 hb3;have hz3:w.heap.size<w3.heap.size:=by have:=hb3.size;omega
   have hB3:Bw w w3:=hB2.trans (hb3.mono (by omega));clear hb3 hX2 hz2 hB2;go_wp2_with fail
   refine(zbH _ _ _ _ (by omega) (by omega)).mono ?_;rintro e w5⟨rfl,rfl⟩;go_wp2_with fail
   refine(zas _ _ _ _ (hws.mono hB3)).mono ?_;rintro e w6⟨rfl,nd,rfl⟩;go_wp2_with fail
   go_ret;exact⟨ze (by rw[HR.o,HSn.o,decide_eq_true h1,decide_eq_true h6];rfl),below_drewN hB3 _⟩
  ·have HS0:Hid (zW ss ⟨nm,2,ls,ms,ws,to,rl,mu,fx,df,wg⟩=false):=by
    rw[HSn.o];unfold Hid
    by_cases h1:1<=ws.length
    ·rw[decide_eq_false (show ¬ws.length<=6 by omega)];simp
    ·rw[decide_eq_false h1];rfl
   go_enter Tryz.func190,Tryz.ntmps190;go_wp2_with fail
   refine(zf HNm.o (zk _ _ hnm)).mono ?_;rintro e w1⟨rfl,rfl⟩;go_wp2_with fail
   refine(zf HBare.o (zb1 _ _ _ _ _ _ _ _ _ _ _ _ _)).mono ?_;rintro e w2⟨rfl,hb2⟩;have hX2:=za (zl w _ _) (by simp) hb2;have hz2:w.heap.size<w2.heap.size:=by have:=hb2.size;simp at this;omega
   have hB2:Bw w w2:=(bAl _ _).trans (hb2.mono (by simp));clear hb2;go_wp2_with fail
   refine(zf HFit.o (yX _ _ _ _ _ _ _ _ _ _ _ _ _ _ _ hdf (hws.mono hB2))).mono ?_;rintro e w3⟨rfl,hb3⟩;have hX3:=za hX2 hz2 hb3;have hz3:w.heap.size<w3.heap.size:=by have:=hb3.size;omega
   have hB3:Bw w w3:=hB2.trans (hb3.mono (by omega));clear hb3 hX2 hz2 hB2;go_wp2_with fail
   refine(zdl _ _ _ _ (by omega)).mono ?_;rintro e w5⟨rfl,rfl⟩;go_wp2_with fail
   go_ret;exact⟨ze (by rw[HR.o,HS0.o]),hB3⟩
theorem znq (a0:OA)(cap0:Nat)(ss:List Shp)(nm:BA)(ls ms:Int)(a:OA)(cap:Nat)(ws:List BA)(to:BA)(rl:Int)(mu fx:Bool)(df wg:BA)(w:World)(hnm:nm.size<=maxLen)(hdf:df.size<=maxLen)(hws:zG w a ws) :
 Calls Tryz.prog 190 #[.l a0 ss.length cap0,.agg #[.s nm,.i 3,.i ls,.i ms,.l a ws.length cap,.s to,.i rl,.bool mu,.bool fx,.s df,.s wg]] w
  fun e w'=>e=.returned (.bool (zx nm&&yH ss ⟨nm,3,ls,ms,ws,to,rl,mu,fx,df,wg⟩))/\Bw w w':=by
 have HO:Hid ((zx nm&&yH ss ⟨nm,3,ls,ms,ws,to,rl,mu,fx,df,wg⟩)=(zx nm&&(yM 3 ls ms ws.length to rl wg&&zW ss ⟨nm,3,ls,ms,ws,to,rl,mu,fx,df,wg⟩&&(df.toList.isEmpty||fits 3 ls ms ws df)))):=rfl
 generalize (zx nm&&yH ss ⟨nm,3,ls,ms,ws,to,rl,mu,fx,df,wg⟩)=res at HO
 by_cases hn:zx nm=true
 rotate_left
 ·have HNm:Hid (zx nm=false):=by simpa[Hid] using hn
  clear hn;go_enter Tryz.func190,Tryz.ntmps190;go_wp2_with fail
  refine(zf HNm.o (zk _ _ hnm)).mono ?_;rintro e w1⟨rfl,rfl⟩;go_wp2_with fail
  go_ret;exact⟨ze (by rw[HO.o,HNm.o];rfl),bAl _ _⟩
 have HNm:=hid hn;clear hn
 by_cases hbare:yM 3 ls ms ws.length to rl wg=true
 rotate_left
 ·have HBare:Hid (yM 3 ls ms ws.length to rl wg=false):=by simpa[Hid] using hbare
  clear hbare;go_enter Tryz.func190,Tryz.ntmps190;go_wp2_with fail
  refine(zf HNm.o (zk _ _ hnm)).mono ?_;rintro e w1⟨rfl,rfl⟩;go_wp2_with fail
  refine(zf HBare.o (zex _ _ _ _ _ _ _ _ _ _ _ _ _)).mono ?_;rintro e w2⟨rfl,hb2⟩;have hX2:=za (zl w _ _) (by simp) hb2;have hz2:w.heap.size<w2.heap.size:=by have:=hb2.size;simp at this;omega
  have hB2:Bw w w2:=(bAl _ _).trans (hb2.mono (by simp));clear hb2;go_wp2_with fail
  go_ret;exact⟨ze (by rw[HO.o,HNm.o,HBare.o];rfl),hB2⟩
 have HBare:=hid hbare;clear hbare
 by_cases hd:df.toList.isEmpty=true
 ·have HD:=hid hd
  have HR:Hid (res=zW ss ⟨nm,3,ls,ms,ws,to,rl,mu,fx,df,wg⟩):=by unfold Hid;rw[HO.o,HNm.o,HBare.o,hd];simp
  clear HO;go_enter Tryz.func190,Tryz.ntmps190;go_wp2_with fail
  refine(zf HNm.o (zk _ _ hnm)).mono ?_;rintro e w1⟨rfl,rfl⟩;go_wp2_with fail
  refine(zf HBare.o (zex _ _ _ _ _ _ _ _ _ _ _ _ _)).mono ?_;rintro e w2⟨rfl,hb2⟩;have hX2:=za (zl w _ _) (by simp) hb2;have hz2:w.heap.size<w2.heap.size:=by have:=hb2.size;simp at this;omega
  have hB2:Bw w w2:=(bAl _ _).trans (hb2.mono (by simp));clear hb2;go_wp2_with fail
  all_goals
   go_ret;refine⟨ze ?_,hB2⟩;rw[HR.o]
   simp_all [zW,q9]
   try omega
 have hd':df.toList.isEmpty=false:=by simpa using hd
 have HD:=hid hd';clear hd
 by_cases hfit:fits 3 ls ms ws df=true
 rotate_left
 ·have HFit:Hid (fits 3 ls ms ws df=false):=by simpa[Hid] using hfit
  clear hfit;go_enter Tryz.func190,Tryz.ntmps190;go_wp2_with fail
  refine(zf HNm.o (zk _ _ hnm)).mono ?_;rintro e w1⟨rfl,rfl⟩;go_wp2_with fail
  refine(zf HBare.o (zex _ _ _ _ _ _ _ _ _ _ _ _ _)).mono ?_;rintro e w2⟨rfl,hb2⟩;have hX2:=za (zl w _ _) (by simp) hb2;have hz2:w.heap.size<w2.heap.size:=by have:=hb2.size;simp at this;omega
  have hB2:Bw w w2:=(bAl _ _).trans (hb2.mono (by simp));clear hb2;go_wp2_with fail
  refine(zf HFit.o (yX _ _ _ _ _ _ _ _ _ _ _ _ _ _ _ hdf (hws.mono hB2))).mono ?_;rintro e w3⟨rfl,hb3⟩;have hX3:=za hX2 hz2 hb3;have hz3:w.heap.size<w3.heap.size:=by have:=hb3.size;omega
  have hB3:Bw w w3:=hB2.trans (hb3.mono (by omega));clear hb3 hX2 hz2 hB2;go_wp2_with fail
  go_ret;exact⟨ze (by rw[HO.o,HNm.o,HBare.o,HD.o,HFit.o];simp),hB3⟩
 ·have HFit:=hid hfit
  have HR:Hid (res=zW ss ⟨nm,3,ls,ms,ws,to,rl,mu,fx,df,wg⟩):=by unfold Hid;rw[HO.o,HNm.o,HBare.o,HD.o,hfit];simp
  clear hfit HO;go_enter Tryz.func190,Tryz.ntmps190;go_wp2_with fail
  refine(zf HNm.o (zk _ _ hnm)).mono ?_;rintro e w1⟨rfl,rfl⟩;go_wp2_with fail
  refine(zf HBare.o (zex _ _ _ _ _ _ _ _ _ _ _ _ _)).mono ?_;rintro e w2⟨rfl,hb2⟩;have hX2:=za (zl w _ _) (by simp) hb2;have hz2:w.heap.size<w2.heap.size:=by have:=hb2.size;simp at this;omega
  have hB2:Bw w w2:=(bAl _ _).trans (hb2.mono (by simp));clear hb2;go_wp2_with fail
  refine(zf HFit.o (yX _ _ _ _ _ _ _ _ _ _ _ _ _ _ _ hdf (hws.mono hB2))).mono ?_;rintro e w3⟨rfl,hb3⟩;have hX3:=za hX2 hz2 hb3;have hz3:w.heap.size<w3.heap.size:=by have:=hb3.size;omega
  have hB3:Bw w w3:=hB2.trans (hb3.mono (by omega));clear hb3 hX2 hz2 hB2;go_wp2_with fail
  all_goals
   go_ret;refine⟨ze ?_,hB3⟩;rw[HR.o]
   simp_all [zW,q9]
   try omega
theorem znv (a0:OA)(cap0:Nat)(ss:List Shp)(nm:BA)(ls ms:Int)(a:OA)(cap:Nat)(ws:List BA)(to:BA)(rl:Int)(mu fx:Bool)(df wg:BA)(w:World)(hnm:nm.size<=maxLen)(hdf:df.size<=maxLen)(hws:zG w a ws)(hss:yT w a0 ss) :
 Calls Tryz.prog 190 #[.l a0 ss.length cap0,.agg #[.s nm,.i 4,.i ls,.i ms,.l a ws.length cap,.s to,.i rl,.bool mu,.bool fx,.s df,.s wg]] w
  fun e w'=>e=.returned (.bool (zx nm&&yH ss ⟨nm,4,ls,ms,ws,to,rl,mu,fx,df,wg⟩))/\Bw w w':=by
 have HO:Hid ((zx nm&&yH ss ⟨nm,4,ls,ms,ws,to,rl,mu,fx,df,wg⟩)=(zx nm&&(yM 4 ls ms ws.length to rl wg&&zW ss ⟨nm,4,ls,ms,ws,to,rl,mu,fx,df,wg⟩&&(df.toList.isEmpty||fits 4 ls ms ws df)))):=rfl
 generalize (zx nm&&yH ss ⟨nm,4,ls,ms,ws,to,rl,mu,fx,df,wg⟩)=res at HO
 by_cases hn:zx nm=true
 rotate_left
 ·have HNm:Hid (zx nm=false):=by simpa[Hid] using hn
  clear hn;go_enter Tryz.func190,Tryz.ntmps190;go_wp2_with fail
  refine(zf HNm.o (zk _ _ hnm)).mono ?_;rintro e w1⟨rfl,rfl⟩;go_wp2_with fail
  go_ret;exact⟨ze (by rw[HO.o,HNm.o];rfl),bAl _ _⟩
 have HNm:=hid hn;clear hn
 by_cases hbare:yM 4 ls ms ws.length to rl wg=true
 rotate_left
 ·have HBare:Hid (yM 4 ls ms ws.length to rl wg=false):=by simpa[Hid] using hbare
  clear hbare;go_enter Tryz.func190,Tryz.ntmps190;go_wp2_with fail
  refine(zf HNm.o (zk _ _ hnm)).mono ?_;rintro e w1⟨rfl,rfl⟩;go_wp2_with fail
  refine(zf HBare.o (zaN _ _ _ _ _ _ _ _ _ _ _ _ _)).mono ?_;rintro e w2⟨rfl,hb2⟩;have hX2:=za (zl w _ _) (by simp) hb2;have hz2:w.heap.size<w2.heap.size:=by have:=hb2.size;simp at this;omega
  have hB2:Bw w w2:=(bAl _ _).trans (hb2.mono (by simp));clear hb2;go_wp2_with fail
  go_ret;exact⟨ze (by rw[HO.o,HNm.o,HBare.o];rfl),hB2⟩
 have HBare:=hid hbare;clear hbare
 by_cases hd:df.toList.isEmpty=true
 ·have HD:=hid hd
  have HR:Hid (res=zW ss ⟨nm,4,ls,ms,ws,to,rl,mu,fx,df,wg⟩):=by unfold Hid;rw[HO.o,HNm.o,HBare.o,hd];simp
  clear HO;have HSn:Hid (zW ss ⟨nm,4,ls,ms,ws,to,rl,mu,fx,df,wg⟩=(zJ ss to&&(decide (1<=rl)&&decide (rl<=3))&&df.toList.isEmpty&&(decide (rl≠2)||!mu))):=by simp[zW,Hid]
  by_cases hk:zJ ss to=true
  rotate_left
  ·have HK:Hid (zJ ss to=false):=by simpa[Hid] using hk
   clear hk;go_enter Tryz.func190,Tryz.ntmps190;go_wp2_with fail
   refine(zf HNm.o (zk _ _ hnm)).mono ?_;rintro e w1⟨rfl,rfl⟩;go_wp2_with fail
   refine(zf HBare.o (zaN _ _ _ _ _ _ _ _ _ _ _ _ _)).mono ?_;rintro e w2⟨rfl,hb2⟩;have hX2:=za (zl w _ _) (by simp) hb2;have hz2:w.heap.size<w2.heap.size:=by have:=hb2.size;simp at this;omega
   have hB2:Bw w w2:=(bAl _ _).trans (hb2.mono (by simp));clear hb2;go_wp2_with fail
   refine(zeq _ _ _ _ _ (hss.mono hB2) HK.o).mono ?_;rintro e w5⟨rfl,rfl⟩;go_wp2_with fail
   go_ret;exact⟨ze (by rw[HR.o,HSn.o,HK.o];rfl),hB2⟩
  have HK:=hid hk;clear hk
  by_cases h13:1<=rl/\rl<=3
  rotate_left
  ·have HT:Hid ((decide (1<=rl)&&decide (rl<=3))=false):=by unfold Hid;rw[Bool.eq_false_iff];simp;omega
   have H13:=hid h13;clear h13;go_enter Tryz.func190,Tryz.ntmps190;go_wp2_with fail
   refine(zf HNm.o (zk _ _ hnm)).mono ?_;rintro e w1⟨rfl,rfl⟩;go_wp2_with fail
   refine(zf HBare.o (zaN _ _ _ _ _ _ _ _ _ _ _ _ _)).mono ?_;rintro e w2⟨rfl,hb2⟩;have hX2:=za (zl w _ _) (by simp) hb2;have hz2:w.heap.size<w2.heap.size:=by have:=hb2.size;simp at this;omega
   have hB2:Bw w w2:=(bAl _ _).trans (hb2.mono (by simp));clear hb2;go_wp2_with fail
   refine(jW _ _ _ _ _ (hss.mono hB2) HK.o).mono ?_;rintro e w5⟨ix,hix,rfl,_,rfl⟩;have hix0:(0:Int)<=(ix:Int):=by omega
   go_wp2_with fail
   refine(zdl _ _ _ _ H13.o).mono ?_;rintro e w6⟨rfl,rfl⟩;go_wp2_with fail
   go_ret;exact⟨ze (by rw[HR.o,HSn.o,HK.o,HT.o];simp),hB2⟩
  obtain⟨h1,h3⟩:=h13;have HT:Hid ((decide (1<=rl)&&decide (rl<=3))=true):=by unfold Hid;simp;omega
  by_cases h2:rl=2
  focus
   have e2:(rl != 2)=false:=by simp[h2]
   have H2:Hid (decide (rl≠2)=false):=by unfold Hid;simp[h2]
  rotate_left
  focus
   have e2:(rl != 2)=true:=by simp[h2]
   have H2:Hid (decide (rl≠2)=true):=by unfold Hid;simp[h2]
  all_goals
   clear h2;go_enter Tryz.func190,Tryz.ntmps190;go_wp2_with fail
   refine(zf HNm.o (zk _ _ hnm)).mono ?_;rintro e w1⟨rfl,rfl⟩;go_wp2_with fail
   refine(zf HBare.o (zaN _ _ _ _ _ _ _ _ _ _ _ _ _)).mono ?_;rintro e w2⟨rfl,hb2⟩;have hX2:=za (zl w _ _) (by simp) hb2;have hz2:w.heap.size<w2.heap.size:=by have:=hb2.size;simp at this;omega
   have hB2:Bw w w2:=(bAl _ _).trans (hb2.mono (by simp));clear hb2;go_wp2_with fail
   refine(jW _ _ _ _ _ (hss.mono hB2) HK.o).mono ?_;rintro e w5⟨ix,hix,rfl,_,rfl⟩;have hix0:(0:Int)<=(ix:Int):=by omega
   go_wp2_with fail
   refine(zbH _ _ _ _ h1 h3).mono ?_;rintro e w6⟨rfl,rfl⟩;go_wp2_with fail
   go_ret;exact⟨ze (by rw[HR.o,HSn.o,HK.o,HT.o,HD.o,H2.o];simp),hB2⟩
 have hd':df.toList.isEmpty=false:=by simpa using hd
 have HD:=hid hd';clear hd
 by_cases hfit:fits 4 ls ms ws df=true
 rotate_left
 ·have HFit:Hid (fits 4 ls ms ws df=false):=by simpa[Hid] using hfit
  clear hfit;go_enter Tryz.func190,Tryz.ntmps190;go_wp2_with fail
  refine(zf HNm.o (zk _ _ hnm)).mono ?_;rintro e w1⟨rfl,rfl⟩;go_wp2_with fail
  refine(zf HBare.o (zaN _ _ _ _ _ _ _ _ _ _ _ _ _)).mono ?_;rintro e w2⟨rfl,hb2⟩;have hX2:=za (zl w _ _) (by simp) hb2;have hz2:w.heap.size<w2.heap.size:=by have:=hb2.size;simp at this;omega
  have hB2:Bw w w2:=(bAl _ _).trans (hb2.mono (by simp));clear hb2;go_wp2_with fail
  refine(zf HFit.o (yX _ _ _ _ _ _ _ _ _ _ _ _ _ _ _ hdf (hws.mono hB2))).mono ?_;rintro e w3⟨rfl,hb3⟩;have hX3:=za hX2 hz2 hb3;have hz3:w.heap.size<w3.heap.size:=by have:=hb3.size;omega
  have hB3:Bw w w3:=hB2.trans (hb3.mono (by omega));clear hb3 hX2 hz2 hB2;go_wp2_with fail
  go_ret;exact⟨ze (by rw[HO.o,HNm.o,HBare.o,HD.o,HFit.o];simp),hB3⟩
 ·have HFit:=hid hfit
  have HR:Hid (res=zW ss ⟨nm,4,ls,ms,ws,to,rl,mu,fx,df,wg⟩):=by unfold Hid;rw[HO.o,HNm.o,HBare.o,HD.o,hfit];simp
  clear hfit HO;have HSn:Hid (zW ss ⟨nm,4,ls,ms,ws,to,rl,mu,fx,df,wg⟩=(zJ ss to&&(decide (1<=rl)&&decide (rl<=3))&&df.toList.isEmpty&&(decide (rl≠2)||!mu))):=by simp[zW,Hid]
  by_cases hk:zJ ss to=true
  rotate_left
  ·have HK:Hid (zJ ss to=false):=by simpa[Hid] using hk
   clear hk;go_enter Tryz.func190,Tryz.ntmps190;go_wp2_with fail
   refine(zf HNm.o (zk _ _ hnm)).mono ?_;rintro e w1⟨rfl,rfl⟩;go_wp2_with fail
   refine(zf HBare.o (zaN _ _ _ _ _ _ _ _ _ _ _ _ _)).mono ?_;rintro e w2⟨rfl,hb2⟩;have hX2:=za (zl w _ _) (by simp) hb2;have hz2:w.heap.size<w2.heap.size:=by have:=hb2.size;simp at this;omega
   have hB2:Bw w w2:=(bAl _ _).trans (hb2.mono (by simp));clear hb2;go_wp2_with fail
   refine(zf HFit.o (yX _ _ _ _ _ _ _ _ _ _ _ _ _ _ _ hdf (hws.mono hB2))).mono ?_;rintro e w3⟨rfl,hb3⟩;have hX3:=za hX2 hz2 hb3;have hz3:w.heap.size<w3.heap.size:=by have:=hb3.size;omega
   have hB3:Bw w w3:=hB2.trans (hb3.mono (by omega));clear hb3 hX2 hz2 hB2;go_wp2_with fail
   refine(zeq _ _ _ _ _ (hss.mono hB3) HK.o).mono ?_;rintro e w5⟨rfl,rfl⟩;go_wp2_with fail
   go_ret;exact⟨ze (by rw[HR.o,HSn.o,HK.o];rfl),hB3⟩
  have HK:=hid hk;clear hk
  by_cases h13:1<=rl/\rl<=3
  ·obtain⟨h1,h3⟩:=h13
   go_enter Tryz.func190,Tryz.ntmps190;go_wp2_with fail
   refine(zf HNm.o (zk _ _ hnm)).mono ?_;rintro e w1⟨rfl,rfl⟩;go_wp2_with fail
   refine(zf HBare.o (zaN _ _ _ _ _ _ _ _ _ _ _ _ _)).mono ?_;rintro e w2⟨rfl,hb2⟩;have hX2:=za (zl w _ _) (by simp) hb2;have hz2:w.heap.size<w2.heap.size:=by have:=hb2.size;simp at this;omega
   have hB2:Bw w w2:=(bAl _ _).trans (hb2.mono (by simp));clear hb2;go_wp2_with fail
   refine(zf HFit.o (yX _ _ _ _ _ _ _ _ _ _ _ _ _ _ _ hdf (hws.mono hB2))).mono ?_;rintro e w3⟨rfl,hb3⟩;have hX3:=za hX2 hz2 hb3;have hz3:w.heap.size<w3.heap.size:=by have:=hb3.size;omega
   have hB3:Bw w w3:=hB2.trans (hb3.mono (by omega));clear hb3 hX2 hz2 hB2;go_wp2_with fail
   refine(jW _ _ _ _ _ (hss.mono hB3) HK.o).mono ?_;rintro e w5⟨ix,hix,rfl,_,rfl⟩;have hix0:(0:Int)<=(ix:Int):=by omega
   go_wp2_with fail
   refine(zbH _ _ _ _ h1 h3).mono ?_;rintro e w6⟨rfl,rfl⟩;go_wp2_with fail
   go_ret;exact⟨ze (by rw[HR.o,HSn.o,HD.o];simp),hB3⟩
  ·have H13:=hid h13
   clear h13;go_enter Tryz.func190,Tryz.ntmps190;go_wp2_with fail
   refine(zf HNm.o (zk _ _ hnm)).mono ?_;rintro e w1⟨rfl,rfl⟩;go_wp2_with fail
   refine(zf HBare.o (zaN _ _ _ _ _ _ _ _ _ _ _ _ _)).mono ?_;rintro e w2⟨rfl,hb2⟩;have hX2:=za (zl w _ _) (by simp) hb2;have hz2:w.heap.size<w2.heap.size:=by have:=hb2.size;simp at this;omega
   have hB2:Bw w w2:=(bAl _ _).trans (hb2.mono (by simp));clear hb2;go_wp2_with fail
   refine(zf HFit.o (yX _ _ _ _ _ _ _ _ _ _ _ _ _ _ _ hdf (hws.mono hB2))).mono ?_;rintro e w3⟨rfl,hb3⟩;have hX3:=za hX2 hz2 hb3;have hz3:w.heap.size<w3.heap.size:=by have:=hb3.size;omega
   have hB3:Bw w w3:=hB2.trans (hb3.mono (by omega));clear hb3 hX2 hz2 hB2;go_wp2_with fail
   refine(jW _ _ _ _ _ (hss.mono hB3) HK.o).mono ?_;rintro e w5⟨ix,hix,rfl,_,rfl⟩;have hix0:(0:Int)<=(ix:Int):=by omega
   go_wp2_with fail
   refine(zdl _ _ _ _ H13.o).mono ?_;rintro e w6⟨rfl,rfl⟩;go_wp2_with fail
   go_ret;exact⟨ze (by rw[HR.o,HSn.o,HD.o];simp),hB3⟩
end Go.Proofs.YtcgpjfcocmcodaaGreat
