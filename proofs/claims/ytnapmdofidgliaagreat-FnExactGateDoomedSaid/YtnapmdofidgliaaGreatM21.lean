import Derived.Test.YtnapmdofidgliaaGreatM17
set_option maxHeartbeats 2000000
namespace Go.Proofs.YtnapmdofidgliaaGreat
open Go.RowKit
def isSet (s:ByteArray):Bool:=!s.toList.isEmpty
def zQ (m:Mnd):List ByteArray:=[m.wh,m.fr].filter isSet
def turns (m:Mnd)(s:Shp)(p:Nat):Bool:=decide (m.kd=s.kd)&&decide (m.fd=(s.fs.getD p zbO).nm)
set_option maxRecDepth 20000 in
theorem zfB (m:Mnd)(w:World) :
 Calls Tryz.prog 184 #[.agg m.cells] w fun e w'=>∃v,e=.returned v/\w'.ownsRow w.heap.size 9 1 v (zQ m).length ((zQ m).map Value.string)/\Below w.heap.size w w':=by
 unfold Mnd.cells;obtain⟨i0,hi,hz0,hz1',hz2⟩:=info_parts Tryz.zc1;go_enter Tryz.func184,Tryz.ntmps184;go_wp2_with fail
 go_loopw [3,12] (fun nv0 iv wr=>∃(k:Nat) (nv:Value),nv=nv0/\k<=2/\iv=.int .i64 k/\wr.ownsRow (w.heap.size+2) 9 1 nv (([m.wh,m.fr].take k).filter isSet).length ((([m.wh,m.fr].take k).filter isSet).map Value.string)/\wr.heap[w.heap.size+1]?=some (.cells #[.string m.wh,.string m.fr] 9)/\Below w.heap.size w wr) (fun _ iv _=>2-(intOf iv).toNat)
 case atStart=>exact⟨0,_,rfl,by omega,rfl,World.ownsRow_nil _ _ _ _,(zT _ _ _).2,zw _ _ _⟩
 case round=>
  obtain⟨k,nv,hnv,hk,rfl,hown,hlit,hB⟩:=hrel;subst hnv
  by_cases hlt:k<2
  ·have hltI:(k:Int)<2:=by omega
   obtain⟨x,hx,HT⟩:∃x,(#[.string m.wh,.string m.fr]:Array Value)[k]?=some (.string x)/\Hid (([m.wh,m.fr].take (k+1)).filter isSet=([m.wh,m.fr].take k).filter isSet++if isSet x=true then [x] else []):=by
    rcases k with _|_|k
    ·refine⟨m.wh,rfl,?_⟩
     by_cases h:isSet m.wh=true <;> simp[Hid,h]
    ·refine⟨m.fr,rfl,?_⟩
     by_cases h:isSet m.fr=true <;> by_cases h':isSet m.wh=true <;> simp[Hid,h,h']
    ·omega
   have hcx:wr.cell? ⟨w.heap.size+1,k,none⟩=some (.string x):=by rw[cell_of_block hlit];exact hx
   have hlen:(([m.wh,m.fr].take k).filter isSet).length<=2:=Nat.le_trans (List.length_filter_le _ _) (by simp;omega);have HB:=zc6 hlit hB ((gES hlit).1);have HW:=hid hown;clear hlit hB hx hown
   by_cases hs:x.toList.isEmpty=true
   ·have HE:Hid (isSet x=false):=by unfold Hid isSet;rw[hs];rfl
    go_wp2_with fail
    have HT':([m.wh,m.fr].take (k+1)).filter isSet=([m.wh,m.fr].take k).filter isSet:=by rw[HT.out,HE.out];simp
    exact⟨⟨k+1,_,rfl,by omega,by go_num,by rw[HT'];exact HW.out,HB.out.1,HB.out.2.1⟩,zm hlt⟩
   ·have hs':x.toList.isEmpty=false:=by simpa using hs
    have HE:Hid (isSet x=true):=by unfold Hid isSet;rw[hs'];rfl
    clear hs
    go_wp2_with (at_builtin;refine wpList_append_own _ rfl (.tmp 18) (.tmp 20) 106 rfl (w.heap.size+2) 9 i0 (.string ByteArray.empty) 1 16 Tryz.underlying106 hi hz0 hz1' hz2 rfl (by decide) _ _ _ rfl (HW.out.alloc _) ⟨wr.heap.size,0,none⟩ 1 1 [.string x] rfl rfl (zci _ _ _) (by intro u hu;simp at hu;subst hu;rfl) (by unfold maxLen;omega) (by omega) (by have:=HB.out.2.2;simp;omega) ?_;intro v' w1 hown' hgr _)
    have HT':([m.wh,m.fr].take (k+1)).filter isSet=([m.wh,m.fr].take k).filter isSet++[x]:=by rw[HT.out,HE.out];simp
    have hgb:∀g,nv.ownBlock=some g->w.heap.size+2<=g:=fun g hg=>(HW.out.lt g hg).1
    refine⟨⟨k+1,_,rfl,by omega,by go_num,?_,?_,zaQ HB.out.2.1 HB.out.2.1.size hgr (fun g hg=>by have:=hgb g hg;omega)⟩,zm hlt⟩
    ·rw[HT',List.length_append,List.map_append];exact hown'
    ·rw[zaM hgr (by have:=HB.out.2.2;simp;omega) (fun g hg=>by have:=hgb g hg;omega),Below.heap_alloc _ _ _ HB.out.2.2];exact HB.out.1
  ·have e:k=2:=by omega
   subst e;have HF:Hid (wr.ownsRow w.heap.size 9 1 nv (zQ m).length ((zQ m).map Value.string)/\Below w.heap.size w wr):=⟨zaq hown (by omega),hB⟩
   clear hown hlit hB;go_wp2_with fail
   go_ret;exact⟨nv,rfl,HF.out⟩
theorem zli (m:Mnd)(s:Shp)(fa:Option Addr)(fcap p:Nat)(w:World)(hf:zY w fa s.fs)(hp:p<s.fs.length) :
 Calls Tryz.prog 189 #[.agg m.cells,.agg #[.string s.kd,.slice fa s.fs.length fcap],.int .i64 p] w fun e w'=>e=.returned (.bool (turns m s p))/\Below w.heap.size w w':=by
 unfold Mnd.cells;have hB:∀o1 o2,Below w.heap.size w ((w.alloc o1).alloc o2):=fun o1 o2=>zw w o1 o2
 have hl:=hf.len;unfold maxLen at hl;obtain⟨b,off,rfl,hb,hr⟩:=hf.rows (by intro e;rw[e]at hp;simp at hp);obtain⟨wa,wcap,hf0⟩:=hr p hp;obtain⟨c0,c1,c2,c3,c4,c5,c6,c7,c8,c9,c10⟩:=hf0.load;have hpI:(p:Int)<(s.fs.length:Int):=by omega
 have HD:Hid ((s.fs.getD p zbO).nm=s.fs[p].nm):=by unfold Hid;rw[getD_at _ _ _ hp]
 clear hf hr hf0 c1 c2 c3 c4 c5 c6 c7 c8 c9 c10
 by_cases h1:m.kd=s.kd
 ·by_cases h2:m.fd=s.fs[p].nm
  ·have HR:Hid (turns m s p=true):=by unfold Hid turns;rw[HD.out];simp[h1,h2]
   have hq:(m.kd.toList == s.kd.toList)=true:=by rw[beq_toList];simpa using h1
   have hr:(m.fd.toList == s.fs[p].nm.toList)=true:=by rw[beq_toList];simpa using h2
   clear h1 h2;go_enter Tryz.func189,Tryz.ntmps189;go_wp2_with fail
   go_quiet (fail)
   go_wp2_with fail
   go_ret;exact⟨by rw[HR.out];rfl,below_drewN (hB _ _) _⟩
  ·have HR:Hid (turns m s p=false):=by unfold Hid turns;rw[HD.out];simp[h1,h2]
   have hq:(m.kd.toList == s.kd.toList)=true:=by rw[beq_toList];simpa using h1
   have hr:(m.fd.toList == s.fs[p].nm.toList)=false:=by rw[beq_toList];simpa using h2
   clear h1 h2;go_enter Tryz.func189,Tryz.ntmps189;go_wp2_with fail
   go_quiet (fail)
   go_wp2_with fail
   go_ret;exact⟨by rw[HR.out];rfl,below_drewN (hB _ _) _⟩
 ·have HR:Hid (turns m s p=false):=by unfold Hid turns;rw[HD.out];simp[h1]
  have hq:(m.kd.toList == s.kd.toList)=false:=by rw[beq_toList];simpa using h1
  clear h1;go_enter Tryz.func189,Tryz.ntmps189;go_wp2_with fail
  go_quiet (fail)
  go_wp2_with fail
  go_ret;exact⟨by rw[HR.out];rfl,below_drewN (hB _ _) _⟩
theorem znJ (a0:Option Addr)(cap0:Nat)(ss:List Shp)(nm:ByteArray)(ls ms:Int)(a:Option Addr)(cap:Nat)(ws:List ByteArray)(to:ByteArray)(rl:Int)(mu fx:Bool)(df wg:ByteArray)(w:World)(hnm:nm.size<=maxLen)(hdf:df.size<=maxLen)(hwg:wg.size<=maxLen)(hws:zD w a ws) :
 Calls Tryz.prog 170 #[.slice a0 ss.length cap0,.agg #[.string nm,.int .i64 1,.int .i64 ls,.int .i64 ms,.slice a ws.length cap,.string to,.int .i64 rl,.bool mu,.bool fx,.string df,.string wg]] w
  fun e w'=>e=.returned (.bool (zB nm&&yI ss ⟨nm,1,ls,ms,ws,to,rl,mu,fx,df,wg⟩))/\Below w.heap.size w w':=by
 have HO:Hid ((zB nm&&yI ss ⟨nm,1,ls,ms,ws,to,rl,mu,fx,df,wg⟩)=(zB nm&&(yO 1 ls ms ws.length to rl wg&&zZ ss ⟨nm,1,ls,ms,ws,to,rl,mu,fx,df,wg⟩&&(df.toList.isEmpty||fits 1 ls ms ws df)))):=rfl
 generalize (zB nm&&yI ss ⟨nm,1,ls,ms,ws,to,rl,mu,fx,df,wg⟩)=res at HO
 by_cases hn:zB nm=true
 rotate_left
 ·have HNm:Hid (zB nm=false):=by simpa[Hid] using hn
  clear hn;go_enter Tryz.func170,Tryz.ntmps170;go_wp2_with fail
  refine(zf HNm.out (zi _ _ hnm)).mono ?_;rintro e w1⟨rfl,rfl⟩;go_wp2_with fail
  go_ret;exact⟨ze (by rw[HO.out,HNm.out];rfl),bAl _ _⟩
 have HNm:=hid hn;clear hn
 by_cases hbare:yO 1 ls ms ws.length to rl wg=true
 rotate_left
 ·have HBare:Hid (yO 1 ls ms ws.length to rl wg=false):=by simpa[Hid] using hbare
  clear hbare;go_enter Tryz.func170,Tryz.ntmps170;go_wp2_with fail
  refine(zf HNm.out (zi _ _ hnm)).mono ?_;rintro e w1⟨rfl,rfl⟩;go_wp2_with fail
  refine(zf HBare.out (zdY _ _ _ _ _ _ _ _ _ _ _ _ _)).mono ?_;rintro e w2⟨rfl,hb2⟩;have hX2:=za (zl w _ _) (by simp) hb2;have hz2:w.heap.size<w2.heap.size:=by have:=hb2.size;simp at this;omega
  have hB2:Below w.heap.size w w2:=(bAl _ _).trans (hb2.mono (by simp));clear hb2;go_wp2_with fail
  go_ret;exact⟨ze (by rw[HO.out,HNm.out,HBare.out];rfl),hB2⟩
 have HBare:=hid hbare;clear hbare
 by_cases hd:df.toList.isEmpty=true
 ·have HD:=hid hd
  have HR:Hid (res=zZ ss ⟨nm,1,ls,ms,ws,to,rl,mu,fx,df,wg⟩):=by unfold Hid;rw[HO.out,HNm.out,HBare.out,hd];simp
  clear HO;go_enter Tryz.func170,Tryz.ntmps170;go_wp2_with fail
  refine(zf HNm.out (zi _ _ hnm)).mono ?_;rintro e w1⟨rfl,rfl⟩;go_wp2_with fail
  refine(zf HBare.out (zdY _ _ _ _ _ _ _ _ _ _ _ _ _)).mono ?_;rintro e w2⟨rfl,hb2⟩;have hX2:=za (zl w _ _) (by simp) hb2;have hz2:w.heap.size<w2.heap.size:=by have:=hb2.size;simp at this;omega
  have hB2:Below w.heap.size w w2:=(bAl _ _).trans (hb2.mono (by simp));clear hb2
  go_wp2_with (go_at_call 104;refine(zi _ _ hwg).mono ?_;rintro e w5⟨rfl,rfl⟩)
  all_goals
   go_ret;refine⟨ze ?_,hB2⟩;rw[HR.out]
   simp_all [zZ,jF]
   try omega
 have hd':df.toList.isEmpty=false:=by simpa using hd
 have HD:=hid hd';clear hd
 by_cases hfit:fits 1 ls ms ws df=true
 rotate_left
 ·have HFit:Hid (fits 1 ls ms ws df=false):=by simpa[Hid] using hfit
  clear hfit;go_enter Tryz.func170,Tryz.ntmps170;go_wp2_with fail
  refine(zf HNm.out (zi _ _ hnm)).mono ?_;rintro e w1⟨rfl,rfl⟩;go_wp2_with fail
  refine(zf HBare.out (zdY _ _ _ _ _ _ _ _ _ _ _ _ _)).mono ?_;rintro e w2⟨rfl,hb2⟩;have hX2:=za (zl w _ _) (by simp) hb2;have hz2:w.heap.size<w2.heap.size:=by have:=hb2.size;simp at this;omega
  have hB2:Below w.heap.size w w2:=(bAl _ _).trans (hb2.mono (by simp));clear hb2;go_wp2_with fail
  refine(zf HFit.out (yS _ _ _ _ _ _ _ _ _ _ _ _ _ _ _ hdf (hws.mono hB2))).mono ?_;rintro e w3⟨rfl,hb3⟩;have hX3:=za hX2 hz2 hb3;have hz3:w.heap.size<w3.heap.size:=by have:=hb3.size;omega
  have hB3:Below w.heap.size w w3:=hB2.trans (hb3.mono (by omega));clear hb3 hX2 hz2 hB2;go_wp2_with fail
  go_ret;exact⟨ze (by rw[HO.out,HNm.out,HBare.out,HD.out,HFit.out];simp),hB3⟩
 ·have HFit:=hid hfit
  have HR:Hid (res=zZ ss ⟨nm,1,ls,ms,ws,to,rl,mu,fx,df,wg⟩):=by unfold Hid;rw[HO.out,HNm.out,HBare.out,HD.out,hfit];simp
  clear hfit HO;go_enter Tryz.func170,Tryz.ntmps170;go_wp2_with fail
  refine(zf HNm.out (zi _ _ hnm)).mono ?_;rintro e w1⟨rfl,rfl⟩;go_wp2_with fail
  refine(zf HBare.out (zdY _ _ _ _ _ _ _ _ _ _ _ _ _)).mono ?_;rintro e w2⟨rfl,hb2⟩;have hX2:=za (zl w _ _) (by simp) hb2;have hz2:w.heap.size<w2.heap.size:=by have:=hb2.size;simp at this;omega
  have hB2:Below w.heap.size w w2:=(bAl _ _).trans (hb2.mono (by simp));clear hb2;go_wp2_with fail
  refine(zf HFit.out (yS _ _ _ _ _ _ _ _ _ _ _ _ _ _ _ hdf (hws.mono hB2))).mono ?_;rintro e w3⟨rfl,hb3⟩;have hX3:=za hX2 hz2 hb3;have hz3:w.heap.size<w3.heap.size:=by have:=hb3.size;omega
  have hB3:Below w.heap.size w w3:=hB2.trans (hb3.mono (by omega));clear hb3 hX2 hz2 hB2
  go_wp2_with (go_at_call 104;refine(zi _ _ hwg).mono ?_;rintro e w5⟨rfl,rfl⟩)
  all_goals
   go_ret;refine⟨ze ?_,hB3⟩;rw[HR.out]
   simp_all [zZ,jF]
   try omega
theorem zng (a0:Option Addr)(cap0:Nat)(ss:List Shp)(nm:ByteArray)(ls ms:Int)(a:Option Addr)(cap:Nat)(ws:List ByteArray)(to:ByteArray)(rl:Int)(mu fx:Bool)(df wg:ByteArray)(w:World)(hnm:nm.size<=maxLen)(hdf:df.size<=maxLen)(hws:zD w a ws) :
 Calls Tryz.prog 170 #[.slice a0 ss.length cap0,.agg #[.string nm,.int .i64 2,.int .i64 ls,.int .i64 ms,.slice a ws.length cap,.string to,.int .i64 rl,.bool mu,.bool fx,.string df,.string wg]] w
  fun e w'=>e=.returned (.bool (zB nm&&yI ss ⟨nm,2,ls,ms,ws,to,rl,mu,fx,df,wg⟩))/\Below w.heap.size w w':=by
 have HO:Hid ((zB nm&&yI ss ⟨nm,2,ls,ms,ws,to,rl,mu,fx,df,wg⟩)=(zB nm&&(yO 2 ls ms ws.length to rl wg&&zZ ss ⟨nm,2,ls,ms,ws,to,rl,mu,fx,df,wg⟩&&(df.toList.isEmpty||fits 2 ls ms ws df)))):=rfl
 generalize (zB nm&&yI ss ⟨nm,2,ls,ms,ws,to,rl,mu,fx,df,wg⟩)=res at HO
 by_cases hn:zB nm=true
 rotate_left
 ·have HNm:Hid (zB nm=false):=by simpa[Hid] using hn
  clear hn;go_enter Tryz.func170,Tryz.ntmps170;go_wp2_with fail
  refine(zf HNm.out (zi _ _ hnm)).mono ?_;rintro e w1⟨rfl,rfl⟩;go_wp2_with fail
  go_ret;exact⟨ze (by rw[HO.out,HNm.out];rfl),bAl _ _⟩
 have HNm:=hid hn;clear hn
 by_cases hbare:yO 2 ls ms ws.length to rl wg=true
 rotate_left
 ·have HBare:Hid (yO 2 ls ms ws.length to rl wg=false):=by simpa[Hid] using hbare
  clear hbare;go_enter Tryz.func170,Tryz.ntmps170;go_wp2_with fail
  refine(zf HNm.out (zi _ _ hnm)).mono ?_;rintro e w1⟨rfl,rfl⟩;go_wp2_with fail
  refine(zf HBare.out (zb7 _ _ _ _ _ _ _ _ _ _ _ _ _)).mono ?_;rintro e w2⟨rfl,hb2⟩;have hX2:=za (zl w _ _) (by simp) hb2;have hz2:w.heap.size<w2.heap.size:=by have:=hb2.size;simp at this;omega
  have hB2:Below w.heap.size w w2:=(bAl _ _).trans (hb2.mono (by simp));clear hb2;go_wp2_with fail
  go_ret;exact⟨ze (by rw[HO.out,HNm.out,HBare.out];rfl),hB2⟩
 have HBare:=hid hbare;clear hbare
 by_cases hd:df.toList.isEmpty=true
 ·have HD:=hid hd
  have HR:Hid (res=zZ ss ⟨nm,2,ls,ms,ws,to,rl,mu,fx,df,wg⟩):=by unfold Hid;rw[HO.out,HNm.out,HBare.out,hd];simp
  clear HO;have HSn:Hid (zZ ss ⟨nm,2,ls,ms,ws,to,rl,mu,fx,df,wg⟩=(decide (1<=ws.length)&&decide (ws.length<=6)&&asc ws)):=by simp[zZ,Hid]
  have hl:=hws.len;unfold maxLen at hl
  by_cases h16:1<=ws.length/\ws.length<=6
  ·obtain⟨h1,h6⟩:=h16
   go_enter Tryz.func170,Tryz.ntmps170;go_wp2_with fail
   refine(zf HNm.out (zi _ _ hnm)).mono ?_;rintro e w1⟨rfl,rfl⟩;go_wp2_with fail
   refine(zf HBare.out (zb7 _ _ _ _ _ _ _ _ _ _ _ _ _)).mono ?_;rintro e w2⟨rfl,hb2⟩;have hX2:=za (zl w _ _) (by simp) hb2;have hz2:w.heap.size<w2.heap.size:=by have:=hb2.size;simp at this;omega
   have hB2:Below w.heap.size w w2:=(bAl _ _).trans (hb2.mono (by simp));clear hb2;go_wp2_with fail
   refine(zbf _ _ _ _ (by omega) (by omega)).mono ?_;rintro e w5⟨rfl,rfl⟩;go_wp2_with fail
   refine(zaC _ _ _ _ (hws.mono hB2)).mono ?_;rintro e w6⟨rfl,nd,rfl⟩;go_wp2_with fail
   go_ret;exact⟨ze (by rw[HR.out,HSn.out,decide_eq_true h1,decide_eq_true h6];rfl),below_drewN hB2 _⟩
  ·have HS0:Hid (zZ ss ⟨nm,2,ls,ms,ws,to,rl,mu,fx,df,wg⟩=false):=by
    rw[HSn.out];unfold Hid
    by_cases h1:1<=ws.length
    ·rw[decide_eq_false (show ¬ws.length<=6 by omega)];simp
    ·rw[decide_eq_false h1];rfl
   go_enter Tryz.func170,Tryz.ntmps170;go_wp2_with fail
   refine(zf HNm.out (zi _ _ hnm)).mono ?_;rintro e w1⟨rfl,rfl⟩;go_wp2_with fail
   refine(zf HBare.out (zb7 _ _ _ _ _ _ _ _ _ _ _ _ _)).mono ?_;rintro e w2⟨rfl,hb2⟩;have hX2:=za (zl w _ _) (by simp) hb2;have hz2:w.heap.size<w2.heap.size:=by have:=hb2.size;simp at this;omega
   have hB2:Below w.heap.size w w2:=(bAl _ _).trans (hb2.mono (by simp));clear hb2;go_wp2_with fail
   refine(zdc _ _ _ _ (by omega)).mono ?_;rintro e w5⟨rfl,rfl⟩;go_wp2_with fail
   go_ret;exact⟨ze (by rw[HR.out,HS0.out]),hB2⟩
 have hd':df.toList.isEmpty=false:=by simpa using hd
 have HD:=hid hd';clear hd
 by_cases hfit:fits 2 ls ms ws df=true
 rotate_left
 ·have HFit:Hid (fits 2 ls ms ws df=false):=by simpa[Hid] using hfit
  clear hfit;go_enter Tryz.func170,Tryz.ntmps170;go_wp2_with fail
  refine(zf HNm.out (zi _ _ hnm)).mono ?_;rintro e w1⟨rfl,rfl⟩;go_wp2_with fail
  refine(zf HBare.out (zb7 _ _ _ _ _ _ _ _ _ _ _ _ _)).mono ?_;rintro e w2⟨rfl,hb2⟩;have hX2:=za (zl w _ _) (by simp) hb2;have hz2:w.heap.size<w2.heap.size:=by have:=hb2.size;simp at this;omega
  have hB2:Below w.heap.size w w2:=(bAl _ _).trans (hb2.mono (by simp));clear hb2;go_wp2_with fail
  refine(zf HFit.out (yS _ _ _ _ _ _ _ _ _ _ _ _ _ _ _ hdf (hws.mono hB2))).mono ?_;rintro e w3⟨rfl,hb3⟩;have hX3:=za hX2 hz2 hb3;have hz3:w.heap.size<w3.heap.size:=by have:=hb3.size;omega
  have hB3:Below w.heap.size w w3:=hB2.trans (hb3.mono (by omega));clear hb3 hX2 hz2 hB2;go_wp2_with fail
  go_ret;exact⟨ze (by rw[HO.out,HNm.out,HBare.out,HD.out,HFit.out];simp),hB3⟩
 ·have HFit:=hid hfit
  have HR:Hid (res=zZ ss ⟨nm,2,ls,ms,ws,to,rl,mu,fx,df,wg⟩):=by unfold Hid;rw[HO.out,HNm.out,HBare.out,HD.out,hfit];simp
  clear hfit HO;have HSn:Hid (zZ ss ⟨nm,2,ls,ms,ws,to,rl,mu,fx,df,wg⟩=(decide (1<=ws.length)&&decide (ws.length<=6)&&asc ws)):=by simp[zZ,Hid]
  have hl:=hws.len;unfold maxLen at hl
  by_cases h16:1<=ws.length/\ws.length<=6
  ·obtain⟨h1,h6⟩:=h16
   go_enter Tryz.func170,Tryz.ntmps170;go_wp2_with fail
   refine(zf HNm.out (zi _ _ hnm)).mono ?_;rintro e w1⟨rfl,rfl⟩;go_wp2_with fail
   refine(zf HBare.out (zb7 _ _ _ _ _ _ _ _ _ _ _ _ _)).mono ?_;rintro e w2⟨rfl,hb2⟩;have hX2:=za (zl w _ _) (by simp) hb2;have hz2:w.heap.size<w2.heap.size:=by have:=hb2.size;simp at this;omega
   have hB2:Below w.heap.size w w2:=(bAl _ _).trans (hb2.mono (by simp));clear hb2;go_wp2_with fail
   refine(zf HFit.out (yS _ _ _ _ _ _ _ _ _ _ _ _ _ _ _ hdf (hws.mono hB2))).mono ?_;rintro e w3⟨rfl,hb3⟩;have hX3:=za hX2 hz2 hb3;have hz3:w.heap.size<w3.heap.size:=by have:=hb3.size;omega
   have hB3:Below w.heap.size w w3:=hB2.trans (hb3.mono (by omega));clear hb3 hX2 hz2 hB2;go_wp2_with fail
   refine(zbf _ _ _ _ (by omega) (by omega)).mono ?_;rintro e w5⟨rfl,rfl⟩;go_wp2_with fail
   refine(zaC _ _ _ _ (hws.mono hB3)).mono ?_;rintro e w6⟨rfl,nd,rfl⟩;go_wp2_with fail
   go_ret;exact⟨ze (by rw[HR.out,HSn.out,decide_eq_true h1,decide_eq_true h6];rfl),below_drewN hB3 _⟩
  ·have HS0:Hid (zZ ss ⟨nm,2,ls,ms,ws,to,rl,mu,fx,df,wg⟩=false):=by
    rw[HSn.out];unfold Hid
    by_cases h1:1<=ws.length
    ·rw[decide_eq_false (show ¬ws.length<=6 by omega)];simp
    ·rw[decide_eq_false h1];rfl
   go_enter Tryz.func170,Tryz.ntmps170;go_wp2_with fail
   refine(zf HNm.out (zi _ _ hnm)).mono ?_;rintro e w1⟨rfl,rfl⟩;go_wp2_with fail
   refine(zf HBare.out (zb7 _ _ _ _ _ _ _ _ _ _ _ _ _)).mono ?_;rintro e w2⟨rfl,hb2⟩;have hX2:=za (zl w _ _) (by simp) hb2;have hz2:w.heap.size<w2.heap.size:=by have:=hb2.size;simp at this;omega
   have hB2:Below w.heap.size w w2:=(bAl _ _).trans (hb2.mono (by simp));clear hb2;go_wp2_with fail
   refine(zf HFit.out (yS _ _ _ _ _ _ _ _ _ _ _ _ _ _ _ hdf (hws.mono hB2))).mono ?_;rintro e w3⟨rfl,hb3⟩;have hX3:=za hX2 hz2 hb3;have hz3:w.heap.size<w3.heap.size:=by have:=hb3.size;omega
   have hB3:Below w.heap.size w w3:=hB2.trans (hb3.mono (by omega));clear hb3 hX2 hz2 hB2;go_wp2_with fail
   refine(zdc _ _ _ _ (by omega)).mono ?_;rintro e w5⟨rfl,rfl⟩;go_wp2_with fail
   go_ret;exact⟨ze (by rw[HR.out,HS0.out]),hB3⟩
theorem zno (a0:Option Addr)(cap0:Nat)(ss:List Shp)(nm:ByteArray)(ls ms:Int)(a:Option Addr)(cap:Nat)(ws:List ByteArray)(to:ByteArray)(rl:Int)(mu fx:Bool)(df wg:ByteArray)(w:World)(hnm:nm.size<=maxLen)(hdf:df.size<=maxLen)(hws:zD w a ws) :
 Calls Tryz.prog 170 #[.slice a0 ss.length cap0,.agg #[.string nm,.int .i64 3,.int .i64 ls,.int .i64 ms,.slice a ws.length cap,.string to,.int .i64 rl,.bool mu,.bool fx,.string df,.string wg]] w
  fun e w'=>e=.returned (.bool (zB nm&&yI ss ⟨nm,3,ls,ms,ws,to,rl,mu,fx,df,wg⟩))/\Below w.heap.size w w':=by
 have HO:Hid ((zB nm&&yI ss ⟨nm,3,ls,ms,ws,to,rl,mu,fx,df,wg⟩)=(zB nm&&(yO 3 ls ms ws.length to rl wg&&zZ ss ⟨nm,3,ls,ms,ws,to,rl,mu,fx,df,wg⟩&&(df.toList.isEmpty||fits 3 ls ms ws df)))):=rfl
 generalize (zB nm&&yI ss ⟨nm,3,ls,ms,ws,to,rl,mu,fx,df,wg⟩)=res at HO
 by_cases hn:zB nm=true
 rotate_left
 ·have HNm:Hid (zB nm=false):=by simpa[Hid] using hn
  clear hn;go_enter Tryz.func170,Tryz.ntmps170;go_wp2_with fail
  refine(zf HNm.out (zi _ _ hnm)).mono ?_;rintro e w1⟨rfl,rfl⟩;go_wp2_with fail
  go_ret;exact⟨ze (by rw[HO.out,HNm.out];rfl),bAl _ _⟩
 have HNm:=hid hn;clear hn
 by_cases hbare:yO 3 ls ms ws.length to rl wg=true
 rotate_left
 ·have HBare:Hid (yO 3 ls ms ws.length to rl wg=false):=by simpa[Hid] using hbare
  clear hbare;go_enter Tryz.func170,Tryz.ntmps170;go_wp2_with fail
  refine(zf HNm.out (zi _ _ hnm)).mono ?_;rintro e w1⟨rfl,rfl⟩;go_wp2_with fail
  refine(zf HBare.out (zep _ _ _ _ _ _ _ _ _ _ _ _ _)).mono ?_;rintro e w2⟨rfl,hb2⟩;have hX2:=za (zl w _ _) (by simp) hb2;have hz2:w.heap.size<w2.heap.size:=by have:=hb2.size;simp at this;omega
  have hB2:Below w.heap.size w w2:=(bAl _ _).trans (hb2.mono (by simp));clear hb2;go_wp2_with fail
  go_ret;exact⟨ze (by rw[HO.out,HNm.out,HBare.out];rfl),hB2⟩
 have HBare:=hid hbare;clear hbare
 by_cases hd:df.toList.isEmpty=true
 ·have HD:=hid hd
  have HR:Hid (res=zZ ss ⟨nm,3,ls,ms,ws,to,rl,mu,fx,df,wg⟩):=by unfold Hid;rw[HO.out,HNm.out,HBare.out,hd];simp
  clear HO;go_enter Tryz.func170,Tryz.ntmps170;go_wp2_with fail
  refine(zf HNm.out (zi _ _ hnm)).mono ?_;rintro e w1⟨rfl,rfl⟩;go_wp2_with fail
  refine(zf HBare.out (zep _ _ _ _ _ _ _ _ _ _ _ _ _)).mono ?_;rintro e w2⟨rfl,hb2⟩;have hX2:=za (zl w _ _) (by simp) hb2;have hz2:w.heap.size<w2.heap.size:=by have:=hb2.size;simp at this;omega
  have hB2:Below w.heap.size w w2:=(bAl _ _).trans (hb2.mono (by simp));clear hb2;go_wp2_with fail
  all_goals
   go_ret;refine⟨ze ?_,hB2⟩;rw[HR.out]
   simp_all [zZ,jF]
   try omega
 have hd':df.toList.isEmpty=false:=by simpa using hd
 have HD:=hid hd';clear hd
 by_cases hfit:fits 3 ls ms ws df=true
 rotate_left
 ·have HFit:Hid (fits 3 ls ms ws df=false):=by simpa[Hid] using hfit
  clear hfit;go_enter Tryz.func170,Tryz.ntmps170;go_wp2_with fail
  refine(zf HNm.out (zi _ _ hnm)).mono ?_;rintro e w1⟨rfl,rfl⟩;go_wp2_with fail
  refine(zf HBare.out (zep _ _ _ _ _ _ _ _ _ _ _ _ _)).mono ?_;rintro e w2⟨rfl,hb2⟩;have hX2:=za (zl w _ _) (by simp) hb2;have hz2:w.heap.size<w2.heap.size:=by have:=hb2.size;simp at this;omega
  have hB2:Below w.heap.size w w2:=(bAl _ _).trans (hb2.mono (by simp));clear hb2;go_wp2_with fail
  refine(zf HFit.out (yS _ _ _ _ _ _ _ _ _ _ _ _ _ _ _ hdf (hws.mono hB2))).mono ?_;rintro e w3⟨rfl,hb3⟩;have hX3:=za hX2 hz2 hb3;have hz3:w.heap.size<w3.heap.size:=by have:=hb3.size;omega
  have hB3:Below w.heap.size w w3:=hB2.trans (hb3.mono (by omega));clear hb3 hX2 hz2 hB2;go_wp2_with fail
  go_ret;exact⟨ze (by rw[HO.out,HNm.out,HBare.out,HD.out,HFit.out];simp),hB3⟩
 ·have HFit:=hid hfit
  have HR:Hid (res=zZ ss ⟨nm,3,ls,ms,ws,to,rl,mu,fx,df,wg⟩):=by unfold Hid;rw[HO.out,HNm.out,HBare.out,HD.out,hfit];simp
  clear hfit HO;go_enter Tryz.func170,Tryz.ntmps170;go_wp2_with fail
  refine(zf HNm.out (zi _ _ hnm)).mono ?_;rintro e w1⟨rfl,rfl⟩;go_wp2_with fail
  refine(zf HBare.out (zep _ _ _ _ _ _ _ _ _ _ _ _ _)).mono ?_;rintro e w2⟨rfl,hb2⟩;have hX2:=za (zl w _ _) (by simp) hb2;have hz2:w.heap.size<w2.heap.size:=by have:=hb2.size;simp at this;omega
  have hB2:Below w.heap.size w w2:=(bAl _ _).trans (hb2.mono (by simp));clear hb2;go_wp2_with fail
  refine(zf HFit.out (yS _ _ _ _ _ _ _ _ _ _ _ _ _ _ _ hdf (hws.mono hB2))).mono ?_;rintro e w3⟨rfl,hb3⟩;have hX3:=za hX2 hz2 hb3;have hz3:w.heap.size<w3.heap.size:=by have:=hb3.size;omega
  have hB3:Below w.heap.size w w3:=hB2.trans (hb3.mono (by omega));clear hb3 hX2 hz2 hB2;go_wp2_with fail
  all_goals
   go_ret;refine⟨ze ?_,hB3⟩;rw[HR.out]
   simp_all [zZ,jF]
   try omega
theorem zny (a0:Option Addr)(cap0:Nat)(ss:List Shp)(nm:ByteArray)(ls ms:Int)(a:Option Addr)(cap:Nat)(ws:List ByteArray)(to:ByteArray)(rl:Int)(mu fx:Bool)(df wg:ByteArray)(w:World)(hnm:nm.size<=maxLen)(hdf:df.size<=maxLen)(hws:zD w a ws)(hss:yU w a0 ss) :
 Calls Tryz.prog 170 #[.slice a0 ss.length cap0,.agg #[.string nm,.int .i64 4,.int .i64 ls,.int .i64 ms,.slice a ws.length cap,.string to,.int .i64 rl,.bool mu,.bool fx,.string df,.string wg]] w
  fun e w'=>e=.returned (.bool (zB nm&&yI ss ⟨nm,4,ls,ms,ws,to,rl,mu,fx,df,wg⟩))/\Below w.heap.size w w':=by
 have HO:Hid ((zB nm&&yI ss ⟨nm,4,ls,ms,ws,to,rl,mu,fx,df,wg⟩)=(zB nm&&(yO 4 ls ms ws.length to rl wg&&zZ ss ⟨nm,4,ls,ms,ws,to,rl,mu,fx,df,wg⟩&&(df.toList.isEmpty||fits 4 ls ms ws df)))):=rfl
 generalize (zB nm&&yI ss ⟨nm,4,ls,ms,ws,to,rl,mu,fx,df,wg⟩)=res at HO
 by_cases hn:zB nm=true
 rotate_left
 ·have HNm:Hid (zB nm=false):=by simpa[Hid] using hn
  clear hn;go_enter Tryz.func170,Tryz.ntmps170;go_wp2_with fail
  refine(zf HNm.out (zi _ _ hnm)).mono ?_;rintro e w1⟨rfl,rfl⟩;go_wp2_with fail
  go_ret;exact⟨ze (by rw[HO.out,HNm.out];rfl),bAl _ _⟩
 have HNm:=hid hn;clear hn
 by_cases hbare:yO 4 ls ms ws.length to rl wg=true
 rotate_left
 ·have HBare:Hid (yO 4 ls ms ws.length to rl wg=false):=by simpa[Hid] using hbare
  clear hbare;go_enter Tryz.func170,Tryz.ntmps170;go_wp2_with fail
  refine(zf HNm.out (zi _ _ hnm)).mono ?_;rintro e w1⟨rfl,rfl⟩;go_wp2_with fail
  refine(zf HBare.out (zat _ _ _ _ _ _ _ _ _ _ _ _ _)).mono ?_;rintro e w2⟨rfl,hb2⟩;have hX2:=za (zl w _ _) (by simp) hb2;have hz2:w.heap.size<w2.heap.size:=by have:=hb2.size;simp at this;omega
  have hB2:Below w.heap.size w w2:=(bAl _ _).trans (hb2.mono (by simp));clear hb2;go_wp2_with fail
  go_ret;exact⟨ze (by rw[HO.out,HNm.out,HBare.out];rfl),hB2⟩
 have HBare:=hid hbare;clear hbare
 by_cases hd:df.toList.isEmpty=true
 ·have HD:=hid hd
  have HR:Hid (res=zZ ss ⟨nm,4,ls,ms,ws,to,rl,mu,fx,df,wg⟩):=by unfold Hid;rw[HO.out,HNm.out,HBare.out,hd];simp
  clear HO;have HSn:Hid (zZ ss ⟨nm,4,ls,ms,ws,to,rl,mu,fx,df,wg⟩=(zG ss to&&(decide (1<=rl)&&decide (rl<=3))&&df.toList.isEmpty&&(decide (rl≠2)||!mu))):=by simp[zZ,Hid]
  by_cases hk:zG ss to=true
  rotate_left
  ·have HK:Hid (zG ss to=false):=by simpa[Hid] using hk
   clear hk;go_enter Tryz.func170,Tryz.ntmps170;go_wp2_with fail
   refine(zf HNm.out (zi _ _ hnm)).mono ?_;rintro e w1⟨rfl,rfl⟩;go_wp2_with fail
   refine(zf HBare.out (zat _ _ _ _ _ _ _ _ _ _ _ _ _)).mono ?_;rintro e w2⟨rfl,hb2⟩;have hX2:=za (zl w _ _) (by simp) hb2;have hz2:w.heap.size<w2.heap.size:=by have:=hb2.size;simp at this;omega
   have hB2:Below w.heap.size w w2:=(bAl _ _).trans (hb2.mono (by simp));clear hb2;go_wp2_with fail
   refine(zd2 _ _ _ _ _ (hss.mono hB2) HK.out).mono ?_;rintro e w5⟨rfl,rfl⟩;go_wp2_with fail
   go_ret;exact⟨ze (by rw[HR.out,HSn.out,HK.out];rfl),hB2⟩
  have HK:=hid hk;clear hk
  by_cases h13:1<=rl/\rl<=3
  rotate_left
  ·have HT:Hid ((decide (1<=rl)&&decide (rl<=3))=false):=by unfold Hid;rw[Bool.eq_false_iff];simp;omega
   have H13:=hid h13;clear h13;go_enter Tryz.func170,Tryz.ntmps170;go_wp2_with fail
   refine(zf HNm.out (zi _ _ hnm)).mono ?_;rintro e w1⟨rfl,rfl⟩;go_wp2_with fail
   refine(zf HBare.out (zat _ _ _ _ _ _ _ _ _ _ _ _ _)).mono ?_;rintro e w2⟨rfl,hb2⟩;have hX2:=za (zl w _ _) (by simp) hb2;have hz2:w.heap.size<w2.heap.size:=by have:=hb2.size;simp at this;omega
   have hB2:Below w.heap.size w w2:=(bAl _ _).trans (hb2.mono (by simp));clear hb2;go_wp2_with fail
   refine(jJ _ _ _ _ _ (hss.mono hB2) HK.out).mono ?_;rintro e w5⟨ix,hix,rfl,_,rfl⟩;have hix0:(0:Int)<=(ix:Int):=by omega
   go_wp2_with fail
   refine(zdc _ _ _ _ H13.out).mono ?_;rintro e w6⟨rfl,rfl⟩;go_wp2_with fail
   go_ret;exact⟨ze (by rw[HR.out,HSn.out,HK.out,HT.out];simp),hB2⟩
  obtain⟨h1,h3⟩:=h13;have HT:Hid ((decide (1<=rl)&&decide (rl<=3))=true):=by unfold Hid;simp;omega
  by_cases h2:rl=2
  ·have e2:(rl != 2)=false:=by simp[h2]
   have H2:Hid (decide (rl≠2)=false):=by unfold Hid;simp[h2]
   clear h2;go_enter Tryz.func170,Tryz.ntmps170;go_wp2_with fail
   refine(zf HNm.out (zi _ _ hnm)).mono ?_;rintro e w1⟨rfl,rfl⟩;go_wp2_with fail
   refine(zf HBare.out (zat _ _ _ _ _ _ _ _ _ _ _ _ _)).mono ?_;rintro e w2⟨rfl,hb2⟩;have hX2:=za (zl w _ _) (by simp) hb2;have hz2:w.heap.size<w2.heap.size:=by have:=hb2.size;simp at this;omega
   have hB2:Below w.heap.size w w2:=(bAl _ _).trans (hb2.mono (by simp));clear hb2;go_wp2_with fail
   refine(jJ _ _ _ _ _ (hss.mono hB2) HK.out).mono ?_;rintro e w5⟨ix,hix,rfl,_,rfl⟩;have hix0:(0:Int)<=(ix:Int):=by omega
   go_wp2_with fail
   refine(zbf _ _ _ _ h1 h3).mono ?_;rintro e w6⟨rfl,rfl⟩;go_wp2_with fail
   go_ret;exact⟨ze (by rw[HR.out,HSn.out,HK.out,HT.out,HD.out,H2.out];simp),hB2⟩
  ·have e2:(rl != 2)=true:=by simp[h2]
   have H2:Hid (decide (rl≠2)=true):=by unfold Hid;simp[h2]
   clear h2;go_enter Tryz.func170,Tryz.ntmps170;go_wp2_with fail
   refine(zf HNm.out (zi _ _ hnm)).mono ?_;rintro e w1⟨rfl,rfl⟩;go_wp2_with fail
   refine(zf HBare.out (zat _ _ _ _ _ _ _ _ _ _ _ _ _)).mono ?_;rintro e w2⟨rfl,hb2⟩;have hX2:=za (zl w _ _) (by simp) hb2;have hz2:w.heap.size<w2.heap.size:=by have:=hb2.size;simp at this;omega
   have hB2:Below w.heap.size w w2:=(bAl _ _).trans (hb2.mono (by simp));clear hb2;go_wp2_with fail
   refine(jJ _ _ _ _ _ (hss.mono hB2) HK.out).mono ?_;rintro e w5⟨ix,hix,rfl,_,rfl⟩;have hix0:(0:Int)<=(ix:Int):=by omega
   go_wp2_with fail
   refine(zbf _ _ _ _ h1 h3).mono ?_;rintro e w6⟨rfl,rfl⟩;go_wp2_with fail
   go_ret;exact⟨ze (by rw[HR.out,HSn.out,HK.out,HT.out,HD.out,H2.out];simp),hB2⟩
 have hd':df.toList.isEmpty=false:=by simpa using hd
 have HD:=hid hd';clear hd
 by_cases hfit:fits 4 ls ms ws df=true
 rotate_left
 ·have HFit:Hid (fits 4 ls ms ws df=false):=by simpa[Hid] using hfit
  clear hfit;go_enter Tryz.func170,Tryz.ntmps170;go_wp2_with fail
  refine(zf HNm.out (zi _ _ hnm)).mono ?_;rintro e w1⟨rfl,rfl⟩;go_wp2_with fail
  refine(zf HBare.out (zat _ _ _ _ _ _ _ _ _ _ _ _ _)).mono ?_;rintro e w2⟨rfl,hb2⟩;have hX2:=za (zl w _ _) (by simp) hb2;have hz2:w.heap.size<w2.heap.size:=by have:=hb2.size;simp at this;omega
  have hB2:Below w.heap.size w w2:=(bAl _ _).trans (hb2.mono (by simp));clear hb2;go_wp2_with fail
  refine(zf HFit.out (yS _ _ _ _ _ _ _ _ _ _ _ _ _ _ _ hdf (hws.mono hB2))).mono ?_;rintro e w3⟨rfl,hb3⟩;have hX3:=za hX2 hz2 hb3;have hz3:w.heap.size<w3.heap.size:=by have:=hb3.size;omega
  have hB3:Below w.heap.size w w3:=hB2.trans (hb3.mono (by omega));clear hb3 hX2 hz2 hB2;go_wp2_with fail
  go_ret;exact⟨ze (by rw[HO.out,HNm.out,HBare.out,HD.out,HFit.out];simp),hB3⟩
 ·have HFit:=hid hfit
  have HR:Hid (res=zZ ss ⟨nm,4,ls,ms,ws,to,rl,mu,fx,df,wg⟩):=by unfold Hid;rw[HO.out,HNm.out,HBare.out,HD.out,hfit];simp
  clear hfit HO;have HSn:Hid (zZ ss ⟨nm,4,ls,ms,ws,to,rl,mu,fx,df,wg⟩=(zG ss to&&(decide (1<=rl)&&decide (rl<=3))&&df.toList.isEmpty&&(decide (rl≠2)||!mu))):=by simp[zZ,Hid]
  by_cases hk:zG ss to=true
  rotate_left
  ·have HK:Hid (zG ss to=false):=by simpa[Hid] using hk
   clear hk;go_enter Tryz.func170,Tryz.ntmps170;go_wp2_with fail
   refine(zf HNm.out (zi _ _ hnm)).mono ?_;rintro e w1⟨rfl,rfl⟩;go_wp2_with fail
   refine(zf HBare.out (zat _ _ _ _ _ _ _ _ _ _ _ _ _)).mono ?_;rintro e w2⟨rfl,hb2⟩;have hX2:=za (zl w _ _) (by simp) hb2;have hz2:w.heap.size<w2.heap.size:=by have:=hb2.size;simp at this;omega
   have hB2:Below w.heap.size w w2:=(bAl _ _).trans (hb2.mono (by simp));clear hb2;go_wp2_with fail
   refine(zf HFit.out (yS _ _ _ _ _ _ _ _ _ _ _ _ _ _ _ hdf (hws.mono hB2))).mono ?_;rintro e w3⟨rfl,hb3⟩;have hX3:=za hX2 hz2 hb3;have hz3:w.heap.size<w3.heap.size:=by have:=hb3.size;omega
   have hB3:Below w.heap.size w w3:=hB2.trans (hb3.mono (by omega));clear hb3 hX2 hz2 hB2;go_wp2_with fail
   refine(zd2 _ _ _ _ _ (hss.mono hB3) HK.out).mono ?_;rintro e w5⟨rfl,rfl⟩;go_wp2_with fail
   go_ret;exact⟨ze (by rw[HR.out,HSn.out,HK.out];rfl),hB3⟩
  have HK:=hid hk;clear hk
  by_cases h13:1<=rl/\rl<=3
  ·obtain⟨h1,h3⟩:=h13
   go_enter Tryz.func170,Tryz.ntmps170;go_wp2_with fail
   refine(zf HNm.out (zi _ _ hnm)).mono ?_;rintro e w1⟨rfl,rfl⟩;go_wp2_with fail
   refine(zf HBare.out (zat _ _ _ _ _ _ _ _ _ _ _ _ _)).mono ?_;rintro e w2⟨rfl,hb2⟩;have hX2:=za (zl w _ _) (by simp) hb2;have hz2:w.heap.size<w2.heap.size:=by have:=hb2.size;simp at this;omega
   have hB2:Below w.heap.size w w2:=(bAl _ _).trans (hb2.mono (by simp));clear hb2;go_wp2_with fail
   refine(zf HFit.out (yS _ _ _ _ _ _ _ _ _ _ _ _ _ _ _ hdf (hws.mono hB2))).mono ?_;rintro e w3⟨rfl,hb3⟩;have hX3:=za hX2 hz2 hb3;have hz3:w.heap.size<w3.heap.size:=by have:=hb3.size;omega
   have hB3:Below w.heap.size w w3:=hB2.trans (hb3.mono (by omega));clear hb3 hX2 hz2 hB2;go_wp2_with fail
   refine(jJ _ _ _ _ _ (hss.mono hB3) HK.out).mono ?_;rintro e w5⟨ix,hix,rfl,_,rfl⟩;have hix0:(0:Int)<=(ix:Int):=by omega
   go_wp2_with fail
   refine(zbf _ _ _ _ h1 h3).mono ?_;rintro e w6⟨rfl,rfl⟩;go_wp2_with fail
   go_ret;exact⟨ze (by rw[HR.out,HSn.out,HD.out];simp),hB3⟩
  ·have H13:=hid h13
   clear h13;go_enter Tryz.func170,Tryz.ntmps170;go_wp2_with fail
   refine(zf HNm.out (zi _ _ hnm)).mono ?_;rintro e w1⟨rfl,rfl⟩;go_wp2_with fail
   refine(zf HBare.out (zat _ _ _ _ _ _ _ _ _ _ _ _ _)).mono ?_;rintro e w2⟨rfl,hb2⟩;have hX2:=za (zl w _ _) (by simp) hb2;have hz2:w.heap.size<w2.heap.size:=by have:=hb2.size;simp at this;omega
   have hB2:Below w.heap.size w w2:=(bAl _ _).trans (hb2.mono (by simp));clear hb2;go_wp2_with fail
   refine(zf HFit.out (yS _ _ _ _ _ _ _ _ _ _ _ _ _ _ _ hdf (hws.mono hB2))).mono ?_;rintro e w3⟨rfl,hb3⟩;have hX3:=za hX2 hz2 hb3;have hz3:w.heap.size<w3.heap.size:=by have:=hb3.size;omega
   have hB3:Below w.heap.size w w3:=hB2.trans (hb3.mono (by omega));clear hb3 hX2 hz2 hB2;go_wp2_with fail
   refine(jJ _ _ _ _ _ (hss.mono hB3) HK.out).mono ?_;rintro e w5⟨ix,hix,rfl,_,rfl⟩;have hix0:(0:Int)<=(ix:Int):=by omega
   go_wp2_with fail
   refine(zdc _ _ _ _ H13.out).mono ?_;rintro e w6⟨rfl,rfl⟩;go_wp2_with fail
   go_ret;exact⟨ze (by rw[HR.out,HSn.out,HD.out];simp),hB3⟩
end Go.Proofs.YtnapmdofidgliaaGreat
