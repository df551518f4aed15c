import Derived.Test.YtecncindgjdbiaaGreatM18
import Derived.Laws.IdiomStrings
import Derived.Test.YtecncindgjdbiaaGreatM16
set_option maxHeartbeats 4000000
namespace Go.Proofs.YtecncindgjdbiaaGreat
open Go.RowKit
theorem zmV (a0:OA)(cap0:Nat)(ss:List Shp)(nm:BA)(ls ms:Int)(a:OA)(cap:Nat)(ws:List BA)(to:BA)(rl:Int)(mu fx:Bool)(df wg:BA)(w:World)(hnm:nm.size<=maxLen)(hdf:df.size<=maxLen)(hws:zF w a ws) :
 Calls Tryz.prog 183 #[.l a0 ss.length cap0,.agg #[.s nm,.i 3,.i ls,.i ms,.l a ws.length cap,.s to,.i rl,.bool mu,.bool fx,.s df,.s wg]] w
  fun e w'=>e=.returned (.bool (zy nm&&yF ss ⟨nm,3,ls,ms,ws,to,rl,mu,fx,df,wg⟩))/\Bw w w':=by
 have HO:Hid ((zy nm&&yF ss ⟨nm,3,ls,ms,ws,to,rl,mu,fx,df,wg⟩)=(zy nm&&(yK 3 ls ms ws.length to rl wg&&zW ss ⟨nm,3,ls,ms,ws,to,rl,mu,fx,df,wg⟩&&(df.toList.isEmpty||fits 3 ls ms ws df)))):=rfl
 generalize (zy nm&&yF ss ⟨nm,3,ls,ms,ws,to,rl,mu,fx,df,wg⟩)=res at HO
 by_cases hn:zy nm=true
 rotate_left
 ·have HNm:Hid (zy nm=false):=by simpa[Hid] using hn
  clear hn;go_enter Tryz.func183,Tryz.ntmps183;go_wp2_with fail
  refine(zf HNm.o (zk _ _ hnm)).mono ?_;rintro e w1⟨rfl,rfl⟩;go_wp2_with fail
  go_ret;exact⟨ze (by rw[HO.o,HNm.o];rfl),bAl _ _⟩
 have HNm:=hid hn;clear hn
 by_cases hbare:yK 3 ls ms ws.length to rl wg=true
 rotate_left
 ·have HBare:Hid (yK 3 ls ms ws.length to rl wg=false):=by simpa[Hid] using hbare
  clear hbare;go_enter Tryz.func183,Tryz.ntmps183;go_wp2_with fail
  refine(zf HNm.o (zk _ _ hnm)).mono ?_;rintro e w1⟨rfl,rfl⟩;go_wp2_with fail
  refine(zf HBare.o (zei _ _ _ _ _ _ _ _ _ _ _ _ _)).mono ?_;rintro e w2⟨rfl,hb2⟩;have hX2:=za (zl w _ _) (by simp) hb2;have hz2:w.heap.size<w2.heap.size:=by have:=hb2.size;simp at this;omega
  have hB2:Bw w w2:=(bAl _ _).trans (hb2.mono (by simp));clear hb2;go_wp2_with fail
  go_ret;exact⟨ze (by rw[HO.o,HNm.o,HBare.o];rfl),hB2⟩
 have HBare:=hid hbare;clear hbare
 by_cases hd:df.toList.isEmpty=true
 ·have HD:=hid hd
  have HR:Hid (res=zW ss ⟨nm,3,ls,ms,ws,to,rl,mu,fx,df,wg⟩):=by unfold Hid;rw[HO.o,HNm.o,HBare.o,hd];simp
  clear HO;go_enter Tryz.func183,Tryz.ntmps183;go_wp2_with fail
  refine(zf HNm.o (zk _ _ hnm)).mono ?_;rintro e w1⟨rfl,rfl⟩;go_wp2_with fail
  refine(zf HBare.o (zei _ _ _ _ _ _ _ _ _ _ _ _ _)).mono ?_;rintro e w2⟨rfl,hb2⟩;have hX2:=za (zl w _ _) (by simp) hb2;have hz2:w.heap.size<w2.heap.size:=by have:=hb2.size;simp at this;omega
  have hB2:Bw w w2:=(bAl _ _).trans (hb2.mono (by simp));clear hb2;go_wp2_with fail
  all_goals
   go_ret;refine⟨ze ?_,hB2⟩;rw[HR.o]
   simp_all [zW,jl]
   try omega
 have hd':df.toList.isEmpty=false:=by simpa using hd
 have HD:=hid hd';clear hd
 by_cases hfit:fits 3 ls ms ws df=true
 rotate_left
 ·have HFit:Hid (fits 3 ls ms ws df=false):=by simpa[Hid] using hfit
  clear hfit;go_enter Tryz.func183,Tryz.ntmps183;go_wp2_with fail
  refine(zf HNm.o (zk _ _ hnm)).mono ?_;rintro e w1⟨rfl,rfl⟩;go_wp2_with fail
  refine(zf HBare.o (zei _ _ _ _ _ _ _ _ _ _ _ _ _)).mono ?_;rintro e w2⟨rfl,hb2⟩;have hX2:=za (zl w _ _) (by simp) hb2;have hz2:w.heap.size<w2.heap.size:=by have:=hb2.size;simp at this;omega
  have hB2:Bw w w2:=(bAl _ _).trans (hb2.mono (by simp));clear hb2;go_wp2_with fail
  refine(zf HFit.o (yU _ _ _ _ _ _ _ _ _ _ _ _ _ _ _ hdf (hws.mono hB2))).mono ?_;rintro e w3⟨rfl,hb3⟩;have hX3:=za hX2 hz2 hb3;have hz3:w.heap.size<w3.heap.size:=by have:=hb3.size;omega
  have hB3:Bw w w3:=hB2.trans (hb3.mono (by omega));clear hb3 hX2 hz2 hB2;go_wp2_with fail
  go_ret;exact⟨ze (by rw[HO.o,HNm.o,HBare.o,HD.o,HFit.o];simp),hB3⟩
 ·have HFit:=hid hfit
  have HR:Hid (res=zW ss ⟨nm,3,ls,ms,ws,to,rl,mu,fx,df,wg⟩):=by unfold Hid;rw[HO.o,HNm.o,HBare.o,HD.o,hfit];simp
  clear hfit HO;go_enter Tryz.func183,Tryz.ntmps183;go_wp2_with fail
  refine(zf HNm.o (zk _ _ hnm)).mono ?_;rintro e w1⟨rfl,rfl⟩;go_wp2_with fail
  refine(zf HBare.o (zei _ _ _ _ _ _ _ _ _ _ _ _ _)).mono ?_;rintro e w2⟨rfl,hb2⟩;have hX2:=za (zl w _ _) (by simp) hb2;have hz2:w.heap.size<w2.heap.size:=by have:=hb2.size;simp at this;omega
  have hB2:Bw w w2:=(bAl _ _).trans (hb2.mono (by simp));clear hb2;go_wp2_with fail
  refine(zf HFit.o (yU _ _ _ _ _ _ _ _ _ _ _ _ _ _ _ hdf (hws.mono hB2))).mono ?_;rintro e w3⟨rfl,hb3⟩;have hX3:=za hX2 hz2 hb3;have hz3:w.heap.size<w3.heap.size:=by have:=hb3.size;omega
  have hB3:Bw w w3:=hB2.trans (hb3.mono (by omega));clear hb3 hX2 hz2 hB2;go_wp2_with fail
  all_goals
   go_ret;refine⟨ze ?_,hB3⟩;rw[HR.o]
   simp_all [zW,jl]
   try omega
theorem zmT (a0:OA)(cap0:Nat)(ss:List Shp)(nm:BA)(ls ms:Int)(a:OA)(cap:Nat)(ws:List BA)(to:BA)(rl:Int)(mu fx:Bool)(df wg:BA)(w:World)(hnm:nm.size<=maxLen)(hdf:df.size<=maxLen)(hws:zF w a ws)(hss:yR w a0 ss) :
 Calls Tryz.prog 183 #[.l a0 ss.length cap0,.agg #[.s nm,.i 4,.i ls,.i ms,.l a ws.length cap,.s to,.i rl,.bool mu,.bool fx,.s df,.s wg]] w
  fun e w'=>e=.returned (.bool (zy nm&&yF ss ⟨nm,4,ls,ms,ws,to,rl,mu,fx,df,wg⟩))/\Bw w w':=by
 have HO:Hid ((zy nm&&yF ss ⟨nm,4,ls,ms,ws,to,rl,mu,fx,df,wg⟩)=(zy nm&&(yK 4 ls ms ws.length to rl wg&&zW ss ⟨nm,4,ls,ms,ws,to,rl,mu,fx,df,wg⟩&&(df.toList.isEmpty||fits 4 ls ms ws df)))):=rfl
 generalize (zy nm&&yF ss ⟨nm,4,ls,ms,ws,to,rl,mu,fx,df,wg⟩)=res at HO
 by_cases hn:zy nm=true
 rotate_left
 ·have HNm:Hid (zy nm=false):=by simpa[Hid] using hn
  clear hn;go_enter Tryz.func183,Tryz.ntmps183;go_wp2_with fail
  refine(zf HNm.o (zk _ _ hnm)).mono ?_;rintro e w1⟨rfl,rfl⟩;go_wp2_with fail
  go_ret;exact⟨ze (by rw[HO.o,HNm.o];rfl),bAl _ _⟩
 have HNm:=hid hn;clear hn
 by_cases hbare:yK 4 ls ms ws.length to rl wg=true
 rotate_left
 ·have HBare:Hid (yK 4 ls ms ws.length to rl wg=false):=by simpa[Hid] using hbare
  clear hbare;go_enter Tryz.func183,Tryz.ntmps183;go_wp2_with fail
  refine(zf HNm.o (zk _ _ hnm)).mono ?_;rintro e w1⟨rfl,rfl⟩;go_wp2_with fail
  refine(zf HBare.o (zaE _ _ _ _ _ _ _ _ _ _ _ _ _)).mono ?_;rintro e w2⟨rfl,hb2⟩;have hX2:=za (zl w _ _) (by simp) hb2;have hz2:w.heap.size<w2.heap.size:=by have:=hb2.size;simp at this;omega
  have hB2:Bw w w2:=(bAl _ _).trans (hb2.mono (by simp));clear hb2;go_wp2_with fail
  go_ret;exact⟨ze (by rw[HO.o,HNm.o,HBare.o];rfl),hB2⟩
 have HBare:=hid hbare;clear hbare
 by_cases hd:df.toList.isEmpty=true
 ·have HD:=hid hd
  have HR:Hid (res=zW ss ⟨nm,4,ls,ms,ws,to,rl,mu,fx,df,wg⟩):=by unfold Hid;rw[HO.o,HNm.o,HBare.o,hd];simp
  clear HO;have HSn:Hid (zW ss ⟨nm,4,ls,ms,ws,to,rl,mu,fx,df,wg⟩=(zJ ss to&&(decide (1<=rl)&&decide (rl<=3))&&df.toList.isEmpty&&(decide (rl≠2)||!mu))):=by simp[zW,Hid]
  by_cases hk:zJ ss to=true
  rotate_left
  ·have HK:Hid (zJ ss to=false):=by simpa[Hid] using hk
   clear hk;go_enter Tryz.func183,Tryz.ntmps183;go_wp2_with fail
   refine(zf HNm.o (zk _ _ hnm)).mono ?_;rintro e w1⟨rfl,rfl⟩;go_wp2_with fail
   refine(zf HBare.o (zaE _ _ _ _ _ _ _ _ _ _ _ _ _)).mono ?_;rintro e w2⟨rfl,hb2⟩;have hX2:=za (zl w _ _) (by simp) hb2;have hz2:w.heap.size<w2.heap.size:=by have:=hb2.size;simp at this;omega
   have hB2:Bw w w2:=(bAl _ _).trans (hb2.mono (by simp));clear hb2;go_wp2_with fail
   refine(zeg _ _ _ _ _ (hss.mono hB2) HK.o).mono ?_;rintro e w5⟨rfl,rfl⟩;go_wp2_with fail
   go_ret;exact⟨ze (by rw[HR.o,HSn.o,HK.o];rfl),hB2⟩
  have HK:=hid hk;clear hk
  by_cases h13:1<=rl/\rl<=3
  rotate_left
  ·have HT:Hid ((decide (1<=rl)&&decide (rl<=3))=false):=by unfold Hid;rw[Bool.eq_false_iff];simp;omega
   have H13:=hid h13;clear h13;go_enter Tryz.func183,Tryz.ntmps183;go_wp2_with fail
   refine(zf HNm.o (zk _ _ hnm)).mono ?_;rintro e w1⟨rfl,rfl⟩;go_wp2_with fail
   refine(zf HBare.o (zaE _ _ _ _ _ _ _ _ _ _ _ _ _)).mono ?_;rintro e w2⟨rfl,hb2⟩;have hX2:=za (zl w _ _) (by simp) hb2;have hz2:w.heap.size<w2.heap.size:=by have:=hb2.size;simp at this;omega
   have hB2:Bw w w2:=(bAl _ _).trans (hb2.mono (by simp));clear hb2;go_wp2_with fail
   refine(jV _ _ _ _ _ (hss.mono hB2) HK.o).mono ?_;rintro e w5⟨ix,hix,rfl,_,rfl⟩;have hix0:(0:Int)<=(ix:Int):=by omega
   go_wp2_with fail
   refine(zdh _ _ _ _ H13.o).mono ?_;rintro e w6⟨rfl,rfl⟩;go_wp2_with fail
   go_ret;exact⟨ze (by rw[HR.o,HSn.o,HK.o,HT.o];simp),hB2⟩
  obtain⟨h1,h3⟩:=h13;have HT:Hid ((decide (1<=rl)&&decide (rl<=3))=true):=by unfold Hid;simp;omega
  by_cases h2:rl=2
  focus
   have e2:(rl != 2)=false:=by simp[h2]
   have H2:Hid (decide (rl≠2)=false):=by unfold Hid;simp[h2]
  rotate_left
  focus
   have e2:(rl != 2)=true:=by simp[h2]
   have H2:Hid (decide (rl≠2)=true):=by unfold Hid;simp[h2]
  all_goals
   clear h2;go_enter Tryz.func183,Tryz.ntmps183;go_wp2_with fail
   refine(zf HNm.o (zk _ _ hnm)).mono ?_;rintro e w1⟨rfl,rfl⟩;go_wp2_with fail
   refine(zf HBare.o (zaE _ _ _ _ _ _ _ _ _ _ _ _ _)).mono ?_;rintro e w2⟨rfl,hb2⟩;have hX2:=za (zl w _ _) (by simp) hb2;have hz2:w.heap.size<w2.heap.size:=by have:=hb2.size;simp at this;omega
   have hB2:Bw w w2:=(bAl _ _).trans (hb2.mono (by simp));clear hb2;go_wp2_with fail
   refine(jV _ _ _ _ _ (hss.mono hB2) HK.o).mono ?_;rintro e w5⟨ix,hix,rfl,_,rfl⟩;have hix0:(0:Int)<=(ix:Int):=by omega
   go_wp2_with fail
   refine(zbF _ _ _ _ h1 h3).mono ?_;rintro e w6⟨rfl,rfl⟩;go_wp2_with fail
   go_ret;exact⟨ze (by rw[HR.o,HSn.o,HK.o,HT.o,HD.o,H2.o];simp),hB2⟩
 have hd':df.toList.isEmpty=false:=by simpa using hd
 have HD:=hid hd';clear hd
 by_cases hfit:fits 4 ls ms ws df=true
 rotate_left
 ·have HFit:Hid (fits 4 ls ms ws df=false):=by simpa[Hid] using hfit
  clear hfit;go_enter Tryz.func183,Tryz.ntmps183;go_wp2_with fail
  refine(zf HNm.o (zk _ _ hnm)).mono ?_;rintro e w1⟨rfl,rfl⟩;go_wp2_with fail
  refine(zf HBare.o (zaE _ _ _ _ _ _ _ _ _ _ _ _ _)).mono ?_;rintro e w2⟨rfl,hb2⟩;have hX2:=za (zl w _ _) (by simp) hb2;have hz2:w.heap.size<w2.heap.size:=by have:=hb2.size;simp at this;omega
  have hB2:Bw w w2:=(bAl _ _).trans (hb2.mono (by simp));clear hb2;go_wp2_with fail
  refine(zf HFit.o (yU _ _ _ _ _ _ _ _ _ _ _ _ _ _ _ hdf (hws.mono hB2))).mono ?_;rintro e w3⟨rfl,hb3⟩;have hX3:=za hX2 hz2 hb3;have hz3:w.heap.size<w3.heap.size:=by have:=hb3.size;omega
  have hB3:Bw w w3:=hB2.trans (hb3.mono (by omega));clear hb3 hX2 hz2 hB2;go_wp2_with fail
  go_ret;exact⟨ze (by rw[HO.o,HNm.o,HBare.o,HD.o,HFit.o];simp),hB3⟩
 ·have HFit:=hid hfit
  have HR:Hid (res=zW ss ⟨nm,4,ls,ms,ws,to,rl,mu,fx,df,wg⟩):=by unfold Hid;rw[HO.o,HNm.o,HBare.o,HD.o,hfit];simp
  clear hfit HO;have HSn:Hid (zW ss ⟨nm,4,ls,ms,ws,to,rl,mu,fx,df,wg⟩=(zJ ss to&&(decide (1<=rl)&&decide (rl<=3))&&df.toList.isEmpty&&(decide (rl≠2)||!mu))):=by simp[zW,Hid]
  by_cases hk:zJ ss to=true
  rotate_left
  ·have HK:Hid (zJ ss to=false):=by simpa[Hid] using hk
   clear hk;go_enter Tryz.func183,Tryz.ntmps183;go_wp2_with fail
   refine(zf HNm.o (zk _ _ hnm)).mono ?_;rintro e w1⟨rfl,rfl⟩;go_wp2_with fail
   refine(zf HBare.o (zaE _ _ _ _ _ _ _ _ _ _ _ _ _)).mono ?_;rintro e w2⟨rfl,hb2⟩;have hX2:=za (zl w _ _) (by simp) hb2;have hz2:w.heap.size<w2.heap.size:=by have:=hb2.size;simp at this;omega
   have hB2:Bw w w2:=(bAl _ _).trans (hb2.mono (by simp));clear hb2;go_wp2_with fail
   refine(zf HFit.o (yU _ _ _ _ _ _ _ _ _ _ _ _ _ _ _ hdf (hws.mono hB2))).mono ?_;rintro e w3⟨rfl,hb3⟩;have hX3:=za hX2 hz2 hb3;have hz3:w.heap.size<w3.heap.size:=by have:=hb3.size;omega
   have hB3:Bw w w3:=hB2.trans (hb3.mono (by omega));clear hb3 hX2 hz2 hB2;go_wp2_with fail
   refine(zeg _ _ _ _ _ (hss.mono hB3) HK.o).mono ?_;rintro e w5⟨rfl,rfl⟩;go_wp2_with fail
   go_ret;exact⟨ze (by rw[HR.o,HSn.o,HK.o];rfl),hB3⟩
  have HK:=hid hk;clear hk
  by_cases h13:1<=rl/\rl<=3
  ·obtain⟨h1,h3⟩:=h13
   go_enter Tryz.func183,Tryz.ntmps183;go_wp2_with fail
   refine(zf HNm.o (zk _ _ hnm)).mono ?_;rintro e w1⟨rfl,rfl⟩;go_wp2_with fail
   refine(zf HBare.o (zaE _ _ _ _ _ _ _ _ _ _ _ _ _)).mono ?_;rintro e w2⟨rfl,hb2⟩;have hX2:=za (zl w _ _) (by simp) hb2;have hz2:w.heap.size<w2.heap.size:=by have:=hb2.size;simp at this;omega
   have hB2:Bw w w2:=(bAl _ _).trans (hb2.mono (by simp));clear hb2;go_wp2_with fail
   refine(zf HFit.o (yU _ _ _ _ _ _ _ _ _ _ _ _ _ _ _ hdf (hws.mono hB2))).mono ?_;rintro e w3⟨rfl,hb3⟩;have hX3:=za hX2 hz2 hb3;have hz3:w.heap.size<w3.heap.size:=by have:=hb3.size;omega
   have hB3:Bw w w3:=hB2.trans (hb3.mono (by omega));clear hb3 hX2 hz2 hB2;go_wp2_with fail
   refine(jV _ _ _ _ _ (hss.mono hB3) HK.o).mono ?_;rintro e w5⟨ix,hix,rfl,_,rfl⟩;have hix0:(0:Int)<=(ix:Int):=by omega
   go_wp2_with fail
   refine(zbF _ _ _ _ h1 h3).mono ?_;rintro e w6⟨rfl,rfl⟩;go_wp2_with fail
   go_ret;exact⟨ze (by rw[HR.o,HSn.o,HD.o];simp),hB3⟩
  ·have H13:=hid h13
   clear h13;go_enter Tryz.func183,Tryz.ntmps183;go_wp2_with fail
   refine(zf HNm.o (zk _ _ hnm)).mono ?_;rintro e w1⟨rfl,rfl⟩;go_wp2_with fail
   refine(zf HBare.o (zaE _ _ _ _ _ _ _ _ _ _ _ _ _)).mono ?_;rintro e w2⟨rfl,hb2⟩;have hX2:=za (zl w _ _) (by simp) hb2;have hz2:w.heap.size<w2.heap.size:=by have:=hb2.size;simp at this;omega
   have hB2:Bw w w2:=(bAl _ _).trans (hb2.mono (by simp));clear hb2;go_wp2_with fail
   refine(zf HFit.o (yU _ _ _ _ _ _ _ _ _ _ _ _ _ _ _ hdf (hws.mono hB2))).mono ?_;rintro e w3⟨rfl,hb3⟩;have hX3:=za hX2 hz2 hb3;have hz3:w.heap.size<w3.heap.size:=by have:=hb3.size;omega
   have hB3:Bw w w3:=hB2.trans (hb3.mono (by omega));clear hb3 hX2 hz2 hB2;go_wp2_with fail
   refine(jV _ _ _ _ _ (hss.mono hB3) HK.o).mono ?_;rintro e w5⟨ix,hix,rfl,_,rfl⟩;have hix0:(0:Int)<=(ix:Int):=by omega
   go_wp2_with fail
   refine(zdh _ _ _ _ H13.o).mono ?_;rintro e w6⟨rfl,rfl⟩;go_wp2_with fail
   go_ret;exact⟨ze (by rw[HR.o,HSn.o,HD.o];simp),hB3⟩
def znN (a:OA)(ws:List BA):Prop:=(a=none/\ws=[]) \/ ∃b off,a=some (aD b off)
theorem zn.zrl {lo:Nat}{w:World}{a:OA}{ws:List BA}(h:zn lo w a ws):znN a ws:=by
 rcases h with⟨h0,h1⟩|⟨g,C,h0,_⟩
 ·exact Or.inl ⟨h0,h1⟩
 ·exact Or.inr ⟨g,0,h0⟩
theorem ze7 (cap:Nat)(w:World) :
 Calls Tryz.prog 130 #[.l none 0 cap] w fun e w'=>∃v,e=.returned v/\w'.ownsRow w.heap.size 9 1 v 0 []/\Bw w w':=by
 go_enter Tryz.func130,Tryz.ntmps130;go_wp2_with fail
 go_ret;exact⟨_,rfl,World.ownsRow_nil _ _ _ _,bRf _ _⟩
theorem zfC (a:OA)(cap:Nat)(ws:List BA)(w:World)(hw:zF w a ws)(hA:znN a ws)(hl:ws.length<=1048576) :
 Calls Tryz.prog 130 #[.l a ws.length cap] w
  fun e w'=>∃v,e=.returned v/\w'.ownsRow w.heap.size 9 1 v ws.length (ws.map Value.string)/\Bw w w':=by
 rcases hA with⟨rfl,rfl⟩|⟨b,off,rfl⟩
 ·exact ze7 cap w
 ·exact zft b off cap ws w hw hl
theorem zjv (o:Ob)(va ha:OA)(cap cap':Nat)(w:World)(ho:jT w o va ha)(hA:znN va o.vs)(hA':znN ha o.hs)(hl:o.vs.length<=1048576)(hl':o.hs.length<=1048576) :
 Calls Tryz.prog 82 #[.agg #[.s o.kd,.s o.nm,.s o.tm,.l va o.vs.length cap,.bool o.en,.l ha o.hs.length cap',.i o.vr]] w
  fun e w'=>∃a dap a' dap' m,e=.returned (.agg #[.s o.kd,.s o.nm,.s o.tm,.l a o.vs.length dap,.bool o.en,.l a' o.hs.length dap',.i o.vr])/\zn w.heap.size w' a o.vs/\(∀g,a=some g->g.block<m)/\w.heap.size<=m/\zn m w' a' o.hs/\Bw w w':=by
 go_enter Tryz.func82,Tryz.ntmps82;go_wp2_with fail
 refine(zfC _ _ _ _ (ho.vals.mono (zw _ _ _)) hA hl).mono ?_;rintro e w1⟨v,rfl,hown1,hb1⟩;obtain⟨a,dap,rfl,ht1⟩:=zn.zdl hown1;have hk1:=(hb1.block w.heap.size (by simp;omega)).trans (zT _ _ _).1;have hr1:=(hb1.block (w.heap.size+1) (by simp)).trans (zT _ _ _).2;have HT:Hid (zn (w.heap.size+1+1) w1 a o.vs):=by unfold Hid;simpa using ht1
 have hz1:w.heap.size+1<w1.heap.size:=by have:=hb1.size;simp at this;omega
 have hB1:=(zw _ _ _).trans (hb1.mono (by simp;omega));have HK:=hid hk1;have HRR:=hid hr1;have hX1:∀j,w1.cell? (aD w.heap.size j)=((oC o va ha cap cap'):AV)[j]?:=fun j=>cell_of_block hk1
 have hF1:∀j,w1.frozen? (aD w.heap.size j)=false:=fun j=>zh hk1
 clear hb1 hown1 ht1 hk1 hr1;go_wp2_with fail
 have hB1':=hB1.setCell (p:=(aD w.heap.size 3)) (Nat.le_refl _) (.l a o.vs.length dap);refine(zfC _ _ _ _ (ho.holds.mono hB1') hA' hl').mono ?_;rintro e w2⟨v,rfl,hown2,hb2⟩;obtain⟨a',dap',rfl,ht2⟩:=zn.zdl hown2;have hk2:=(hb2.block w.heap.size (by simp[World.setCell];omega)).trans (zi HK.o _);have hr2:=(hb2.block (w.heap.size+1) (by simp[World.setCell];omega)).trans ((Below.heap_setCell _ _ _ _ (by simp)).trans HRR.o);have HT2:=hid ((HT.o.setCell _ (by simp;omega) _).mono hb2);have HU2:Hid (zn w1.heap.size w2 a' o.hs):=by unfold Hid;simpa[World.setCell] using ht2
 have HM:Hid (∀g,a=some g->g.block<w1.heap.size):=by
  intro g hg
  rcases HT.o with⟨h0,_⟩|⟨g',C,h0,_,hh,_⟩
  ·rw[h0]at hg;cases hg
  ·rw[h0]at hg;cases hg;exact(gES hh).1
 have hz2:w.heap.size+1<w2.heap.size:=by have:=hb2.size;simp[World.setCell]at this;omega
 have hB2:=hB1'.trans (hb2.mono hB1'.size);have hX2:∀j,w2.cell? (aD w.heap.size j)=((oC o a ha dap cap'):AV)[j]?:=fun j=>cell_of_block hk2
 have hF2:∀j,w2.frozen? (aD w.heap.size j)=false:=fun j=>zh hk2
 have hY2:∀j,w2.cell? (aD (w.heap.size+1) j)=(oZ:AV)[j]?:=fun j=>cell_of_block hr2
 have hG2:∀j,w2.frozen? (aD (w.heap.size+1) j)=false:=fun j=>zh hr2
 have hzz:w.heap.size<=w1.heap.size:=by omega
 clear hb2 hown2 ht2 hX1 hF1 hB1 hB1' hk2 hr2;go_wp2_with fail
 refine bodyPost_ret (v:=(.agg #[.s o.kd,.s o.nm,.s o.tm,.l a o.vs.length dap,.bool o.en,.l a' o.hs.length dap',.i o.vr])) (by simp[results,Tryz.results82,go_sem,hY2]) rfl ⟨a,dap,a',dap',w1.heap.size,rfl,((((((((HT2.o.setCell _ (by simp;omega) _).setCell _ (by simp) _).setCell _ (by simp) _).setCell _ (by simp) _).setCell _ (by simp) _).setCell _ (by simp) _).setCell _ (by simp) _).setCell _ (by simp) _).low (by omega),HM.o,hzz,((((((((HU2.o.setCell _ (by simp;omega) _).setCell _ (by simp;omega) _).setCell _ (by simp;omega) _).setCell _ (by simp;omega) _).setCell _ (by simp;omega) _).setCell _ (by simp;omega) _).setCell _ (by simp;omega) _).setCell _ (by simp;omega) _),((((((((hB2.setCell (Nat.le_refl _) _).setCell (by simp) _).setCell (by simp) _).setCell (by simp) _).setCell (by simp) _).setCell (by simp) _).setCell (by simp) _).setCell (by simp) _)⟩
structure Marked (lo hi:Nat)(w w':World):Prop where
 os:w'.os=w.os
 tape:w'.tape=w.tape
 output:w'.output=w.output
 size:w.heap.size<=w'.heap.size
 out:∀k,k<w.heap.size->(k<lo \/ hi<=k)->w'.heap[k]?=w.heap[k]?
 inn:∀(k:Nat) (C:AV) (t:TypeId),lo<=k->k<hi->w.heap[k]?=some (.cells C t)->∃C':AV,w'.heap[k]?=some (.cells C' t)/\C'.size=C.size/\∀(j:Nat) a n c,C'[j]?=some (Value.slice a n c)↔C[j]?=some (Value.slice a n c)
theorem Marked.refl (lo hi:Nat)(w:World):Marked lo hi w w:=⟨rfl,rfl,rfl,Nat.le_refl _,fun _ _ _=>rfl,fun _ C _ _ _ h=>⟨C,h,rfl,fun _ _ _ _=>Iff.rfl⟩⟩
theorem Marked.trans {lo hi:Nat}{a b c:World}(h:Marked lo hi a b)(k:Marked lo hi b c):Marked lo hi a c:=
 ⟨k.os.trans h.os,k.tape.trans h.tape,k.output.trans h.output,Nat.le_trans h.size k.size,
  fun i hi ho=>(k.out i (nLt hi h.size) ho).trans (h.out i hi ho),
  fun i C t h1 h2 hC=>by
   obtain⟨C1,hC1,hs1,hk1⟩:=h.inn i C t h1 h2 hC;obtain⟨C2,hC2,hs2,hk2⟩:=k.inn i C1 t h1 h2 hC1;exact⟨C2,hC2,hs2.trans hs1,fun j a n c=>(hk2 j a n c).trans (hk1 j a n c)⟩⟩
theorem Marked.of_below {lo hi:Nat}{w w':World}(h:Bw w w'):Marked lo hi w w':=
 ⟨h.os,h.tape,h.output,h.size,fun k hk _=>h.block k hk,fun k C _ _ _ hC=>⟨C,(h.block k (gES hC).1).trans hC,rfl,fun _ _ _ _=>Iff.rfl⟩⟩
theorem Marked.wide {lo hi lo' hi':Nat}{w w':World}(h:Marked lo hi w w')(h1:lo'<=lo)(h2:hi<=hi'):Marked lo' hi' w w':=
 ⟨h.os,h.tape,h.output,h.size,fun k hk ho=>h.out k hk (by omega),fun k C t g1 g2 hC=>by
  by_cases hin:lo<=k/\k<hi
  ·exact h.inn k C t hin.1 hin.2 hC
  ·exact⟨C,(h.out k (gES hC).1 (by omega)).trans hC,rfl,fun _ _ _ _=>Iff.rfl⟩⟩
theorem Marked.put {lo hi b j:Nat}{w w1:World}{C:AV}{t:TypeId}(h:Marked lo hi w w1)(hlo:lo<=b)(hhi:b<hi)(hC:w.heap[b]?=some (.cells C t))(hj:∀a n c,C[j]?≠some (Value.slice a n c))(v:Value)(hv:∀a n c,v≠Value.slice a n c):Marked lo hi w (w1.setCell (aD b j) v):=by
 refine⟨h.os,h.tape,h.output,by have:=h.size;simpa[World.setCell] using this,fun k hk ho=>?_,fun k C0 t0 g1 g2 hC0=>?_⟩
 ·rw[Below.heap_setCell _ _ _ _ (by show k≠b;omega)];exact h.out k hk ho
 ·obtain⟨C1,hC1,hs1,hk1⟩:=h.inn k C0 t0 g1 g2 hC0
  by_cases hkb:k=b
  ·subst hkb
   rw[hC]at hC0;simp only[Option.some.injEq,Obj.cells.injEq]at hC0;obtain⟨rfl,rfl,_⟩:=hC0;refine⟨C1.setIfInBounds j v,zi hC1 _,by simpa using hs1,fun i a n c=>?_⟩
   by_cases hij:j=i
   ·subst hij
    refine⟨fun h=>?_,fun h=>absurd h (hj a n c)⟩
    exfalso
    rw[Array.getElem?_setIfInBounds]at h;simp only[if_true]at h
    split at h
    ·exact hv a n c (Option.some.inj h)
    ·cases h
   ·rw[Array.getElem?_setIfInBounds_ne hij];exact hk1 i a n c
  ·exact⟨C1,(Below.heap_setCell _ _ _ _ (by show k≠b;exact hkb)).trans hC1,hs1,hk1⟩
theorem Marked.cell {lo hi:Nat}{w w':World}(h:Marked lo hi w w'){p:Addr}(hp:p.block<w.heap.size)(ho:p.block<lo \/ hi<=p.block):w'.cell? p=w.cell? p:=by
 unfold World.cell?;rw[h.out p.block hp ho]
theorem Marked.box {lo hi b:Nat}{w w':World}{X:AV}(h:Marked lo hi w w')(hX:∀o,w.cell? (aD b o)=X[o]?)(hb:b<w.heap.size)(ho:b<lo \/ hi<=b):∀o,w'.cell? (aD b o)=X[o]?:=
 fun o=>(h.cell (p:=(aD b o)) hb ho).trans (hX o)
theorem Marked.below {lo hi B:Nat}{w w':World}(h:Marked lo hi w w')(h1:B<=lo)(h2:B<=w.heap.size):Below B w w':=
 ⟨h.os,h.tape,h.output,h.size,fun k hk=>h.out k (by omega) (Or.inl (by omega))⟩
def zcM (n:Nat):BA:=⟨#[UInt8.ofNat (48+n)]⟩
def digits (n:Nat)(acc:BA):BA:=if n=0 then acc else digits (n / 10) (zcM (n % 10)++acc)
termination_by n
decreasing_by omega
theorem zeY (acc:BA):digits 0 acc=acc:=by rw[digits];rfl
theorem zj2 {n:Nat}(h:0<n)(acc:BA):digits n acc=digits (n / 10) (zcM (n % 10)++acc):=by
 conv=>lhs;rw[digits]
 rw[if_neg (by omega)]
def zax (k:Nat):BA:=⟨#[109]⟩++digits k ByteArray.empty
theorem zmE (n:Nat)(h:n<9000000000000000000):wrap64 ((n:Int) / 10)=((n / 10:Nat):Int):=by
 rw[zA _ ⟨by omega,by omega⟩];omega
theorem zo4 {k:Nat}(h:k<9000000000000000000):k<10 ^ 19:=Nat.lt_trans h (by decide)
theorem zoo (n:Nat)(hn:0<n)(h:n<9000000000000000000):(intOf (.i (wrap64 ((n:Int) / 10)))).toNat<(intOf (.i (n:Int))).toNat:=by
 rw[zmE n h]
 show(((n / 10:Nat):Int)).toNat<((n:Nat):Int).toNat
 rw[Int.toNat_natCast,Int.toNat_natCast];omega
theorem zpC (n:Nat):((UInt8.ofNat (48+n % 10)).toNat:Int)=48+(n:Int) % 10:=by
 rw[UInt8.toNat_ofNat',Nat.mod_eq_of_lt (by omega)];omega
theorem zol (w:World)(n:Nat):(convert 190 9 (.l (some (aD w.heap.size 0)) 1 1)).run Tryz.prog (w.alloc (.cells #[.int .u8 (48+(n:Int) % 10)] 5))=.ok (.s (zcM (n % 10))) (w.alloc (.cells #[.int .u8 (48+(n:Int) % 10)] 5)):=by
 refine run_convert_bytes_back _ _ _ 5 (aD w.heap.size 0) 1 [UInt8.ofNat (48+n % 10)] Tryz.underlying190 Tryz.underlying5 Tryz.underlying9 (fun j hj=>?_);have e:j=0:=by simp at hj;omega
 subst e;rw[List.getElem_cons_zero,zpC];have e2:((aD w.heap.size 0):Addr).add 0=(aD w.heap.size 0):=rfl;rw[e2,World.cell?_alloc_at (hn:=rfl)]
 rfl
set_option maxRecDepth 20000 in
theorem zcC (k:Nat)(w:World)(hk:0<k)(hk2:k<9000000000000000000) :
 Calls Tryz.prog 96 #[.i k] w fun e w'=>e=.returned (.s (zax k))/\Bw w w':=by
 have hk0:decide ((k:Int)<=0)=false:=by simp;omega
 go_enter Tryz.func96,Tryz.ntmps96;go_wp2_with fail
 go_loopw [0,3] (fun kv ov wr=>∃(n:Nat) (acc:BA) (d:Nat),kv=.i n/\ov=.s acc/\n<=k/\n<10 ^ d/\acc.size+d<=19/\digits n acc=digits k ByteArray.empty/\Bw w wr) (fun kv _ _=>(intOf kv).toNat)
 case atStart=>exact⟨k,ByteArray.empty,19,rfl,rfl,Nat.le_refl _,zo4 hk2,by simp,rfl,bRf _ _⟩
 case round=>
  obtain⟨n,acc,d,rfl,rfl,hnk,hnd,had,hdig,hB⟩:=hrel;have HF:Hid (n<=k/\n<10 ^ d/\acc.size+d<=19/\digits n acc=digits k ByteArray.empty/\Bw w wr):=⟨hnk,hnd,had,hdig,hB⟩
  have HK:Hid (k<9000000000000000000):=hk2;have hacc:acc.size<=19:=by omega
  clear hnk hnd had hdig hB hk2
  by_cases hn:0<n
  ·have hn0:decide ((n:Int) > 0)=true:=by simp;omega
   have hcv:=zol wr n;have hds:(zcM (n % 10)).size=1:=rfl;go_wp2_with fail
   go_roundw
   case rel=>
    obtain⟨hnk,hnd,had,hdig,hB⟩:=HF.o;have hk2:=HK.o;have hd0:d≠0:=by rintro rfl;simp at hnd;omega
    obtain⟨e,rfl⟩:∃e,d=e+1:=⟨d-1,by omega⟩
    exact⟨n / 10,zcM (n % 10)++acc,e,by rw[zmE n (by omega)],rfl,by omega,by rw[Nat.pow_succ]at hnd;omega,by rw[ByteArray.size_append,hds];omega,by rw[<- zj2 hn];exact hdig,hB.alloc hB.size _⟩
   case measure=>
    have hnk:=HF.o.1;have hk2:=HK.o;exact zoo n hn (by omega)
  ·have hn0:decide ((n:Int) > 0)=false:=by simp;omega
   go_wp2_with fail
   go_ret;have e0:n=0:=by omega
   obtain⟨_,_,_,hdig,hB⟩:=HF.o;subst e0;rw[zeY]at hdig;exact⟨by unfold zax;rw[<- hdig];rfl,hB⟩
theorem zo7 {w w':World}{g:Nat}{ws:List BA}(h:zF w (some (aD g 0)) ws)(hl:Bw w w')(i:Nat)(hi:i<ws.length):g<w.heap.size/\w'.cell? (aD g i)=some (.s ws[i]):=by
 obtain⟨b,off,e,hb,hr⟩:=h.cells (by rintro rfl;simp at hi);simp only[Option.some.injEq,Addr.mk.injEq]at e;obtain⟨rfl,rfl,_⟩:=e;refine⟨hb,?_⟩
 have:=hr i hi
 rw[Nat.zero_add]at this;exact(hl.cell (p:=(aD g i)) hb).trans this
theorem zpc {w w':World}{a:OA}{fs:List Fld}(h:yc w a fs)(hl:Bw w w')(i:Nat)(hi:i<fs.length):∃b off fw fc,a=some (aD b off)/\b<w.heap.size/\ze5 w' b (off+i*11) fs[i] fw fc:=by
 obtain⟨b,off,ha,hb,hr⟩:=(h.mono hl).rows (by rintro rfl;simp at hi);obtain⟨b',off',ha',hb',_⟩:=h.rows (by rintro rfl;simp at hi);have e:=ha.symm.trans ha';simp only[Option.some.injEq,Addr.mk.injEq]at e;obtain⟨rfl,rfl,_⟩:=e;obtain⟨fw,fc,hf⟩:=hr i hi;exact⟨b,off,fw,fc,ha,hb',hf⟩
theorem znb (a0:OA)(cap0:Nat)(ss:List Shp)(o:Ob)(a a':OA)(cap cap':Nat)(w:World)(hw:yR w a0 ss)(ho:jT w o a a') :
 Calls Tryz.prog 107 #[.l a0 ss.length cap0,.agg #[.s o.kd,.s o.nm,.s o.tm,.l a o.vs.length cap,.bool o.en,.l a' o.hs.length cap',.i o.vr]] w fun e w'=>e=.returned (.tuple #[.i (yC ss o).1,.i (yC ss o).2])/\Bw w w':=by
 have hlh:=ho.holds.len;unfold maxLen at hlh
 by_cases hc:zB ss o=true
 rotate_left
 ·have HCt:Hid (zB ss o=false):=by simpa[Hid] using hc
  have HR:Hid (yC ss o=(1,0)):=by unfold Hid yC;rw[if_neg];unfold whole;rw[HCt.o];simp
  clear hc;go_enter Tryz.func107,Tryz.ntmps107;go_wp2_with fail
  refine(zdg _ _ _ _ _ _ _ _ _ (hw.mono (bAl _ _)) (ho.mono (bAl _ _)) HCt.o).mono ?_;rintro e w1⟨v,rfl,hb1⟩;have hB1:Bw w w1:=(bAl _ _).trans (hb1.mono (by simp));clear hb1;go_wp2_with fail
  go_ret2
  exact⟨by rw[HR.o];rfl,hB1⟩
 have HCt:=hid hc
 by_cases hn:zy o.nm=true
 rotate_left
 ·have hn':zy o.nm=false:=by simpa using hn
  have HNm:=hid hn';clear hn hc
  have HR:Hid (yC ss o=(1,0)):=by
   unfold Hid yC;rw[if_neg];unfold whole qI;simp[hn']
  go_enter Tryz.func107,Tryz.ntmps107;go_wp2_with fail
  refine(jd _ _ _ _ _ _ _ _ _ (hw.mono (bAl _ _)) (ho.mono (bAl _ _)) HCt.o).mono ?_;rintro e w1⟨fa,fcap,rfl,hfl0,hb1⟩;have hX1:=za (zl w _ _) (by simp) hb1;have hz1:w.heap.size<w1.heap.size:=by have:=hb1.size;simp at this;omega
  have hB1:Bw w w1:=(bAl _ _).trans (hb1.mono (by simp));have hfl1:=hfl0.mono hb1;clear hb1 hfl0;go_wp2_with fail
  refine(zf HNm.o (zk _ _ ho.small.nm)).mono ?_;rintro e w2⟨rfl,rfl⟩;go_wp2_with fail
  go_ret2
  exact⟨by rw[HR.o];rfl,hB1⟩
 have HNm:=hid hn
 by_cases ht:zy o.tm=true
 rotate_left
 ·have ht':zy o.tm=false:=by simpa using ht
  have HTm:=hid ht';clear ht hc hn
  have HR:Hid (yC ss o=(1,0)):=by
   unfold Hid yC;rw[if_neg];unfold whole qI;simp[ht']
  go_enter Tryz.func107,Tryz.ntmps107;go_wp2_with fail
  refine(jd _ _ _ _ _ _ _ _ _ (hw.mono (bAl _ _)) (ho.mono (bAl _ _)) HCt.o).mono ?_;rintro e w1⟨fa,fcap,rfl,hfl0,hb1⟩;have hX1:=za (zl w _ _) (by simp) hb1;have hz1:w.heap.size<w1.heap.size:=by have:=hb1.size;simp at this;omega
  have hB1:Bw w w1:=(bAl _ _).trans (hb1.mono (by simp));have hfl1:=hfl0.mono hb1;clear hb1 hfl0;go_wp2_with fail
  refine(zf HNm.o (zk _ _ ho.small.nm)).mono ?_;rintro e w2⟨rfl,rfl⟩;go_wp2_with fail
  refine(zf HTm.o (zk _ _ ho.small.tm)).mono ?_;rintro e w3⟨rfl,rfl⟩;go_wp2_with fail
  go_ret2
  exact⟨by rw[HR.o];rfl,hB1⟩
 have HTm:=hid ht
 by_cases h3:o.hs.length<=3
 rotate_left
 ·have h3I:(3:Int)<(o.hs.length:Int):=by omega
  clear ht hc hn
  have HR:Hid (yC ss o=(1,0)):=by
   unfold Hid yC;rw[if_neg];unfold whole qR;simp[show ¬o.hs.length<=3 by omega]
  go_enter Tryz.func107,Tryz.ntmps107;go_wp2_with fail
  refine(jd _ _ _ _ _ _ _ _ _ (hw.mono (bAl _ _)) (ho.mono (bAl _ _)) HCt.o).mono ?_;rintro e w1⟨fa,fcap,rfl,hfl0,hb1⟩;have hX1:=za (zl w _ _) (by simp) hb1;have hz1:w.heap.size<w1.heap.size:=by have:=hb1.size;simp at this;omega
  have hB1:Bw w w1:=(bAl _ _).trans (hb1.mono (by simp));have hfl1:=hfl0.mono hb1;clear hb1 hfl0;go_wp2_with fail
  refine(zf HNm.o (zk _ _ ho.small.nm)).mono ?_;rintro e w2⟨rfl,rfl⟩;go_wp2_with fail
  refine(zf HTm.o (zk _ _ ho.small.tm)).mono ?_;rintro e w3⟨rfl,rfl⟩;go_wp2_with fail
  go_ret2
  exact⟨by rw[HR.o];rfl,hB1⟩
 have h3I:(o.hs.length:Int)<=3:=by omega
 by_cases ha:asc o.hs=true
 rotate_left
 ·have ha':asc o.hs=false:=by simpa using ha
  have HAsc:=hid ha';clear ht hc hn ha
  have HR:Hid (yC ss o=(1,0)):=by
   unfold Hid yC;rw[if_neg];unfold whole qR;simp[ha']
  go_enter Tryz.func107,Tryz.ntmps107;go_wp2_with fail
  refine(jd _ _ _ _ _ _ _ _ _ (hw.mono (bAl _ _)) (ho.mono (bAl _ _)) HCt.o).mono ?_;rintro e w1⟨fa,fcap,rfl,hfl0,hb1⟩;have hX1:=za (zl w _ _) (by simp) hb1;have hz1:w.heap.size<w1.heap.size:=by have:=hb1.size;simp at this;omega
  have hB1:Bw w w1:=(bAl _ _).trans (hb1.mono (by simp));have hfl1:=hfl0.mono hb1;clear hb1 hfl0;go_wp2_with fail
  refine(zf HNm.o (zk _ _ ho.small.nm)).mono ?_;rintro e w2⟨rfl,rfl⟩;go_wp2_with fail
  refine(zf HTm.o (zk _ _ ho.small.tm)).mono ?_;rintro e w3⟨rfl,rfl⟩;go_wp2_with fail
  refine(zf HAsc.o (zaq _ _ _ _ (ho.holds.mono hB1))).mono ?_;rintro e w4⟨rfl,nd,rfl⟩;go_wp2_with fail
  go_ret2
  exact⟨by rw[HR.o];rfl,below_drewN hB1 _⟩
 have HAsc:=hid ha
 by_cases hv:0<=o.vr/\o.vr<=1000000
 rotate_left
 ·have HV:=hid hv
  have HR:Hid (yC ss o=(1,0)):=by
   unfold Hid yC;rw[if_neg];unfold whole qy;intro h;simp only[Bool.and_eq_true,decide_eq_true_eq]at h;exact hv h.1.2
  clear ht hc hn ha hv;go_enter Tryz.func107,Tryz.ntmps107;go_wp2_with fail
  refine(jd _ _ _ _ _ _ _ _ _ (hw.mono (bAl _ _)) (ho.mono (bAl _ _)) HCt.o).mono ?_;rintro e w1⟨fa,fcap,rfl,hfl0,hb1⟩;have hX1:=za (zl w _ _) (by simp) hb1;have hz1:w.heap.size<w1.heap.size:=by have:=hb1.size;simp at this;omega
  have hB1:Bw w w1:=(bAl _ _).trans (hb1.mono (by simp));have hfl1:=hfl0.mono hb1;clear hb1 hfl0;go_wp2_with fail
  refine(zf HNm.o (zk _ _ ho.small.nm)).mono ?_;rintro e w2⟨rfl,rfl⟩;go_wp2_with fail
  refine(zf HTm.o (zk _ _ ho.small.tm)).mono ?_;rintro e w3⟨rfl,rfl⟩;go_wp2_with fail
  refine(zf HAsc.o (zaq _ _ _ _ (ho.holds.mono hB1))).mono ?_;rintro e w4⟨rfl,nd,rfl⟩;go_wp2_with fail
  refine(zdh _ _ _ _ (by have:=HV.o;omega)).mono ?_;rintro e w5⟨rfl,rfl⟩;go_wp2_with fail
  go_ret2
  exact⟨by rw[HR.o];rfl,below_drewN hB1 _⟩
 obtain⟨hv0,hv1⟩:=hv
 have HR:Hid (yC ss o=jI (shapeOf ss o.kd).fs o.vs):=by
  unfold Hid yC;rw[if_pos];unfold whole qI qR qy;simp[hc,hn,ht,h3,ha,hv0,hv1]
 have HLn:Hid (o.vs.length=(shapeOf ss o.kd).fs.length):=by
  unfold zB at hc;simp only[Bool.and_eq_true,decide_eq_true_eq]at hc;exact hc.2
 clear hc hn ht ha;go_enter Tryz.func107,Tryz.ntmps107;go_wp2_with fail
 refine(jd _ _ _ _ _ _ _ _ _ (hw.mono (bAl _ _)) (ho.mono (bAl _ _)) HCt.o).mono ?_;rintro e w1⟨fa,fcap,rfl,hfl0,hb1⟩;have hX1:=za (zl w _ _) (by simp) hb1;have hz1:w.heap.size<w1.heap.size:=by have:=hb1.size;simp at this;omega
 have hB1:Bw w w1:=(bAl _ _).trans (hb1.mono (by simp));have hfl1:=hfl0.mono hb1;clear hb1 hfl0;go_wp2_with fail
 refine(zf HNm.o (zk _ _ ho.small.nm)).mono ?_;rintro e w2⟨rfl,rfl⟩;go_wp2_with fail
 refine(zf HTm.o (zk _ _ ho.small.tm)).mono ?_;rintro e w3⟨rfl,rfl⟩;go_wp2_with fail
 refine(zf HAsc.o (zaq _ _ _ _ (ho.holds.mono hB1))).mono ?_;rintro e w4⟨rfl,nd,rfl⟩;go_wp2_with fail
 refine(zbF _ _ _ _ hv0 hv1).mono ?_;rintro e w5⟨rfl,rfl⟩
 generalize hfs:(shapeOf ss o.kd).fs=fs at *
 have hlen:=hfl1.len;unfold maxLen at hlen;go_wp2_with fail
 go_loopw [8] (fun i wr=>∃k:Nat,k<=fs.length/\i=.i k/\up (za9 fs o.vs) k=true/\Bw w3 wr) (fun i _=>fs.length-(intOf i).toNat)
 case atStart=>exact⟨0,Nat.zero_le _,rfl,rfl,below_drewN (bRf _ _) _⟩
 case round=>
  obtain⟨k,hk,rfl,hup,hBr⟩:=hrel;have hszr:=hBr.size;have hB:Bw w wr:=hB1.trans (hBr.mono (by omega))
  by_cases hlt:k<fs.length
  ·have hXr:=za hX1 hz1 hBr
   obtain⟨b,off,rfl,hb,hr⟩:=hfl1.rows (by rintro rfl;simp at hlt);obtain⟨wa,wcap,hf0⟩:=hr k hlt;have hf:=hf0.mono hb hBr;obtain⟨c0,c1,c2,c3,c4,c5,c6,c7,c8,c9,c10⟩:=hf.load;have hst:=hf.strs;have hltv:k<o.vs.length:=by rw[HLn.o];exact hlt
   obtain⟨vb,voff,rfl,hvb,hvc⟩:=ho.vals.cells (by intro h;rw[h]at hltv;simp at hltv);have hcv:=(hB.cell (p:=(aD vb (voff+k))) hvb).trans (hvc k hltv);have hvs:=ho.vals.small _ (List.getElem_mem hltv);have hltI:(k:Int)<(fs.length:Int):=by omega
   have hltV:(k:Int)<(o.vs.length:Int):=by omega
   have HFX:=hid (zjV hlt hltv)
   have HS:Hid (zaD fs[k] o.vs[k]=0->up (za9 fs o.vs) (k+1)=true):=fun h=>by
    rw[q8,hup];unfold za9;rw[HFX.o,h];rfl
   have HN:Hid (∀n:Int,n≠0->zaD fs[k] o.vs[k]=n->yC ss o=(n,(k:Int))):=fun n hn0 h=>by
    rw[HR.o,zlk hlt hup (by unfold za9;rw[HFX.o,h];simp[hn0]),HFX.o,h]
   clear hX1 hr hf0 hf hup
   by_cases he:o.vs[k].size=0
   ·have hne:o.vs[k].toList.isEmpty=true:=by rw[zx];simp[he]
    have HE:=hid he;clear he
    by_cases hmu:fs[k].mu=true
    ·have HM:=hid hmu
     go_wp2_with fail
     go_ret2
     have hv:=HN.o 2 (by decide) (by unfold zaD;rw[if_pos HE.o,if_pos HM.o]);exact⟨by rw[hv];rfl,hB⟩
    ·have hmu':fs[k].mu=false:=by simpa using hmu
     have HM:=hid hmu';clear hmu;go_wp2_with fail
     exact⟨⟨k+1,by omega,by go_num,HS.o (by unfold zaD;rw[if_pos HE.o,HM.o];rfl),hBr⟩,by simp[intOf];omega⟩
   ·have hne:o.vs[k].toList.isEmpty=false:=by rw[zx];simp[he]
    have HE:Hid (¬o.vs[k].size=0):=he;clear he
    by_cases hfit:fits fs[k].kd fs[k].ls fs[k].ms fs[k].ws o.vs[k]=true
    all_goals
     first
      | (have HFT:Hid (fits fs[k].kd fs[k].ls fs[k].ms fs[k].ws o.vs[k]=true):=hfit)
      | (have HFT:Hid (fits fs[k].kd fs[k].ls fs[k].ms fs[k].ws o.vs[k]=false):=by simpa[Hid] using hfit)
     clear hfit;go_wp2_with fail
     have hbx:Bw wr wr.drew:=(bRf _ _).drew
     go_region_with (go_at_call 146;refine(zf HFT.o (yU _ _ _ _ _ _ _ _ _ _ _ _ _ _ _ hvs (by exact hst.mono hbx))).mono ?_;rintro e w3⟨rfl,hb3⟩)
     all_goals go_wp2_with fail
    all_goals have hB3:Bw wr w3:=hbx.trans hb3
    all_goals first
     | (have hft:fits fs[k].kd fs[k].ls fs[k].ms fs[k].ws o.vs[k]=true:=HFT.o
        exact⟨⟨k+1,by omega,by go_num,HS.o (by unfold zaD;rw[if_neg HE.o];unfold zfx;rw[hft];rfl),hBr.trans (hB3.mono hszr)⟩,by simp[intOf];omega⟩)
     | (have hft:fits fs[k].kd fs[k].ls fs[k].ms fs[k].ws o.vs[k]=false:=HFT.o
        go_ret2
        have hv:=HN.o 3 (by decide) (by unfold zaD;rw[if_neg HE.o];unfold zfx;rw[hft];rfl);exact⟨by rw[hv];rfl,hB.trans (hB3.mono (by omega))⟩)
  ·have HF:Hid (yC ss o=(0,0)):=by
    have e:k=fs.length:=by omega
    subst e;rw[HR.o];exact zh0 hup
   clear hup;go_wp2_with fail
   go_ret2
   exact⟨by rw[HF.o];rfl,hB⟩
end Go.Proofs.YtecncindgjdbiaaGreat
