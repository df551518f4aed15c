import Derived.Test.YthdfpinbnncghaaGreatM14
import Derived.Test.YthdfpinbnncghaaGreatM15
set_option maxHeartbeats 2000000
namespace Go.Proofs.YthdfpinbnncghaaGreat
open Go.RowKit
theorem znN (a0:OA)(cap0:Nat)(ss:List Shp)(nm:BA)(ls ms:Int)(a:OA)(cap:Nat)(ws:List BA)(to:BA)(rl:Int)(mu fx:Bool)(df wg:BA)(w:World)(hnm:nm.size<=maxLen)(hdf:df.size<=maxLen)(hwg:wg.size<=maxLen)(hws:zJ w a ws) :
 Calls Tryz.prog 188 #[.l a0 ss.length cap0,.agg #[.s nm,.i 1,.i ls,.i ms,.l a ws.length cap,.s to,.i rl,.bool mu,.bool fx,.s df,.s wg]] w
  fun e w'=>e=.returned (.bool (zm nm&&yM ss ⟨nm,1,ls,ms,ws,to,rl,mu,fx,df,wg⟩))/\Bw w w':=by
 have HO:Hid ((zm nm&&yM ss ⟨nm,1,ls,ms,ws,to,rl,mu,fx,df,wg⟩)=(zm nm&&(yV 1 ls ms ws.length to rl wg&&zZ ss ⟨nm,1,ls,ms,ws,to,rl,mu,fx,df,wg⟩&&(df.toList.isEmpty||fits 1 ls ms ws df)))):=rfl
 generalize (zm nm&&yM ss ⟨nm,1,ls,ms,ws,to,rl,mu,fx,df,wg⟩)=res at HO
 by_cases hn:zm nm=true
 rotate_left
 ·have HNm:Hid (zm nm=false):=by simpa[Hid] using hn
  clear hn;go_enter Tryz.func188,Tryz.ntmps188;go_wp2_with fail
  refine(zf HNm.o (zi _ _ hnm)).mono ?_;rintro e w1⟨rfl,rfl⟩;go_wp2_with fail
  go_ret;exact⟨ze (by rw[HO.o,HNm.o];rfl),bAl _ _⟩
 have HNm:=hid hn;clear hn
 by_cases hbare:yV 1 ls ms ws.length to rl wg=true
 rotate_left
 ·have HBare:Hid (yV 1 ls ms ws.length to rl wg=false):=by simpa[Hid] using hbare
  clear hbare;go_enter Tryz.func188,Tryz.ntmps188;go_wp2_with fail
  refine(zf HNm.o (zi _ _ hnm)).mono ?_;rintro e w1⟨rfl,rfl⟩;go_wp2_with fail
  refine(zf HBare.o (zev _ _ _ _ _ _ _ _ _ _ _ _ _)).mono ?_;rintro e w2⟨rfl,hb2⟩;have hX2:=za (zn w _ _) (by simp) hb2;have hz2:w.heap.size<w2.heap.size:=by have:=hb2.size;simp at this;omega
  have hB2:Bw w w2:=(bAl _ _).trans (hb2.mono (by simp));clear hb2;go_wp2_with fail
  go_ret;exact⟨ze (by rw[HO.o,HNm.o,HBare.o];rfl),hB2⟩
 have HBare:=hid hbare;clear hbare
 by_cases hd:df.toList.isEmpty=true
 ·have HD:=hid hd
  have HR:Hid (res=zZ ss ⟨nm,1,ls,ms,ws,to,rl,mu,fx,df,wg⟩):=by unfold Hid;rw[HO.o,HNm.o,HBare.o,hd];simp
  clear HO;go_enter Tryz.func188,Tryz.ntmps188;go_wp2_with fail
  refine(zf HNm.o (zi _ _ hnm)).mono ?_;rintro e w1⟨rfl,rfl⟩;go_wp2_with fail
  refine(zf HBare.o (zev _ _ _ _ _ _ _ _ _ _ _ _ _)).mono ?_;rintro e w2⟨rfl,hb2⟩;have hX2:=za (zn w _ _) (by simp) hb2;have hz2:w.heap.size<w2.heap.size:=by have:=hb2.size;simp at this;omega
  have hB2:Bw w w2:=(bAl _ _).trans (hb2.mono (by simp));clear hb2
  go_wp2_with (go_at_call 100;refine(zi _ _ hwg).mono ?_;rintro e w5⟨rfl,rfl⟩)
  all_goals
   go_ret;refine⟨ze ?_,hB2⟩;rw[HR.o]
   simp_all [zZ,jN]
   try omega
 have hd':df.toList.isEmpty=false:=by simpa using hd
 have HD:=hid hd';clear hd
 by_cases hfit:fits 1 ls ms ws df=true
 rotate_left
 ·have HFit:Hid (fits 1 ls ms ws df=false):=by simpa[Hid] using hfit
  clear hfit;go_enter Tryz.func188,Tryz.ntmps188;go_wp2_with fail
  refine(zf HNm.o (zi _ _ hnm)).mono ?_;rintro e w1⟨rfl,rfl⟩;go_wp2_with fail
  refine(zf HBare.o (zev _ _ _ _ _ _ _ _ _ _ _ _ _)).mono ?_;rintro e w2⟨rfl,hb2⟩;have hX2:=za (zn w _ _) (by simp) hb2;have hz2:w.heap.size<w2.heap.size:=by have:=hb2.size;simp at this;omega
  have hB2:Bw w w2:=(bAl _ _).trans (hb2.mono (by simp));clear hb2;go_wp2_with fail
  refine(zf HFit.o (qm _ _ _ _ _ _ _ _ _ _ _ _ _ _ _ hdf (hws.mono hB2))).mono ?_;rintro e w3⟨rfl,hb3⟩;have hX3:=za hX2 hz2 hb3;have hz3:w.heap.size<w3.heap.size:=by have:=hb3.size;omega
  have hB3:Bw w w3:=hB2.trans (hb3.mono (by omega));clear hb3 hX2 hz2 hB2;go_wp2_with fail
  go_ret;exact⟨ze (by rw[HO.o,HNm.o,HBare.o,HD.o,HFit.o];simp),hB3⟩
 ·have HFit:=hid hfit
  have HR:Hid (res=zZ ss ⟨nm,1,ls,ms,ws,to,rl,mu,fx,df,wg⟩):=by unfold Hid;rw[HO.o,HNm.o,HBare.o,HD.o,hfit];simp
  clear hfit HO;go_enter Tryz.func188,Tryz.ntmps188;go_wp2_with fail
  refine(zf HNm.o (zi _ _ hnm)).mono ?_;rintro e w1⟨rfl,rfl⟩;go_wp2_with fail
  refine(zf HBare.o (zev _ _ _ _ _ _ _ _ _ _ _ _ _)).mono ?_;rintro e w2⟨rfl,hb2⟩;have hX2:=za (zn w _ _) (by simp) hb2;have hz2:w.heap.size<w2.heap.size:=by have:=hb2.size;simp at this;omega
  have hB2:Bw w w2:=(bAl _ _).trans (hb2.mono (by simp));clear hb2;go_wp2_with fail
  refine(zf HFit.o (qm _ _ _ _ _ _ _ _ _ _ _ _ _ _ _ hdf (hws.mono hB2))).mono ?_;rintro e w3⟨rfl,hb3⟩;have hX3:=za hX2 hz2 hb3;have hz3:w.heap.size<w3.heap.size:=by have:=hb3.size;omega
  have hB3:Bw w w3:=hB2.trans (hb3.mono (by omega));clear hb3 hX2 hz2 hB2
  go_wp2_with (go_at_call 100;refine(zi _ _ hwg).mono ?_;rintro e w5⟨rfl,rfl⟩)
  all_goals
   go_ret;refine⟨ze ?_,hB3⟩;rw[HR.o]
   simp_all [zZ,jN]
   try omega
theorem znA (a0:OA)(cap0:Nat)(ss:List Shp)(nm:BA)(ls ms:Int)(a:OA)(cap:Nat)(ws:List BA)(to:BA)(rl:Int)(mu fx:Bool)(df wg:BA)(w:World)(hnm:nm.size<=maxLen)(hdf:df.size<=maxLen)(hws:zJ w a ws) :
 Calls Tryz.prog 188 #[.l a0 ss.length cap0,.agg #[.s nm,.i 2,.i ls,.i ms,.l a ws.length cap,.s to,.i rl,.bool mu,.bool fx,.s df,.s wg]] w
  fun e w'=>e=.returned (.bool (zm nm&&yM ss ⟨nm,2,ls,ms,ws,to,rl,mu,fx,df,wg⟩))/\Bw w w':=by
 have HO:Hid ((zm nm&&yM ss ⟨nm,2,ls,ms,ws,to,rl,mu,fx,df,wg⟩)=(zm nm&&(yV 2 ls ms ws.length to rl wg&&zZ ss ⟨nm,2,ls,ms,ws,to,rl,mu,fx,df,wg⟩&&(df.toList.isEmpty||fits 2 ls ms ws df)))):=rfl
 generalize (zm nm&&yM ss ⟨nm,2,ls,ms,ws,to,rl,mu,fx,df,wg⟩)=res at HO
 by_cases hn:zm nm=true
 rotate_left
 ·have HNm:Hid (zm nm=false):=by simpa[Hid] using hn
  clear hn;go_enter Tryz.func188,Tryz.ntmps188;go_wp2_with fail
  refine(zf HNm.o (zi _ _ hnm)).mono ?_;rintro e w1⟨rfl,rfl⟩;go_wp2_with fail
  go_ret;exact⟨ze (by rw[HO.o,HNm.o];rfl),bAl _ _⟩
 have HNm:=hid hn;clear hn
 by_cases hbare:yV 2 ls ms ws.length to rl wg=true
 rotate_left
 ·have HBare:Hid (yV 2 ls ms ws.length to rl wg=false):=by simpa[Hid] using hbare
  clear hbare;go_enter Tryz.func188,Tryz.ntmps188;go_wp2_with fail
  refine(zf HNm.o (zi _ _ hnm)).mono ?_;rintro e w1⟨rfl,rfl⟩;go_wp2_with fail
  refine(zf HBare.o (zcb _ _ _ _ _ _ _ _ _ _ _ _ _)).mono ?_;rintro e w2⟨rfl,hb2⟩;have hX2:=za (zn w _ _) (by simp) hb2;have hz2:w.heap.size<w2.heap.size:=by have:=hb2.size;simp at this;omega
  have hB2:Bw w w2:=(bAl _ _).trans (hb2.mono (by simp));clear hb2;go_wp2_with fail
  go_ret;exact⟨ze (by rw[HO.o,HNm.o,HBare.o];rfl),hB2⟩
 have HBare:=hid hbare;clear hbare
 by_cases hd:df.toList.isEmpty=true
 ·have HD:=hid hd
  have HR:Hid (res=zZ ss ⟨nm,2,ls,ms,ws,to,rl,mu,fx,df,wg⟩):=by unfold Hid;rw[HO.o,HNm.o,HBare.o,hd];simp
  clear HO;have HSn:Hid (zZ ss ⟨nm,2,ls,ms,ws,to,rl,mu,fx,df,wg⟩=(decide (1<=ws.length)&&decide (ws.length<=6)&&asc ws)):=by simp[zZ,Hid]
  have hl:=hws.len;unfold maxLen at hl
  by_cases h16:1<=ws.length/\ws.length<=6
  ·obtain⟨h1,h6⟩:=h16
   go_enter Tryz.func188,Tryz.ntmps188;go_wp2_with fail
   refine(zf HNm.o (zi _ _ hnm)).mono ?_;rintro e w1⟨rfl,rfl⟩;go_wp2_with fail
   refine(zf HBare.o (zcb _ _ _ _ _ _ _ _ _ _ _ _ _)).mono ?_;rintro e w2⟨rfl,hb2⟩;have hX2:=za (zn w _ _) (by simp) hb2;have hz2:w.heap.size<w2.heap.size:=by have:=hb2.size;simp at this;omega
   have hB2:Bw w w2:=(bAl _ _).trans (hb2.mono (by simp));clear hb2;go_wp2_with fail
   refine(zbJ _ _ _ _ (by omega) (by omega)).mono ?_;rintro e w5⟨rfl,rfl⟩;go_wp2_with fail
   refine(zae _ _ _ _ (hws.mono hB2)).mono ?_;rintro e w6⟨rfl,nd,rfl⟩;go_wp2_with fail
   go_ret;exact⟨ze (by rw[HR.o,HSn.o,decide_eq_true h1,decide_eq_true h6];rfl),below_drewN hB2 _⟩
  ·have HS0:Hid (zZ ss ⟨nm,2,ls,ms,ws,to,rl,mu,fx,df,wg⟩=false):=by
    rw[HSn.o];unfold Hid
    by_cases h1:1<=ws.length
    ·rw[decide_eq_false (show ¬ws.length<=6 by omega)];simp
    ·rw[decide_eq_false h1];rfl
   go_enter Tryz.func188,Tryz.ntmps188;go_wp2_with fail
   refine(zf HNm.o (zi _ _ hnm)).mono ?_;rintro e w1⟨rfl,rfl⟩;go_wp2_with fail
   refine(zf HBare.o (zcb _ _ _ _ _ _ _ _ _ _ _ _ _)).mono ?_;rintro e w2⟨rfl,hb2⟩;have hX2:=za (zn w _ _) (by simp) hb2;have hz2:w.heap.size<w2.heap.size:=by have:=hb2.size;simp at this;omega
   have hB2:Bw w w2:=(bAl _ _).trans (hb2.mono (by simp));clear hb2;go_wp2_with fail
   refine(zdG _ _ _ _ (by omega)).mono ?_;rintro e w5⟨rfl,rfl⟩;go_wp2_with fail
   go_ret;exact⟨ze (by rw[HR.o,HS0.o]),hB2⟩
 have hd':df.toList.isEmpty=false:=by simpa using hd
 have HD:=hid hd';clear hd
 by_cases hfit:fits 2 ls ms ws df=true
 rotate_left
 ·have HFit:Hid (fits 2 ls ms ws df=false):=by simpa[Hid] using hfit
  clear hfit;go_enter Tryz.func188,Tryz.ntmps188;go_wp2_with fail
  refine(zf HNm.o (zi _ _ hnm)).mono ?_;rintro e w1⟨rfl,rfl⟩;go_wp2_with fail
  refine(zf HBare.o (zcb _ _ _ _ _ _ _ _ _ _ _ _ _)).mono ?_;rintro e w2⟨rfl,hb2⟩;have hX2:=za (zn w _ _) (by simp) hb2;have hz2:w.heap.size<w2.heap.size:=by have:=hb2.size;simp at this;omega
  have hB2:Bw w w2:=(bAl _ _).trans (hb2.mono (by simp));clear hb2;go_wp2_with fail
  refine(zf HFit.o (qm _ _ _ _ _ _ _ _ _ _ _ _ _ _ _ hdf (hws.mono hB2))).mono ?_;rintro e w3⟨rfl,hb3⟩;have hX3:=za hX2 hz2 hb3;have hz3:w.heap.size<w3.heap.size:=by have:=hb3.size;omega
  have hB3:Bw w w3:=hB2.trans (hb3.mono (by omega));clear hb3 hX2 hz2 hB2;go_wp2_with fail
  go_ret;exact⟨ze (by rw[HO.o,HNm.o,HBare.o,HD.o,HFit.o];simp),hB3⟩
 ·have HFit:=hid hfit
  have HR:Hid (res=zZ ss ⟨nm,2,ls,ms,ws,to,rl,mu,fx,df,wg⟩):=by unfold Hid;rw[HO.o,HNm.o,HBare.o,HD.o,hfit];simp
  clear hfit HO;have HSn:Hid (zZ ss ⟨nm,2,ls,ms,ws,to,rl,mu,fx,df,wg⟩=(decide (1<=ws.length)&&decide (ws.length<=6)&&asc ws)):=by simp[zZ,Hid]
  have hl:=hws.len;unfold maxLen at hl
  by_cases h16:1<=ws.length/\ws.length<=6
  ·obtain⟨h1,h6⟩:=h16
   go_enter Tryz.func188,Tryz.ntmps188;go_wp2_with fail
   refine(zf HNm.o (zi _ _ hnm)).mono ?_;rintro e w1⟨rfl,rfl⟩;go_wp2_with fail
   refine(zf HBare.o (zcb _ _ _ _ _ _ _ _ _ _ _ _ _)).mono ?_;rintro e w2⟨rfl,hb2⟩;have hX2:=za (zn w _ _) (by simp) hb2;have hz2:w.heap.size<w2.heap.size:=by have:=hb2.size;simp at this;omega
   have hB2:Bw w w2:=(bAl _ _).trans (hb2.mono (by simp));clear hb2;go_wp2_with fail
   refine(zf HFit.o (qm _ _ _ _ _ _ _ _ _ _ _ _ _ _ _ hdf (hws.mono hB2))).mono ?_;rintro e w3⟨rfl,hb3⟩;have hX3:=za hX2 hz2 hb3;have hz3:w.heap.size<w3.heap.size:=by have:=hb3.size;omega
   have hB3:Bw w w3:=hB2.trans (hb3.mono (by omega));clear hb3 hX2 hz2 hB2;go_wp2_with fail
   refine(zbJ _ _ _ _ (by omega) (by omega)).mono ?_;rintro e w5⟨rfl,rfl⟩;go_wp2_with fail
   refine(zae _ _ _ _ (hws.mono hB3)).mono ?_;rintro e w6⟨rfl,nd,rfl⟩;go_wp2_with fail
   go_ret;exact⟨ze (by rw[HR.o,HSn.o,decide_eq_true h1,decide_eq_true h6];rfl),below_drewN hB3 _⟩
  ·have HS0:Hid (zZ ss ⟨nm,2,ls,ms,ws,to,rl,mu,fx,df,wg⟩=false):=by
    rw[HSn.o];unfold Hid
    by_cases h1:1<=ws.length
    ·rw[decide_eq_false (show ¬ws.length<=6 by omega)];simp
    ·rw[decide_eq_false h1];rfl
   go_enter Tryz.func188,Tryz.ntmps188;go_wp2_with fail
   refine(zf HNm.o (zi _ _ hnm)).mono ?_;rintro e w1⟨rfl,rfl⟩;go_wp2_with fail
   refine(zf HBare.o (zcb _ _ _ _ _ _ _ _ _ _ _ _ _)).mono ?_;rintro e w2⟨rfl,hb2⟩;have hX2:=za (zn w _ _) (by simp) hb2;have hz2:w.heap.size<w2.heap.size:=by have:=hb2.size;simp at this;omega
   have hB2:Bw w w2:=(bAl _ _).trans (hb2.mono (by simp));clear hb2;go_wp2_with fail
   refine(zf HFit.o (qm _ _ _ _ _ _ _ _ _ _ _ _ _ _ _ hdf (hws.mono hB2))).mono ?_;rintro e w3⟨rfl,hb3⟩;have hX3:=za hX2 hz2 hb3;have hz3:w.heap.size<w3.heap.size:=by have:=hb3.size;omega
   have hB3:Bw w w3:=hB2.trans (hb3.mono (by omega));clear hb3 hX2 hz2 hB2;go_wp2_with fail
   refine(zdG _ _ _ _ (by omega)).mono ?_;rintro e w5⟨rfl,rfl⟩;go_wp2_with fail
   go_ret;exact⟨ze (by rw[HR.o,HS0.o]),hB3⟩
theorem znD (a0:OA)(cap0:Nat)(ss:List Shp)(nm:BA)(ls ms:Int)(a:OA)(cap:Nat)(ws:List BA)(to:BA)(rl:Int)(mu fx:Bool)(df wg:BA)(w:World)(hnm:nm.size<=maxLen)(hdf:df.size<=maxLen)(hws:zJ w a ws) :
 Calls Tryz.prog 188 #[.l a0 ss.length cap0,.agg #[.s nm,.i 3,.i ls,.i ms,.l a ws.length cap,.s to,.i rl,.bool mu,.bool fx,.s df,.s wg]] w
  fun e w'=>e=.returned (.bool (zm nm&&yM ss ⟨nm,3,ls,ms,ws,to,rl,mu,fx,df,wg⟩))/\Bw w w':=by
 have HO:Hid ((zm nm&&yM ss ⟨nm,3,ls,ms,ws,to,rl,mu,fx,df,wg⟩)=(zm nm&&(yV 3 ls ms ws.length to rl wg&&zZ ss ⟨nm,3,ls,ms,ws,to,rl,mu,fx,df,wg⟩&&(df.toList.isEmpty||fits 3 ls ms ws df)))):=rfl
 generalize (zm nm&&yM ss ⟨nm,3,ls,ms,ws,to,rl,mu,fx,df,wg⟩)=res at HO
 by_cases hn:zm nm=true
 rotate_left
 ·have HNm:Hid (zm nm=false):=by simpa[Hid] using hn
  clear hn;go_enter Tryz.func188,Tryz.ntmps188;go_wp2_with fail
  refine(zf HNm.o (zi _ _ hnm)).mono ?_;rintro e w1⟨rfl,rfl⟩;go_wp2_with fail
  go_ret;exact⟨ze (by rw[HO.o,HNm.o];rfl),bAl _ _⟩
 have HNm:=hid hn;clear hn
 by_cases hbare:yV 3 ls ms ws.length to rl wg=true
 rotate_left
 ·have HBare:Hid (yV 3 ls ms ws.length to rl wg=false):=by simpa[Hid] using hbare
  clear hbare;go_enter Tryz.func188,Tryz.ntmps188;go_wp2_with fail
  refine(zf HNm.o (zi _ _ hnm)).mono ?_;rintro e w1⟨rfl,rfl⟩;go_wp2_with fail
  refine(zf HBare.o (zeh _ _ _ _ _ _ _ _ _ _ _ _ _)).mono ?_;rintro e w2⟨rfl,hb2⟩;have hX2:=za (zn w _ _) (by simp) hb2;have hz2:w.heap.size<w2.heap.size:=by have:=hb2.size;simp at this;omega
  have hB2:Bw w w2:=(bAl _ _).trans (hb2.mono (by simp));clear hb2;go_wp2_with fail
  go_ret;exact⟨ze (by rw[HO.o,HNm.o,HBare.o];rfl),hB2⟩
 have HBare:=hid hbare;clear hbare
 by_cases hd:df.toList.isEmpty=true
 ·have HD:=hid hd
  have HR:Hid (res=zZ ss ⟨nm,3,ls,ms,ws,to,rl,mu,fx,df,wg⟩):=by unfold Hid;rw[HO.o,HNm.o,HBare.o,hd];simp
  clear HO;go_enter Tryz.func188,Tryz.ntmps188;go_wp2_with fail
  refine(zf HNm.o (zi _ _ hnm)).mono ?_;rintro e w1⟨rfl,rfl⟩;go_wp2_with fail
  refine(zf HBare.o (zeh _ _ _ _ _ _ _ _ _ _ _ _ _)).mono ?_;rintro e w2⟨rfl,hb2⟩;have hX2:=za (zn w _ _) (by simp) hb2;have hz2:w.heap.size<w2.heap.size:=by have:=hb2.size;simp at this;omega
  have hB2:Bw w w2:=(bAl _ _).trans (hb2.mono (by simp));clear hb2;go_wp2_with fail
  all_goals
   go_ret;refine⟨ze ?_,hB2⟩;rw[HR.o]
   simp_all [zZ,jN]
   try omega
 have hd':df.toList.isEmpty=false:=by simpa using hd
 have HD:=hid hd';clear hd
 by_cases hfit:fits 3 ls ms ws df=true
 rotate_left
 ·have HFit:Hid (fits 3 ls ms ws df=false):=by simpa[Hid] using hfit
  clear hfit;go_enter Tryz.func188,Tryz.ntmps188;go_wp2_with fail
  refine(zf HNm.o (zi _ _ hnm)).mono ?_;rintro e w1⟨rfl,rfl⟩;go_wp2_with fail
  refine(zf HBare.o (zeh _ _ _ _ _ _ _ _ _ _ _ _ _)).mono ?_;rintro e w2⟨rfl,hb2⟩;have hX2:=za (zn w _ _) (by simp) hb2;have hz2:w.heap.size<w2.heap.size:=by have:=hb2.size;simp at this;omega
  have hB2:Bw w w2:=(bAl _ _).trans (hb2.mono (by simp));clear hb2;go_wp2_with fail
  refine(zf HFit.o (qm _ _ _ _ _ _ _ _ _ _ _ _ _ _ _ hdf (hws.mono hB2))).mono ?_;rintro e w3⟨rfl,hb3⟩;have hX3:=za hX2 hz2 hb3;have hz3:w.heap.size<w3.heap.size:=by have:=hb3.size;omega
  have hB3:Bw w w3:=hB2.trans (hb3.mono (by omega));clear hb3 hX2 hz2 hB2;go_wp2_with fail
  go_ret;exact⟨ze (by rw[HO.o,HNm.o,HBare.o,HD.o,HFit.o];simp),hB3⟩
 ·have HFit:=hid hfit
  have HR:Hid (res=zZ ss ⟨nm,3,ls,ms,ws,to,rl,mu,fx,df,wg⟩):=by unfold Hid;rw[HO.o,HNm.o,HBare.o,HD.o,hfit];simp
  clear hfit HO;go_enter Tryz.func188,Tryz.ntmps188;go_wp2_with fail
  refine(zf HNm.o (zi _ _ hnm)).mono ?_;rintro e w1⟨rfl,rfl⟩;go_wp2_with fail
  refine(zf HBare.o (zeh _ _ _ _ _ _ _ _ _ _ _ _ _)).mono ?_;rintro e w2⟨rfl,hb2⟩;have hX2:=za (zn w _ _) (by simp) hb2;have hz2:w.heap.size<w2.heap.size:=by have:=hb2.size;simp at this;omega
  have hB2:Bw w w2:=(bAl _ _).trans (hb2.mono (by simp));clear hb2;go_wp2_with fail
  refine(zf HFit.o (qm _ _ _ _ _ _ _ _ _ _ _ _ _ _ _ hdf (hws.mono hB2))).mono ?_;rintro e w3⟨rfl,hb3⟩;have hX3:=za hX2 hz2 hb3;have hz3:w.heap.size<w3.heap.size:=by have:=hb3.size;omega
  have hB3:Bw w w3:=hB2.trans (hb3.mono (by omega));clear hb3 hX2 hz2 hB2;go_wp2_with fail
  all_goals
   go_ret;refine⟨ze ?_,hB3⟩;rw[HR.o]
   simp_all [zZ,jN]
   try omega
theorem znp (a0:OA)(cap0:Nat)(ss:List Shp)(nm:BA)(ls ms:Int)(a:OA)(cap:Nat)(ws:List BA)(to:BA)(rl:Int)(mu fx:Bool)(df wg:BA)(w:World)(hnm:nm.size<=maxLen)(hdf:df.size<=maxLen)(hws:zJ w a ws)(hss:yR w a0 ss) :
 Calls Tryz.prog 188 #[.l a0 ss.length cap0,.agg #[.s nm,.i 4,.i ls,.i ms,.l a ws.length cap,.s to,.i rl,.bool mu,.bool fx,.s df,.s wg]] w
  fun e w'=>e=.returned (.bool (zm nm&&yM ss ⟨nm,4,ls,ms,ws,to,rl,mu,fx,df,wg⟩))/\Bw w w':=by
 have HO:Hid ((zm nm&&yM ss ⟨nm,4,ls,ms,ws,to,rl,mu,fx,df,wg⟩)=(zm nm&&(yV 4 ls ms ws.length to rl wg&&zZ ss ⟨nm,4,ls,ms,ws,to,rl,mu,fx,df,wg⟩&&(df.toList.isEmpty||fits 4 ls ms ws df)))):=rfl
 generalize (zm nm&&yM ss ⟨nm,4,ls,ms,ws,to,rl,mu,fx,df,wg⟩)=res at HO
 by_cases hn:zm nm=true
 rotate_left
 ·have HNm:Hid (zm nm=false):=by simpa[Hid] using hn
  clear hn;go_enter Tryz.func188,Tryz.ntmps188;go_wp2_with fail
  refine(zf HNm.o (zi _ _ hnm)).mono ?_;rintro e w1⟨rfl,rfl⟩;go_wp2_with fail
  go_ret;exact⟨ze (by rw[HO.o,HNm.o];rfl),bAl _ _⟩
 have HNm:=hid hn;clear hn
 by_cases hbare:yV 4 ls ms ws.length to rl wg=true
 rotate_left
 ·have HBare:Hid (yV 4 ls ms ws.length to rl wg=false):=by simpa[Hid] using hbare
  clear hbare;go_enter Tryz.func188,Tryz.ntmps188;go_wp2_with fail
  refine(zf HNm.o (zi _ _ hnm)).mono ?_;rintro e w1⟨rfl,rfl⟩;go_wp2_with fail
  refine(zf HBare.o (za1 _ _ _ _ _ _ _ _ _ _ _ _ _)).mono ?_;rintro e w2⟨rfl,hb2⟩;have hX2:=za (zn w _ _) (by simp) hb2;have hz2:w.heap.size<w2.heap.size:=by have:=hb2.size;simp at this;omega
  have hB2:Bw w w2:=(bAl _ _).trans (hb2.mono (by simp));clear hb2;go_wp2_with fail
  go_ret;exact⟨ze (by rw[HO.o,HNm.o,HBare.o];rfl),hB2⟩
 have HBare:=hid hbare;clear hbare
 by_cases hd:df.toList.isEmpty=true
 ·have HD:=hid hd
  have HR:Hid (res=zZ ss ⟨nm,4,ls,ms,ws,to,rl,mu,fx,df,wg⟩):=by unfold Hid;rw[HO.o,HNm.o,HBare.o,hd];simp
  clear HO;have HSn:Hid (zZ ss ⟨nm,4,ls,ms,ws,to,rl,mu,fx,df,wg⟩=(zC ss to&&(decide (1<=rl)&&decide (rl<=3))&&df.toList.isEmpty&&(decide (rl≠2)||!mu))):=by simp[zZ,Hid]
  by_cases hk:zC ss to=true
  rotate_left
  ·have HK:Hid (zC ss to=false):=by simpa[Hid] using hk
   clear hk;go_enter Tryz.func188,Tryz.ntmps188;go_wp2_with fail
   refine(zf HNm.o (zi _ _ hnm)).mono ?_;rintro e w1⟨rfl,rfl⟩;go_wp2_with fail
   refine(zf HBare.o (za1 _ _ _ _ _ _ _ _ _ _ _ _ _)).mono ?_;rintro e w2⟨rfl,hb2⟩;have hX2:=za (zn w _ _) (by simp) hb2;have hz2:w.heap.size<w2.heap.size:=by have:=hb2.size;simp at this;omega
   have hB2:Bw w w2:=(bAl _ _).trans (hb2.mono (by simp));clear hb2;go_wp2_with fail
   refine(jW _ _ _ _ _ (hss.mono hB2) HK.o).mono ?_;rintro e w5⟨rfl,rfl⟩;go_wp2_with fail
   go_ret;exact⟨ze (by rw[HR.o,HSn.o,HK.o];rfl),hB2⟩
  have HK:=hid hk;clear hk
  by_cases h13:1<=rl/\rl<=3
  rotate_left
  ·have HT:Hid ((decide (1<=rl)&&decide (rl<=3))=false):=by unfold Hid;rw[Bool.eq_false_iff];simp;omega
   have H13:=hid h13;clear h13;go_enter Tryz.func188,Tryz.ntmps188;go_wp2_with fail
   refine(zf HNm.o (zi _ _ hnm)).mono ?_;rintro e w1⟨rfl,rfl⟩;go_wp2_with fail
   refine(zf HBare.o (za1 _ _ _ _ _ _ _ _ _ _ _ _ _)).mono ?_;rintro e w2⟨rfl,hb2⟩;have hX2:=za (zn w _ _) (by simp) hb2;have hz2:w.heap.size<w2.heap.size:=by have:=hb2.size;simp at this;omega
   have hB2:Bw w w2:=(bAl _ _).trans (hb2.mono (by simp));clear hb2;go_wp2_with fail
   refine(yN _ _ _ _ _ (hss.mono hB2) HK.o).mono ?_;rintro e w5⟨ix,hix,rfl,_,rfl⟩;have hix0:(0:Int)<=(ix:Int):=by omega
   go_wp2_with fail
   refine(zdG _ _ _ _ H13.o).mono ?_;rintro e w6⟨rfl,rfl⟩;go_wp2_with fail
   go_ret;exact⟨ze (by rw[HR.o,HSn.o,HK.o,HT.o];simp),hB2⟩
  obtain⟨h1,h3⟩:=h13;have HT:Hid ((decide (1<=rl)&&decide (rl<=3))=true):=by unfold Hid;simp;omega
  by_cases h2:rl=2
  focus
   have e2:(rl != 2)=false:=by simp[h2]
   have H2:Hid (decide (rl≠2)=false):=by unfold Hid;simp[h2]
  rotate_left
  focus
   have e2:(rl != 2)=true:=by simp[h2]
   have H2:Hid (decide (rl≠2)=true):=by unfold Hid;simp[h2]
  all_goals
   clear h2;go_enter Tryz.func188,Tryz.ntmps188;go_wp2_with fail
   refine(zf HNm.o (zi _ _ hnm)).mono ?_;rintro e w1⟨rfl,rfl⟩;go_wp2_with fail
   refine(zf HBare.o (za1 _ _ _ _ _ _ _ _ _ _ _ _ _)).mono ?_;rintro e w2⟨rfl,hb2⟩;have hX2:=za (zn w _ _) (by simp) hb2;have hz2:w.heap.size<w2.heap.size:=by have:=hb2.size;simp at this;omega
   have hB2:Bw w w2:=(bAl _ _).trans (hb2.mono (by simp));clear hb2;go_wp2_with fail
   refine(yN _ _ _ _ _ (hss.mono hB2) HK.o).mono ?_;rintro e w5⟨ix,hix,rfl,_,rfl⟩;have hix0:(0:Int)<=(ix:Int):=by omega
   go_wp2_with fail
   refine(zbJ _ _ _ _ h1 h3).mono ?_;rintro e w6⟨rfl,rfl⟩;go_wp2_with fail
   go_ret;exact⟨ze (by rw[HR.o,HSn.o,HK.o,HT.o,HD.o,H2.o];simp),hB2⟩
 have hd':df.toList.isEmpty=false:=by simpa using hd
 have HD:=hid hd';clear hd
 by_cases hfit:fits 4 ls ms ws df=true
 rotate_left
 ·have HFit:Hid (fits 4 ls ms ws df=false):=by simpa[Hid] using hfit
  clear hfit;go_enter Tryz.func188,Tryz.ntmps188;go_wp2_with fail
  refine(zf HNm.o (zi _ _ hnm)).mono ?_;rintro e w1⟨rfl,rfl⟩;go_wp2_with fail
  refine(zf HBare.o (za1 _ _ _ _ _ _ _ _ _ _ _ _ _)).mono ?_;rintro e w2⟨rfl,hb2⟩;have hX2:=za (zn w _ _) (by simp) hb2;have hz2:w.heap.size<w2.heap.size:=by have:=hb2.size;simp at this;omega
  have hB2:Bw w w2:=(bAl _ _).trans (hb2.mono (by simp));clear hb2;go_wp2_with fail
  refine(zf HFit.o (qm _ _ _ _ _ _ _ _ _ _ _ _ _ _ _ hdf (hws.mono hB2))).mono ?_;rintro e w3⟨rfl,hb3⟩;have hX3:=za hX2 hz2 hb3;have hz3:w.heap.size<w3.heap.size:=by have:=hb3.size;omega
  have hB3:Bw w w3:=hB2.trans (hb3.mono (by omega));clear hb3 hX2 hz2 hB2;go_wp2_with fail
  go_ret;exact⟨ze (by rw[HO.o,HNm.o,HBare.o,HD.o,HFit.o];simp),hB3⟩
 ·have HFit:=hid hfit
  have HR:Hid (res=zZ ss ⟨nm,4,ls,ms,ws,to,rl,mu,fx,df,wg⟩):=by unfold Hid;rw[HO.o,HNm.o,HBare.o,HD.o,hfit];simp
  clear hfit HO;have HSn:Hid (zZ ss ⟨nm,4,ls,ms,ws,to,rl,mu,fx,df,wg⟩=(zC ss to&&(decide (1<=rl)&&decide (rl<=3))&&df.toList.isEmpty&&(decide (rl≠2)||!mu))):=by simp[zZ,Hid]
  by_cases hk:zC ss to=true
  rotate_left
  ·have HK:Hid (zC ss to=false):=by simpa[Hid] using hk
   clear hk;go_enter Tryz.func188,Tryz.ntmps188;go_wp2_with fail
   refine(zf HNm.o (zi _ _ hnm)).mono ?_;rintro e w1⟨rfl,rfl⟩;go_wp2_with fail
   refine(zf HBare.o (za1 _ _ _ _ _ _ _ _ _ _ _ _ _)).mono ?_;rintro e w2⟨rfl,hb2⟩;have hX2:=za (zn w _ _) (by simp) hb2;have hz2:w.heap.size<w2.heap.size:=by have:=hb2.size;simp at this;omega
   have hB2:Bw w w2:=(bAl _ _).trans (hb2.mono (by simp));clear hb2;go_wp2_with fail
   refine(zf HFit.o (qm _ _ _ _ _ _ _ _ _ _ _ _ _ _ _ hdf (hws.mono hB2))).mono ?_;rintro e w3⟨rfl,hb3⟩;have hX3:=za hX2 hz2 hb3;have hz3:w.heap.size<w3.heap.size:=by have:=hb3.size;omega
   have hB3:Bw w w3:=hB2.trans (hb3.mono (by omega));clear hb3 hX2 hz2 hB2;go_wp2_with fail
   refine(jW _ _ _ _ _ (hss.mono hB3) HK.o).mono ?_;rintro e w5⟨rfl,rfl⟩;go_wp2_with fail
   go_ret;exact⟨ze (by rw[HR.o,HSn.o,HK.o];rfl),hB3⟩
  have HK:=hid hk;clear hk
  by_cases h13:1<=rl/\rl<=3
  ·obtain⟨h1,h3⟩:=h13
   go_enter Tryz.func188,Tryz.ntmps188;go_wp2_with fail
   refine(zf HNm.o (zi _ _ hnm)).mono ?_;rintro e w1⟨rfl,rfl⟩;go_wp2_with fail
   refine(zf HBare.o (za1 _ _ _ _ _ _ _ _ _ _ _ _ _)).mono ?_;rintro e w2⟨rfl,hb2⟩;have hX2:=za (zn w _ _) (by simp) hb2;have hz2:w.heap.size<w2.heap.size:=by have:=hb2.size;simp at this;omega
   have hB2:Bw w w2:=(bAl _ _).trans (hb2.mono (by simp));clear hb2;go_wp2_with fail
   refine(zf HFit.o (qm _ _ _ _ _ _ _ _ _ _ _ _ _ _ _ hdf (hws.mono hB2))).mono ?_;rintro e w3⟨rfl,hb3⟩;have hX3:=za hX2 hz2 hb3;have hz3:w.heap.size<w3.heap.size:=by have:=hb3.size;omega
   have hB3:Bw w w3:=hB2.trans (hb3.mono (by omega));clear hb3 hX2 hz2 hB2;go_wp2_with fail
   refine(yN _ _ _ _ _ (hss.mono hB3) HK.o).mono ?_;rintro e w5⟨ix,hix,rfl,_,rfl⟩;have hix0:(0:Int)<=(ix:Int):=by omega
   go_wp2_with fail
   refine(zbJ _ _ _ _ h1 h3).mono ?_;rintro e w6⟨rfl,rfl⟩;go_wp2_with fail
   go_ret;exact⟨ze (by rw[HR.o,HSn.o,HD.o];simp),hB3⟩
  ·have H13:=hid h13
   clear h13;go_enter Tryz.func188,Tryz.ntmps188;go_wp2_with fail
   refine(zf HNm.o (zi _ _ hnm)).mono ?_;rintro e w1⟨rfl,rfl⟩;go_wp2_with fail
   refine(zf HBare.o (za1 _ _ _ _ _ _ _ _ _ _ _ _ _)).mono ?_;rintro e w2⟨rfl,hb2⟩;have hX2:=za (zn w _ _) (by simp) hb2;have hz2:w.heap.size<w2.heap.size:=by have:=hb2.size;simp at this;omega
   have hB2:Bw w w2:=(bAl _ _).trans (hb2.mono (by simp));clear hb2;go_wp2_with fail
   refine(zf HFit.o (qm _ _ _ _ _ _ _ _ _ _ _ _ _ _ _ hdf (hws.mono hB2))).mono ?_;rintro e w3⟨rfl,hb3⟩;have hX3:=za hX2 hz2 hb3;have hz3:w.heap.size<w3.heap.size:=by have:=hb3.size;omega
   have hB3:Bw w w3:=hB2.trans (hb3.mono (by omega));clear hb3 hX2 hz2 hB2;go_wp2_with fail
   refine(yN _ _ _ _ _ (hss.mono hB3) HK.o).mono ?_;rintro e w5⟨ix,hix,rfl,_,rfl⟩;have hix0:(0:Int)<=(ix:Int):=by omega
   go_wp2_with fail
   refine(zdG _ _ _ _ H13.o).mono ?_;rintro e w6⟨rfl,rfl⟩;go_wp2_with fail
   go_ret;exact⟨ze (by rw[HR.o,HSn.o,HD.o];simp),hB3⟩
def znw (a:OA)(ws:List BA):Prop:=(a=none/\ws=[]) \/ ∃b off,a=some (aD b off)
theorem zA.zsz {lo:Nat}{w:World}{a:OA}{ws:List BA}(h:zA lo w a ws):znw a ws:=by
 rcases h with⟨h0,h1⟩|⟨g,C,h0,_⟩
 ·exact Or.inl ⟨h0,h1⟩
 ·exact Or.inr ⟨g,0,h0⟩
theorem zfo (cap:Nat)(w:World) :
 Calls Tryz.prog 263 #[.l none 0 cap] w fun e w'=>∃v,e=.returned v/\w'.ownsRow w.heap.size 9 1 v 0 []/\Bw w w':=by
 go_enter Tryz.func263,Tryz.ntmps263;go_wp2_with fail
 go_ret;exact⟨_,rfl,World.ownsRow_nil _ _ _ _,bRf _ _⟩
theorem zf1 (a:OA)(cap:Nat)(ws:List BA)(w:World)(hw:zJ w a ws)(hA:znw a ws)(hl:ws.length<=1048576) :
 Calls Tryz.prog 263 #[.l a ws.length cap] w
  fun e w'=>∃v,e=.returned v/\w'.ownsRow w.heap.size 9 1 v ws.length (ws.map Value.string)/\Bw w w':=by
 rcases hA with⟨rfl,rfl⟩|⟨b,off,rfl⟩
 ·exact zfo cap w
 ·exact zfR b off cap ws w hw hl
theorem zkm (o:Ob)(va ha:OA)(cap cap':Nat)(w:World)(ho:zab w o va ha)(hA:znw va o.vs)(hA':znw ha o.hs)(hl:o.vs.length<=1048576)(hl':o.hs.length<=1048576) :
 Calls Tryz.prog 260 #[.agg #[.s o.kd,.s o.nm,.s o.tm,.l va o.vs.length cap,.bool o.en,.l ha o.hs.length cap',.i o.vr]] w
  fun e w'=>∃a dap a' dap' m,e=.returned (.agg #[.s o.kd,.s o.nm,.s o.tm,.l a o.vs.length dap,.bool o.en,.l a' o.hs.length dap',.i o.vr])/\zA w.heap.size w' a o.vs/\(∀g,a=some g->g.block<m)/\w.heap.size<=m/\zA m w' a' o.hs/\Bw w w':=by
 go_enter Tryz.func260,Tryz.ntmps260;go_wp2_with fail
 refine(zf1 _ _ _ _ (ho.vals.mono (zx _ _ _)) hA hl).mono ?_;rintro e w1⟨v,rfl,hown1,hb1⟩;obtain⟨a,dap,rfl,ht1⟩:=zA.zgk hown1;have hk1:=(hb1.block w.heap.size (by simp;omega)).trans (yt _ _ _).1;have hr1:=(hb1.block (w.heap.size+1) (by simp)).trans (yt _ _ _).2;have HT:Hid (zA (w.heap.size+1+1) w1 a o.vs):=by unfold Hid;simpa using ht1
 have hz1:w.heap.size+1<w1.heap.size:=by have:=hb1.size;simp at this;omega
 have hB1:=(zx _ _ _).trans (hb1.mono (by simp;omega));have HK:=hid hk1;have HRR:=hid hr1;have hX1:∀j,w1.cell? (aD w.heap.size j)=((oC o va ha cap cap'):AV)[j]?:=fun j=>cell_of_block hk1
 have hF1:∀j,w1.frozen? (aD w.heap.size j)=false:=fun j=>zl hk1
 clear hb1 hown1 ht1 hk1 hr1;go_wp2_with fail
 have hB1':=hB1.setCell (p:=(aD w.heap.size 3)) (Nat.le_refl _) (.l a o.vs.length dap);refine(zf1 _ _ _ _ (ho.holds.mono hB1') hA' hl').mono ?_;rintro e w2⟨v,rfl,hown2,hb2⟩;obtain⟨a',dap',rfl,ht2⟩:=zA.zgk hown2;have hk2:=(hb2.block w.heap.size (by simp[World.setCell];omega)).trans (zh HK.o _);have hr2:=(hb2.block (w.heap.size+1) (by simp[World.setCell];omega)).trans ((Below.heap_setCell _ _ _ _ (by simp)).trans HRR.o);have HT2:=hid ((HT.o.setCell _ (by simp;omega) _).mono hb2);have HU2:Hid (zA w1.heap.size w2 a' o.hs):=by unfold Hid;simpa[World.setCell] using ht2
 have HM:Hid (∀g,a=some g->g.block<w1.heap.size):=by
  intro g hg
  rcases HT.o with⟨h0,_⟩|⟨g',C,h0,_,hh,_⟩
  ·rw[h0]at hg;cases hg
  ·rw[h0]at hg;cases hg;exact(gES hh).1
 have hz2:w.heap.size+1<w2.heap.size:=by have:=hb2.size;simp[World.setCell]at this;omega
 have hB2:=hB1'.trans (hb2.mono hB1'.size);have hX2:∀j,w2.cell? (aD w.heap.size j)=((oC o a ha dap cap'):AV)[j]?:=fun j=>cell_of_block hk2
 have hF2:∀j,w2.frozen? (aD w.heap.size j)=false:=fun j=>zl hk2
 have hY2:∀j,w2.cell? (aD (w.heap.size+1) j)=(oZ:AV)[j]?:=fun j=>cell_of_block hr2
 have hG2:∀j,w2.frozen? (aD (w.heap.size+1) j)=false:=fun j=>zl hr2
 have hzz:w.heap.size<=w1.heap.size:=by omega
 clear hb2 hown2 ht2 hX1 hF1 hB1 hB1' hk2 hr2;go_wp2_with fail
 refine bodyPost_ret (v:=(.agg #[.s o.kd,.s o.nm,.s o.tm,.l a o.vs.length dap,.bool o.en,.l a' o.hs.length dap',.i o.vr])) (by simp[results,Tryz.results260,go_sem,hY2]) rfl ⟨a,dap,a',dap',w1.heap.size,rfl,((((((((HT2.o.setCell _ (by simp;omega) _).setCell _ (by simp) _).setCell _ (by simp) _).setCell _ (by simp) _).setCell _ (by simp) _).setCell _ (by simp) _).setCell _ (by simp) _).setCell _ (by simp) _).low (by omega),HM.o,hzz,((((((((HU2.o.setCell _ (by simp;omega) _).setCell _ (by simp;omega) _).setCell _ (by simp;omega) _).setCell _ (by simp;omega) _).setCell _ (by simp;omega) _).setCell _ (by simp;omega) _).setCell _ (by simp;omega) _).setCell _ (by simp;omega) _),((((((((hB2.setCell (Nat.le_refl _) _).setCell (by simp) _).setCell (by simp) _).setCell (by simp) _).setCell (by simp) _).setCell (by simp) _).setCell (by simp) _).setCell (by simp) _)⟩
end Go.Proofs.YthdfpinbnncghaaGreat
