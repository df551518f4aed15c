import Derived.Test.YtkficnallnpjnaaGreatM17
import Derived.Test.YtkficnallnpjnaaGreatM15
set_option maxHeartbeats 4000000
namespace Go.Proofs.YtkficnallnpjnaaGreat
open Go.RowKit
theorem zmT (a0:Option Addr)(cap0:Nat)(ss:List Shp)(nm:ByteArray)(ls ms:Int)(a:Option Addr)(cap:Nat)(ws:List ByteArray)(to:ByteArray)(rl:Int)(mu fx:Bool)(df wg:ByteArray)(w:World)(hnm:nm.size<=maxLen)(hdf:df.size<=maxLen)(hws:zF w a ws) :
 Calls Tryz.prog 178 #[.slice a0 ss.length cap0,.agg #[.string nm,.int .i64 2,.int .i64 ls,.int .i64 ms,.slice a ws.length cap,.string to,.int .i64 rl,.bool mu,.bool fx,.string df,.string wg]] w
  fun e w'=>e=.returned (.bool (zA nm&&yF ss ⟨nm,2,ls,ms,ws,to,rl,mu,fx,df,wg⟩))/\Below w.heap.size w w':=by
 have HO:Hid ((zA nm&&yF ss ⟨nm,2,ls,ms,ws,to,rl,mu,fx,df,wg⟩)=(zA nm&&(yL 2 ls ms ws.length to rl wg&&zW ss ⟨nm,2,ls,ms,ws,to,rl,mu,fx,df,wg⟩&&(df.toList.isEmpty||fits 2 ls ms ws df)))):=rfl
 generalize (zA nm&&yF ss ⟨nm,2,ls,ms,ws,to,rl,mu,fx,df,wg⟩)=res at HO
 by_cases hn:zA nm=true
 rotate_left
 ·have HNm:Hid (zA nm=false):=by simpa[Hid] using hn
  clear hn;go_enter Tryz.func178,Tryz.ntmps178;go_wp2_with fail
  refine(zf HNm.out (zk _ _ hnm)).mono ?_;rintro e w1⟨rfl,rfl⟩;go_wp2_with fail
  go_ret;exact⟨ze (by rw[HO.out,HNm.out];rfl),bAl _ _⟩
 have HNm:=hid hn;clear hn
 by_cases hbare:yL 2 ls ms ws.length to rl wg=true
 rotate_left
 ·have HBare:Hid (yL 2 ls ms ws.length to rl wg=false):=by simpa[Hid] using hbare
  clear hbare;go_enter Tryz.func178,Tryz.ntmps178;go_wp2_with fail
  refine(zf HNm.out (zk _ _ hnm)).mono ?_;rintro e w1⟨rfl,rfl⟩;go_wp2_with fail
  refine(zf HBare.out (zbQ _ _ _ _ _ _ _ _ _ _ _ _ _)).mono ?_;rintro e w2⟨rfl,hb2⟩;have hX2:=za (zl w _ _) (by simp) hb2;have hz2:w.heap.size<w2.heap.size:=by have:=hb2.size;simp at this;omega
  have hB2:Below w.heap.size w w2:=(bAl _ _).trans (hb2.mono (by simp));clear hb2;go_wp2_with fail
  go_ret;exact⟨ze (by rw[HO.out,HNm.out,HBare.out];rfl),hB2⟩
 have HBare:=hid hbare;clear hbare
 by_cases hd:df.toList.isEmpty=true
 ·have HD:=hid hd
  have HR:Hid (res=zW ss ⟨nm,2,ls,ms,ws,to,rl,mu,fx,df,wg⟩):=by unfold Hid;rw[HO.out,HNm.out,HBare.out,hd];simp
  clear HO;have HSn:Hid (zW ss ⟨nm,2,ls,ms,ws,to,rl,mu,fx,df,wg⟩=(decide (1<=ws.length)&&decide (ws.length<=6)&&asc ws)):=by simp[zW,Hid]
  have hl:=hws.len;unfold maxLen at hl
  by_cases h16:1<=ws.length/\ws.length<=6
  ·obtain⟨h1,h6⟩:=h16
   go_enter Tryz.func178,Tryz.ntmps178;go_wp2_with fail
   refine(zf HNm.out (zk _ _ hnm)).mono ?_;rintro e w1⟨rfl,rfl⟩;go_wp2_with fail
   refine(zf HBare.out (zbQ _ _ _ _ _ _ _ _ _ _ _ _ _)).mono ?_;rintro e w2⟨rfl,hb2⟩;have hX2:=za (zl w _ _) (by simp) hb2;have hz2:w.heap.size<w2.heap.size:=by have:=hb2.size;simp at this;omega
   have hB2:Below w.heap.size w w2:=(bAl _ _).trans (hb2.mono (by simp));clear hb2;go_wp2_with fail
   refine(zbz _ _ _ _ (by omega) (by omega)).mono ?_;rintro e w5⟨rfl,rfl⟩;go_wp2_with fail
   refine(zau _ _ _ _ (hws.mono hB2)).mono ?_;rintro e w6⟨rfl,nd,rfl⟩;go_wp2_with fail
   go_ret;exact⟨ze (by rw[HR.out,HSn.out,decide_eq_true h1,decide_eq_true h6];rfl),below_drewN hB2 _⟩
  ·have HS0:Hid (zW ss ⟨nm,2,ls,ms,ws,to,rl,mu,fx,df,wg⟩=false):=by
    rw[HSn.out];unfold Hid
    by_cases h1:1<=ws.length
    ·rw[decide_eq_false (show ¬ws.length<=6 by omega)];simp
    ·rw[decide_eq_false h1];rfl
   go_enter Tryz.func178,Tryz.ntmps178;go_wp2_with fail
   refine(zf HNm.out (zk _ _ hnm)).mono ?_;rintro e w1⟨rfl,rfl⟩;go_wp2_with fail
   refine(zf HBare.out (zbQ _ _ _ _ _ _ _ _ _ _ _ _ _)).mono ?_;rintro e w2⟨rfl,hb2⟩;have hX2:=za (zl w _ _) (by simp) hb2;have hz2:w.heap.size<w2.heap.size:=by have:=hb2.size;simp at this;omega
   have hB2:Below w.heap.size w w2:=(bAl _ _).trans (hb2.mono (by simp));clear hb2;go_wp2_with fail
   refine(zc7 _ _ _ _ (by omega)).mono ?_;rintro e w5⟨rfl,rfl⟩;go_wp2_with fail
   go_ret;exact⟨ze (by rw[HR.out,HS0.out]),hB2⟩
 have hd':df.toList.isEmpty=false:=by simpa using hd
 have HD:=hid hd';clear hd
 by_cases hfit:fits 2 ls ms ws df=true
 rotate_left
 ·have HFit:Hid (fits 2 ls ms ws df=false):=by simpa[Hid] using hfit
  clear hfit;go_enter Tryz.func178,Tryz.ntmps178;go_wp2_with fail
  refine(zf HNm.out (zk _ _ hnm)).mono ?_;rintro e w1⟨rfl,rfl⟩;go_wp2_with fail
  refine(zf HBare.out (zbQ _ _ _ _ _ _ _ _ _ _ _ _ _)).mono ?_;rintro e w2⟨rfl,hb2⟩;have hX2:=za (zl w _ _) (by simp) hb2;have hz2:w.heap.size<w2.heap.size:=by have:=hb2.size;simp at this;omega
  have hB2:Below w.heap.size w w2:=(bAl _ _).trans (hb2.mono (by simp));clear hb2;go_wp2_with fail
  refine(zf HFit.out (yU _ _ _ _ _ _ _ _ _ _ _ _ _ _ _ hdf (hws.mono hB2))).mono ?_;rintro e w3⟨rfl,hb3⟩;have hX3:=za hX2 hz2 hb3;have hz3:w.heap.size<w3.heap.size:=by have:=hb3.size;omega
  have hB3:Below w.heap.size w w3:=hB2.trans (hb3.mono (by omega));clear hb3 hX2 hz2 hB2;go_wp2_with fail
  go_ret;exact⟨ze (by rw[HO.out,HNm.out,HBare.out,HD.out,HFit.out];simp),hB3⟩
 ·have HFit:=hid hfit
  have HR:Hid (res=zW ss ⟨nm,2,ls,ms,ws,to,rl,mu,fx,df,wg⟩):=by unfold Hid;rw[HO.out,HNm.out,HBare.out,HD.out,hfit];simp
  clear hfit HO;have HSn:Hid (zW ss ⟨nm,2,ls,ms,ws,to,rl,mu,fx,df,wg⟩=(decide (1<=ws.length)&&decide (ws.length<=6)&&asc ws)):=by simp[zW,Hid]
  have hl:=hws.len;unfold maxLen at hl
  by_cases h16:1<=ws.length/\ws.length<=6
  ·obtain⟨h1,h6⟩:=h16
   go_enter Tryz.func178,Tryz.ntmps178;go_wp2_with fail
   refine(zf HNm.out (zk _ _ hnm)).mono ?_;rintro e w1⟨rfl,rfl⟩;go_wp2_with fail
   refine(zf HBare.out (zbQ _ _ _ _ _ _ _ _ _ _ _ _ _)).mono ?_;rintro e w2⟨rfl,hb2⟩;have hX2:=za (zl w _ _) (by simp) hb2;have hz2:w.heap.size<w2.heap.size:=by have:=hb2.size;simp at this;omega
   have hB2:Below w.heap.size w w2:=(bAl _ _).trans (hb2.mono (by simp));clear hb2;go_wp2_with fail
   refine(zf HFit.out (yU _ _ _ _ _ _ _ _ _ _ _ _ _ _ _ hdf (hws.mono hB2))).mono ?_;rintro e w3⟨rfl,hb3⟩;have hX3:=za hX2 hz2 hb3;have hz3:w.heap.size<w3.heap.size:=by have:=hb3.size;omega
   have hB3:Below w.heap.size w w3:=hB2.trans (hb3.mono (by omega));clear hb3 hX2 hz2 hB2;go_wp2_with fail
   refine(zbz _ _ _ _ (by omega) (by omega)).mono ?_;rintro e w5⟨rfl,rfl⟩;go_wp2_with fail
   refine(zau _ _ _ _ (hws.mono hB3)).mono ?_;rintro e w6⟨rfl,nd,rfl⟩;go_wp2_with fail
   go_ret;exact⟨ze (by rw[HR.out,HSn.out,decide_eq_true h1,decide_eq_true h6];rfl),below_drewN hB3 _⟩
  ·have HS0:Hid (zW ss ⟨nm,2,ls,ms,ws,to,rl,mu,fx,df,wg⟩=false):=by
    rw[HSn.out];unfold Hid
    by_cases h1:1<=ws.length
    ·rw[decide_eq_false (show ¬ws.length<=6 by omega)];simp
    ·rw[decide_eq_false h1];rfl
   go_enter Tryz.func178,Tryz.ntmps178;go_wp2_with fail
   refine(zf HNm.out (zk _ _ hnm)).mono ?_;rintro e w1⟨rfl,rfl⟩;go_wp2_with fail
   refine(zf HBare.out (zbQ _ _ _ _ _ _ _ _ _ _ _ _ _)).mono ?_;rintro e w2⟨rfl,hb2⟩;have hX2:=za (zl w _ _) (by simp) hb2;have hz2:w.heap.size<w2.heap.size:=by have:=hb2.size;simp at this;omega
   have hB2:Below w.heap.size w w2:=(bAl _ _).trans (hb2.mono (by simp));clear hb2;go_wp2_with fail
   refine(zf HFit.out (yU _ _ _ _ _ _ _ _ _ _ _ _ _ _ _ hdf (hws.mono hB2))).mono ?_;rintro e w3⟨rfl,hb3⟩;have hX3:=za hX2 hz2 hb3;have hz3:w.heap.size<w3.heap.size:=by have:=hb3.size;omega
   have hB3:Below w.heap.size w w3:=hB2.trans (hb3.mono (by omega));clear hb3 hX2 hz2 hB2;go_wp2_with fail
   refine(zc7 _ _ _ _ (by omega)).mono ?_;rintro e w5⟨rfl,rfl⟩;go_wp2_with fail
   go_ret;exact⟨ze (by rw[HR.out,HS0.out]),hB3⟩
theorem zmM (a0:Option Addr)(cap0:Nat)(ss:List Shp)(nm:ByteArray)(ls ms:Int)(a:Option Addr)(cap:Nat)(ws:List ByteArray)(to:ByteArray)(rl:Int)(mu fx:Bool)(df wg:ByteArray)(w:World)(hnm:nm.size<=maxLen)(hdf:df.size<=maxLen)(hws:zF w a ws) :
 Calls Tryz.prog 178 #[.slice a0 ss.length cap0,.agg #[.string nm,.int .i64 3,.int .i64 ls,.int .i64 ms,.slice a ws.length cap,.string to,.int .i64 rl,.bool mu,.bool fx,.string df,.string wg]] w
  fun e w'=>e=.returned (.bool (zA nm&&yF ss ⟨nm,3,ls,ms,ws,to,rl,mu,fx,df,wg⟩))/\Below w.heap.size w w':=by
 have HO:Hid ((zA nm&&yF ss ⟨nm,3,ls,ms,ws,to,rl,mu,fx,df,wg⟩)=(zA nm&&(yL 3 ls ms ws.length to rl wg&&zW ss ⟨nm,3,ls,ms,ws,to,rl,mu,fx,df,wg⟩&&(df.toList.isEmpty||fits 3 ls ms ws df)))):=rfl
 generalize (zA nm&&yF ss ⟨nm,3,ls,ms,ws,to,rl,mu,fx,df,wg⟩)=res at HO
 by_cases hn:zA nm=true
 rotate_left
 ·have HNm:Hid (zA nm=false):=by simpa[Hid] using hn
  clear hn;go_enter Tryz.func178,Tryz.ntmps178;go_wp2_with fail
  refine(zf HNm.out (zk _ _ hnm)).mono ?_;rintro e w1⟨rfl,rfl⟩;go_wp2_with fail
  go_ret;exact⟨ze (by rw[HO.out,HNm.out];rfl),bAl _ _⟩
 have HNm:=hid hn;clear hn
 by_cases hbare:yL 3 ls ms ws.length to rl wg=true
 rotate_left
 ·have HBare:Hid (yL 3 ls ms ws.length to rl wg=false):=by simpa[Hid] using hbare
  clear hbare;go_enter Tryz.func178,Tryz.ntmps178;go_wp2_with fail
  refine(zf HNm.out (zk _ _ hnm)).mono ?_;rintro e w1⟨rfl,rfl⟩;go_wp2_with fail
  refine(zf HBare.out (zee _ _ _ _ _ _ _ _ _ _ _ _ _)).mono ?_;rintro e w2⟨rfl,hb2⟩;have hX2:=za (zl w _ _) (by simp) hb2;have hz2:w.heap.size<w2.heap.size:=by have:=hb2.size;simp at this;omega
  have hB2:Below w.heap.size w w2:=(bAl _ _).trans (hb2.mono (by simp));clear hb2;go_wp2_with fail
  go_ret;exact⟨ze (by rw[HO.out,HNm.out,HBare.out];rfl),hB2⟩
 have HBare:=hid hbare;clear hbare
 by_cases hd:df.toList.isEmpty=true
 ·have HD:=hid hd
  have HR:Hid (res=zW ss ⟨nm,3,ls,ms,ws,to,rl,mu,fx,df,wg⟩):=by unfold Hid;rw[HO.out,HNm.out,HBare.out,hd];simp
  clear HO;go_enter Tryz.func178,Tryz.ntmps178;go_wp2_with fail
  refine(zf HNm.out (zk _ _ hnm)).mono ?_;rintro e w1⟨rfl,rfl⟩;go_wp2_with fail
  refine(zf HBare.out (zee _ _ _ _ _ _ _ _ _ _ _ _ _)).mono ?_;rintro e w2⟨rfl,hb2⟩;have hX2:=za (zl w _ _) (by simp) hb2;have hz2:w.heap.size<w2.heap.size:=by have:=hb2.size;simp at this;omega
  have hB2:Below w.heap.size w w2:=(bAl _ _).trans (hb2.mono (by simp));clear hb2;go_wp2_with fail
  all_goals
   go_ret;refine⟨ze ?_,hB2⟩;rw[HR.out]
   simp_all [zW,jl]
   try omega
 have hd':df.toList.isEmpty=false:=by simpa using hd
 have HD:=hid hd';clear hd
 by_cases hfit:fits 3 ls ms ws df=true
 rotate_left
 ·have HFit:Hid (fits 3 ls ms ws df=false):=by simpa[Hid] using hfit
  clear hfit;go_enter Tryz.func178,Tryz.ntmps178;go_wp2_with fail
  refine(zf HNm.out (zk _ _ hnm)).mono ?_;rintro e w1⟨rfl,rfl⟩;go_wp2_with fail
  refine(zf HBare.out (zee _ _ _ _ _ _ _ _ _ _ _ _ _)).mono ?_;rintro e w2⟨rfl,hb2⟩;have hX2:=za (zl w _ _) (by simp) hb2;have hz2:w.heap.size<w2.heap.size:=by have:=hb2.size;simp at this;omega
  have hB2:Below w.heap.size w w2:=(bAl _ _).trans (hb2.mono (by simp));clear hb2;go_wp2_with fail
  refine(zf HFit.out (yU _ _ _ _ _ _ _ _ _ _ _ _ _ _ _ hdf (hws.mono hB2))).mono ?_;rintro e w3⟨rfl,hb3⟩;have hX3:=za hX2 hz2 hb3;have hz3:w.heap.size<w3.heap.size:=by have:=hb3.size;omega
  have hB3:Below w.heap.size w w3:=hB2.trans (hb3.mono (by omega));clear hb3 hX2 hz2 hB2;go_wp2_with fail
  go_ret;exact⟨ze (by rw[HO.out,HNm.out,HBare.out,HD.out,HFit.out];simp),hB3⟩
 ·have HFit:=hid hfit
  have HR:Hid (res=zW ss ⟨nm,3,ls,ms,ws,to,rl,mu,fx,df,wg⟩):=by unfold Hid;rw[HO.out,HNm.out,HBare.out,HD.out,hfit];simp
  clear hfit HO;go_enter Tryz.func178,Tryz.ntmps178;go_wp2_with fail
  refine(zf HNm.out (zk _ _ hnm)).mono ?_;rintro e w1⟨rfl,rfl⟩;go_wp2_with fail
  refine(zf HBare.out (zee _ _ _ _ _ _ _ _ _ _ _ _ _)).mono ?_;rintro e w2⟨rfl,hb2⟩;have hX2:=za (zl w _ _) (by simp) hb2;have hz2:w.heap.size<w2.heap.size:=by have:=hb2.size;simp at this;omega
  have hB2:Below w.heap.size w w2:=(bAl _ _).trans (hb2.mono (by simp));clear hb2;go_wp2_with fail
  refine(zf HFit.out (yU _ _ _ _ _ _ _ _ _ _ _ _ _ _ _ hdf (hws.mono hB2))).mono ?_;rintro e w3⟨rfl,hb3⟩;have hX3:=za hX2 hz2 hb3;have hz3:w.heap.size<w3.heap.size:=by have:=hb3.size;omega
  have hB3:Below w.heap.size w w3:=hB2.trans (hb3.mono (by omega));clear hb3 hX2 hz2 hB2;go_wp2_with fail
  all_goals
   go_ret;refine⟨ze ?_,hB3⟩;rw[HR.out]
   simp_all [zW,jl]
   try omega
theorem znE (a0:Option Addr)(cap0:Nat)(ss:List Shp)(nm:ByteArray)(ls ms:Int)(a:Option Addr)(cap:Nat)(ws:List ByteArray)(to:ByteArray)(rl:Int)(mu fx:Bool)(df wg:ByteArray)(w:World)(hnm:nm.size<=maxLen)(hdf:df.size<=maxLen)(hws:zF w a ws)(hss:yT w a0 ss) :
 Calls Tryz.prog 178 #[.slice a0 ss.length cap0,.agg #[.string nm,.int .i64 4,.int .i64 ls,.int .i64 ms,.slice a ws.length cap,.string to,.int .i64 rl,.bool mu,.bool fx,.string df,.string wg]] w
  fun e w'=>e=.returned (.bool (zA nm&&yF ss ⟨nm,4,ls,ms,ws,to,rl,mu,fx,df,wg⟩))/\Below w.heap.size w w':=by
 have HO:Hid ((zA nm&&yF ss ⟨nm,4,ls,ms,ws,to,rl,mu,fx,df,wg⟩)=(zA nm&&(yL 4 ls ms ws.length to rl wg&&zW ss ⟨nm,4,ls,ms,ws,to,rl,mu,fx,df,wg⟩&&(df.toList.isEmpty||fits 4 ls ms ws df)))):=rfl
 generalize (zA nm&&yF ss ⟨nm,4,ls,ms,ws,to,rl,mu,fx,df,wg⟩)=res at HO
 by_cases hn:zA nm=true
 rotate_left
 ·have HNm:Hid (zA nm=false):=by simpa[Hid] using hn
  clear hn;go_enter Tryz.func178,Tryz.ntmps178;go_wp2_with fail
  refine(zf HNm.out (zk _ _ hnm)).mono ?_;rintro e w1⟨rfl,rfl⟩;go_wp2_with fail
  go_ret;exact⟨ze (by rw[HO.out,HNm.out];rfl),bAl _ _⟩
 have HNm:=hid hn;clear hn
 by_cases hbare:yL 4 ls ms ws.length to rl wg=true
 rotate_left
 ·have HBare:Hid (yL 4 ls ms ws.length to rl wg=false):=by simpa[Hid] using hbare
  clear hbare;go_enter Tryz.func178,Tryz.ntmps178;go_wp2_with fail
  refine(zf HNm.out (zk _ _ hnm)).mono ?_;rintro e w1⟨rfl,rfl⟩;go_wp2_with fail
  refine(zf HBare.out (zaK _ _ _ _ _ _ _ _ _ _ _ _ _)).mono ?_;rintro e w2⟨rfl,hb2⟩;have hX2:=za (zl w _ _) (by simp) hb2;have hz2:w.heap.size<w2.heap.size:=by have:=hb2.size;simp at this;omega
  have hB2:Below w.heap.size w w2:=(bAl _ _).trans (hb2.mono (by simp));clear hb2;go_wp2_with fail
  go_ret;exact⟨ze (by rw[HO.out,HNm.out,HBare.out];rfl),hB2⟩
 have HBare:=hid hbare;clear hbare
 by_cases hd:df.toList.isEmpty=true
 ·have HD:=hid hd
  have HR:Hid (res=zW ss ⟨nm,4,ls,ms,ws,to,rl,mu,fx,df,wg⟩):=by unfold Hid;rw[HO.out,HNm.out,HBare.out,hd];simp
  clear HO;have HSn:Hid (zW ss ⟨nm,4,ls,ms,ws,to,rl,mu,fx,df,wg⟩=(zJ ss to&&(decide (1<=rl)&&decide (rl<=3))&&df.toList.isEmpty&&(decide (rl≠2)||!mu))):=by simp[zW,Hid]
  by_cases hk:zJ ss to=true
  rotate_left
  ·have HK:Hid (zJ ss to=false):=by simpa[Hid] using hk
   clear hk;go_enter Tryz.func178,Tryz.ntmps178;go_wp2_with fail
   refine(zf HNm.out (zk _ _ hnm)).mono ?_;rintro e w1⟨rfl,rfl⟩;go_wp2_with fail
   refine(zf HBare.out (zaK _ _ _ _ _ _ _ _ _ _ _ _ _)).mono ?_;rintro e w2⟨rfl,hb2⟩;have hX2:=za (zl w _ _) (by simp) hb2;have hz2:w.heap.size<w2.heap.size:=by have:=hb2.size;simp at this;omega
   have hB2:Below w.heap.size w w2:=(bAl _ _).trans (hb2.mono (by simp));clear hb2;go_wp2_with fail
   refine(zed _ _ _ _ _ (hss.mono hB2) HK.out).mono ?_;rintro e w5⟨rfl,rfl⟩;go_wp2_with fail
   go_ret;exact⟨ze (by rw[HR.out,HSn.out,HK.out];rfl),hB2⟩
  have HK:=hid hk;clear hk
  by_cases h13:1<=rl/\rl<=3
  rotate_left
  ·have HT:Hid ((decide (1<=rl)&&decide (rl<=3))=false):=by unfold Hid;rw[Bool.eq_false_iff];simp;omega
   have H13:=hid h13;clear h13;go_enter Tryz.func178,Tryz.ntmps178;go_wp2_with fail
   refine(zf HNm.out (zk _ _ hnm)).mono ?_;rintro e w1⟨rfl,rfl⟩;go_wp2_with fail
   refine(zf HBare.out (zaK _ _ _ _ _ _ _ _ _ _ _ _ _)).mono ?_;rintro e w2⟨rfl,hb2⟩;have hX2:=za (zl w _ _) (by simp) hb2;have hz2:w.heap.size<w2.heap.size:=by have:=hb2.size;simp at this;omega
   have hB2:Below w.heap.size w w2:=(bAl _ _).trans (hb2.mono (by simp));clear hb2;go_wp2_with fail
   refine(jV _ _ _ _ _ (hss.mono hB2) HK.out).mono ?_;rintro e w5⟨ix,hix,rfl,_,rfl⟩;have hix0:(0:Int)<=(ix:Int):=by omega
   go_wp2_with fail
   refine(zc7 _ _ _ _ H13.out).mono ?_;rintro e w6⟨rfl,rfl⟩;go_wp2_with fail
   go_ret;exact⟨ze (by rw[HR.out,HSn.out,HK.out,HT.out];simp),hB2⟩
  obtain⟨h1,h3⟩:=h13;have HT:Hid ((decide (1<=rl)&&decide (rl<=3))=true):=by unfold Hid;simp;omega
  by_cases h2:rl=2
  focus
   have e2:(rl != 2)=false:=by simp[h2]
   have H2:Hid (decide (rl≠2)=false):=by unfold Hid;simp[h2]
  rotate_left
  focus
   have e2:(rl != 2)=true:=by simp[h2]
   have H2:Hid (decide (rl≠2)=true):=by unfold Hid;simp[h2]
  all_goals
   clear h2;go_enter Tryz.func178,Tryz.ntmps178;go_wp2_with fail
   refine(zf HNm.out (zk _ _ hnm)).mono ?_;rintro e w1⟨rfl,rfl⟩;go_wp2_with fail
   refine(zf HBare.out (zaK _ _ _ _ _ _ _ _ _ _ _ _ _)).mono ?_;rintro e w2⟨rfl,hb2⟩;have hX2:=za (zl w _ _) (by simp) hb2;have hz2:w.heap.size<w2.heap.size:=by have:=hb2.size;simp at this;omega
   have hB2:Below w.heap.size w w2:=(bAl _ _).trans (hb2.mono (by simp));clear hb2;go_wp2_with fail
   refine(jV _ _ _ _ _ (hss.mono hB2) HK.out).mono ?_;rintro e w5⟨ix,hix,rfl,_,rfl⟩;have hix0:(0:Int)<=(ix:Int):=by omega
   go_wp2_with fail
   refine(zbz _ _ _ _ h1 h3).mono ?_;rintro e w6⟨rfl,rfl⟩;go_wp2_with fail
   go_ret;exact⟨ze (by rw[HR.out,HSn.out,HK.out,HT.out,HD.out,H2.out];simp),hB2⟩
 have hd':df.toList.isEmpty=false:=by simpa using hd
 have HD:=hid hd';clear hd
 by_cases hfit:fits 4 ls ms ws df=true
 rotate_left
 ·have HFit:Hid (fits 4 ls ms ws df=false):=by simpa[Hid] using hfit
  clear hfit;go_enter Tryz.func178,Tryz.ntmps178;go_wp2_with fail
  refine(zf HNm.out (zk _ _ hnm)).mono ?_;rintro e w1⟨rfl,rfl⟩;go_wp2_with fail
  refine(zf HBare.out (zaK _ _ _ _ _ _ _ _ _ _ _ _ _)).mono ?_;rintro e w2⟨rfl,hb2⟩;have hX2:=za (zl w _ _) (by simp) hb2;have hz2:w.heap.size<w2.heap.size:=by have:=hb2.size;simp at this;omega
  have hB2:Below w.heap.size w w2:=(bAl _ _).trans (hb2.mono (by simp));clear hb2;go_wp2_with fail
  refine(zf HFit.out (yU _ _ _ _ _ _ _ _ _ _ _ _ _ _ _ hdf (hws.mono hB2))).mono ?_;rintro e w3⟨rfl,hb3⟩;have hX3:=za hX2 hz2 hb3;have hz3:w.heap.size<w3.heap.size:=by have:=hb3.size;omega
  have hB3:Below w.heap.size w w3:=hB2.trans (hb3.mono (by omega));clear hb3 hX2 hz2 hB2;go_wp2_with fail
  go_ret;exact⟨ze (by rw[HO.out,HNm.out,HBare.out,HD.out,HFit.out];simp),hB3⟩
 ·have HFit:=hid hfit
  have HR:Hid (res=zW ss ⟨nm,4,ls,ms,ws,to,rl,mu,fx,df,wg⟩):=by unfold Hid;rw[HO.out,HNm.out,HBare.out,HD.out,hfit];simp
  clear hfit HO;have HSn:Hid (zW ss ⟨nm,4,ls,ms,ws,to,rl,mu,fx,df,wg⟩=(zJ ss to&&(decide (1<=rl)&&decide (rl<=3))&&df.toList.isEmpty&&(decide (rl≠2)||!mu))):=by simp[zW,Hid]
  by_cases hk:zJ ss to=true
  rotate_left
  ·have HK:Hid (zJ ss to=false):=by simpa[Hid] using hk
   clear hk;go_enter Tryz.func178,Tryz.ntmps178;go_wp2_with fail
   refine(zf HNm.out (zk _ _ hnm)).mono ?_;rintro e w1⟨rfl,rfl⟩;go_wp2_with fail
   refine(zf HBare.out (zaK _ _ _ _ _ _ _ _ _ _ _ _ _)).mono ?_;rintro e w2⟨rfl,hb2⟩;have hX2:=za (zl w _ _) (by simp) hb2;have hz2:w.heap.size<w2.heap.size:=by have:=hb2.size;simp at this;omega
   have hB2:Below w.heap.size w w2:=(bAl _ _).trans (hb2.mono (by simp));clear hb2;go_wp2_with fail
   refine(zf HFit.out (yU _ _ _ _ _ _ _ _ _ _ _ _ _ _ _ hdf (hws.mono hB2))).mono ?_;rintro e w3⟨rfl,hb3⟩;have hX3:=za hX2 hz2 hb3;have hz3:w.heap.size<w3.heap.size:=by have:=hb3.size;omega
   have hB3:Below w.heap.size w w3:=hB2.trans (hb3.mono (by omega));clear hb3 hX2 hz2 hB2;go_wp2_with fail
   refine(zed _ _ _ _ _ (hss.mono hB3) HK.out).mono ?_;rintro e w5⟨rfl,rfl⟩;go_wp2_with fail
   go_ret;exact⟨ze (by rw[HR.out,HSn.out,HK.out];rfl),hB3⟩
  have HK:=hid hk;clear hk
  by_cases h13:1<=rl/\rl<=3
  ·obtain⟨h1,h3⟩:=h13
   go_enter Tryz.func178,Tryz.ntmps178;go_wp2_with fail
   refine(zf HNm.out (zk _ _ hnm)).mono ?_;rintro e w1⟨rfl,rfl⟩;go_wp2_with fail
   refine(zf HBare.out (zaK _ _ _ _ _ _ _ _ _ _ _ _ _)).mono ?_;rintro e w2⟨rfl,hb2⟩;have hX2:=za (zl w _ _) (by simp) hb2;have hz2:w.heap.size<w2.heap.size:=by have:=hb2.size;simp at this;omega
   have hB2:Below w.heap.size w w2:=(bAl _ _).trans (hb2.mono (by simp));clear hb2;go_wp2_with fail
   refine(zf HFit.out (yU _ _ _ _ _ _ _ _ _ _ _ _ _ _ _ hdf (hws.mono hB2))).mono ?_;rintro e w3⟨rfl,hb3⟩;have hX3:=za hX2 hz2 hb3;have hz3:w.heap.size<w3.heap.size:=by have:=hb3.size;omega
   have hB3:Below w.heap.size w w3:=hB2.trans (hb3.mono (by omega));clear hb3 hX2 hz2 hB2;go_wp2_with fail
   refine(jV _ _ _ _ _ (hss.mono hB3) HK.out).mono ?_;rintro e w5⟨ix,hix,rfl,_,rfl⟩;have hix0:(0:Int)<=(ix:Int):=by omega
   go_wp2_with fail
   refine(zbz _ _ _ _ h1 h3).mono ?_;rintro e w6⟨rfl,rfl⟩;go_wp2_with fail
   go_ret;exact⟨ze (by rw[HR.out,HSn.out,HD.out];simp),hB3⟩
  ·have H13:=hid h13
   clear h13;go_enter Tryz.func178,Tryz.ntmps178;go_wp2_with fail
   refine(zf HNm.out (zk _ _ hnm)).mono ?_;rintro e w1⟨rfl,rfl⟩;go_wp2_with fail
   refine(zf HBare.out (zaK _ _ _ _ _ _ _ _ _ _ _ _ _)).mono ?_;rintro e w2⟨rfl,hb2⟩;have hX2:=za (zl w _ _) (by simp) hb2;have hz2:w.heap.size<w2.heap.size:=by have:=hb2.size;simp at this;omega
   have hB2:Below w.heap.size w w2:=(bAl _ _).trans (hb2.mono (by simp));clear hb2;go_wp2_with fail
   refine(zf HFit.out (yU _ _ _ _ _ _ _ _ _ _ _ _ _ _ _ hdf (hws.mono hB2))).mono ?_;rintro e w3⟨rfl,hb3⟩;have hX3:=za hX2 hz2 hb3;have hz3:w.heap.size<w3.heap.size:=by have:=hb3.size;omega
   have hB3:Below w.heap.size w w3:=hB2.trans (hb3.mono (by omega));clear hb3 hX2 hz2 hB2;go_wp2_with fail
   refine(jV _ _ _ _ _ (hss.mono hB3) HK.out).mono ?_;rintro e w5⟨ix,hix,rfl,_,rfl⟩;have hix0:(0:Int)<=(ix:Int):=by omega
   go_wp2_with fail
   refine(zc7 _ _ _ _ H13.out).mono ?_;rintro e w6⟨rfl,rfl⟩;go_wp2_with fail
   go_ret;exact⟨ze (by rw[HR.out,HSn.out,HD.out];simp),hB3⟩
theorem zjT {p:Prop}(h:p):Hid p:=h
theorem qX (w:World)(X Y:Array Value)(s t:TypeId):(∀j,((w.alloc (.cells X s)).alloc (.cells Y t)).cell? ⟨w.heap.size,j,none⟩=X[j]?)/\∀j,((w.alloc (.cells X s)).alloc (.cells Y t)).cell? ⟨w.heap.size+1,j,none⟩=Y[j]?:=by
 refine⟨za (zl w X s) (by simp) (bAl _ _),fun j=>?_⟩;have h:=zl (w.alloc (.cells X s)) Y t j;rw[World.size_alloc]at h;exact h
theorem zkL (l:Lw)(la lb lc:Option Addr)(lca lcb lcc:Nat)(o:Ob)(oa oa':Option Addr)(ocap ocap':Nat)(res:ByteArray)(w:World)(hl:jr w l la lb lc)(_ho:jP w o oa oa')(hc:¬(zB l.ss o=true/\res.toList.isEmpty=false)) :
 Calls Tryz.prog 227 #[.agg (l.cells la lb lc lca lcb lcc),.agg #[.string o.kd,.string o.nm,.string o.tm,.slice oa o.vs.length ocap,.bool o.en,.slice oa' o.hs.length ocap',.int .i64 o.vr],.string res] w fun e w'=>e=.returned (.int .i64 (qQ l.ss o res))/\Below w.heap.size w w':=by
 have HL:=hid hl;have HW:Hid (qQ l.ss o res=0):=by unfold Hid qQ;rw[if_neg hc]
 have HC:=hid hc;clear hl hc;unfold Lw.cells;go_enter Tryz.func227,Tryz.ntmps227;go_wp2_with fail
 refine(qI _ _ l.ss o.kd _ (HL.out.ss.mono (zw _ _ _))).mono ?_;rintro e w1⟨fa,fcap,rfl,hfl,hb⟩;obtain⟨hX0,hY0⟩:=qX w #[.slice la l.ss.length lca,.slice lb l.ms.length lcb,.slice lc l.ts.length lcc] (oC o oa oa' ocap ocap') 47 117;have hX1:=za hX0 (by simp;omega) hb;have hY1:=za hY0 (by simp) hb;have hz1:w.heap.size+1<w1.heap.size:=by have:=hb.size;simp at this;omega
 have HB1:Hid (Below w.heap.size w w1):=(zw w _ _).trans (hb.mono (by simp;omega));clear hfl hb hX0 hY0
 by_cases hk:zJ l.ss o.kd=true
 rotate_left
 ·have hk':zJ l.ss o.kd=false:=by simpa using hk
  rw[hk'];clear hk hk';go_wp2_with fail
  go_ret;exact⟨zo HW.out.symm,HB1.out.alloc HB1.out.size _⟩
 by_cases he:res.toList.isEmpty=true
 ·have HK:=hid hk
  rw[HK.out];clear hk;go_wp2_with fail
  go_ret;exact⟨zo HW.out.symm,HB1.out.alloc HB1.out.size _⟩
 ·have he':res.toList.isEmpty=false:=by simpa using he
  have hne:((o.vs.length:Int) != ((shapeOf l.ss o.kd).fs.length:Int))=true:=by
   have h:=HC.out;unfold zB at h;rw[hk]at h;simp only[Bool.true_and,decide_eq_true_eq]at h;have h2:¬o.vs.length=(shapeOf l.ss o.kd).fs.length:=fun e=>h ⟨e,he'⟩
   simp;omega
  have HK:=hid hk;rw[HK.out];clear he hk;go_wp2_with fail
  go_ret;exact⟨zo HW.out.symm,HB1.out.alloc HB1.out.size _⟩
theorem zka (l:Lw)(la lb lc:Option Addr)(lca lcb lcc:Nat)(o:Ob)(oa oa':Option Addr)(ocap ocap':Nat)(res:ByteArray)(w:World)(hl:jr w l la lb lc)(ho:jP w o oa oa')(hc:zB l.ss o=true)(he:res.toList.isEmpty=false)(hlen:o.vs.length<=1048576) :
 Calls Tryz.prog 227 #[.agg (l.cells la lb lc lca lcb lcc),.agg #[.string o.kd,.string o.nm,.string o.tm,.slice oa o.vs.length ocap,.bool o.en,.slice oa' o.hs.length ocap',.int .i64 o.vr],.string res] w fun e w'=>e=.returned (.int .i64 (qQ l.ss o res))/\Below w.heap.size w w':=by
 have HL:=hid hl;have HO:=hid ho;have HW:Hid (qQ l.ss o res=(if res=o.kd then 1 else 0)+zd6 (shapeOf l.ss o.kd).fs o.vs res (shapeOf l.ss o.kd).fs.length):=by unfold Hid qQ;rw[if_pos ⟨hc,he⟩]
 have HK:Hid (zJ l.ss o.kd=true/\o.vs.length=(shapeOf l.ss o.kd).fs.length):=by unfold zB at hc;unfold Hid;simpa using hc
 have HN:=hid hlen;clear hl ho hc hlen;unfold Lw.cells;go_enter Tryz.func227,Tryz.ntmps227;go_wp2_with fail
 refine(qI _ _ l.ss o.kd _ (HL.out.ss.mono (zw _ _ _))).mono ?_;rintro e w1⟨fa,fcap,rfl,hfl,hb⟩;obtain⟨hX0,hY0⟩:=qX w #[.slice la l.ss.length lca,.slice lb l.ms.length lcb,.slice lc l.ts.length lcc] (oC o oa oa' ocap ocap') 47 117;have hY1:=za hY0 (by simp) hb;have hz1:w.heap.size+1<w1.heap.size:=by have:=hb.size;simp at this;omega
 have HB1:Hid (Below w.heap.size w w1):=(zw w _ _).trans (hb.mono (by simp;omega));have HFl:=hid (hfl.mono hb);clear hfl hb hX0 hY0;rw[HK.out.1];obtain⟨S,HS⟩:∃S,Hid (S=shapeOf l.ss o.kd):=⟨_,rfl⟩
 rw[<- HS.out]at HFl HK HW ⊢;have hne:((o.vs.length:Int) != (S.fs.length:Int))=false:=by have:=HK.out.2;simp[this]
 obtain⟨n0,hn0⟩:∃n0:Int,n0=if res=o.kd then 1 else 0:=⟨_,rfl⟩
 have hb0:0<=n0/\n0<=1:=by rw[hn0];split <;> omega
 rw[<- hn0]at HW;have HN0:=hid hn0;clear hn0
 by_cases hk:res=o.kd
 all_goals (
  first
  | (have hq:(res.toList == o.kd.toList)=true:=by rw[beq_toList];simpa using hk)
  | (have hq:(res.toList == o.kd.toList)=false:=by rw[beq_toList];simpa using hk)
  have HKE:=zjT hk;clear hk;go_wp2_with fail
  go_loopw [9,44] (fun nv iv wr=>∃(k:Nat) (s:Int),k<=S.fs.length/\iv=.int .i64 k/\nv=.int .i64 s/\Hid (s=n0+zd6 S.fs o.vs res k/\Below w1.heap.size w1 wr)) (fun _ iv _=>S.fs.length-(intOf iv).toNat)
  case atStart=>exact⟨0,n0,Nat.zero_le _,rfl,by have:=HN0.out;first|(rw[if_pos HKE.out]at this;rw[this])|(rw[if_neg HKE.out]at this;rw[this]),by simp[zd6],bAl _ _⟩
  case round=>
   obtain⟨k,s,hk,rfl,rfl,HQ⟩:=hrel;have hsb:0<=s/\s<=1+k*10000000:=by have h1:=HQ.out.1;have h2:=zcI S.fs o.vs res k;omega
   have hkn:k<=1048576:=by have:=HN.out;have:=HK.out.2;omega
   by_cases hlt:k<S.fs.length
   ·obtain⟨b,off,rfl,hb,hr⟩:=HFl.out.rows (by intro e;rw[e]at hlt;simp at hlt)
    obtain⟨wa,wcap,hf⟩:=hr k hlt;obtain⟨c0,c1,c2,c3,c4,c5,c6,c7,c8,c9,c10⟩:=(hf.mono hb HQ.out.2).load;have hlv:k<o.vs.length:=by have:=HK.out.2;omega
    have hltI:(k:Int)<(S.fs.length:Int):=by omega
    have hlvI:(k:Int)<(o.vs.length:Int):=by omega
    obtain⟨vb,voff,rfl,hvb,hvc0⟩:=HO.out.vals.cells (by intro e;rw[e]at hlv;simp at hlv);have hvc:=((HB1.out.trans (HQ.out.2.mono HB1.out.size)).cell (p:=⟨vb,voff+k,none⟩) hvb).trans (hvc0 k hlv);have hvb':=nLt hvb (HB1.out.trans (HQ.out.2.mono HB1.out.size)).size;have hb':=nLt hb HQ.out.2.size;have hY:=za hY1 hz1 HQ.out.2;have hz:=nLt hz1 HQ.out.2.size;have HSt:=zo9 S.fs o.vs res k hlt hlv;have HSt:Hid (zd6 S.fs o.vs res (k+1)=zd6 S.fs o.vs res k+yK S.fs[k] o.vs[k] res):=HSt;have HVs:Hid (o.vs[k].size<=maxLen):=HO.out.vals.small _ (List.getElem_mem _);have HBo:Hid (∀ob,Below w1.heap.size w1 (wr.alloc ob)):=fun ob=>HQ.out.2.alloc HQ.out.2.size _
    clear hf hr hvc0
    by_cases h1:S.fs[k].kd=1
    ·have e1:(S.fs[k].kd == 1)=true:=by simpa using h1
     by_cases h2:S.fs[k].wg=res
     ·have e2:(S.fs[k].wg.toList == res.toList)=true:=by rw[beq_toList];simpa using h2
      have HFw:Hid (yK S.fs[k] o.vs[k] res=zay o.vs[k]):=by unfold Hid yK;rw[if_pos ⟨h1,h2⟩]
      have hdb:=zdU o.vs[k];clear h1 h2;go_wp2_with fail
      refine(zdr o.vs[k] _ HVs.out).mono ?_;rintro e w2⟨rfl,rfl⟩;go_wp2_with fail
      exact⟨⟨k+1,s+zay o.vs[k],by omega,by go_num,by go_num,by rw[HSt.out,HFw.out,HQ.out.1];omega,HBo.out _⟩,zq hlt⟩
     ·have e2:(S.fs[k].wg.toList == res.toList)=false:=by rw[beq_toList];simpa using h2
      have HFw:Hid (yK S.fs[k] o.vs[k] res=0):=by unfold Hid yK;rw[if_neg (fun h=>h2 h.2)]
      clear h1 h2;go_wp2_with fail
      exact⟨⟨k+1,s,by omega,by go_num,rfl,by rw[HSt.out,HFw.out,HQ.out.1];omega,HBo.out _⟩,zq hlt⟩
    ·have e1:(S.fs[k].kd == 1)=false:=by simpa using h1
     have HFw:Hid (yK S.fs[k] o.vs[k] res=0):=by unfold Hid yK;rw[if_neg (fun h=>h1 h.1)]
     clear h1;go_wp2_with fail
     exact⟨⟨k+1,s,by omega,by go_num,rfl,by rw[HSt.out,HFw.out,HQ.out.1];omega,HBo.out _⟩,zq hlt⟩
   ·have e:k=S.fs.length:=by omega
    subst e;have HE:Hid (qQ l.ss o res=s):=by unfold Hid;rw[HW.out,HQ.out.1]
    clear hlt hk;go_wp2_with fail
    go_ret;exact⟨zo HE.out.symm,HB1.out.trans (HQ.out.2.mono HB1.out.size)⟩)
theorem zo4 {w w':World}{g:Nat}{ws:List ByteArray}(h:zF w (some ⟨g,0,none⟩) ws)(hl:Below w.heap.size w w')(i:Nat)(hi:i<ws.length):g<w.heap.size/\w'.cell? ⟨g,i,none⟩=some (.string ws[i]):=by
 obtain⟨b,off,e,hb,hr⟩:=h.cells (by rintro rfl;simp at hi);simp only[Option.some.injEq,Addr.mk.injEq]at e;obtain⟨rfl,rfl,_⟩:=e;refine⟨hb,?_⟩
 have:=hr i hi
 rw[Nat.zero_add]at this;exact(hl.cell (p:=⟨g,i,none⟩) hb).trans this
theorem zpe {w w':World}{a:Option Addr}{fs:List Fld}(h:yc w a fs)(hl:Below w.heap.size w w')(i:Nat)(hi:i<fs.length):∃b off fw fc,a=some ⟨b,off,none⟩/\b<w.heap.size/\zeB w' b (off+i*11) fs[i] fw fc:=by
 obtain⟨b,off,ha,hb,hr⟩:=(h.mono hl).rows (by rintro rfl;simp at hi);obtain⟨b',off',ha',hb',_⟩:=h.rows (by rintro rfl;simp at hi);have e:=ha.symm.trans ha';simp only[Option.some.injEq,Addr.mk.injEq]at e;obtain⟨rfl,rfl,_⟩:=e;obtain⟨fw,fc,hf⟩:=hr i hi;exact⟨b,off,fw,fc,ha,hb',hf⟩
end Go.Proofs.YtkficnallnpjnaaGreat
