import Derived.Test.YtjnpjkigofldlaaGreatM10
set_option maxHeartbeats 1600000
namespace Go.Proofs.YtjnpjkigofldlaaGreat
open Go.RowKit
theorem zbv (ls ms lo hi:Int)(w:World) :
 Calls Tryz.prog 190 #[.i ls,.i ms,.i lo,.i hi] w fun e w'=>e=.returned (.bool (jO ls ms lo hi))/\w'=w:=by
 go_in
 go_wp2
 all_goals
  go_ret;refine⟨ze ?_,rfl⟩;rw[Bool.eq_iff_iff];simp[jO];try omega
theorem zkN (nm:BA)(kd ls ms:Int)(a:OA)(n cap:Nat)(to:BA)(rl:Int)(mu fx:Bool)(df wg:BA)(w:World) :
 Calls Tryz.prog 271 #[.agg #[.s nm,.i kd,.i ls,.i ms,.l a n cap,.s to,.i rl,.bool mu,.bool fx,.s df,.s wg]] w fun e w'=>e=.returned (.bool (jq 1 ls ms n to rl wg))/\Bw w w':=by
 go_in
 go_wp2
 all_goals
  go_ret;refine⟨ze ?_,bAl _ _⟩
  simp_all [jq]
  try (rw[Bool.eq_iff_iff];simp)
theorem zoi (nm:BA)(kd ls ms:Int)(a:OA)(n cap:Nat)(to:BA)(rl:Int)(mu fx:Bool)(df wg:BA)(w:World) :
 Calls Tryz.prog 274 #[.agg #[.s nm,.i kd,.i ls,.i ms,.l a n cap,.s to,.i rl,.bool mu,.bool fx,.s df,.s wg]] w fun e w'=>e=.returned (.bool (jq 2 ls ms n to rl wg))/\Bw w w':=by
 go_in
 go_wp2
 all_goals
  go_ret;refine⟨ze ?_,bAl _ _⟩
  simp_all [jq]
  try (rw[Bool.eq_iff_iff];simp)
theorem znU (nm:BA)(kd ls ms:Int)(a:OA)(n cap:Nat)(to:BA)(rl:Int)(mu fx:Bool)(df wg:BA)(w:World) :
 Calls Tryz.prog 279 #[.agg #[.s nm,.i kd,.i ls,.i ms,.l a n cap,.s to,.i rl,.bool mu,.bool fx,.s df,.s wg]] w fun e w'=>e=.returned (.bool (jq 3 ls ms n to rl wg))/\Bw w w':=by
 go_in
 go_wp2
 all_goals
  go_ret;refine⟨ze ?_,bAl _ _⟩
  simp_all [jq]
  try (rw[Bool.eq_iff_iff];simp)
theorem zov (nm:BA)(kd ls ms:Int)(a:OA)(n cap:Nat)(to:BA)(rl:Int)(mu fx:Bool)(df wg:BA)(w:World) :
 Calls Tryz.prog 282 #[.agg #[.s nm,.i kd,.i ls,.i ms,.l a n cap,.s to,.i rl,.bool mu,.bool fx,.s df,.s wg]] w fun e w'=>e=.returned (.bool (jq 4 ls ms n to rl wg))/\Bw w w':=by
 go_in
 go_wp2
 all_goals
  go_ret;refine⟨ze ?_,bAl _ _⟩
  simp_all [jq]
  try (rw[Bool.eq_iff_iff];simp)
theorem zjo (nm:BA)(ls ms:Int)(a:OA)(cap:Nat)(ws:List BA)(to:BA)(rl:Int)(mu fx:Bool)(df wg:BA)(a0:OA)(cap0:Nat)(ss:List Shp)(w:World)(hwg:wg.size<=maxLen) :
 Calls Tryz.prog 273 #[.agg #[.s nm,.i 1,.i ls,.i ms,.l a ws.length cap,.s to,.i rl,.bool mu,.bool fx,.s df,.s wg],.l a0 ss.length cap0] w fun e w'=>e=.returned (.bool (qE ss ⟨nm,1,ls,ms,ws,to,rl,mu,fx,df,wg⟩))/\Bw w w':=by
 have HF:Hid (qE ss ⟨nm,1,ls,ms,ws,to,rl,mu,fx,df,wg⟩=(jO ls ms 0 1000000&&(wg.toList.isEmpty||zC wg))):=by simp[qE,Hid]
 by_cases hr:jO ls ms 0 1000000=true
 ·by_cases he:wg.toList.isEmpty=true
  ·go_in
   go_wp2_with (go_at_call 190;refine(zbv _ _ _ _ _).mono ?_;rintro e w'⟨rfl,rfl⟩)
   go_ret;exact⟨ze (by rw[HF.o,hr,he];rfl),bAl _ _⟩
  ·have he':wg.toList.isEmpty=false:=by simpa using he
   clear he;go_in
   go_wp2_with (first|(go_at_call 190;refine(zbv _ _ _ _ _).mono ?_;rintro e w'⟨rfl,rfl⟩)|(go_at_call 175;refine(zZ _ _ hwg).mono ?_;rintro e w'⟨rfl,rfl⟩))
   go_ret;exact⟨ze (by rw[HF.o,hr,he'];rfl),bAl _ _⟩
 ·have hr':jO ls ms 0 1000000=false:=by simpa using hr
  clear hr;go_in
  go_wp2_with (go_at_call 190;refine(zbv _ _ _ _ _).mono ?_;rintro e w'⟨rfl,rfl⟩)
  go_ret;exact⟨ze (by rw[HF.o,hr'];rfl),bAl _ _⟩
theorem zme (nm:BA)(ls ms:Int)(a:OA)(cap:Nat)(ws:List BA)(to:BA)(rl:Int)(mu fx:Bool)(df wg:BA)(a0:OA)(cap0:Nat)(ss:List Shp)(w:World) :
 Calls Tryz.prog 281 #[.agg #[.s nm,.i 3,.i ls,.i ms,.l a ws.length cap,.s to,.i rl,.bool mu,.bool fx,.s df,.s wg],.l a0 ss.length cap0] w fun e w'=>e=.returned (.bool (qE ss ⟨nm,3,ls,ms,ws,to,rl,mu,fx,df,wg⟩))/\Bw w w':=by
 have HF:Hid (qE ss ⟨nm,3,ls,ms,ws,to,rl,mu,fx,df,wg⟩=jO ls ms 1 40):=by simp[qE,Hid]
 go_in
 go_wp2_with (go_at_call 190;refine(zbv _ _ _ _ _).mono ?_;rintro e w'⟨rfl,rfl⟩)
 go_ret;exact⟨ze HF.o.symm,bAl _ _⟩
theorem zlX (nm:BA)(ls ms:Int)(a:OA)(cap:Nat)(ws:List BA)(to:BA)(rl:Int)(mu fx:Bool)(df wg:BA)(a0:OA)(cap0:Nat)(ss:List Shp)(w:World)(hw:zD w a ws) :
 Calls Tryz.prog 276 #[.agg #[.s nm,.i 2,.i ls,.i ms,.l a ws.length cap,.s to,.i rl,.bool mu,.bool fx,.s df,.s wg],.l a0 ss.length cap0] w fun e w'=>e=.returned (.bool (qE ss ⟨nm,2,ls,ms,ws,to,rl,mu,fx,df,wg⟩))/\Bw w w':=by
 have HF:Hid (qE ss ⟨nm,2,ls,ms,ws,to,rl,mu,fx,df,wg⟩=(decide (1<=ws.length)&&decide (ws.length<=6)&&asc ws)):=by simp[qE,Hid]
 have hl:=hw.len;unfold maxLen at hl
 by_cases h1:0<ws.length
 ·by_cases h6:ws.length<=6
  ·go_in
   go_wp2_with (go_at_call 250;refine(zlH _ _ _ _ (by exact hw.mono (bAl _ _))).mono ?_;rintro e w'⟨rfl,rfl⟩)
   go_ret;exact⟨ze (by rw[HF.o,decide_eq_true (show 1<=ws.length by omega),decide_eq_true h6];rfl),bAl _ _⟩
  ·go_in
   go_wp2
   go_ret;exact⟨ze (by rw[HF.o,decide_eq_true (show 1<=ws.length by omega),decide_eq_false (show ¬ws.length<=6 by omega)];rfl),bAl _ _⟩
 ·go_in
  go_wp2
  go_ret;exact⟨ze (by rw[HF.o,decide_eq_false (show ¬1<=ws.length by omega)];rfl),bAl _ _⟩
theorem zl9 (nm:BA)(ls ms:Int)(a:OA)(cap:Nat)(ws:List BA)(to:BA)(rl:Int)(mu fx:Bool)(df wg:BA)(a0:OA)(cap0:Nat)(ss:List Shp)(w:World)(hw:yU w a0 ss) :
 Calls Tryz.prog 284 #[.agg #[.s nm,.i 4,.i ls,.i ms,.l a ws.length cap,.s to,.i rl,.bool mu,.bool fx,.s df,.s wg],.l a0 ss.length cap0] w fun e w'=>e=.returned (.bool (qE ss ⟨nm,4,ls,ms,ws,to,rl,mu,fx,df,wg⟩))/\Bw w w':=by
 have HF:Hid (qE ss ⟨nm,4,ls,ms,ws,to,rl,mu,fx,df,wg⟩=(zF ss to&&(decide (1<=rl)&&decide (rl<=3))&&df.toList.isEmpty&&(decide (rl≠2)||!mu))):=by simp[qE,Hid]
 by_cases hk:zF ss to=true
 rotate_left
 ·have hk':zF ss to=false:=by simpa using hk
  have HK:Hid (zF ss to=false):=hk';clear hk hk';go_in;go_wp2_with fail
  refine(qV _ _ _ _ _ (hw.mono (bAl _ _))).mono ?_;rintro e w1⟨fa,fcap,rfl,_,hb1⟩;rw[HK.o];have hX1:=za (zI w _ _) (by simp) hb1;have hz1:w.heap.size<w1.heap.size:=by have:=hb1.size;simp at this;omega
  have hB1:Bw w w1:=(bAl _ _).trans (hb1.mono (by simp));clear hb1 hw;go_wp2
  go_ret;exact⟨ze (by rw[HF.o,HK.o];rfl),hB1.alloc (by omega) _⟩
 have HK:Hid (zF ss to=true):=hk;clear hk
 by_cases hd:df.toList.isEmpty=true
 rotate_left
 ·have hd':df.toList.isEmpty=false:=by simpa using hd
  clear hd;go_in;go_wp2_with fail
  refine(qV _ _ _ _ _ (hw.mono (bAl _ _))).mono ?_;rintro e w1⟨fa,fcap,rfl,_,hb1⟩;rw[HK.o];have hX1:=za (zI w _ _) (by simp) hb1;have hz1:w.heap.size<w1.heap.size:=by have:=hb1.size;simp at this;omega
  have hB1:Bw w w1:=(bAl _ _).trans (hb1.mono (by simp));clear hb1 hw;go_wp2
  go_ret;exact⟨ze (by rw[HF.o,HK.o,hd'];simp),hB1.alloc (by omega) _⟩
 by_cases h1:rl=1
 ·subst h1
  go_in;go_wp2_with fail
  refine(qV _ _ _ _ _ (hw.mono (bAl _ _))).mono ?_;rintro e w1⟨fa,fcap,rfl,_,hb1⟩;rw[HK.o];have hX1:=za (zI w _ _) (by simp) hb1;have hz1:w.heap.size<w1.heap.size:=by have:=hb1.size;simp at this;omega
  have hB1:Bw w w1:=(bAl _ _).trans (hb1.mono (by simp));clear hb1 hw;go_wp2
  go_ret;exact⟨ze (by rw[HF.o,HK.o,hd];rfl),hB1.alloc (by omega) _⟩
 by_cases h3:rl=3
 ·subst h3
  go_in;go_wp2_with fail
  refine(qV _ _ _ _ _ (hw.mono (bAl _ _))).mono ?_;rintro e w1⟨fa,fcap,rfl,_,hb1⟩;rw[HK.o];have hX1:=za (zI w _ _) (by simp) hb1;have hz1:w.heap.size<w1.heap.size:=by have:=hb1.size;simp at this;omega
  have hB1:Bw w w1:=(bAl _ _).trans (hb1.mono (by simp));clear hb1 hw;go_wp2
  go_ret;exact⟨ze (by rw[HF.o,HK.o,hd];rfl),hB1.alloc (by omega) _⟩
 by_cases h2:rl=2
 ·subst h2
  clear h1 h3;go_in;go_wp2_with fail
  refine(qV _ _ _ _ _ (hw.mono (bAl _ _))).mono ?_;rintro e w1⟨fa,fcap,rfl,_,hb1⟩;rw[HK.o];have hX1:=za (zI w _ _) (by simp) hb1;have hz1:w.heap.size<w1.heap.size:=by have:=hb1.size;simp at this;omega
  have hB1:Bw w w1:=(bAl _ _).trans (hb1.mono (by simp));clear hb1 hw;go_wp2
  go_ret;exact⟨ze (by rw[HF.o,HK.o,hd];rfl),hB1.alloc (by omega) _⟩
 ·have HR:Hid ((decide (1<=rl)&&decide (rl<=3))=false):=by unfold Hid;rw[Bool.eq_false_iff];simp;omega
  have e1:(rl == 1)=false:=by simpa using h1
  have e2:(rl == 2)=false:=by simpa using h2
  have e3:(rl == 3)=false:=by simpa using h3
  clear h1 h2 h3;go_in;go_wp2_with fail
  refine(qV _ _ _ _ _ (hw.mono (bAl _ _))).mono ?_;rintro e w1⟨fa,fcap,rfl,_,hb1⟩;rw[HK.o];have hX1:=za (zI w _ _) (by simp) hb1;have hz1:w.heap.size<w1.heap.size:=by have:=hb1.size;simp at this;omega
  have hB1:Bw w w1:=(bAl _ _).trans (hb1.mono (by simp));clear hb1 hw;go_wp2
  go_ret;exact⟨ze (by rw[HF.o,HK.o,HR.o];simp),hB1.alloc (by omega) _⟩
theorem zlI (nm:BA)(kd ls ms:Int)(sl:Value)(to:BA)(rl:Int)(mu fx:Bool)(df wg:BA)(v:BA)(bn:Nat)(w:World)(hb:bn<w.heap.size)(hn:w.cell? (aD bn 0)=some (.s v)) :
 Calls Tryz.prog 236 #[.agg #[.s nm,.i kd,.i ls,.i ms,sl,.s to,.i rl,.bool mu,.bool fx,.s df,.s wg],.pointer (some (aD bn 0))] w fun e w'=>e=.returned (.bool (nm.toList == v.toList))/\Bw w w':=by
 go_in
 go_wp2
 go_ret;exact⟨rfl,bAl _ _⟩
theorem zlS (a:OA)(cap:Nat)(fs:List Fld)(v:BA)(bn:Nat)(w:World)(hw:yw w a fs)(hbn:bn<w.heap.size)(hn:w.cell? (aD bn 0)=some (.s v)) :
 Calls Tryz.prog 235 #[.l a fs.length cap,.func (.func 236) #[] #[.pointer (some (aD bn 0))]] w fun e w'=>e=.returned (.i (yh fs v))/\Bw w w':=by
 have hl:=hw.len;unfold maxLen at hl;go_in
 go_wp2
 go_loopw [8] (fun i wr=>∃k:Nat,k<=fs.length/\i=.i k/\hasName (fs.take k) v=false/\Bw w wr) (fun i _=>fs.length-(intOf i).toNat)
 case atStart=>exact⟨0,Nat.zero_le _,rfl,rfl,bRf _ _⟩
 case round=>
  obtain⟨k,hk,rfl,hno,hB⟩:=hrel
  by_cases hlt:k<fs.length
  ·obtain⟨b,off,rfl,hb,hr⟩:=hw.rows (by rintro rfl;simp at hlt)
   obtain⟨wa,wcap,hf⟩:=hr k hlt;obtain⟨c0,c1,c2,c3,c4,c5,c6,c7,c8,c9,c10⟩:=(hf.mono hb hB).load;have hn1:=(hB.cell (p:=(aD bn 0)) hbn).trans hn;have hbn1:bn<wr.heap.size:=nLt hbn hB.size;clear hw hr hf hn
   by_cases he:fs[k].nm=v
   ·have HA:Hid (yh fs v=k):=zeO fs v k hlt hno he
    have HE:Hid ((fs[k].nm.toList == v.toList)=true):=by unfold Hid;rw[beq_toList];simpa using he
    clear he hno;go_wp2_with fail
    refine(zw HE.o (zlI _ _ _ _ _ _ _ _ _ _ _ _ _ _ hbn1 hn1)).mono ?_;rintro e w2⟨rfl,hb2⟩;go_wp2
    go_ret;exact⟨zm HA.o.symm,hB.trans (hb2.mono hB.size)⟩
   ·have HS:Hid (hasName (fs.take (k+1)) v=false):=by unfold Hid;rw[zeM fs v k hlt,hno,decide_eq_false he];rfl
    have HE:Hid ((fs[k].nm.toList == v.toList)=false):=by unfold Hid;rw[beq_toList];simpa using he
    clear he hno;go_wp2_with fail
    refine(zw HE.o (zlI _ _ _ _ _ _ _ _ _ _ _ _ _ _ hbn1 hn1)).mono ?_;rintro e w2⟨rfl,hb2⟩;go_wp2
    exact⟨⟨k+1,by omega,by go_num,HS.o,hB.trans (hb2.mono hB.size)⟩,by simp[intOf];omega⟩
  ·have HA:Hid (yh fs v=-1):=zhr fs v (by rw[<- zi5 fs v k (by omega)];exact hno)
   clear hno hw
   go_wp2
   go_ret;exact⟨zm HA.o.symm,hB⟩
theorem jd (a:OA)(cap:Nat)(fs:List Fld)(v:BA)(w:World)(hw:yw w a fs) :
 Calls Tryz.prog 216 #[.l a fs.length cap,.s v] w fun e w'=>e=.returned (.i (yh fs v))/\Bw w w':=by
 go_in;go_wp2_with fail
 refine(zlS _ _ _ v _ _ (hw.mono (bAl _ _)) (by simp) (by rw[World.cell?_alloc_at _ _ _ _ rfl];rfl)).mono ?_;rintro e w2⟨rfl,hb2⟩;go_wp2
 go_ret;exact⟨rfl,(bAl _ _).trans (hb2.mono (by simp))⟩
theorem zeL (nm:BA)(kd ls ms:Int)(a:OA)(cap:Nat)(ws:List BA)(to:BA)(rl:Int)(mu fx:Bool)(df wg:BA)(v:BA)(w:World)(hv:v.size<=maxLen)(hws:zD w a ws) :
 Calls Tryz.prog 161 #[.agg #[.s nm,.i kd,.i ls,.i ms,.l a ws.length cap,.s to,.i rl,.bool mu,.bool fx,.s df,.s wg],.s v] w
  fun e w'=>e=.returned (.bool (fits kd ls ms ws v))/\Bw w w':=by
 have hAl:=(bRf w.heap.size w).alloc (Nat.le_refl _);have HWS:=hid hws;clear hws
 by_cases h1:kd=1
 ·subst h1
  rw[ztG]
  cases hd:zaC v with
  | true=>
   have HE:Hid (qU v=zg5 v):=by unfold qU Hid;rw[hd];rfl
   have HF:Hid (zaK ls ms v=(decide (ls<=qU v)&&decide (qU v<=ms))):=by rw[HE.o];exact zpu _ _ _ hd
   have h0:0<=qU v:=by rw[HE.o];exact zdm v hd
   go_in
   go_wp2_with (first
    | (go_at_call 167;refine(zeP _ _ hv).mono ?_;rintro e w'⟨rfl,rfl⟩)
    | (go_at_call 63;refine(zah _ _ _ _).mono ?_;rintro e w'⟨rfl,rfl⟩))
   go_ret;exact⟨ze HF.o.symm,hAl _⟩
  | false=>
   have HF:Hid (zaK ls ms v=false):=zlr _ _ _ hd;have h0:qU v<0:=by unfold qU;rw[hd];simp
   go_in
   go_wp2_with (go_at_call 167;refine(zeP _ _ hv).mono ?_;rintro e w'⟨rfl,rfl⟩)
   go_ret;exact⟨ze HF.o.symm,hAl _⟩
 by_cases h2:kd=2
 ·subst h2
  by_cases hz:v.size=0
  ·rw[zat _ _ _ _ _ hz]
   have hne:v.toList.isEmpty=true:=by rw[zu];simp[hz]
   clear hz;go_in;go_wp2
   go_ret;exact⟨rfl,hAl _⟩
  ·rw[zqX _ _ _ _ hz]
   have hne:v.toList.isEmpty=false:=by rw[zu];simp[hz]
   go_in
   go_wp2_with (go_at_call 205;refine(zcR _ _ _ _ _ (by exact HWS.o.mono (hAl _))).mono ?_;rintro e w'⟨rfl,rfl⟩)
   go_ret;exact⟨rfl,hAl _⟩
 by_cases h3:kd=3
 ·subst h3
  unfold maxLen at hv;go_in;go_wp2
  go_loop [6] (fun i=>∃k:Nat,k<=v.size/\i=.i k/\(v.data.toList.take k).all yX=true) (fun i=>v.size-(intOf i).toNat)
  case atStart=>exact⟨0,Nat.zero_le _,rfl,rfl⟩
  case round=>
   obtain⟨k,hk,rfl,hall⟩:=hrel
   by_cases hlt:k<v.size
   ·have HS:Hid ((v.data.toList.take (k+1)).all yX=(true&&yX v[k])):=by rw[zcy _ v k hlt,hall];rfl
    have HN:Hid (yX v[k]=false->fits 3 ls ms ws v=false):=fun h=>zlW ls ms ws v (zeJ yX v k hlt h)
    clear hall
    by_cases h33:33<=(v[k].toNat:Int)/\(v[k].toNat:Int)<=126
    ·have HC:Hid (yX v[k]=true):=by simp[yX,Hid];omega
     obtain⟨ha,hb⟩:=h33
     go_wp2_with (go_at_call 63;refine(zdb _ _ _ _ (by omega) (by omega)).mono ?_;rintro e w'⟨rfl,rfl⟩)
     go_round
     case rel=>exact⟨k+1,by omega,by go_num,by rw[HS.o,HC.o];rfl⟩
     case measure=>simp[intOf];omega
    ·have HC:Hid (yX v[k]=false):=by simp[yX,Hid];omega
     have HD:Hid (¬(33<=(v[k].toNat:Int)/\(v[k].toNat:Int)<=126)):=h33;clear h33;have hby:(v[k].toNat:Int)<256:=by have:=v[k].toNat_lt;omega
     go_wp2_with (go_at_call 63;refine(zfU _ _ _ _ (by have:=HD.o;omega)).mono ?_;rintro e w'⟨rfl,rfl⟩)
     go_ret;exact⟨ze (HN.o HC.o).symm,hAl _⟩
   ·have HA:Hid (zbK v=true):=by unfold zbK Hid;rw[<- zbD v k (by omega)];exact hall
    clear hall
    by_cases hz:v.size=0
    ·have HF:Hid (fits 3 ls ms ws v=false):=zat _ _ _ _ _ hz
     have hne:v.toList.isEmpty=true:=by rw[zu];simp[hz]
     clear hz;go_wp2
     go_ret;exact⟨ze HF.o.symm,hAl _⟩
    ·have HF:Hid (fits 3 ls ms ws v=(decide (ls<=v.size)&&decide ((v.size:Int)<=ms))):=zmh ls ms ws v HA.o hz
     have hne:v.toList.isEmpty=false:=by rw[zu];simp[hz]
     go_wp2_with (go_at_call 63;refine(zah _ _ _ _).mono ?_;rintro e w'⟨rfl,rfl⟩)
     go_ret;exact⟨ze HF.o.symm,hAl _⟩
 have e1:(kd == 1)=false:=by simpa using h1
 have e2:(kd == 2)=false:=by simpa using h2
 have e3:(kd == 3)=false:=by simpa using h3
 by_cases h4:kd=4
 ·subst h4
  rw[zr4];go_in
  go_wp2_with (go_at_call 122;refine(yg _ _ hv).mono ?_;rintro e w'⟨rfl,rfl⟩)
  go_ret;exact⟨rfl,hAl _⟩
 rw[zkB kd ls ms ws v h1 h2 h3 h4];have e4:(kd == 4)=false:=by simpa using h4
 clear h1 h2 h3 h4;go_in;go_wp2
 go_ret;exact⟨rfl,hAl _⟩
end Go.Proofs.YtjnpjkigofldlaaGreat
