import Derived.Test.YtjnpjkigofldlaaGreatM20
import Derived.Test.YtjnpjkigofldlaaGreatM21
import Derived.Deep.Cut
set_option maxRecDepth 20000
set_option maxHeartbeats 4000000
namespace Go.Proofs.YtjnpjkigofldlaaGreat
open Go.RowKit
variable {fs:List Fld}{vs:List BA}{w:World}
theorem zd6 (a:OA)(cap:Nat)(ss:List Shp)(w:World)(hw:yU w a ss) :
 Calls Tryz.prog 170 #[.l a ss.length cap] w fun e w'=>e=.returned (.bool (zQ ss))/\Bw w w':=by
 have hl:=hw.len;unfold maxLen at hl
 by_cases h6:ss.length<=6
 rotate_left
 ·have HF:Hid (zQ ss=false):=by simp[Hid,zQ,h6]
  clear hw;go_in
  go_wp2
  go_ret;exact⟨ze HF.o.symm,bRf _ _⟩
 have HG:Hid (zQ ss=up (yR ss) ss.length):=by simp[Hid,zQ,h6]
 have h6I:(ss.length:Int)<=6:=by omega
 go_in;go_wp2_with fail
 refine(zcY _).mono ?_;rintro e w0⟨rfl,hw0⟩;have hB00:Bw w w0:=by rw[hw0];exact bAl _ _
 have hr0:w0.heap[w.heap.size]?=some (.map jg 4):=by rw[hw0];exact alloc_at _ _
 have hz0:w.heap.size<w0.heap.size:=by rw[hw0];simp
 clear hw0;go_wp2
 go_loopw [12] (fun i wr=>∃k:Nat,k<=ss.length/\i=.i k/\up (yR ss) k=true/\Bw w0 wr) (fun i _=>ss.length-(intOf i).toNat)
 case atStart=>exact⟨0,Nat.zero_le _,rfl,rfl,bRf _ _⟩
 case round=>
  obtain⟨k,hk,rfl,hup,hB⟩:=hrel;have hsz:=hB.size
  by_cases hlt:k<ss.length
  ·obtain⟨b,off,rfl,hb,hrw⟩:=hw.rows (by rintro rfl;simp at hlt)
   have hb0:b<w0.heap.size:=by omega
   have hall:yU wr (some (aD b off)) ss:=(hw.mono hB00).mono hB;obtain⟨fa,fcap,hs⟩:=hrw k hlt;have hs':=(hs.mono hb hB00).mono hb0 hB;have hck:=hs'.kind;have hcl:=hs'.list;have hfl:=hs'.zdE;have hsm:=hs.small;have hra:wr.heap[w.heap.size]?=some (.map jg 4):=(hB.block _ hz0).trans hr0;have HS:Hid (yR ss k=true->up (yR ss) (k+1)=true):=fun h=>by rw[zab,hup,h];rfl
   have HN:Hid (yR ss k=false->zQ ss=false):=fun h=>by rw[HG.o];exact zbL hlt h
   have hltI:(k:Int)<(ss.length:Int):=by omega
   by_cases hn:zC ss[k].kd=true
   rotate_left
   ·have HNm:Hid (zC ss[k].kd=false):=by simpa[Hid] using hn
    have HF:Hid (yR ss k=false):=by
     unfold Hid yR;rw[getD_at ss k _ hlt,HNm.o];rfl
    clear hn hup hw hrw hs hs' hr0 hra;go_wp2_with fail
    go_quiet ((go_at_call 175;exact Calls.quiet_of_same (zw HNm.o (zZ _ _ hsm))))
    go_wp2
    go_ret;exact⟨ze (HN.o HF.o).symm,hB00.trans ((below_drewN (hB.alloc hsz _) _).mono (by omega))⟩
   have HNm:Hid (zC ss[k].kd=true):=hn;clear hn
   by_cases hk0:k=0
   ·have HA:Hid (yR ss k=yS ss ss[k].fs):=by subst hk0;unfold Hid;rw[zgu ss hlt,HNm.o];rfl
    have hg:decide (0<k)=false:=by simp;omega
    clear hup hw hrw hs hs' hr0 hk0
    by_cases hok:yS ss ss[k].fs=true
    ·have HK:Hid (yS ss ss[k].fs=true):=hok
     clear hok;go_wp2_with fail
     go_quiet ((go_at_call 175;exact Calls.quiet_of_same (zw HNm.o (zZ _ _ hsm))))
     go_wp2_with fail
     have hbr2:Bw wr ((wr.alloc (.cells #[.s ss[k].kd,.l fa ss[k].fs.length fcap] 130)).drewN nq):=below_drewN (bAl _ _) _;refine(zw HK.o (zcL _ _ _ _ _ _ _ _ ((hbr2.block _ (by omega)).trans hra) (hall.mono hbr2) (hfl.mono hbr2))).mono ?_;rintro e w3⟨rfl,hb3⟩;have hB3:Bw w0 w3:=(hB.trans (hbr2.mono hsz)).trans (hb3.mono (by simp;omega));clear hb3 hbr2;go_wp2
     exact⟨⟨k+1,by omega,by go_num,HS.o (by rw[HA.o,HK.o]),hB3⟩,by simp[intOf];omega⟩
    ·have HK:Hid (yS ss ss[k].fs=false):=by simpa[Hid] using hok
     clear hok;go_wp2_with fail
     go_quiet ((go_at_call 175;exact Calls.quiet_of_same (zw HNm.o (zZ _ _ hsm))))
     go_wp2_with fail
     have hbr2:Bw wr ((wr.alloc (.cells #[.s ss[k].kd,.l fa ss[k].fs.length fcap] 130)).drewN nq):=below_drewN (bAl _ _) _;refine(zw HK.o (zcL _ _ _ _ _ _ _ _ ((hbr2.block _ (by omega)).trans hra) (hall.mono hbr2) (hfl.mono hbr2))).mono ?_;rintro e w3⟨rfl,hb3⟩;have hB3:Bw w0 w3:=(hB.trans (hbr2.mono hsz)).trans (hb3.mono (by simp;omega));clear hb3 hbr2;go_wp2
     go_ret;exact⟨ze (HN.o (by rw[HA.o,HK.o])).symm,hB00.trans (hB3.mono (by omega))⟩
   ·obtain⟨m,rfl⟩:∃m,k=m+1:=⟨k-1,by omega⟩
    obtain⟨fam,fcapm,hsm0⟩:=hrw m (by omega);have hcm:=((hsm0.mono hb hB00).mono hb0 hB).kind;have HA:Hid (yR ss (m+1)=(less ss[m].kd ss[m+1].kd&&yS ss ss[m+1].fs)):=by unfold Hid;rw[zg8 ss m hlt,HNm.o];rfl
    have hmI:(m:Int)<6:=by omega
    have hm0:(0:Int)<=(m:Int):=by omega
    have hbr:b<wr.heap.size:=by omega
    have hml:(m:Int)<(ss.length:Int):=by omega
    have hmw:IntKind.i64.wrap (m:Int)=m:=by rw[IntKind.wrap_i64];omega
    clear hup hw hrw hs hs' hr0 hk0 hsm0
    by_cases hls:less ss[m].kd ss[m+1].kd=true
    rotate_left
    ·have hls':Op.bytesLess ss[m].kd.toList ss[m+1].kd.toList=false:=by simpa[less] using hls
     have HLS:Hid (less ss[m].kd ss[m+1].kd=false):=hls';clear hls;go_wp2_with fail
     go_quiet ((go_at_call 175;exact Calls.quiet_of_same (zw HNm.o (zZ _ _ hsm))))
     go_wp2
     go_ret;exact⟨ze (HN.o (by rw[HA.o,HLS.o];rfl)).symm,hB00.trans ((below_drewN (hB.alloc hsz _) _).mono (by omega))⟩
    have hls':Op.bytesLess ss[m].kd.toList ss[m+1].kd.toList=true:=hls;have HLS:Hid (less ss[m].kd ss[m+1].kd=true):=hls;clear hls
    by_cases hok:yS ss ss[m+1].fs=true
    ·have HK:Hid (yS ss ss[m+1].fs=true):=hok
     clear hok;go_wp2_with fail
     go_quiet ((go_at_call 175;exact Calls.quiet_of_same (zw HNm.o (zZ _ _ hsm))))
     go_wp2_with fail
     have hbr2:Bw wr ((wr.alloc (.cells #[.s ss[m+1].kd,.l fa ss[m+1].fs.length fcap] 130)).drewN nq):=below_drewN (bAl _ _) _;refine(zw HK.o (zcL _ _ _ _ _ _ _ _ ((hbr2.block _ (by omega)).trans hra) (hall.mono hbr2) (hfl.mono hbr2))).mono ?_;rintro e w3⟨rfl,hb3⟩;have hB3:Bw w0 w3:=(hB.trans (hbr2.mono hsz)).trans (hb3.mono (by simp;omega));clear hb3 hbr2;go_wp2
     exact⟨⟨m+1+1,by omega,by go_num,HS.o (by rw[HA.o,HLS.o,HK.o];rfl),hB3⟩,by simp[intOf];omega⟩
    ·have HK:Hid (yS ss ss[m+1].fs=false):=by simpa[Hid] using hok
     clear hok;go_wp2_with fail
     go_quiet ((go_at_call 175;exact Calls.quiet_of_same (zw HNm.o (zZ _ _ hsm))))
     go_wp2_with fail
     have hbr2:Bw wr ((wr.alloc (.cells #[.s ss[m+1].kd,.l fa ss[m+1].fs.length fcap] 130)).drewN nq):=below_drewN (bAl _ _) _;refine(zw HK.o (zcL _ _ _ _ _ _ _ _ ((hbr2.block _ (by omega)).trans hra) (hall.mono hbr2) (hfl.mono hbr2))).mono ?_;rintro e w3⟨rfl,hb3⟩;have hB3:Bw w0 w3:=(hB.trans (hbr2.mono hsz)).trans (hb3.mono (by simp;omega));clear hb3 hbr2;go_wp2
     go_ret;exact⟨ze (HN.o (by rw[HA.o,HLS.o,HK.o];rfl)).symm,hB00.trans (hB3.mono (by omega))⟩
  ·have HF:Hid (zQ ss=true):=by
    have e:k=ss.length:=by omega
    subst e;rw[HG.o];exact hup
   clear hup hw
   go_wp2
   go_ret;exact⟨ze HF.o.symm,hB00.trans (hB.mono (by omega))⟩
def zax (f:Fld)(v:BA):BA:=if v.toList.isEmpty=true then f.df else v
def zal (fs:List Fld)(vs:List BA):List BA:=List.zipWith zax fs vs
def je (fs:List Fld)(vs:List BA)(k:Nat):List BA:=(zal fs vs).take k++vs.drop k
theorem qL (h:vs.length=fs.length):(zal fs vs).length=vs.length:=by simp[zal];omega
theorem zaF (h:vs.length=fs.length)(k:Nat):(je fs vs k).length=vs.length:=by
 simp[je,qL h];omega
theorem zi4 (fs:List Fld)(vs:List BA):je fs vs 0=vs:=by simp[je]
theorem zkD (h:vs.length=fs.length):je fs vs fs.length=zal fs vs:=by
 unfold je;rw[tOl (by rw[qL h];omega),List.drop_of_length_le (by omega),List.append_nil]
theorem zfT (h:vs.length=fs.length)(k:Nat)(hk:k<fs.length):(je fs vs k)[k]?=vs[k]?:=by
 unfold je;rw[List.getElem?_append_right (by simp;omega)]
 simp[qL h,Nat.min_eq_left (show k<=vs.length by omega)]
theorem zdy (h:vs.length=fs.length)(k:Nat)(hk:k<fs.length):je fs vs (k+1)=(je fs vs k).set k (zax fs[k] (vs[k]'(by omega))):=by
 have hl:=qL h;have hv:(zal fs vs)[k]'(by omega)=zax fs[k] (vs[k]'(by omega)):=by simp[zal]
 unfold je;rw[List.set_append_right _ _ (by simp;omega)];have e:k-((zal fs vs).take k).length=0:=by simp;omega
 rw[e,List.drop_eq_getElem_cons (show k<vs.length by omega),List.set_cons_zero,tSe (by omega),hv]
 simp
theorem zk.set {lo:Nat}{g:Nat}{ws:List BA}(h:zk lo w (some (aD g 0)) ws)(k:Nat)(s:BA):zk lo (w.setCell (aD g k) (.s s)) (some (aD g 0)) (ws.set k s):=by
 rcases h with⟨h0,_⟩|⟨b,C,h0,hg,hh,hc⟩
 ·cases h0
 ·cases h0
  refine Or.inr ⟨g,_,rfl,hg,zh hh _,fun i hi=>?_⟩;have hi':i<ws.length:=by rw[List.length_set]at hi;exact hi
  by_cases e:i=k
  ·subst e
   have hsz:i<C.size:=by
    rcases Nat.lt_or_ge i C.size with h1|h1
    ·exact h1
    ·have:=hc i hi';rw[Array.getElem?_eq_none h1]at this;cases this
   rw[Array.getElem?_setIfInBounds_self_of_lt hsz,List.getElem_set_self]
  ·rw[Array.getElem?_setIfInBounds_ne (fun h=>e h.symm),hc i hi',List.getElem_set_ne (fun h=>e h.symm)]
def zb2 (w:World)(b:Nat)(v0 v1 v2 v3 v4 v5 v6:Value):World:=((((((w.setCell (aD b 0) v0).setCell (aD b 1) v1).setCell (aD b 2) v2).setCell (aD b 3) v3).setCell (aD b 4) v4).setCell (aD b 5) v5).setCell (aD b 6) v6
theorem jF {lo:Nat}{a:OA}{ws:List BA}(h:zk lo w a ws)(b:Nat)(hb:b<lo)(v0 v1 v2 v3 v4 v5 v6:Value):zk lo (zb2 w b v0 v1 v2 v3 v4 v5 v6) a ws:=
 ((((((h.setCell _ hb _).setCell _ hb _).setCell _ hb _).setCell _ hb _).setCell _ hb _).setCell _ hb _).setCell _ hb _
theorem qI {B:Nat}{w0:World}(h:Below B w0 w)(b:Nat)(hb:B<=b)(v0 v1 v2 v3 v4 v5 v6:Value):Below B w0 (zb2 w b v0 v1 v2 v3 v4 v5 v6):=
 ((((((h.setCell (p:=(aD b 0)) hb _).setCell (p:=(aD b 1)) hb _).setCell (p:=(aD b 2)) hb _).setCell (p:=(aD b 3)) hb _).setCell (p:=(aD b 4)) hb _).setCell (p:=(aD b 5)) hb _).setCell (p:=(aD b 6)) hb _
theorem zoh (r:Rl)(a:OA)(cap:Nat)(w:World)(hm:r.Small)(hw:yZ w a r.vs) :
 Calls Tryz.prog 123 #[.agg (r.cells a cap)] w fun e w'=>e=.returned (.bool (zaH r))/\Bw w w':=by
 have hskd:=hm.kd;have hstm:=hm.tm;have hpx:=hm.px;have hvl:=hw.len;unfold maxLen at hpx hvl;unfold Rl.cells;have HI:=hid hw;clear hw hm;go_in
 go_upto_region 1 with fail
 refine jG (fun W=>Bw w W/\w.heap.size<W.heap.size/\∀o,W.cell? (aD w.heap.size o)=(#[.l a r.vs.length cap,.s r.kd,.s r.tm,.s r.px]:AV)[o]?) ⟨bAl _ _,by simp,zI w _ _⟩ ?_;rintro W0⟨h1,hz0,hX0⟩;have HBW:=hid h1;obtain⟨y,hy⟩:=xN (!(decide (0<r.vs.length)&&decide (r.px.size<=16)&&zes r));have HY:=hid hy;clear h1 hy
 go_cut [36] from 5 (fun vx W=>vx=.bool y/\W=W0)
 case first=>
  by_cases hv0:r.vs.length=0
  ·have hvI:((r.vs.length:Int) == 0)=true:=by rw[hv0];rfl
   have HV:=hid hv0;clear hv0;go_wp2
   go_meet
   case rel=>exact⟨by rw[HY.o];simp[HV.o],rfl⟩
  have hvI:((r.vs.length:Int) == 0)=false:=by rw[beq_eq_false_iff_ne];omega
  have HV:Hid (0<r.vs.length):=by unfold Hid;omega
  clear hv0
  by_cases h16:r.px.size<=16
  rotate_left
  ·have h16I:decide (16<(r.px.size:Int))=true:=by simp;omega
   have H16:=hid h16;clear h16;go_wp2
   go_meet
   case rel=>exact⟨by rw[HY.o,decide_eq_false H16.o];simp,rfl⟩
  have h16I:decide (16<(r.px.size:Int))=false:=by simp;omega
  have H16:=hid h16;clear h16
  rcases zg9 r.kd with hk|⟨hk,HK⟩|⟨hk,HK⟩ <;> rcases zg9 r.tm with ht|⟨ht,HT⟩|⟨ht,HT⟩ <;> (go_wp2_with (first|(go_at_call_of 122 (Value.s r.kd);refine(zw HK.o (yg r.kd _ hskd)).mono ?_;rintro e w'⟨rfl,rfl⟩)|(go_at_call_of 122 (Value.s r.tm);refine(zw HT.o (yg r.tm _ hstm)).mono ?_;rintro e w'⟨rfl,rfl⟩));go_meet;case rel=>exact⟨by rw[HY.o,decide_eq_true HV.o,decide_eq_true H16.o];unfold zes;first|(simp[hk,ht];done)|(simp[hk,ht,HK.o];done)|(simp[hk,ht,HT.o];done)|(simp[hk,ht,HK.o,HT.o];done),rfl⟩)
 case rest=>
  obtain⟨rfl,rfl⟩:=hcut
  cases y with
  | true=>
   have HF:Hid (zaH r=false):=by
    have h:=HY.o;unfold Hid zaH zci
    revert h
    cases decide (0<r.vs.length) <;> cases decide (r.px.size<=16) <;> cases zes r <;> simp
   go_wp2
   go_ret;exact⟨ze HF.o.symm,HBW.o⟩
  | false=>
   obtain⟨hv0,h16,hkd⟩:0<r.vs.length/\r.px.size<=16/\zes r=true:=by
    have h:=HY.o.symm;simp only[Bool.not_eq_false',Bool.and_eq_true,decide_eq_true_eq]at h;exact⟨h.1.1,h.1.2,h.2⟩
   have HKD:=hid hkd
   have HG:Hid (zes r=true->zaH r=(up (zaG r.vs) r.vs.length&&zav r.px)):=fun h=>by
    unfold zaH zci;rw[h,decide_eq_true h16,decide_eq_true hv0];simp
   clear hv0 hkd;obtain⟨W0,rfl⟩:∃x,x=wc:=⟨_,rfl⟩
   go_wp2
   go_loopw [3] (fun i wr=>∃k:Nat,k<=r.vs.length/\i=.i k/\up (zaG r.vs) k=true/\Bw W0 wr) (fun i _=>r.vs.length-(intOf i).toNat)
   case atStart=>exact⟨0,Nat.zero_le _,rfl,rfl,bRf _ _⟩
   case round=>
    obtain⟨k,hkl,rfl,hup,hB⟩:=hrel;obtain⟨W1,rfl⟩:∃W1,W1=wr:=⟨wr,rfl⟩
    have hsz:=hB.size;have hX:=za hX0 hz0 hB;have HB1:=hid hB;have HBW1:Hid (Bw w W1):=HBW.o.trans (hB.mono (by omega));have hz1:w.heap.size<W1.heap.size:=by omega
    clear hX0 hB
    by_cases hlt:k<r.vs.length
    ·obtain⟨b,off,rfl,hb,c0⟩:=HI.o.load HBW1.o k hlt
     have hbr:b<W1.heap.size:=by omega
     have hltI:(k:Int)<(r.vs.length:Int):=by omega
     have HNN:Hid (zaG r.vs k=false->zaH r=false):=fun h=>by rw[HG.o HKD.o,zbL hlt h];rfl
     by_cases hn:zdF r.vs[k]=true
     rotate_left
     ·have HN:Hid ((decide (1<=r.vs[k])&&decide (r.vs[k]<=5))=false):=by simpa[Hid,zdF] using hn
      have HF:Hid (zaH r=false):=HNN.o (zmZ hlt (by simpa using hn));clear hn hup;go_wp2_with fail
      go_quiet ((go_at_call 63;exact Calls.quiet_of_same (zw HN.o (zah _ _ _ _))))
      go_wp2
      go_ret;exact⟨ze HF.o.symm,below_drewN HBW1.o _⟩
     have HN:=hid hn
     by_cases hk0:k=0
     ·have HS:Hid (up (zaG r.vs) (k+1)=true):=by subst hk0;unfold Hid;rw[zab,zg0 hlt hn];rfl
      have hg:decide (0<k)=false:=by simp;omega
      clear hn hup hk0;go_wp2_with fail
      go_quiet ((go_at_call 63;exact Calls.quiet_of_same (zw HN.o (zah _ _ _ _))))
      go_wp2
      exact⟨⟨k+1,by omega,by go_num,HS.o,below_drewN HB1.o _⟩,by simp[intOf];omega⟩
     ·have hk1:(0:Int)<=(k:Int)-1:=by omega
      have hk2:(k:Int)-1<(r.vs.length:Int):=by omega
      have hg:decide (0<k)=true:=by simp;omega
      have hkm:k-1<r.vs.length:=by omega
      obtain⟨b',off',e',hb',d0⟩:=HI.o.load HBW1.o (k-1) hkm;simp only[Option.some.injEq,Addr.mk.injEq]at e';obtain⟨rfl,rfl,_⟩:=e';have hva:zaG r.vs k=decide (r.vs[k-1]<r.vs[k]):=by unfold zaG;rw[getD_at r.vs k _ hlt,getD_at r.vs (k-1) _ hkm,hn,decide_eq_false hk0];simp
      by_cases hls:r.vs[k-1]<r.vs[k]
      ·have hls':decide (r.vs[k]<=r.vs[k-1])=false:=by simp;omega
       have HS:Hid (up (zaG r.vs) (k+1)=true):=by unfold Hid;rw[zab,hup,hva,decide_eq_true hls];rfl
       clear hls hn hup hk0 hva;go_wp2_with fail
       go_quiet ((go_at_call 63;exact Calls.quiet_of_same (zw HN.o (zah _ _ _ _))))
       go_wp2
       exact⟨⟨k+1,by omega,by go_num,HS.o,below_drewN HB1.o _⟩,by simp[intOf];omega⟩
      ·have hls':decide (r.vs[k]<=r.vs[k-1])=true:=by simp;omega
       have HF:Hid (zaH r=false):=HNN.o (by rw[hva,decide_eq_false hls]);clear hls hn hup hk0 hva;go_wp2_with fail
       go_quiet ((go_at_call 63;exact Calls.quiet_of_same (zw HN.o (zah _ _ _ _))))
       go_wp2
       go_ret;exact⟨ze HF.o.symm,below_drewN HBW1.o _⟩
    ·have HF:Hid (zaH r=zav r.px):=by
      have e:k=r.vs.length:=by omega
      subst e;rw[Hid,HG.o HKD.o,hup];rfl
     have hltI:¬(k:Int)<(r.vs.length:Int):=by omega
     clear hup HG;go_wp2
     go_loopw [4] (fun i wi=>∃n:Nat,n<=r.px.size/\i=.i n/\(r.px.data.toList.take n).all yF=true/\wi=W1) (fun i _=>r.px.size-(intOf i).toNat)
     case atStart=>exact⟨0,Nat.zero_le _,rfl,rfl,rfl⟩
     case round=>
      obtain⟨n,hn16,rfl,hall,rfl⟩:=hrel
      by_cases hn:n<r.px.size
      ·have hnI:(n:Int)<(r.px.size:Int):=by omega
       have HS:Hid ((r.px.data.toList.take (n+1)).all yF=(true&&yF r.px[n])):=by rw[zcy _ r.px n hn,hall];rfl
       have HNo:Hid (yF r.px[n]=false->zav r.px=false):=fun h=>zeJ yF r.px n hn h
       clear hall
       by_cases hc:yF r.px[n]=true
       ·have HC:=hid hc
        clear hc
        go_wp2_with (go_at_call 166;refine(zw HC.o (zeu _ _)).mono ?_;rintro e w'⟨rfl,rfl⟩)
        exact⟨⟨n+1,by omega,by go_num,by rw[HS.o,HC.o];rfl,trivial⟩,by simp[intOf];omega⟩
       ·have HC:Hid (yF r.px[n]=false):=by simpa[Hid] using hc
        clear hc
        go_wp2_with (go_at_call 166;refine(zw HC.o (zeu _ _)).mono ?_;rintro e w'⟨rfl,rfl⟩)
        go_ret;exact⟨ze (HF.o.trans (HNo.o HC.o)).symm,HBW1.o⟩
      ·have HA:Hid (zav r.px=true):=by unfold zav Hid;rw[<- zbD r.px n (by omega)];exact hall
       have hnI:¬(n:Int)<(r.px.size:Int):=by omega
       clear hall;go_wp2
       go_ret;exact⟨ze (HF.o.trans HA.o).symm,HBW1.o⟩
end Go.Proofs.YtjnpjkigofldlaaGreat
