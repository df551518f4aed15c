import Derived.Test.YthdfpinbnncghaaGreatM06
set_option maxHeartbeats 1000000
namespace Go.Proofs.YthdfpinbnncghaaGreat
open Go.RowKit
theorem zjy {a b:BA}(h:a=b):Ending.returned (.s a)=.returned (.s b):=by rw[h]
theorem zdg (a:OA)(cap:Nat)(ts:List Tm)(v:BA)(w:World)(hw:jB w a ts) :
 Calls Tryz.prog 107 #[.l a ts.length cap,.s v] w fun e w'=>e=.returned (.s (over ts v))/\w'=w:=by
 have hl:=hw.len;unfold maxLen at hl;go_enter Tryz.func107,Tryz.ntmps107;go_wp2_with fail
 go_loop [5] (fun i=>∃k:Nat,k<=ts.length/\i=.i k/\yD (ts.take k) v=false) (fun i=>ts.length-(intOf i).toNat)
 case atStart=>exact⟨0,Nat.zero_le _,rfl,rfl⟩
 case round=>
  obtain⟨k,hk,rfl,hall⟩:=hrel
  by_cases hlt:k<ts.length
  ·obtain⟨b,off,rfl,hb,c0,c1⟩:=hw.load (bRf _ _) k hlt
   clear hw;have HS:Hid (yD (ts.take (k+1)) v=(false||decide (ts[k].nm=v))):=by rw[zey ts v k hlt,hall];rfl
   have hltI:(k:Int)<(ts.length:Int):=by omega
   by_cases he:ts[k].nm=v
   ·have hbe:(ts[k].nm.toList == v.toList)=true:=by rw[beq_toList];simpa using he
    have HR:=hid (zmZ ts v k hlt hall he);clear he hall;go_wp2_with fail
    go_ret;exact⟨zjy HR.o.symm,rfl⟩
   ·have hbe:(ts[k].nm.toList == v.toList)=false:=by rw[beq_toList];simpa using he
    have HE:=hid he;clear he hall;go_wp2_with fail
    go_round
    case rel=>exact⟨k+1,by omega,by go_num,by rw[HS.o,decide_eq_false HE.o];rfl⟩
    case measure=>simp[intOf];omega
  ·have HR:=hid (zhE ts v (by rw[<- zfr ts v k (by omega)];exact hall))
   clear hall hw;go_wp2_with fail
   go_ret;exact⟨zjy HR.o.symm,rfl⟩
theorem zew (a:OA)(cap:Nat)(ts:List Tm)(v:BA)(w:World)(hw:jB w a ts) :
 Calls Tryz.prog 215 #[.l a ts.length cap,.s v] w fun e w'=>e=.returned (.s (over ts v))/\Bw w w':=by
 have hl:=hw.len;unfold maxLen at hl;go_enter Tryz.func215,Tryz.ntmps215;go_wp2_with fail
 go_loopw [9] (fun i wr=>∃k:Nat,k<=ts.length/\i=.i k/\yD (ts.take k) v=false/\Bw w wr) (fun i _=>ts.length-(intOf i).toNat)
 case atStart=>exact⟨0,Nat.zero_le _,rfl,rfl,bRf _ _⟩
 case round=>
  obtain⟨k,hk,rfl,hall,hB⟩:=hrel;have hsz:=hB.size
  by_cases hlt:k<ts.length
  ·obtain⟨b,off,rfl,hb,c0,c1⟩:=hw.load hB k hlt
   clear hw;have HS:Hid (yD (ts.take (k+1)) v=(false||decide (ts[k].nm=v))):=by rw[zey ts v k hlt,hall];rfl
   have hltI:(k:Int)<(ts.length:Int):=by omega
   have hbr:b<wr.heap.size:=by omega
   by_cases he:ts[k].nm=v
   ·have hbe:(ts[k].nm.toList == v.toList)=true:=by rw[beq_toList];simpa using he
    have HR:=hid (zmZ ts v k hlt hall he);clear he hall;go_wp2_with fail
    go_ret;exact⟨zjy HR.o.symm,hB.alloc hsz _⟩
   ·have hbe:(ts[k].nm.toList == v.toList)=false:=by rw[beq_toList];simpa using he
    have HE:=hid he;clear he hall;go_wp2_with fail
    exact⟨⟨k+1,by omega,by go_num,by rw[HS.o,decide_eq_false HE.o];rfl,hB.alloc hsz _⟩,by simp[intOf];omega⟩
  ·have HR:=hid (zhE ts v (by rw[<- zfr ts v k (by omega)];exact hall))
   clear hall hw;go_wp2_with fail
   go_ret;exact⟨zjy HR.o.symm,hB⟩
theorem zae (a:OA)(cap:Nat)(ws:List BA)(w:World)(hw:zJ w a ws) :
 Calls Tryz.prog 136 #[.l a ws.length cap] w fun e w'=>e=.returned (.bool (asc ws))/\∃n,w'=w.drewN n:=by
 have hl:=hw.len;unfold maxLen at hl;go_enter Tryz.func136,Tryz.ntmps136
 go_wp2
 go_loopw [3] (fun i wr=>∃k:Nat,k<=ws.length/\i=.i k/\up (zee ws) k=true/\∃n,wr=w.drewN n) (fun i _=>ws.length-(intOf i).toNat)
 case atStart=>exact⟨0,Nat.zero_le _,rfl,rfl,0,rfl⟩
 case round=>
  obtain⟨k,hk,rfl,hup,hwr⟩:=hrel;have HW:Hid (∃n,wr=w.drewN n):=hwr
  by_cases hlt:k<ws.length
  ·obtain⟨b,off,rfl,hb,hc0⟩:=hw.cells (by rintro rfl;simp at hlt)
   have hc:∀i (h:i<ws.length),wr.cell? (aD b (off+i))=some (.s ws[i]):=by obtain⟨n,rfl⟩:=hwr;exact hc0
   have hsm:=hw.small _ (List.getElem_mem hlt);clear hw hc0 hwr;have hck:=hc k hlt;have hltI:(k:Int)<(ws.length:Int):=by omega
   by_cases hn:zm ws[k]=true
   ·have hn':=hn
    by_cases hk0:k=0
    ·have HF:Hid (up (zee ws) (k+1)=true):=by subst hk0;unfold Hid;rw[jA,zik hlt hn];rfl
     have hg:decide (0<k)=false:=by simp;omega
     clear hn hc hup hk0
     go_wp2
     go_quiet ((go_at_call 100;exact Calls.quiet_of_same (zf hn' (zi _ _ hsm))))
     go_wp2
     obtain⟨n,rfl⟩:=HW.o;exact⟨⟨k+1,by omega,by go_num,HF.o,n+nq,by simp⟩,by simp[intOf];omega⟩
    ·obtain⟨m,rfl⟩:∃m,k=m+1:=⟨k-1,by omega⟩
     have hcm:=hc m (by omega);have HU:Hid (up (zee ws) (m+1+1)=less ws[m] ws[m+1]):=by unfold Hid;rw[jA,hup,zez hlt hn];rfl
     have HN:Hid (less ws[m] ws[m+1]=false->asc ws=false):=fun h=>za2 hlt (by rw[zez hlt hn];exact h)
     clear hn hc hup hk0
     by_cases hls:less ws[m] ws[m+1]=true
     ·have hls':Op.bytesLess ws[m].toList ws[m+1].toList=true:=hls
      have HLS:Hid (less ws[m] ws[m+1]=true):=hls;clear hls
      go_wp2
      go_quiet ((go_at_call 100;exact Calls.quiet_of_same (zf hn' (zi _ _ hsm))))
      go_wp2
      obtain⟨n,rfl⟩:=HW.o;exact⟨⟨m+1+1,by omega,by go_num,by rw[HU.o,HLS.o],n+nq,by simp⟩,by simp[intOf];omega⟩
     ·have hls':Op.bytesLess ws[m].toList ws[m+1].toList=false:=by simpa[less] using hls
      have HLS:Hid (less ws[m] ws[m+1]=false):=hls';clear hls
      go_wp2
      go_quiet ((go_at_call 100;exact Calls.quiet_of_same (zf hn' (zi _ _ hsm))))
      go_wp2
      go_ret;refine⟨ze (HN.o HLS.o).symm,?_⟩;obtain⟨n,rfl⟩:=HW.o;exact⟨n+nq,by simp⟩
   ·have hn':zm ws[k]=false:=by simpa using hn
    have HF:Hid (asc ws=false):=za2 hlt (zka hlt hn');clear hn hc hup
    go_wp2
    go_quiet ((go_at_call 100;exact Calls.quiet_of_same (zf hn' (zi _ _ hsm))))
    go_wp2
    go_ret;refine⟨ze HF.o.symm,?_⟩;obtain⟨n,rfl⟩:=HW.o;exact⟨n+nq,by simp⟩
  ·have HF:Hid (asc ws=true):=by
    have e:k=ws.length:=by omega
    subst e;exact hup
   clear hw hup hwr
   go_wp2
   go_ret;exact⟨ze HF.o.symm,HW.o⟩
theorem zqx (a:OA)(cap:Nat)(ws:List BA)(v:BA)(w:World)(hw:zJ w a ws) :
 Calls Tryz.prog 290 #[.l a ws.length cap,.s v] w fun e w'=>∃r:Int,e=.returned (.i r)/\decide (0<=r)=has ws v/\w'=w:=by
 have hl:=hw.len;unfold maxLen at hl
 by_cases hne:ws=[]
 ·subst hne
  go_enter Tryz.func290,Tryz.ntmps290
  go_wp2
  go_loop [8] (fun i=>i=.i 0) (fun i=>0)
  case atStart=>rfl
  case round=>
   subst hrel
   go_wp2
   go_ret;exact⟨_,rfl,rfl,rfl⟩
 ·obtain⟨b,off,rfl,hb,hc⟩:=hw.cells hne
  clear hw;have HL:Hid (0<ws.length):=List.length_pos_iff.2 hne;clear hne;go_enter Tryz.func290,Tryz.ntmps290
  go_wp2
  go_loop [8] (fun i=>∃k:Nat,k<=ws.length/\i=.i k/\has (ws.take k) v=false) (fun i=>ws.length-(intOf i).toNat)
  case atStart=>exact⟨0,Nat.zero_le _,rfl,rfl⟩
  case round=>
   obtain⟨k,hk,rfl,hall⟩:=hrel
   by_cases hlt:k<ws.length
   ·have hck:=hc k hlt
    clear hc;have HS:Hid (has (ws.take (k+1)) v=(false||decide (ws[k]=v))):=by rw[znW ws v k hlt,hall];rfl
    have HN:Hid (ws[k]=v->has ws v=true):=fun h=>zrn ws v k hlt h
    clear hall
    by_cases he:ws[k]=v
    ·have hbe:(v.toList == ws[k].toList)=true:=by rw[beq_toList];simpa using he.symm
     have HE:Hid (ws[k]=v):=he;clear he
     go_wp2
     go_ret;exact⟨_,rfl,by rw[HN.o HE.o];simp,rfl⟩
    ·have hbe:(v.toList == ws[k].toList)=false:=by rw[beq_toList];simpa using fun h=>he h.symm
     have HE:Hid (¬ws[k]=v):=he;clear he
     go_wp2
     go_round
     case rel=>exact⟨k+1,by omega,by go_num,by rw[HS.o,decide_eq_false HE.o];rfl⟩
     case measure=>simp[intOf];omega
   ·have HA:Hid (has ws v=false):=by rw[<- zpX ws v k (by omega)];exact hall
    clear hall hc
    go_wp2
    go_ret;exact⟨_,rfl,by rw[HA.o];rfl,rfl⟩
theorem zmr (a:OA)(cap:Nat)(ws:List BA)(v:BA)(w:World)(hw:zJ w a ws) :
 Calls Tryz.prog 289 #[.l a ws.length cap,.s v] w fun e w'=>e=.returned (.bool (has ws v))/\w'=w:=by
 go_enter Tryz.func289,Tryz.ntmps289
 go_wp2_with (go_at_call 290;refine(zqx _ _ _ _ _ hw).mono ?_;rintro e w'⟨r,rfl,hr,rfl⟩)
 go_ret;exact⟨rfl,rfl⟩
theorem zgv (nm:BA)(kd ls ms:Int)(a:OA)(cap:Nat)(ws:List BA)(to:BA)(rl:Int)(mu fx:Bool)(df wg:BA)(v:BA)(w:World)(hw:zJ w a ws) :
 Calls Tryz.prog 287 #[.agg #[.s nm,.i kd,.i ls,.i ms,.l a ws.length cap,.s to,.i rl,.bool mu,.bool fx,.s df,.s wg],.s v] w
  fun e w'=>e=.returned (.bool (has ws v))/\Bw w w':=by
 go_enter Tryz.func287,Tryz.ntmps287
 go_wp2_with (go_at_call 289;refine(zmr _ _ _ _ _ (hw.mono (by exact bAl _ _))).mono ?_;rintro e w'⟨rfl,rfl⟩)
 go_ret;exact⟨rfl,bAl _ _⟩
theorem zgR (nm:BA)(kd ls ms:Int)(sl:Value)(to:BA)(rl:Int)(mu fx:Bool)(df wg:BA)(v:BA)(w:World)(hs:v.size<=maxLen) :
 Calls Tryz.prog 295 #[.agg #[.s nm,.i kd,.i ls,.i ms,sl,.s to,.i rl,.bool mu,.bool fx,.s df,.s wg],.s v] w
  fun e w'=>e=.returned (.bool (zm v))/\Bw w w':=by
 go_enter Tryz.func295,Tryz.ntmps295
 go_wp2_with (go_at_call 153;refine(zB _ _ hs).mono ?_;rintro e w'⟨rfl,rfl⟩)
 go_ret;exact⟨rfl,bAl _ _⟩
theorem zgA (nm:BA)(kd ls ms:Int)(sl:Value)(to:BA)(rl:Int)(mu fx:Bool)(df wg:BA)(s:BA)(w:World)(hs:s.size<=maxLen) :
 Calls Tryz.prog 292 #[.agg #[.s nm,.i kd,.i ls,.i ms,sl,.s to,.i rl,.bool mu,.bool fx,.s df,.s wg],.s s] w
  fun e w'=>e=.returned (.bool (zb2 ls ms s))/\Bw w w':=by
 unfold maxLen at hs
 by_cases h1:(s.size:Int)<ls
 ·go_enter Tryz.func292,Tryz.ntmps292
  go_wp2
  go_ret;refine⟨ze ?_,bAl _ _⟩;unfold zb2;rw[decide_eq_false (by omega)];rfl
 ·by_cases h2:ms<(s.size:Int)
  ·go_enter Tryz.func292,Tryz.ntmps292
   go_wp2
   go_ret;refine⟨ze ?_,bAl _ _⟩;unfold zb2;rw[decide_eq_false (show ¬(s.size:Int)<=ms by omega)];simp
  ·have HF:Hid (zb2 ls ms s=zbW s):=by
    unfold zb2;rw[decide_eq_true (show ls<=s.size by omega),decide_eq_true (show(s.size:Int)<=ms by omega)];simp[Hid]
   go_enter Tryz.func292,Tryz.ntmps292
   go_wp2
   go_loop [20] (fun i=>∃k:Nat,k<=s.size/\i=.i k/\(s.data.toList.take k).all qA=true) (fun i=>s.size-(intOf i).toNat)
   case atStart=>exact⟨0,Nat.zero_le _,rfl,rfl⟩
   case round=>
    obtain⟨k,hk,rfl,hall⟩:=hrel
    by_cases hlt:k<s.size
    ·have HS:Hid ((s.data.toList.take (k+1)).all qA=(true&&qA s[k])):=by rw[zaY _ s k hlt,hall];rfl
     have HN:Hid (qA s[k]=false->zbW s=false):=fun h=>zcp qA s k hlt h
     clear hall
     by_cases h33:(s[k].toNat:Int)<33
     ·have HC:Hid (qA s[k]=false):=by simp[qA,Hid];omega
      go_wp2
      go_ret;exact⟨ze (HF.o.trans (HN.o HC.o)).symm,bAl _ _⟩
     ·by_cases h126:126<(s[k].toNat:Int)
      ·have HC:Hid (qA s[k]=false):=by simp[qA,Hid];omega
       go_wp2
       go_ret;exact⟨ze (HF.o.trans (HN.o HC.o)).symm,bAl _ _⟩
      ·have HC:Hid (qA s[k]=true):=by simp[qA,Hid];omega
       go_wp2
       go_round
       case rel=>exact⟨k+1,by omega,by go_num,by rw[HS.o,HC.o];rfl⟩
       case measure=>simp[intOf];omega
    ·have HA:Hid (zbW s=true):=by unfold zbW Hid;rw[<- zaE s k (by omega)];exact hall
     clear hall
     go_wp2
     go_ret;exact⟨ze (HF.o.trans HA.o).symm,bAl _ _⟩
theorem zfR (b off cap:Nat)(ws:List BA)(w:World)(hw:zJ w (some (aD b off)) ws)(hl:ws.length<=1048576) :
 Calls Tryz.prog 263 #[.l (some (aD b off)) ws.length cap] w
  fun e w'=>∃v,e=.returned v/\w'.ownsRow w.heap.size 9 1 v ws.length (ws.map Value.string)/\Bw w w':=by
 obtain⟨i0,hi,hz0,hz1,hz2⟩:=info_parts Tryz.zdi
 have hnews:∀j u,(ws.map Value.string)[j]?=some u->w.cell? (((aD b off):Addr).add j)=some u:=by
  intro j u hj
  have hlt:j<ws.length:=by
   have:=(List.getElem?_eq_some_iff.1 hj).1;simpa using this
  obtain⟨b',off',he,hb,hc⟩:=hw.cells (by rintro rfl;simp at hlt);simp only[Option.some.injEq,Addr.mk.injEq]at he;obtain⟨rfl,rfl,_⟩:=he;have h1:=hc j hlt
  have e1:((aD b off):Addr).add j=(aD b (off+j)):=by
   unfold Addr.add;split
   ·rename_i h;subst h;simp
   ·rfl
  rw[e1,h1];rw[List.getElem?_map,List.getElem?_eq_getElem hlt]at hj
  simpa using hj
 have hone:∀u∈ws.map Value.string,u.oneCell'=true:=by
  intro u hu;simp only[List.mem_map]at hu;obtain⟨s,_,rfl⟩:=hu;rfl
 go_enter Tryz.func263,Tryz.ntmps263
 go_wp2_with (at_builtin;refine wpList_append_own _ rfl _ _ 110 rfl w.heap.size 9 i0 (.s ByteArray.empty) 1 16 Tryz.underlying110 hi hz0 hz1 hz2 rfl (by decide) (.l none 0 0) 0 [] rfl ⟨rfl,.inl ⟨rfl,rfl⟩⟩ (aD b off) ws.length cap (ws.map Value.string) rfl (by simp) hnews hone (by unfold maxLen;omega) (by omega) (Nat.le_refl _) ?_;intro v' w1 hown hgr _)
 simp only[Nat.zero_add,List.nil_append]at hown;go_ret;exact⟨v',rfl,hown,(bRf _ _).grown hgr (Nat.le_refl _) (by simp[Value.ownBlock])⟩
end Go.Proofs.YthdfpinbnncghaaGreat
namespace Go.Proofs.YthdfpinbnncghaaGreat
def zld (ts:List Tm)(r q:Rl)(v:Int):Bool:=yG q.vs v&&meets ts q r.kd r.tm r.px
def zdz (ts:List Tm)(rs:List Rl)(r:Rl)(v:Int):Bool:=yG r.vs v&&!(rs.any fun q=>zld ts r q v)
def j3 (ts:List Tm)(rs:List Rl)(r:Rl):Int:=bitsOf (zdz ts rs r)
def zl9 (ts:List Tm)(r q:Rl):Bool:=(q.kd.toList.isEmpty||decide (q.kd=r.kd))&&((q.tm.toList.isEmpty||(!r.tm.toList.isEmpty&&under ts 4 r.tm q.tm))&&begins r.px q.px)
def yX (ts:List Tm)(r q:Rl)(v:Int):Bool:=yG q.vs v&&zl9 ts r q
def zby (ts:List Tm)(rs:List Rl)(r:Rl):Int:=(r.vs.find? fun v=>!(rs.any fun q=>yX ts r q v)).getD 0
theorem zqy (ts:List Tm)(r:Rl):j3 ts [] r=bitsOf (yG r.vs):=by
 unfold j3;apply zf9;intro v _;simp[zdz]
theorem zqu (ts:List Tm)(rs:List Rl)(r:Rl)(k:Nat)(h:k<rs.length) :
 j3 ts (rs.take (k+1)) r=zr3 (j3 ts (rs.take k) r) (bitsOf fun v=>meets ts rs[k] r.kd r.tm r.px&&yG rs[k].vs v):=by
 unfold j3;rw[zrf]
 apply zf9
 intro v _;unfold zdz;rw[tSe h,List.any_append];simp only[List.any_cons,List.any_nil,Bool.or_false,zld]
 cases yG r.vs v <;> cases (List.take k rs).any (fun q=>yG q.vs v&&meets ts q r.kd r.tm r.px) <;> cases meets ts rs[k] r.kd r.tm r.px <;> cases yG rs[k].vs v <;> rfl
theorem zoH {ts:List Tm}(hok:j6 ts=true)(r q:Rl):zl9 ts r q=meets ts q r.kd r.tm r.px:=by
 have hup:up (qH ts) ts.length=true:=by
  unfold j6 at hok;simp only[Bool.and_eq_true]at hok;exact hok.2.1
 unfold zl9 meets
 congr 2
 cases hq:q.tm.toList.isEmpty
 ·cases hr:r.tm.toList.isEmpty
  ·rfl
  ·have h0:r.tm=ByteArray.empty:=zcq _ (by rw[zy]at hr;simpa using hr)
   rw[h0,znb hup 4 q.tm (by rw[zy]at hq;simpa using hq)]
   rfl
 ·rfl
theorem zqk {ts:List Tm}(hok:j6 ts=true)(r q:Rl)(v:Int):yX ts r q v=zld ts r q v:=by
 unfold yX zld;rw[zoH hok]
theorem zoF {ts:List Tm}(hok:j6 ts=true)(rs:List Rl)(r:Rl):zby ts rs r=(r.vs.find? fun v=>!(rs.any fun q=>zld ts r q v)).getD 0:=by
 unfold zby
 have:(fun v=>!(rs.any fun q=>yX ts r q v))=fun v=>!(rs.any fun q=>zld ts r q v):=by
  funext v;congr 2;funext q;exact zqk hok r q v
 rw[this]
theorem zlf {ts:List Tm}(rs:List Rl){r:Rl}(hv:yZ r.vs=true):(j3 ts rs r == 0)=true↔∀v∈r.vs,(rs.any fun q=>zld ts r q v)=true:=by
 unfold j3;rw[zqj]
 constructor
 ·intro h v hm
  simp only[Bool.not_eq_true',Bool.or_eq_false_iff]at h
  have h5:1<=v/\v<=5:=by
   obtain⟨i,hi,rfl⟩:=List.mem_iff_getElem.1 hm;exact zf3 hv i hi
  have hl:zdz ts rs r v=false:=by
   obtain⟨⟨⟨⟨h1,h2⟩,h3⟩,h4⟩,h6⟩:=h;exact five (fun v=>zdz ts rs r v=false) h1 h2 h3 h4 h6 v h5
  unfold zdz at hl;have hh:yG r.vs v=true:=by unfold yG;rw[List.any_eq_true];exact⟨v,hm,by simp⟩
  rw[hh]at hl
  simpa using hl
 ·intro h
  have hl:∀v,zdz ts rs r v=false:=by
   intro v;unfold zdz
   cases hh:yG r.vs v
   ·rfl
   ·unfold yG at hh
    rw[List.any_eq_true]at hh;obtain⟨x,hx,he⟩:=hh;have e:x=v:=by simpa using he
    subst e;rw[h x hx];rfl
  simp[hl]
theorem zko {ts:List Tm}(hok:j6 ts=true)(rs:List Rl){r:Rl}(hv:yZ r.vs=true):(zby ts rs r == 0)=true↔∀v∈r.vs,(rs.any fun q=>zld ts r q v)=true:=by
 rw[zoF hok]
 constructor
 ·intro h v hm
  cases hf:r.vs.find? (fun v=>!(rs.any fun q=>zld ts r q v)) with
  | none=>
   rw[List.find?_eq_none]at hf
   simpa using hf v hm
  | some x=>
   rw[hf]at h;have hx:=List.mem_of_find?_eq_some hf;obtain⟨i,hi,rfl⟩:=List.mem_iff_getElem.1 hx;have h5:=zf3 hv i hi
   simp at h
   omega
 ·intro h
  have hf:r.vs.find? (fun v=>!(rs.any fun q=>zld ts r q v))=none:=by
   rw[List.find?_eq_none];intro v hm;rw[h v hm];simp
  rw[hf];rfl
theorem qM {α:Type}(p:α->Bool)(l:List α)(k:Nat)(h:k<l.length):(l.take (k+1)).all p=((l.take k).all p&&p l[k]):=by
 rw[tSe h,List.all_append];simp
theorem zaH {α:Type}(p:α->Bool)(l:List α)(k:Nat)(h:k<l.length)(hp:p l[k]=false):l.all p=false:=by
 rw[List.all_eq_false];exact⟨l[k],List.getElem_mem h,by simp[hp]⟩
end Go.Proofs.YthdfpinbnncghaaGreat
namespace Go.Proofs.YthdfpinbnncghaaGreat
open Go.RowKit
theorem jE (a0:OA)(cap0:Nat)(ss:List Shp)(o:Ob)(a a':OA)(cap cap':Nat)(w:World)(hw:yR w a0 ss)(_ho:zab w o a a')(hc:zH ss o=true) :
 Calls Tryz.prog 98 #[.l a0 ss.length cap0,.agg #[.s o.kd,.s o.nm,.s o.tm,.l a o.vs.length cap,.bool o.en,.l a' o.hs.length cap',.i o.vr]] w fun e w'=>∃fa fcap,e=.returned (.tuple #[.l fa (shapeOf ss o.kd).fs.length fcap,.bool true])/\yj w fa (shapeOf ss o.kd).fs/\Bw w w':=by
 unfold zH at hc;simp only[Bool.and_eq_true,decide_eq_true_eq]at hc;have HK:=hid hc.1;have HL:=hid hc.2;clear hc;have hl:=hw.len;unfold maxLen at hl;go_enter Tryz.func98,Tryz.ntmps98;go_wp2_with fail
 refine(yN _ _ _ _ _ (hw.mono (bAl _ _)) HK.o).mono ?_;rintro e w1⟨ix,hix,rfl,hsh,rfl⟩;have HSh:=hid hsh;clear hsh;obtain⟨b,off,rfl,hb,hr⟩:=hw.rows (by rintro rfl;simp at hix);obtain⟨fa,fcap,hs⟩:=hr ix hix;have hcl:=hs.list;have hfl:=hs.flds;have hixI:(ix:Int)<(ss.length:Int):=by omega
 have hix0:decide ((ix:Int)<0)=false:=by simp
 have hneq:((ss[ix].fs.length:Int) != (o.vs.length:Int))=false:=by have h1:=HL.o;have h2:=HSh.o;rw[h2]at h1;simp[h1]
 have hbw:=hb;clear hr hs;go_wp2_with fail
 go_quiet (fail)
 go_wp2_with fail
 go_ret2
 rw[HSh.o];exact⟨fa,fcap,rfl,hfl,below_drewN (bAl _ _) _⟩
theorem zdC (a0:OA)(cap0:Nat)(ss:List Shp)(o:Ob)(a a':OA)(cap cap':Nat)(w:World)(hw:yR w a0 ss)(_ho:zab w o a a')(hc:zH ss o=false) :
 Calls Tryz.prog 98 #[.l a0 ss.length cap0,.agg #[.s o.kd,.s o.nm,.s o.tm,.l a o.vs.length cap,.bool o.en,.l a' o.hs.length cap',.i o.vr]] w fun e w'=>∃v,e=.returned (.tuple #[v,.bool false])/\Bw w w':=by
 have hl:=hw.len;unfold maxLen at hl
 by_cases hk:zC ss o.kd=true
 ·have HK:=hid hk
  have HL:Hid (¬o.vs.length=(shapeOf ss o.kd).fs.length):=by unfold zH at hc;rw[hk]at hc;simpa[Hid] using hc
  clear hc hk;go_enter Tryz.func98,Tryz.ntmps98;go_wp2_with fail
  refine(yN _ _ _ _ _ (hw.mono (bAl _ _)) HK.o).mono ?_;rintro e w1⟨ix,hix,rfl,hsh,rfl⟩;have HSh:=hid hsh;clear hsh;obtain⟨b,off,rfl,hb,hr⟩:=hw.rows (by rintro rfl;simp at hix);obtain⟨fa,fcap,hs⟩:=hr ix hix;have hcl:=hs.list;have hixI:(ix:Int)<(ss.length:Int):=by omega
  have hix0:decide ((ix:Int)<0)=false:=by simp
  have hneq:((ss[ix].fs.length:Int) != (o.vs.length:Int))=true:=by have h1:=HL.o;have h2:=HSh.o;rw[h2]at h1;rw[bne_iff_ne];omega
  have hbw:=hb;clear hr hs;go_wp2_with fail
  go_quiet (fail)
  go_wp2_with fail
  go_ret2
  exact⟨_,rfl,below_drewN (zx _ _ _) _⟩
 ·have HK:Hid (zC ss o.kd=false):=by simpa[Hid] using hk
  clear hc hk;go_enter Tryz.func98,Tryz.ntmps98;go_wp2_with fail
  refine(jW _ _ _ _ _ (hw.mono (bAl _ _)) HK.o).mono ?_;rintro e w1⟨rfl,rfl⟩;go_wp2_with fail
  go_quiet (fail)
  go_wp2_with fail
  go_ret2
  exact⟨_,rfl,below_drewN (zx _ _ _) _⟩
end Go.Proofs.YthdfpinbnncghaaGreat
namespace Go.Proofs.YthdfpinbnncghaaGreat
open Go.ChangeShapes Go.WideShapes Go.ChangeAt Go.RowKit
theorem Tryz.zlZ:Tryz.prog.cellsOf 108=2:=by kernel_rfl
section
variable {H:Type} {enc:TypeId × Value->H} {w:World} {base:Nat} {spare:Nat->Bool} {held:Bool}
theorem zqM {fuel:Nat}{cs:List Value}{x:DataW H × List MemPlace}(h:DataW.trod enc Tryz.prog w base spare held fuel 108 cs=some x) :
 ∃m:Tm,cs=m.cells.toList/\m.Small:=by
 have hlen:cs.length=2:=by
  obtain⟨_,_,_,_,hl,_,_⟩:=DataW.trod_struct Tryz.underlying108 h;rw[hl];exact Tryz.zlZ
 match cs,hlen with
 | [c0,c1],_=>
  have hf:=jo Tryz.underlying108 h;obtain⟨_,_,f0⟩:=hf 0 9 0 c0 rfl Tryz.zK rfl;obtain⟨_,_,f1⟩:=hf 1 9 1 c1 rfl Tryz.zK rfl;obtain⟨x0,e0,_,s0⟩:=DataW.trod_string Tryz.underlying9 f0;obtain⟨x1,e1,_,s1⟩:=DataW.trod_string Tryz.underlying9 f1;simp only[List.cons.injEq,and_true]at e0 e1;subst e0 e1;exact⟨⟨x0,x1⟩,rfl,s0,s1⟩
theorem zpG {fuel:Nat}{cs:List Value}{x:DataW H × List MemPlace}(h:DataW.trod enc Tryz.prog w base spare held fuel 24 cs=some x) :
 ∃a cap ts,cs=[.l a (List.length ts) cap]/\jB w a ts:=by
 obtain⟨a,len,cap,rfl,hm,hr⟩:=zad Tryz.underlying24 Tryz.zlZ (by omega) h
 rcases Nat.eq_zero_or_pos len with h0|hp
 ·subst h0
  exact⟨a,cap,[],rfl,⟨by simp[maxLen],fun i h=>absurd h (by simp),fun h=>absurd rfl h⟩⟩
 ·obtain⟨b,off,rfl,hb,hrow⟩:=hr hp
  have hf:∀i,i<len->∃m:Tm,m.Small/\∀j,j<2->w.cell? (aD b (off+i*2+j))=m.cells[j]?:=by
   intro i hi;obtain⟨es,n,y,hel,hcell,hy⟩:=hrow i hi;obtain⟨m,rfl,hs⟩:=zqM hy;exact⟨m,hs,fun j hj=>by rw[hcell j hj];simp⟩
  obtain⟨ms,hl,hms⟩:=za9 len hf;exact⟨_,cap,ms,by rw[hl],⟨by omega,fun i hi=>(hms i hi).1,fun _=>⟨b,off,rfl,hb,fun i hi=>(hms i hi).2⟩⟩⟩
end
end Go.Proofs.YthdfpinbnncghaaGreat
namespace Go.Proofs.YthdfpinbnncghaaGreat
open Go.ChangeShapes Go.WideShapes Go.ChangeAt Go.RowKit
theorem Tryz.zie:Tryz.prog.cellsOf 112=7:=by kernel_rfl
theorem zm9 {H:Type}{enc:TypeId × Value->H}{w:World}{base:Nat}{spare:Nat->Bool}{held:Bool}{fuel:Nat}{cs:List Value}{x:DataW H × List MemPlace}
 (h:DataW.trod enc Tryz.prog w base spare held fuel 112 cs=some x) :
 ∃(o:Ob) (a a':OA) (cap cap':Nat),cs=[.s o.kd,.s o.nm,.s o.tm,.l a o.vs.length cap,.bool o.en,.l a' o.hs.length cap',.i o.vr]/\zab w o a a':=by
 have hlen:cs.length=7:=by
  obtain⟨_,_,_,_,hl,_,_⟩:=DataW.trod_struct Tryz.underlying112 h;rw[hl];exact Tryz.zie
 match cs,hlen with
 | [c0,c1,c2,c3,c4,c5,c6],_=>
  have hf:=jo Tryz.underlying112 h;obtain⟨_,_,f0⟩:=hf 0 9 0 c0 rfl Tryz.zK rfl;obtain⟨_,_,f1⟩:=hf 1 9 1 c1 rfl Tryz.zK rfl;obtain⟨_,_,f2⟩:=hf 2 9 2 c2 rfl Tryz.zK rfl;obtain⟨_,_,f3⟩:=hf 3 110 3 c3 rfl Tryz.zb0 rfl;obtain⟨_,_,f4⟩:=hf 4 4 4 c4 rfl Tryz.zfG rfl;obtain⟨_,_,f5⟩:=hf 5 110 5 c5 rfl Tryz.zb0 rfl;obtain⟨_,_,f6⟩:=hf 6 3 6 c6 rfl Tryz.jd rfl;obtain⟨kd,e0,_,s0⟩:=DataW.trod_string Tryz.underlying9 f0;obtain⟨nm,e1,_,s1⟩:=DataW.trod_string Tryz.underlying9 f1;obtain⟨tm,e2,_,s2⟩:=DataW.trod_string Tryz.underlying9 f2;obtain⟨a,cap,vs,e3,hV⟩:=zeg Tryz.underlying110 Tryz.underlying9 Tryz.zK f3;obtain⟨en,e4,_⟩:=DataW.trod_bool Tryz.underlying4 f4;obtain⟨a',cap',hs,e5,hH⟩:=zeg Tryz.underlying110 Tryz.underlying9 Tryz.zK f5;obtain⟨vr,e6,_,_⟩:=DataW.trod_int Tryz.underlying3 f6;simp only[List.cons.injEq,and_true]at e0 e1 e2 e3 e4 e5 e6;subst e0 e1 e2 e3 e4 e5 e6;exact⟨⟨kd,nm,tm,vs,en,hs,vr⟩,a,a',cap,cap',rfl,⟨⟨s0,s1,s2⟩,hV,hH⟩⟩
end Go.Proofs.YthdfpinbnncghaaGreat
