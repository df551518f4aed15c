import Derived.Test.YtecncindgjdbiaaGreatM09
import Derived.Test.YtecncindgjdbiaaGreatM08
set_option maxHeartbeats 1000000
namespace Go.Proofs.YtecncindgjdbiaaGreat
open Go.RowKit
theorem zjN (a:OA)(cap:Nat)(ws:List BA)(w:World)(hw:zF w a ws) :
 Calls Tryz.prog 234 #[.l a ws.length cap] w fun e w'=>e=.returned (.bool (asc ws))/\w'=w:=by
 have hl:=hw.len;unfold maxLen at hl;go_enter Tryz.func234,Tryz.ntmps234
 go_wp2
 go_loop [7] (fun i=>∃k:Nat,k<=ws.length/\i=.i k/\up (zdR ws) k=true) (fun i=>ws.length-(intOf i).toNat)
 case atStart=>exact⟨0,Nat.zero_le _,rfl,rfl⟩
 case round=>
  obtain⟨k,hk,rfl,hup⟩:=hrel
  by_cases hlt:k<ws.length
  ·obtain⟨b,off,rfl,hb,hc⟩:=hw.cells (by rintro rfl;simp at hlt)
   have hsm:=hw.small _ (List.getElem_mem hlt);clear hw;have hck:=hc k hlt
   by_cases hn:zy ws[k]=true
   ·by_cases hk0:k=0
    ·have HF:Hid (up (zdR ws) (k+1)=true):=by subst hk0;unfold Hid;rw[q8,zic hlt hn];rfl
     have hg:decide (0<k)=false:=by simp;omega
     have HN:Hid (zy ws[k]=true):=hn;clear hn hc hup hk0
     go_wp2_with (go_at_call 161;refine(zf HN.o (zH _ _ hsm)).mono ?_;rintro e w'⟨rfl,rfl⟩)
     go_round
     case rel=>exact⟨k+1,by omega,by go_num,HF.o⟩
     case measure=>simp[intOf];omega
    ·obtain⟨m,rfl⟩:∃m,k=m+1:=⟨k-1,by omega⟩
     have hcm:=hc m (by omega);have HU:Hid (up (zdR ws) (m+1+1)=less ws[m] ws[m+1]):=by unfold Hid;rw[q8,hup,zdZ hlt hn];rfl
     have HNN:Hid (less ws[m] ws[m+1]=false->asc ws=false):=fun h=>zaH hlt (by rw[zdZ hlt hn];exact h)
     have HN:Hid (zy ws[m+1]=true):=hn;clear hn hc hup hk0
     by_cases hls:less ws[m] ws[m+1]=true
     ·have hls':Op.bytesLess ws[m].toList ws[m+1].toList=true:=hls
      have HLS:Hid (less ws[m] ws[m+1]=true):=hls;clear hls
      go_wp2_with (go_at_call 161;refine(zf HN.o (zH _ _ hsm)).mono ?_;rintro e w'⟨rfl,rfl⟩)
      go_round
      case rel=>exact⟨m+1+1,by omega,by go_num,by rw[HU.o,HLS.o]⟩
      case measure=>simp[intOf];omega
     ·have hls':Op.bytesLess ws[m].toList ws[m+1].toList=false:=by simpa[less] using hls
      have HLS:Hid (less ws[m] ws[m+1]=false):=hls';clear hls
      go_wp2_with (go_at_call 161;refine(zf HN.o (zH _ _ hsm)).mono ?_;rintro e w'⟨rfl,rfl⟩)
      go_ret;exact⟨ze (HNN.o HLS.o).symm,rfl⟩
   ·have hn':zy ws[k]=false:=by simpa using hn
    have HF:Hid (asc ws=false):=zaH hlt (zjc hlt hn');have HN:Hid (zy ws[k]=false):=hn';clear hn hn' hc hup
    go_wp2_with (go_at_call 161;refine(zf HN.o (zH _ _ hsm)).mono ?_;rintro e w'⟨rfl,rfl⟩)
    go_ret;exact⟨ze HF.o.symm,rfl⟩
  ·have HF:Hid (asc ws=true):=by
    have e:k=ws.length:=by omega
    subst e;exact hup
   clear hw hup
   go_wp2
   go_ret;exact⟨ze HF.o.symm,rfl⟩
end Go.Proofs.YtecncindgjdbiaaGreat
namespace Go.Proofs.YtecncindgjdbiaaGreat
theorem qQ {α:Type}(p:α->Bool)(l:List α)(k:Nat)(h:k<l.length):(l.take (k+1)).all p=((l.take k).all p&&p l[k]):=by
 rw[tSe h,List.all_append];simp
theorem zau {α:Type}(p:α->Bool)(l:List α)(k:Nat)(h:k<l.length)(hp:p l[k]=false):l.all p=false:=by
 rw[List.all_eq_false];exact⟨l[k],List.getElem_mem h,by simp[hp]⟩
end Go.Proofs.YtecncindgjdbiaaGreat
namespace Go.Proofs.YtecncindgjdbiaaGreat
open Go.RowKit
theorem zpK (a:OA)(cap:Nat)(ws:List BA)(v:BA)(w:World)(hw:zF w a ws) :
 Calls Tryz.prog 263 #[.l a ws.length cap,.s v] w fun e w'=>∃r:Int,e=.returned (.i r)/\decide (0<=r)=has ws v/\w'=w:=by
 have hl:=hw.len;unfold maxLen at hl
 by_cases hne:ws=[]
 ·subst hne
  go_enter Tryz.func263,Tryz.ntmps263
  go_wp2
  go_loop [8] (fun i=>i=.i 0) (fun i=>0)
  case atStart=>rfl
  case round=>
   subst hrel
   go_wp2
   go_ret;exact⟨_,rfl,rfl,rfl⟩
 ·obtain⟨b,off,rfl,hb,hc⟩:=hw.cells hne
  clear hw;have HL:Hid (0<ws.length):=List.length_pos_iff.2 hne;clear hne;go_enter Tryz.func263,Tryz.ntmps263
  go_wp2
  go_loop [8] (fun i=>∃k:Nat,k<=ws.length/\i=.i k/\has (ws.take k) v=false) (fun i=>ws.length-(intOf i).toNat)
  case atStart=>exact⟨0,Nat.zero_le _,rfl,rfl⟩
  case round=>
   obtain⟨k,hk,rfl,hall⟩:=hrel
   by_cases hlt:k<ws.length
   ·have hck:=hc k hlt
    clear hc;have HS:Hid (has (ws.take (k+1)) v=(false||decide (ws[k]=v))):=by rw[znu ws v k hlt,hall];rfl
    have HN:Hid (ws[k]=v->has ws v=true):=fun h=>zqw ws v k hlt h
    clear hall
    by_cases he:ws[k]=v
    ·have hbe:(v.toList == ws[k].toList)=true:=by rw[beq_toList];simpa using he.symm
     have HE:Hid (ws[k]=v):=he;clear he
     go_wp2
     go_ret;exact⟨_,rfl,by rw[HN.o HE.o];simp,rfl⟩
    ·have hbe:(v.toList == ws[k].toList)=false:=by rw[beq_toList];simpa using fun h=>he h.symm
     have HE:Hid (¬ws[k]=v):=he;clear he
     go_wp2
     go_round
     case rel=>exact⟨k+1,by omega,by go_num,by rw[HS.o,decide_eq_false HE.o];rfl⟩
     case measure=>simp[intOf];omega
   ·have HA:Hid (has ws v=false):=by rw[<- zo5 ws v k (by omega)];exact hall
    clear hall hc
    go_wp2
    go_ret;exact⟨_,rfl,by rw[HA.o];rfl,rfl⟩
theorem zmc (a:OA)(cap:Nat)(ws:List BA)(v:BA)(w:World)(hw:zF w a ws) :
 Calls Tryz.prog 262 #[.l a ws.length cap,.s v] w fun e w'=>e=.returned (.bool (has ws v))/\w'=w:=by
 go_enter Tryz.func262,Tryz.ntmps262
 go_wp2_with (go_at_call 263;refine(zpK _ _ _ _ _ hw).mono ?_;rintro e w'⟨r,rfl,hr,rfl⟩)
 go_ret;exact⟨rfl,rfl⟩
theorem zg3 (nm:BA)(kd ls ms:Int)(a:OA)(cap:Nat)(ws:List BA)(to:BA)(rl:Int)(mu fx:Bool)(df wg:BA)(v:BA)(w:World)(hw:zF w a ws) :
 Calls Tryz.prog 260 #[.agg #[.s nm,.i kd,.i ls,.i ms,.l a ws.length cap,.s to,.i rl,.bool mu,.bool fx,.s df,.s wg],.s v] w
  fun e w'=>e=.returned (.bool (has ws v))/\Bw w w':=by
 go_enter Tryz.func260,Tryz.ntmps260
 go_wp2_with (go_at_call 262;refine(zmc _ _ _ _ _ (hw.mono (by exact bAl _ _))).mono ?_;rintro e w'⟨rfl,rfl⟩)
 go_ret;exact⟨rfl,bAl _ _⟩
theorem zgk (nm:BA)(kd ls ms:Int)(sl:Value)(to:BA)(rl:Int)(mu fx:Bool)(df wg:BA)(v:BA)(w:World)(hs:v.size<=maxLen) :
 Calls Tryz.prog 268 #[.agg #[.s nm,.i kd,.i ls,.i ms,sl,.s to,.i rl,.bool mu,.bool fx,.s df,.s wg],.s v] w
  fun e w'=>e=.returned (.bool (zy v))/\Bw w w':=by
 go_enter Tryz.func268,Tryz.ntmps268
 go_wp2_with (go_at_call 161;refine(zH _ _ hs).mono ?_;rintro e w'⟨rfl,rfl⟩)
 go_ret;exact⟨rfl,bAl _ _⟩
theorem zgv (nm:BA)(kd ls ms:Int)(sl:Value)(to:BA)(rl:Int)(mu fx:Bool)(df wg:BA)(s:BA)(w:World)(hs:s.size<=maxLen) :
 Calls Tryz.prog 265 #[.agg #[.s nm,.i kd,.i ls,.i ms,sl,.s to,.i rl,.bool mu,.bool fx,.s df,.s wg],.s s] w
  fun e w'=>e=.returned (.bool (zbA ls ms s))/\Bw w w':=by
 unfold maxLen at hs
 by_cases h1:(s.size:Int)<ls
 ·go_enter Tryz.func265,Tryz.ntmps265
  go_wp2
  go_ret;refine⟨ze ?_,bAl _ _⟩;unfold zbA;rw[decide_eq_false (by omega)];rfl
 ·by_cases h2:ms<(s.size:Int)
  ·go_enter Tryz.func265,Tryz.ntmps265
   go_wp2
   go_ret;refine⟨ze ?_,bAl _ _⟩;unfold zbA;rw[decide_eq_false (show ¬(s.size:Int)<=ms by omega)];simp
  ·have HF:Hid (zbA ls ms s=zby s):=by
    unfold zbA;rw[decide_eq_true (show ls<=s.size by omega),decide_eq_true (show(s.size:Int)<=ms by omega)];simp[Hid]
   go_enter Tryz.func265,Tryz.ntmps265
   go_wp2
   go_loop [20] (fun i=>∃k:Nat,k<=s.size/\i=.i k/\(s.data.toList.take k).all y8=true) (fun i=>s.size-(intOf i).toNat)
   case atStart=>exact⟨0,Nat.zero_le _,rfl,rfl⟩
   case round=>
    obtain⟨k,hk,rfl,hall⟩:=hrel
    by_cases hlt:k<s.size
    ·have HS:Hid ((s.data.toList.take (k+1)).all y8=(true&&y8 s[k])):=by rw[zaP _ s k hlt,hall];rfl
     have HN:Hid (y8 s[k]=false->zby s=false):=fun h=>zb3 y8 s k hlt h
     clear hall
     by_cases h33:(s[k].toNat:Int)<33
     ·have HC:Hid (y8 s[k]=false):=by simp[y8,Hid];omega
      go_wp2
      go_ret;exact⟨ze (HF.o.trans (HN.o HC.o)).symm,bAl _ _⟩
     ·by_cases h126:126<(s[k].toNat:Int)
      ·have HC:Hid (y8 s[k]=false):=by simp[y8,Hid];omega
       go_wp2
       go_ret;exact⟨ze (HF.o.trans (HN.o HC.o)).symm,bAl _ _⟩
      ·have HC:Hid (y8 s[k]=true):=by simp[y8,Hid];omega
       go_wp2
       go_round
       case rel=>exact⟨k+1,by omega,by go_num,by rw[HS.o,HC.o];rfl⟩
       case measure=>simp[intOf];omega
    ·have HA:Hid (zby s=true):=by unfold zby Hid;rw[<- zao s k (by omega)];exact hall
     clear hall
     go_wp2
     go_ret;exact⟨ze (HF.o.trans HA.o).symm,bAl _ _⟩
theorem zaq (a:OA)(cap:Nat)(ws:List BA)(w:World)(hw:zF w a ws) :
 Calls Tryz.prog 145 #[.l a ws.length cap] w fun e w'=>e=.returned (.bool (asc ws))/\∃n,w'=w.drewN n:=by
 have hl:=hw.len;unfold maxLen at hl;go_enter Tryz.func145,Tryz.ntmps145
 go_wp2
 go_loopw [3] (fun i wr=>∃k:Nat,k<=ws.length/\i=.i k/\up (zdR ws) k=true/\∃n,wr=w.drewN n) (fun i _=>ws.length-(intOf i).toNat)
 case atStart=>exact⟨0,Nat.zero_le _,rfl,rfl,0,rfl⟩
 case round=>
  obtain⟨k,hk,rfl,hup,hwr⟩:=hrel;have HW:Hid (∃n,wr=w.drewN n):=hwr
  by_cases hlt:k<ws.length
  ·obtain⟨b,off,rfl,hb,hc0⟩:=hw.cells (by rintro rfl;simp at hlt)
   have hc:∀i (h:i<ws.length),wr.cell? (aD b (off+i))=some (.s ws[i]):=by obtain⟨n,rfl⟩:=hwr;exact hc0
   have hsm:=hw.small _ (List.getElem_mem hlt);clear hw hc0 hwr;have hck:=hc k hlt;have hltI:(k:Int)<(ws.length:Int):=by omega
   by_cases hn:zy ws[k]=true
   ·have hn':=hn
    by_cases hk0:k=0
    ·have HF:Hid (up (zdR ws) (k+1)=true):=by subst hk0;unfold Hid;rw[q8,zic hlt hn];rfl
     have hg:decide (0<k)=false:=by simp;omega
     clear hn hc hup hk0
     go_wp2
     go_quiet ((go_at_call 114;exact Calls.quiet_of_same (zf hn' (zk _ _ hsm))))
     go_wp2
     obtain⟨n,rfl⟩:=HW.o;exact⟨⟨k+1,by omega,by go_num,HF.o,n+nq,by simp⟩,by simp[intOf];omega⟩
    ·obtain⟨m,rfl⟩:∃m,k=m+1:=⟨k-1,by omega⟩
     have hcm:=hc m (by omega);have HU:Hid (up (zdR ws) (m+1+1)=less ws[m] ws[m+1]):=by unfold Hid;rw[q8,hup,zdZ hlt hn];rfl
     have HN:Hid (less ws[m] ws[m+1]=false->asc ws=false):=fun h=>zaH hlt (by rw[zdZ hlt hn];exact h)
     clear hn hc hup hk0
     by_cases hls:less ws[m] ws[m+1]=true
     ·have hls':Op.bytesLess ws[m].toList ws[m+1].toList=true:=hls
      have HLS:Hid (less ws[m] ws[m+1]=true):=hls;clear hls
      go_wp2
      go_quiet ((go_at_call 114;exact Calls.quiet_of_same (zf hn' (zk _ _ hsm))))
      go_wp2
      obtain⟨n,rfl⟩:=HW.o;exact⟨⟨m+1+1,by omega,by go_num,by rw[HU.o,HLS.o],n+nq,by simp⟩,by simp[intOf];omega⟩
     ·have hls':Op.bytesLess ws[m].toList ws[m+1].toList=false:=by simpa[less] using hls
      have HLS:Hid (less ws[m] ws[m+1]=false):=hls';clear hls
      go_wp2
      go_quiet ((go_at_call 114;exact Calls.quiet_of_same (zf hn' (zk _ _ hsm))))
      go_wp2
      go_ret;refine⟨ze (HN.o HLS.o).symm,?_⟩;obtain⟨n,rfl⟩:=HW.o;exact⟨n+nq,by simp⟩
   ·have hn':zy ws[k]=false:=by simpa using hn
    have HF:Hid (asc ws=false):=zaH hlt (zjc hlt hn');clear hn hc hup
    go_wp2
    go_quiet ((go_at_call 114;exact Calls.quiet_of_same (zf hn' (zk _ _ hsm))))
    go_wp2
    go_ret;refine⟨ze HF.o.symm,?_⟩;obtain⟨n,rfl⟩:=HW.o;exact⟨n+nq,by simp⟩
  ·have HF:Hid (asc ws=true):=by
    have e:k=ws.length:=by omega
    subst e;exact hup
   clear hw hup hwr
   go_wp2
   go_ret;exact⟨ze HF.o.symm,HW.o⟩
theorem zft (b off cap:Nat)(ws:List BA)(w:World)(hw:zF w (some (aD b off)) ws)(hl:ws.length<=1048576) :
 Calls Tryz.prog 130 #[.l (some (aD b off)) ws.length cap] w
  fun e w'=>∃v,e=.returned v/\w'.ownsRow w.heap.size 9 1 v ws.length (ws.map Value.string)/\Bw w w':=by
 obtain⟨i0,hi,hz0,hz1,hz2⟩:=info_parts Tryz.zc2
 have hnews:∀j u,(ws.map Value.string)[j]?=some u->w.cell? (((aD b off):Addr).add j)=some u:=by
  intro j u hj
  have hlt:j<ws.length:=by
   have:=(List.getElem?_eq_some_iff.1 hj).1;simpa using this
  obtain⟨b',off',he,hb,hc⟩:=hw.cells (by rintro rfl;simp at hlt);simp only[Option.some.injEq,Addr.mk.injEq]at he;obtain⟨rfl,rfl,_⟩:=he;have h1:=hc j hlt
  have e1:((aD b off):Addr).add j=(aD b (off+j)):=by
   unfold Addr.add;split
   ·rename_i h;subst h;simp
   ·rfl
  rw[e1,h1];rw[List.getElem?_map,List.getElem?_eq_getElem hlt]at hj
  simpa using hj
 have hone:∀u∈ws.map Value.string,u.oneCell'=true:=by
  intro u hu;simp only[List.mem_map]at hu;obtain⟨s,_,rfl⟩:=hu;rfl
 go_enter Tryz.func130,Tryz.ntmps130
 go_wp2_with (at_builtin;refine wpList_append_own _ rfl _ _ 106 rfl w.heap.size 9 i0 (.s ByteArray.empty) 1 16 Tryz.underlying106 hi hz0 hz1 hz2 rfl (by decide) (.l none 0 0) 0 [] rfl ⟨rfl,.inl ⟨rfl,rfl⟩⟩ (aD b off) ws.length cap (ws.map Value.string) rfl (by simp) hnews hone (by unfold maxLen;omega) (by omega) (Nat.le_refl _) ?_;intro v' w1 hown hgr _)
 simp only[Nat.zero_add,List.nil_append]at hown;go_ret;exact⟨v',rfl,hown,(bRf _ _).grown hgr (Nat.le_refl _) (by simp[Value.ownBlock])⟩
theorem jd (a0:OA)(cap0:Nat)(ss:List Shp)(o:Ob)(a a':OA)(cap cap':Nat)(w:World)(hw:yR w a0 ss)(_ho:jT w o a a')(hc:zB ss o=true) :
 Calls Tryz.prog 112 #[.l a0 ss.length cap0,.agg #[.s o.kd,.s o.nm,.s o.tm,.l a o.vs.length cap,.bool o.en,.l a' o.hs.length cap',.i o.vr]] w fun e w'=>∃fa fcap,e=.returned (.tuple #[.l fa (shapeOf ss o.kd).fs.length fcap,.bool true])/\yc w fa (shapeOf ss o.kd).fs/\Bw w w':=by
 unfold zB at hc;simp only[Bool.and_eq_true,decide_eq_true_eq]at hc;have HK:=hid hc.1;have HL:=hid hc.2;clear hc;have hl:=hw.len;unfold maxLen at hl;go_enter Tryz.func112,Tryz.ntmps112;go_wp2_with fail
 refine(jV _ _ _ _ _ (hw.mono (bAl _ _)) HK.o).mono ?_;rintro e w1⟨ix,hix,rfl,hsh,rfl⟩;have HSh:=hid hsh;clear hsh;obtain⟨b,off,rfl,hb,hr⟩:=hw.rows (by rintro rfl;simp at hix);obtain⟨fa,fcap,hs⟩:=hr ix hix;have hcl:=hs.list;have hfl:=hs.zdB;have hixI:(ix:Int)<(ss.length:Int):=by omega
 have hix0:decide ((ix:Int)<0)=false:=by simp
 have hneq:((ss[ix].fs.length:Int) != (o.vs.length:Int))=false:=by have h1:=HL.o;have h2:=HSh.o;rw[h2]at h1;simp[h1]
 have hbw:=hb;clear hr hs;go_wp2_with fail
 go_quiet (fail)
 go_wp2_with fail
 go_ret2
 rw[HSh.o];exact⟨fa,fcap,rfl,hfl,below_drewN (bAl _ _) _⟩
theorem zdg (a0:OA)(cap0:Nat)(ss:List Shp)(o:Ob)(a a':OA)(cap cap':Nat)(w:World)(hw:yR w a0 ss)(_ho:jT w o a a')(hc:zB ss o=false) :
 Calls Tryz.prog 112 #[.l a0 ss.length cap0,.agg #[.s o.kd,.s o.nm,.s o.tm,.l a o.vs.length cap,.bool o.en,.l a' o.hs.length cap',.i o.vr]] w fun e w'=>∃v,e=.returned (.tuple #[v,.bool false])/\Bw w w':=by
 have hl:=hw.len;unfold maxLen at hl
 by_cases hk:zJ ss o.kd=true
 ·have HK:=hid hk
  have HL:Hid (¬o.vs.length=(shapeOf ss o.kd).fs.length):=by unfold zB at hc;rw[hk]at hc;simpa[Hid] using hc
  clear hc hk;go_enter Tryz.func112,Tryz.ntmps112;go_wp2_with fail
  refine(jV _ _ _ _ _ (hw.mono (bAl _ _)) HK.o).mono ?_;rintro e w1⟨ix,hix,rfl,hsh,rfl⟩;have HSh:=hid hsh;clear hsh;obtain⟨b,off,rfl,hb,hr⟩:=hw.rows (by rintro rfl;simp at hix);obtain⟨fa,fcap,hs⟩:=hr ix hix;have hcl:=hs.list;have hixI:(ix:Int)<(ss.length:Int):=by omega
  have hix0:decide ((ix:Int)<0)=false:=by simp
  have hneq:((ss[ix].fs.length:Int) != (o.vs.length:Int))=true:=by have h1:=HL.o;have h2:=HSh.o;rw[h2]at h1;rw[bne_iff_ne];omega
  have hbw:=hb;clear hr hs;go_wp2_with fail
  go_quiet (fail)
  go_wp2_with fail
  go_ret2
  exact⟨_,rfl,below_drewN (zw _ _ _) _⟩
 ·have HK:Hid (zJ ss o.kd=false):=by simpa[Hid] using hk
  clear hc hk;go_enter Tryz.func112,Tryz.ntmps112;go_wp2_with fail
  refine(zeg _ _ _ _ _ (hw.mono (bAl _ _)) HK.o).mono ?_;rintro e w1⟨rfl,rfl⟩;go_wp2_with fail
  go_quiet (fail)
  go_wp2_with fail
  go_ret2
  exact⟨_,rfl,below_drewN (zw _ _ _) _⟩
end Go.Proofs.YtecncindgjdbiaaGreat
namespace Go.Proofs.YtecncindgjdbiaaGreat
open Go.ChangeShapes Go.WideShapes Go.ChangeAt Go.RowKit
theorem Tryz.zlu:Tryz.prog.cellsOf 104=2:=by kernel_rfl
section
variable {H:Type} {enc:TypeId × Value->H} {w:World} {base:Nat} {spare:Nat->Bool} {held:Bool}
theorem zpD {fuel:Nat}{cs:List Value}{x:DataW H × List MemPlace}(h:DataW.trod enc Tryz.prog w base spare held fuel 104 cs=some x) :
 ∃m:Tm,cs=m.cells.toList/\m.Small:=by
 have hlen:cs.length=2:=by
  obtain⟨_,_,_,_,hl,_,_⟩:=DataW.trod_struct Tryz.underlying104 h;rw[hl];exact Tryz.zlu
 match cs,hlen with
 | [c0,c1],_=>
  have hf:=zai Tryz.underlying104 h;obtain⟨_,_,f0⟩:=hf 0 9 0 c0 rfl Tryz.zS rfl;obtain⟨_,_,f1⟩:=hf 1 9 1 c1 rfl Tryz.zS rfl;obtain⟨x0,e0,_,s0⟩:=DataW.trod_string Tryz.underlying9 f0;obtain⟨x1,e1,_,s1⟩:=DataW.trod_string Tryz.underlying9 f1;simp only[List.cons.injEq,and_true]at e0 e1;subst e0 e1;exact⟨⟨x0,x1⟩,rfl,s0,s1⟩
theorem znX {fuel:Nat}{cs:List Value}{x:DataW H × List MemPlace}(h:DataW.trod enc Tryz.prog w base spare held fuel 24 cs=some x) :
 ∃a cap ts,cs=[.l a (List.length ts) cap]/\jQ w a ts:=by
 obtain⟨a,len,cap,rfl,hm,hr⟩:=zaV Tryz.underlying24 Tryz.zlu (by omega) h
 rcases Nat.eq_zero_or_pos len with h0|hp
 ·subst h0
  exact⟨a,cap,[],rfl,⟨by simp[maxLen],fun i h=>absurd h (by simp),fun h=>absurd rfl h⟩⟩
 ·obtain⟨b,off,rfl,hb,hrow⟩:=hr hp
  have hf:∀i,i<len->∃m:Tm,m.Small/\∀j,j<2->w.cell? (aD b (off+i*2+j))=m.cells[j]?:=by
   intro i hi;obtain⟨es,n,y,hel,hcell,hy⟩:=hrow i hi;obtain⟨m,rfl,hs⟩:=zpD hy;exact⟨m,hs,fun j hj=>by rw[hcell j hj];simp⟩
  obtain⟨ms,hl,hms⟩:=zb2 len hf;exact⟨_,cap,ms,by rw[hl],⟨by omega,fun i hi=>(hms i hi).1,fun _=>⟨b,off,rfl,hb,fun i hi=>(hms i hi).2⟩⟩⟩
end
end Go.Proofs.YtecncindgjdbiaaGreat
namespace Go.Proofs.YtecncindgjdbiaaGreat
open Go.ChangeShapes Go.WideShapes Go.ChangeAt Go.RowKit
theorem Tryz.zh9:Tryz.prog.cellsOf 108=7:=by kernel_rfl
theorem znx {H:Type}{enc:TypeId × Value->H}{w:World}{base:Nat}{spare:Nat->Bool}{held:Bool}{fuel:Nat}{cs:List Value}{x:DataW H × List MemPlace}
 (h:DataW.trod enc Tryz.prog w base spare held fuel 108 cs=some x) :
 ∃(o:Ob) (a a':OA) (cap cap':Nat),cs=[.s o.kd,.s o.nm,.s o.tm,.l a o.vs.length cap,.bool o.en,.l a' o.hs.length cap',.i o.vr]/\jT w o a a':=by
 have hlen:cs.length=7:=by
  obtain⟨_,_,_,_,hl,_,_⟩:=DataW.trod_struct Tryz.underlying108 h;rw[hl];exact Tryz.zh9
 match cs,hlen with
 | [c0,c1,c2,c3,c4,c5,c6],_=>
  have hf:=zai Tryz.underlying108 h;obtain⟨_,_,f0⟩:=hf 0 9 0 c0 rfl Tryz.zS rfl;obtain⟨_,_,f1⟩:=hf 1 9 1 c1 rfl Tryz.zS rfl;obtain⟨_,_,f2⟩:=hf 2 9 2 c2 rfl Tryz.zS rfl;obtain⟨_,_,f3⟩:=hf 3 106 3 c3 rfl Tryz.zdY rfl;obtain⟨_,_,f4⟩:=hf 4 4 4 c4 rfl Tryz.zhM rfl;obtain⟨_,_,f5⟩:=hf 5 106 5 c5 rfl Tryz.zdY rfl;obtain⟨_,_,f6⟩:=hf 6 3 6 c6 rfl Tryz.jX rfl;obtain⟨kd,e0,_,s0⟩:=DataW.trod_string Tryz.underlying9 f0;obtain⟨nm,e1,_,s1⟩:=DataW.trod_string Tryz.underlying9 f1;obtain⟨tm,e2,_,s2⟩:=DataW.trod_string Tryz.underlying9 f2;obtain⟨a,cap,vs,e3,hV⟩:=zhK Tryz.underlying106 Tryz.underlying9 Tryz.zS f3;obtain⟨en,e4,_⟩:=DataW.trod_bool Tryz.underlying4 f4;obtain⟨a',cap',hs,e5,hH⟩:=zhK Tryz.underlying106 Tryz.underlying9 Tryz.zS f5;obtain⟨vr,e6,_,_⟩:=DataW.trod_int Tryz.underlying3 f6;simp only[List.cons.injEq,and_true]at e0 e1 e2 e3 e4 e5 e6;subst e0 e1 e2 e3 e4 e5 e6;exact⟨⟨kd,nm,tm,vs,en,hs,vr⟩,a,a',cap,cap',rfl,⟨⟨s0,s1,s2⟩,hV,hH⟩⟩
end Go.Proofs.YtecncindgjdbiaaGreat
