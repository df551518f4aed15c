import Derived.Test.YtcgpjfcocmcodaaGreatM07
set_option maxHeartbeats 2000000
namespace Go.Proofs.YtcgpjfcocmcodaaGreat
open Go.RowKit
theorem zjN (a:OA)(cap:Nat)(ws:List BA)(w:World)(hw:zG w a ws) :
 Calls Tryz.prog 234 #[.l a ws.length cap] w fun e w'=>e=.returned (.bool (asc ws))/\w'=w:=by
 have hl:=hw.len;unfold maxLen at hl;go_enter Tryz.func234,Tryz.ntmps234
 go_wp2
 go_loop [7] (fun i=>∃k:Nat,k<=ws.length/\i=.i k/\up (zdO ws) k=true) (fun i=>ws.length-(intOf i).toNat)
 case atStart=>exact⟨0,Nat.zero_le _,rfl,rfl⟩
 case round=>
  obtain⟨k,hk,rfl,hup⟩:=hrel
  by_cases hlt:k<ws.length
  ·obtain⟨b,off,rfl,hb,hc⟩:=hw.cells (by rintro rfl;simp at hlt)
   have hsm:=hw.small _ (List.getElem_mem hlt);clear hw;have hck:=hc k hlt
   by_cases hn:zx ws[k]=true
   ·by_cases hk0:k=0
    ·have HF:Hid (up (zdO ws) (k+1)=true):=by subst hk0;unfold Hid;rw[q8,zia hlt hn];rfl
     have hg:decide (0<k)=false:=by simp;omega
     have HN:Hid (zx ws[k]=true):=hn;clear hn hc hup hk0
     go_wp2_with (go_at_call 40;refine(zf HN.o (zH _ _ hsm)).mono ?_;rintro e w'⟨rfl,rfl⟩)
     go_round
     case rel=>exact⟨k+1,by omega,by go_num,HF.o⟩
     case measure=>simp[intOf];omega
    ·obtain⟨m,rfl⟩:∃m,k=m+1:=⟨k-1,by omega⟩
     have hcm:=hc m (by omega);have HU:Hid (up (zdO ws) (m+1+1)=less ws[m] ws[m+1]):=by unfold Hid;rw[q8,hup,zd3 hlt hn];rfl
     have HNN:Hid (less ws[m] ws[m+1]=false->asc ws=false):=fun h=>zaK hlt (by rw[zd3 hlt hn];exact h)
     have HN:Hid (zx ws[m+1]=true):=hn;clear hn hc hup hk0
     by_cases hls:less ws[m] ws[m+1]=true
     ·have hls':Op.bytesLess ws[m].toList ws[m+1].toList=true:=hls
      have HLS:Hid (less ws[m] ws[m+1]=true):=hls;clear hls
      go_wp2_with (go_at_call 40;refine(zf HN.o (zH _ _ hsm)).mono ?_;rintro e w'⟨rfl,rfl⟩)
      go_round
      case rel=>exact⟨m+1+1,by omega,by go_num,by rw[HU.o,HLS.o]⟩
      case measure=>simp[intOf];omega
     ·have hls':Op.bytesLess ws[m].toList ws[m+1].toList=false:=by simpa[less] using hls
      have HLS:Hid (less ws[m] ws[m+1]=false):=hls';clear hls
      go_wp2_with (go_at_call 40;refine(zf HN.o (zH _ _ hsm)).mono ?_;rintro e w'⟨rfl,rfl⟩)
      go_ret;exact⟨ze (HNN.o HLS.o).symm,rfl⟩
   ·have hn':zx ws[k]=false:=by simpa using hn
    have HF:Hid (asc ws=false):=zaK hlt (zjT hlt hn');have HN:Hid (zx ws[k]=false):=hn';clear hn hn' hc hup
    go_wp2_with (go_at_call 40;refine(zf HN.o (zH _ _ hsm)).mono ?_;rintro e w'⟨rfl,rfl⟩)
    go_ret;exact⟨ze HF.o.symm,rfl⟩
  ·have HF:Hid (asc ws=true):=by
    have e:k=ws.length:=by omega
    subst e;exact hup
   clear hw hup
   go_wp2
   go_ret;exact⟨ze HF.o.symm,rfl⟩
theorem zpW (a:OA)(cap:Nat)(ws:List BA)(v:BA)(w:World)(hw:zG w a ws) :
 Calls Tryz.prog 262 #[.l a ws.length cap,.s v] w fun e w'=>∃r:Int,e=.returned (.i r)/\decide (0<=r)=has ws v/\w'=w:=by
 have hl:=hw.len;unfold maxLen at hl
 by_cases hne:ws=[]
 ·subst hne
  go_enter Tryz.func262,Tryz.ntmps262
  go_wp2
  go_loop [8] (fun i=>i=.i 0) (fun i=>0)
  case atStart=>rfl
  case round=>
   subst hrel
   go_wp2
   go_ret;exact⟨_,rfl,rfl,rfl⟩
 ·obtain⟨b,off,rfl,hb,hc⟩:=hw.cells hne
  clear hw;have HL:Hid (0<ws.length):=List.length_pos_iff.2 hne;clear hne;go_enter Tryz.func262,Tryz.ntmps262
  go_wp2
  go_loop [8] (fun i=>∃k:Nat,k<=ws.length/\i=.i k/\has (ws.take k) v=false) (fun i=>ws.length-(intOf i).toNat)
  case atStart=>exact⟨0,Nat.zero_le _,rfl,rfl⟩
  case round=>
   obtain⟨k,hk,rfl,hall⟩:=hrel
   by_cases hlt:k<ws.length
   ·have hck:=hc k hlt
    clear hc;have HS:Hid (has (ws.take (k+1)) v=(false||decide (ws[k]=v))):=by rw[zmL ws v k hlt,hall];rfl
    have HN:Hid (ws[k]=v->has ws v=true):=fun h=>zqS ws v k hlt h
    clear hall
    by_cases he:ws[k]=v
    ·have hbe:(v.toList == ws[k].toList)=true:=by rw[beq_toList];simpa using he.symm
     have HE:Hid (ws[k]=v):=he;clear he
     go_wp2
     go_ret;exact⟨_,rfl,by rw[HN.o HE.o];simp,rfl⟩
    ·have hbe:(v.toList == ws[k].toList)=false:=by rw[beq_toList];simpa using fun h=>he h.symm
     have HE:Hid (¬ws[k]=v):=he;clear he
     go_wp2
     go_round
     case rel=>exact⟨k+1,by omega,by go_num,by rw[HS.o,decide_eq_false HE.o];rfl⟩
     case measure=>simp[intOf];omega
   ·have HA:Hid (has ws v=false):=by rw[<- zpw ws v k (by omega)];exact hall
    clear hall hc
    go_wp2
    go_ret;exact⟨_,rfl,by rw[HA.o];rfl,rfl⟩
theorem zl0 (a:OA)(cap:Nat)(ws:List BA)(v:BA)(w:World)(hw:zG w a ws) :
 Calls Tryz.prog 261 #[.l a ws.length cap,.s v] w fun e w'=>e=.returned (.bool (has ws v))/\w'=w:=by
 go_enter Tryz.func261,Tryz.ntmps261
 go_wp2_with (go_at_call 262;refine(zpW _ _ _ _ _ hw).mono ?_;rintro e w'⟨r,rfl,hr,rfl⟩)
 go_ret;exact⟨rfl,rfl⟩
theorem zgN (nm:BA)(kd ls ms:Int)(a:OA)(cap:Nat)(ws:List BA)(to:BA)(rl:Int)(mu fx:Bool)(df wg:BA)(v:BA)(w:World)(hw:zG w a ws) :
 Calls Tryz.prog 259 #[.agg #[.s nm,.i kd,.i ls,.i ms,.l a ws.length cap,.s to,.i rl,.bool mu,.bool fx,.s df,.s wg],.s v] w
  fun e w'=>e=.returned (.bool (has ws v))/\Bw w w':=by
 go_enter Tryz.func259,Tryz.ntmps259
 go_wp2_with (go_at_call 261;refine(zl0 _ _ _ _ _ (hw.mono (by exact bAl _ _))).mono ?_;rintro e w'⟨rfl,rfl⟩)
 go_ret;exact⟨rfl,bAl _ _⟩
theorem zgu (nm:BA)(kd ls ms:Int)(sl:Value)(to:BA)(rl:Int)(mu fx:Bool)(df wg:BA)(v:BA)(w:World)(hs:v.size<=maxLen) :
 Calls Tryz.prog 267 #[.agg #[.s nm,.i kd,.i ls,.i ms,sl,.s to,.i rl,.bool mu,.bool fx,.s df,.s wg],.s v] w
  fun e w'=>e=.returned (.bool (zx v))/\Bw w w':=by
 go_enter Tryz.func267,Tryz.ntmps267
 go_wp2_with (go_at_call 40;refine(zH _ _ hs).mono ?_;rintro e w'⟨rfl,rfl⟩)
 go_ret;exact⟨rfl,bAl _ _⟩
theorem zg5 (nm:BA)(kd ls ms:Int)(sl:Value)(to:BA)(rl:Int)(mu fx:Bool)(df wg:BA)(s:BA)(w:World)(hs:s.size<=maxLen) :
 Calls Tryz.prog 264 #[.agg #[.s nm,.i kd,.i ls,.i ms,sl,.s to,.i rl,.bool mu,.bool fx,.s df,.s wg],.s s] w
  fun e w'=>e=.returned (.bool (zbJ ls ms s))/\Bw w w':=by
 unfold maxLen at hs
 by_cases h1:(s.size:Int)<ls
 ·go_enter Tryz.func264,Tryz.ntmps264
  go_wp2
  go_ret;refine⟨ze ?_,bAl _ _⟩;unfold zbJ;rw[decide_eq_false (by omega)];rfl
 ·by_cases h2:ms<(s.size:Int)
  ·go_enter Tryz.func264,Tryz.ntmps264
   go_wp2
   go_ret;refine⟨ze ?_,bAl _ _⟩;unfold zbJ;rw[decide_eq_false (show ¬(s.size:Int)<=ms by omega)];simp
  ·have HF:Hid (zbJ ls ms s=zbP s):=by
    unfold zbJ;rw[decide_eq_true (show ls<=s.size by omega),decide_eq_true (show(s.size:Int)<=ms by omega)];simp[Hid]
   go_enter Tryz.func264,Tryz.ntmps264
   go_wp2
   go_loop [20] (fun i=>∃k:Nat,k<=s.size/\i=.i k/\(s.data.toList.take k).all qj=true) (fun i=>s.size-(intOf i).toNat)
   case atStart=>exact⟨0,Nat.zero_le _,rfl,rfl⟩
   case round=>
    obtain⟨k,hk,rfl,hall⟩:=hrel
    by_cases hlt:k<s.size
    ·have HS:Hid ((s.data.toList.take (k+1)).all qj=(true&&qj s[k])):=by rw[zaU _ s k hlt,hall];rfl
     have HN:Hid (qj s[k]=false->zbP s=false):=fun h=>zb4 qj s k hlt h
     clear hall
     by_cases h33:(s[k].toNat:Int)<33
     ·have HC:Hid (qj s[k]=false):=by simp[qj,Hid];omega
      go_wp2
      go_ret;exact⟨ze (HF.o.trans (HN.o HC.o)).symm,bAl _ _⟩
     ·by_cases h126:126<(s[k].toNat:Int)
      ·have HC:Hid (qj s[k]=false):=by simp[qj,Hid];omega
       go_wp2
       go_ret;exact⟨ze (HF.o.trans (HN.o HC.o)).symm,bAl _ _⟩
      ·have HC:Hid (qj s[k]=true):=by simp[qj,Hid];omega
       go_wp2
       go_round
       case rel=>exact⟨k+1,by omega,by go_num,by rw[HS.o,HC.o];rfl⟩
       case measure=>simp[intOf];omega
    ·have HA:Hid (zbP s=true):=by unfold zbP Hid;rw[<- zat s k (by omega)];exact hall
     clear hall
     go_wp2
     go_ret;exact⟨ze (HF.o.trans HA.o).symm,bAl _ _⟩
theorem zas (a:OA)(cap:Nat)(ws:List BA)(w:World)(hw:zG w a ws) :
 Calls Tryz.prog 158 #[.l a ws.length cap] w fun e w'=>e=.returned (.bool (asc ws))/\∃n,w'=w.drewN n:=by
 have hl:=hw.len;unfold maxLen at hl;go_enter Tryz.func158,Tryz.ntmps158
 go_wp2
 go_loopw [3] (fun i wr=>∃k:Nat,k<=ws.length/\i=.i k/\up (zdO ws) k=true/\∃n,wr=w.drewN n) (fun i _=>ws.length-(intOf i).toNat)
 case atStart=>exact⟨0,Nat.zero_le _,rfl,rfl,0,rfl⟩
 case round=>
  obtain⟨k,hk,rfl,hup,hwr⟩:=hrel;have HW:Hid (∃n,wr=w.drewN n):=hwr
  by_cases hlt:k<ws.length
  ·obtain⟨b,off,rfl,hb,hc0⟩:=hw.cells (by rintro rfl;simp at hlt)
   have hc:∀i (h:i<ws.length),wr.cell? (aD b (off+i))=some (.s ws[i]):=by obtain⟨n,rfl⟩:=hwr;exact hc0
   have hsm:=hw.small _ (List.getElem_mem hlt);clear hw hc0 hwr;have hck:=hc k hlt;have hltI:(k:Int)<(ws.length:Int):=by omega
   by_cases hn:zx ws[k]=true
   ·have hn':=hn
    by_cases hk0:k=0
    ·have HF:Hid (up (zdO ws) (k+1)=true):=by subst hk0;unfold Hid;rw[q8,zia hlt hn];rfl
     have hg:decide (0<k)=false:=by simp;omega
     clear hn hc hup hk0
     go_wp2
     go_quiet ((go_at_call 25;exact Calls.quiet_of_same (zf hn' (zk _ _ hsm))))
     go_wp2
     obtain⟨n,rfl⟩:=HW.o;exact⟨⟨k+1,by omega,by go_num,HF.o,n+nq,by simp⟩,by simp[intOf];omega⟩
    ·obtain⟨m,rfl⟩:∃m,k=m+1:=⟨k-1,by omega⟩
     have hcm:=hc m (by omega);have HU:Hid (up (zdO ws) (m+1+1)=less ws[m] ws[m+1]):=by unfold Hid;rw[q8,hup,zd3 hlt hn];rfl
     have HN:Hid (less ws[m] ws[m+1]=false->asc ws=false):=fun h=>zaK hlt (by rw[zd3 hlt hn];exact h)
     clear hn hc hup hk0
     by_cases hls:less ws[m] ws[m+1]=true
     ·have hls':Op.bytesLess ws[m].toList ws[m+1].toList=true:=hls
      have HLS:Hid (less ws[m] ws[m+1]=true):=hls;clear hls
      go_wp2
      go_quiet ((go_at_call 25;exact Calls.quiet_of_same (zf hn' (zk _ _ hsm))))
      go_wp2
      obtain⟨n,rfl⟩:=HW.o;exact⟨⟨m+1+1,by omega,by go_num,by rw[HU.o,HLS.o],n+nq,by simp⟩,by simp[intOf];omega⟩
     ·have hls':Op.bytesLess ws[m].toList ws[m+1].toList=false:=by simpa[less] using hls
      have HLS:Hid (less ws[m] ws[m+1]=false):=hls';clear hls
      go_wp2
      go_quiet ((go_at_call 25;exact Calls.quiet_of_same (zf hn' (zk _ _ hsm))))
      go_wp2
      go_ret;refine⟨ze (HN.o HLS.o).symm,?_⟩;obtain⟨n,rfl⟩:=HW.o;exact⟨n+nq,by simp⟩
   ·have hn':zx ws[k]=false:=by simpa using hn
    have HF:Hid (asc ws=false):=zaK hlt (zjT hlt hn');clear hn hc hup
    go_wp2
    go_quiet ((go_at_call 25;exact Calls.quiet_of_same (zf hn' (zk _ _ hsm))))
    go_wp2
    go_ret;refine⟨ze HF.o.symm,?_⟩;obtain⟨n,rfl⟩:=HW.o;exact⟨n+nq,by simp⟩
  ·have HF:Hid (asc ws=true):=by
    have e:k=ws.length:=by omega
    subst e;exact hup
   clear hw hup hwr
   go_wp2
   go_ret;exact⟨ze HF.o.symm,HW.o⟩
theorem zfN (b off cap:Nat)(ws:List BA)(w:World)(hw:zG w (some (aD b off)) ws)(hl:ws.length<=1048576) :
 Calls Tryz.prog 139 #[.l (some (aD b off)) ws.length cap] w
  fun e w'=>∃v,e=.returned v/\w'.ownsRow w.heap.size 9 1 v ws.length (ws.map Value.string)/\Bw w w':=by
 obtain⟨i0,hi,hz0,hz1,hz2⟩:=info_parts Tryz.zcV
 have hnews:∀j u,(ws.map Value.string)[j]?=some u->w.cell? (((aD b off):Addr).add j)=some u:=by
  intro j u hj
  have hlt:j<ws.length:=by
   have:=(List.getElem?_eq_some_iff.1 hj).1;simpa using this
  obtain⟨b',off',he,hb,hc⟩:=hw.cells (by rintro rfl;simp at hlt);simp only[Option.some.injEq,Addr.mk.injEq]at he;obtain⟨rfl,rfl,_⟩:=he;have h1:=hc j hlt
  have e1:((aD b off):Addr).add j=(aD b (off+j)):=by
   unfold Addr.add;split
   ·rename_i h;subst h;simp
   ·rfl
  rw[e1,h1];rw[List.getElem?_map,List.getElem?_eq_getElem hlt]at hj
  simpa using hj
 have hone:∀u∈ws.map Value.string,u.oneCell'=true:=by
  intro u hu;simp only[List.mem_map]at hu;obtain⟨s,_,rfl⟩:=hu;rfl
 go_enter Tryz.func139,Tryz.ntmps139
 go_wp2_with (at_builtin;refine wpList_append_own _ rfl _ _ 105 rfl w.heap.size 9 i0 (.s ByteArray.empty) 1 16 Tryz.underlying105 hi hz0 hz1 hz2 rfl (by decide) (.l none 0 0) 0 [] rfl ⟨rfl,.inl ⟨rfl,rfl⟩⟩ (aD b off) ws.length cap (ws.map Value.string) rfl (by simp) hnews hone (by unfold maxLen;omega) (by omega) (Nat.le_refl _) ?_;intro v' w1 hown hgr _)
 simp only[Nat.zero_add,List.nil_append]at hown;go_ret;exact⟨v',rfl,hown,(bRf _ _).grown hgr (Nat.le_refl _) (by simp[Value.ownBlock])⟩
def Mnd.sz (m:Mnd):Nat:=m.kd.size+m.fd.size+m.wh.size+m.wi.size+m.pt.size+m.fr.size
def ziP (ms:List Mnd):Nat:=(ms.map Mnd.sz).sum
def zbm (ms:List Mnd):Nat:=ms.length+ziP ms
theorem ze2 (m:Mnd)(left:Int)(w:World)(hm:m.Small)(h0:0<=left)(h1:left<=1048576) :
 Calls Tryz.prog 63 #[.agg m.cells,.i left] w fun e w'=>e=.returned (.i (zL m.sz left))/\Bw w w':=by
 have k1:=hm.kd;have k2:=hm.fd;have k3:=hm.wh;have k4:=hm.wi;have k5:=hm.pt;have k6:=hm.fr;unfold maxLen at k1 k2 k3 k4 k5 k6;unfold Mnd.cells;have hB:∀ob,Bw w (w.alloc ob):=fun ob=>bAl _ _
 by_cases hf:(m.sz:Int)<=left
 ·have HF:Hid (zL m.sz left=left-m.kd.size-m.fd.size-m.wh.size-m.wi.size-m.pt.size-m.fr.size):=by
   unfold Hid;rw[zM hf];unfold Mnd.sz;omega
  unfold Mnd.sz at hf;go_enter Tryz.func63,Tryz.ntmps63;go_wp2_with fail
  go_ret;exact⟨zo HF.o.symm,hB _⟩
 ·have HF:Hid (zL m.sz left=-1):=zC hf
  have HN:Hid (¬((m.kd.size+m.fd.size+m.wh.size+m.wi.size+m.pt.size+m.fr.size:Nat):Int)<=left):=hf;clear hf;go_enter Tryz.func63,Tryz.ntmps63;go_wp2_with fail
  all_goals go_ret
  all_goals first|exact⟨zo HF.o.symm,hB _⟩|(exfalso;have:=HN.o;simp at *;omega)
theorem zjA (m:Mnd)(left:Int)(w:World)(hm:m.Small)(h0:0<=left)(h1:left<=1048576)(h:(m.sz:Int)<=left) :
 Calls Tryz.prog 63 #[.agg m.cells,.i left] w fun e w'=>e=.returned (.i (left-m.sz))/\Bw w w':=by
 refine(ze2 m left w hm h0 h1).mono ?_;rintro e w'⟨rfl,hb⟩;exact⟨zo (zM h),hb⟩
theorem zkM (m:Mnd)(left:Int)(w:World)(hm:m.Small)(h0:0<=left)(h1:left<=1048576)(h:¬(m.sz:Int)<=left) :
 Calls Tryz.prog 63 #[.agg m.cells,.i left] w fun e w'=>e=.returned (.i (-1))/\Bw w w':=by
 refine(ze2 m left w hm h0 h1).mono ?_;rintro e w'⟨rfl,hb⟩;exact⟨zo (zC h),hb⟩
theorem ziX (a:OA)(cap:Nat)(ms:List Mnd)(left:Int)(w:World)(hw:qL w a ms)(h0:0<=left)(h1:left<=1048576) :
 Calls Tryz.prog 16 #[.l a ms.length cap,.i left] w fun e w'=>e=.returned (.i (zL (zbm ms) left))/\Bw w w':=by
 have hl:=hw.len;unfold maxLen at hl
 by_cases hfit:(ms.length:Int)<=left
 ·go_enter Tryz.func16,Tryz.ntmps16
  go_wp2_with fail
  go_loopw [1,5] (fun l i wr=>∃k:Nat,k<=ms.length/\i=.i k/\0<=left-ms.length-ziP (ms.take k)/\l=.i (left-ms.length-ziP (ms.take k))/\Bw w wr) (fun _ i _=>ms.length-(intOf i).toNat)
  case atStart=>exact⟨0,Nat.zero_le _,rfl,by simp[ziP];omega,by simp[ziP],bRf _ _⟩
  case round=>
   obtain⟨k,hk,rfl,hpos,rfl,hB⟩:=hrel
   by_cases hlt:k<ms.length
   ·obtain⟨b,off,rfl,hb,c0,c1,c2,c3,c4,c5⟩:=hw.load hB k hlt
    have hsm:=hw.small k hlt;have HS:Hid (ziP (ms.take (k+1))=ziP (ms.take k)+ms[k].sz):=za7 Mnd.sz ms k hlt;have hle:ziP (ms.take (k+1))<=ziP ms:=zcX Mnd.sz ms (k+1);clear hw
    by_cases hneg:(ms[k].sz:Int)<=left-ms.length-ziP (ms.take k)
    ·have HNG:Hid ((ms[k].sz:Int)<=left-ms.length-ziP (ms.take k)):=hneg
     clear hle;go_wp2_with fail
     refine(zjA _ _ _ hsm hpos (by omega) HNG.o).mono ?_;rintro e w1⟨rfl,hb1⟩;have hB1:=hB.trans (hb1.mono hB.size);clear hb1;go_wp2_with fail
     exact⟨⟨k+1,by omega,by go_num,by rw[HS.o];omega,by rw[HS.o];congr 1;omega,hB1⟩,by simp[intOf];omega⟩
    ·have HF:Hid (zL (zbm ms) left=-1):=zC (by have:=HS.o;unfold zbm;omega)
     have HNG:=hid hneg;clear hneg hle;go_wp2_with fail
     refine(zkM _ _ _ hsm hpos (by omega) (by have:=HNG.o;omega)).mono ?_;rintro e w1⟨rfl,hb1⟩;have hB1:=hB.trans (hb1.mono hB.size);clear hb1;go_wp2_with fail
     go_ret;exact⟨zo HF.o.symm,hB1⟩
   ·have HF:Hid (zL (zbm ms) left=left-ms.length-ziP (ms.take k)):=by
     rw[tOl (by omega)]at hpos ⊢;have e:zL (zbm ms) left=left-zbm ms:=zM (by unfold zbm;omega);unfold Hid;rw[e];unfold zbm;omega
    clear hw
    go_wp2
    go_ret;exact⟨zo HF.o.symm,hB⟩
 ·have HF:Hid (zL (zbm ms) left=-1):=zC (by unfold zbm;omega)
  clear hw;go_enter Tryz.func16,Tryz.ntmps16
  go_wp2
  go_ret;exact⟨zo HF.o.symm,bRf _ _⟩
theorem zjL (m:Mnd)(w:World):Calls Tryz.prog 105 #[.agg m.cells,.agg m.cells] w fun e w'=>e=.returned (.bool true)/\Bw w w':=by
 unfold Mnd.cells;go_enter Tryz.func105,Tryz.ntmps105;go_wp2_with fail
 go_ret;exact⟨rfl,zw _ _ _⟩
theorem zi2 (a a':OA)(cap cap':Nat)(ms:List Mnd)(w:World)(hw:qL w a ms)(hw':qL w a' ms) :
 Calls Tryz.prog 49 #[.l a ms.length cap,.l a' ms.length cap'] w fun e w'=>e=.returned (.bool true)/\Bw w w':=by
 have hl:=hw.len;unfold maxLen at hl;have hnn:((ms.length:Int) != ms.length)=false:=by simp
 go_enter Tryz.func49,Tryz.ntmps49;go_wp2_with fail
 go_loopw [5] (fun i wr=>∃k:Nat,k<=ms.length/\i=.i k/\Bw w wr) (fun i _=>ms.length-(intOf i).toNat)
 case atStart=>exact⟨0,Nat.zero_le _,rfl,bRf _ _⟩
 case round=>
  obtain⟨k,hk,rfl,hB⟩:=hrel
  by_cases hlt:k<ms.length
  ·obtain⟨b,off,rfl,hb,c0,c1,c2,c3,c4,c5⟩:=hw.load hB k hlt
   obtain⟨b',off',rfl,hb',d0,d1,d2,d3,d4,d5⟩:=hw'.load hB k hlt;have hltI:(k:Int)<(ms.length:Int):=by omega
   clear hw hw';go_wp2_with fail
   go_region_with (go_at_call 105;refine(zjL ms[k] _).mono ?_;rintro e w1⟨rfl,hb1'⟩;have hb1:=(bRf wr.heap.size wr).drew.trans hb1';clear hb1')
   all_goals go_wp2_with fail
   all_goals exact⟨⟨k+1,by omega,by go_num,hB.trans (hb1.mono hB.size)⟩,by simp[intOf];omega⟩
  ·clear hw hw'
   go_wp2_with fail
   go_ret;exact⟨rfl,hB⟩
structure jd (lo:Nat)(w:World)(bo:Nat)(ms:List Mnd)(k:Nat):Prop where
 low:lo<=bo
 rows:∃C,w.heap[bo]?=some (.cells C 136)/\C.size=ms.length*6/\∀i (h:i<ms.length),i<k->∀j,j<6->C[i*6+j]?=ms[i].cells[j]?
theorem jd.at {lo:Nat}{w:World}{bo:Nat}{ms:List Mnd}(h:jd lo w bo ms ms.length)(hs:∀i (h:i<ms.length),ms[i].Small)(hl:ms.length<=maxLen):qL w (some (aD bo 0)) ms:=by
 obtain⟨C,hC,hsz,hr⟩:=h.rows;refine⟨hl,hs,fun _=>⟨bo,0,rfl,(gES hC).1,fun i hi j hj=>?_⟩⟩;rw[cell_of_block hC,Nat.zero_add];exact hr i hi hi j hj
theorem jd.later {lo:Nat}{w w':World}{bo:Nat}{ms:List Mnd}{k:Nat}(h:jd lo w bo ms k)(hb:Bw w w'):jd lo w' bo ms k:=by
 obtain⟨C,hC,hsz,hr⟩:=h.rows;exact⟨h.low,C,(hb.block bo (gES hC).1).trans hC,hsz,hr⟩
end Go.Proofs.YtcgpjfcocmcodaaGreat
