import Derived.Test.YtkficnallnpjnaaGreatM08
set_option maxHeartbeats 2000000
namespace Go.Proofs.YtkficnallnpjnaaGreat
open Go.RowKit
def zdv (o:Ob):Nat:=o.kd.size+o.nm.size+o.tm.size+qU o.vs+qU o.hs
theorem zhC (o:Ob)(a a':Option Addr)(cap cap':Nat)(left:Int)(w:World)(ho:jP w o a a')(h0:0<=left)(h1:left<=1048576) :
 Calls Tryz.prog 56 #[.agg #[.string o.kd,.string o.nm,.string o.tm,.slice a o.vs.length cap,.bool o.en,.slice a' o.hs.length cap',.int .i64 o.vr],.int .i64 left] w fun e w'=>e=.returned (.int .i64 (zL (zdv o) left))/\Below w.heap.size w w':=by
 have hkd:=ho.small.kd;have hnm:=ho.small.nm;have htm:=ho.small.tm;have hv:=ho.vals;have hh:=ho.holds;clear ho;unfold maxLen at hkd hnm htm
 by_cases c1:(o.kd.size:Int)<=left
 rotate_left
 ·have HF:Hid (zL (zdv o) left=-1):=zC (by unfold zdv;omega)
  go_enter Tryz.func56,Tryz.ntmps56;go_wp2_with fail
  go_ret;exact⟨zo HF.out.symm,bAl _ _⟩
 by_cases c2:(o.nm.size:Int)<=left-o.kd.size
 rotate_left
 ·have HF:Hid (zL (zdv o) left=-1):=zC (by unfold zdv;omega)
  go_enter Tryz.func56,Tryz.ntmps56;go_wp2_with fail
  go_ret;exact⟨zo HF.out.symm,bAl _ _⟩
 by_cases c3:(o.tm.size:Int)<=left-o.kd.size-o.nm.size
 rotate_left
 ·have HF:Hid (zL (zdv o) left=-1):=zC (by unfold zdv;omega)
  go_enter Tryz.func56,Tryz.ntmps56;go_wp2_with fail
  go_ret;exact⟨zo HF.out.symm,bAl _ _⟩
 by_cases c4:(qU o.vs:Int)<=left-o.kd.size-o.nm.size-o.tm.size
 rotate_left
 ·have HF:Hid (zL (zdv o) left=-1):=zC (by unfold zdv;omega)
  go_enter Tryz.func56,Tryz.ntmps56;go_wp2_with fail
  refine(zd9 _ _ _ _ _ (hv.mono (bAl _ _)) (by omega) (by omega) (by omega)).mono ?_;rintro e w1⟨rfl,rfl⟩;go_wp2_with fail
  go_ret;exact⟨zo HF.out.symm,bAl _ _⟩
 by_cases c5:(qU o.hs:Int)<=left-o.kd.size-o.nm.size-o.tm.size-qU o.vs
 rotate_left
 ·have HF:Hid (zL (zdv o) left=-1):=zC (by unfold zdv;omega)
  go_enter Tryz.func56,Tryz.ntmps56;go_wp2_with fail
  refine(jY _ _ _ _ _ (hv.mono (bAl _ _)) (by omega) (by omega) (by omega)).mono ?_;rintro e w1⟨rfl,rfl⟩;go_wp2_with fail
  refine(zd9 _ _ _ _ _ (hh.mono (bAl _ _)) (by omega) (by omega) (by omega)).mono ?_;rintro e w1⟨rfl,rfl⟩;go_wp2_with fail
  go_ret;exact⟨zo HF.out.symm,bAl _ _⟩
 ·have HF:Hid (zL (zdv o) left=left-o.kd.size-o.nm.size-o.tm.size-qU o.vs-qU o.hs):=by
   have e:zL (zdv o) left=left-zdv o:=zM (by unfold zdv;omega);unfold Hid;rw[e];unfold zdv;omega
  go_enter Tryz.func56,Tryz.ntmps56;go_wp2_with fail
  refine(jY _ _ _ _ _ (hv.mono (bAl _ _)) (by omega) (by omega) (by omega)).mono ?_;rintro e w1⟨rfl,rfl⟩;go_wp2_with fail
  refine(jY _ _ _ _ _ (hh.mono (bAl _ _)) (by omega) (by omega) (by omega)).mono ?_;rintro e w1⟨rfl,rfl⟩;go_wp2_with fail
  go_ret;exact⟨zo HF.out.symm,bAl _ _⟩
theorem zhr (o:Ob)(a a' b b':Option Addr)(cap cap' dap dap':Nat)(w:World)(ho:jP w o a a')(ho':jP w o b b') :
 Calls Tryz.prog 84 #[.agg #[.string o.kd,.string o.nm,.string o.tm,.slice a o.vs.length cap,.bool o.en,.slice a' o.hs.length cap',.int .i64 o.vr],.agg #[.string o.kd,.string o.nm,.string o.tm,.slice b o.vs.length dap,.bool o.en,.slice b' o.hs.length dap',.int .i64 o.vr]] w fun e w'=>e=.returned (.bool true)/\Below w.heap.size w w':=by
 go_enter Tryz.func84,Tryz.ntmps84;go_wp2_with fail
 refine(zdm _ _ _ _ _ _ (ho.vals.mono (zw _ _ _)) (ho'.vals.mono (zw _ _ _))).mono ?_;rintro e w1⟨rfl,hb1⟩;have hX1:=za (wk:=(w.alloc (.cells (oC o a a' cap cap') 117)).alloc (.cells (oC o b b' dap dap') 117)) (b:=w.heap.size) (X:=(oC o a a' cap cap')) (fun j=>by rw[World.cell?_alloc_lt _ _ ⟨w.heap.size,j,none⟩ (by simp)];exact zl w _ _ j) (by simp;omega) hb1;have hY1:=za (wk:=(w.alloc (.cells (oC o a a' cap cap') 117)).alloc (.cells (oC o b b' dap dap') 117)) (b:=w.heap.size+1) (X:=(oC o b b' dap dap')) (fun j=>by rw[World.cell?_alloc_at _ _ _ _ (by simp)]) (by simp) hb1;have hz1:w.heap.size+1<w1.heap.size:=by have:=hb1.size;simp at this;omega
 have hB1:Below w.heap.size w w1:=(zw _ _ _).trans (hb1.mono (by simp;omega));clear hb1;go_wp2_with fail
 refine(zdm _ _ _ _ _ _ (ho.holds.mono hB1) (ho'.holds.mono hB1)).mono ?_;rintro e w2⟨rfl,hb2⟩;have hX2:=za hX1 (by omega) hb2;have hY2:=za hY1 (by omega) hb2;have hB2:=hB1.trans (hb2.mono (by omega));clear hb2 hX1 hY1;go_wp2_with fail
 go_ret;exact⟨rfl,hB2⟩
theorem zrr (w:World)(o1 o2 o3 o4 o5:Obj):(((((w.alloc o1).alloc o2).alloc o3).alloc o4).alloc o5).heap[w.heap.size+1+1+1]?=some o4:=
 (Below.heap_alloc _ _ _ (by simp)).trans (at4 _ _ _ _ _)
theorem zrt (w:World)(o1 o2 o3 o4 o5:Obj):(((((w.alloc o1).alloc o2).alloc o3).alloc o4).alloc o5).heap[w.heap.size+1+1+1+1]?=some o5:=by
 have h:=(MapKept.heap_alloc ((((w.alloc o1).alloc o2).alloc o3).alloc o4) o5).1
 simpa using h
theorem zg6 (o:Ob)(a a':Option Addr)(cap cap':Nat)(w:World)(ho:jP w o a a')(hl:o.vs.length<=1048576)(hl':o.hs.length<=1048576) :
 Calls Tryz.prog 72 #[.agg #[.string o.kd,.string o.nm,.string o.tm,.slice a o.vs.length cap,.bool o.en,.slice a' o.hs.length cap',.int .i64 o.vr]] w fun e w'=>∃bv bh,e=.returned (.agg #[.string o.kd,.string o.nm,.string o.tm,.slice (some ⟨bv,0,none⟩) o.vs.length o.vs.length,.bool o.en,.slice (some ⟨bh,0,none⟩) o.hs.length o.hs.length,.int .i64 o.vr]) /\
  w.heap.size<=bv/\w.heap.size<=bh/\bv≠bh/\w'.heap[bv]?=some (.cells (jR o.vs) 9)/\w'.heap[bh]?=some (.cells (jR o.hs) 9)/\Below w.heap.size w w':=by
 go_enter Tryz.func72,Tryz.ntmps72;go_wp2_with fail
 refine(zdq _ _ _ _ (ho.vals.mono (((bAl _ _).alloc (by simp) _).alloc (by simp;omega) _)) hl).mono ?_;rintro e w1⟨rfl,rfl⟩;go_wp2_with fail
 refine(zdq _ _ _ _ (ho.holds.mono (zoL _ _ _ _ _)) hl').mono ?_;rintro e w2⟨rfl,rfl⟩;go_wp2_with fail
 refine bodyPost_ret (v:=.agg #[.string o.kd,.string o.nm,.string o.tm,.slice (some ⟨w.heap.size+1+1+1,0,none⟩) o.vs.length o.vs.length,.bool o.en,.slice (some ⟨w.heap.size+1+1+1+1,0,none⟩) o.hs.length o.hs.length,.int .i64 o.vr]) (by simp[results,Tryz.results72,go_sem]) rfl ⟨w.heap.size+1+1+1,w.heap.size+1+1+1+1,rfl,by omega,by omega,by omega,zrr _ _ _ _ _ _,zrt _ _ _ _ _ _,(zoL _ _ _ _ _).alloc (by simp;omega) _⟩
theorem zpL (a:Option Addr)(cap:Nat)(ws:List ByteArray)(v:ByteArray)(w:World)(hw:zF w a ws) :
 Calls Tryz.prog 259 #[.slice a ws.length cap,.string v] w fun e w'=>∃r:Int,e=.returned (.int .i64 r)/\decide (0<=r)=has ws v/\w'=w:=by
 have hl:=hw.len;unfold maxLen at hl
 by_cases hne:ws=[]
 ·subst hne
  go_enter Tryz.func259,Tryz.ntmps259
  go_wp2
  go_loop [8] (fun i=>i=.int .i64 0) (fun i=>0)
  case atStart=>rfl
  case round=>
   subst hrel
   go_wp2
   go_ret;exact⟨_,rfl,rfl,rfl⟩
 ·obtain⟨b,off,rfl,hb,hc⟩:=hw.cells hne
  clear hw;have HL:Hid (0<ws.length):=List.length_pos_iff.2 hne;clear hne;go_enter Tryz.func259,Tryz.ntmps259
  go_wp2
  go_loop [8] (fun i=>∃k:Nat,k<=ws.length/\i=.int .i64 k/\has (ws.take k) v=false) (fun i=>ws.length-(intOf i).toNat)
  case atStart=>exact⟨0,Nat.zero_le _,rfl,rfl⟩
  case round=>
   obtain⟨k,hk,rfl,hall⟩:=hrel
   by_cases hlt:k<ws.length
   ·have hck:=hc k hlt
    clear hc;have HS:Hid (has (ws.take (k+1)) v=(false||decide (ws[k]=v))):=by rw[znf ws v k hlt,hall];rfl
    have HN:Hid (ws[k]=v->has ws v=true):=fun h=>zqR ws v k hlt h
    clear hall
    by_cases he:ws[k]=v
    ·have hbe:(v.toList == ws[k].toList)=true:=by rw[beq_toList];simpa using he.symm
     have HE:Hid (ws[k]=v):=he;clear he
     go_wp2
     go_ret;exact⟨_,rfl,by rw[HN.out HE.out];simp,rfl⟩
    ·have hbe:(v.toList == ws[k].toList)=false:=by rw[beq_toList];simpa using fun h=>he h.symm
     have HE:Hid (¬ws[k]=v):=he;clear he
     go_wp2
     go_round
     case rel=>exact⟨k+1,by omega,by go_num,by rw[HS.out,decide_eq_false HE.out];rfl⟩
     case measure=>simp[intOf];omega
   ·have HA:Hid (has ws v=false):=by rw[<- zo7 ws v k (by omega)];exact hall
    clear hall hc
    go_wp2
    go_ret;exact⟨_,rfl,by rw[HA.out];rfl,rfl⟩
theorem zlN (a:Option Addr)(cap:Nat)(ws:List ByteArray)(v:ByteArray)(w:World)(hw:zF w a ws) :
 Calls Tryz.prog 258 #[.slice a ws.length cap,.string v] w fun e w'=>e=.returned (.bool (has ws v))/\w'=w:=by
 go_enter Tryz.func258,Tryz.ntmps258
 go_wp2_with (go_at_call 259;refine(zpL _ _ _ _ _ hw).mono ?_;rintro e w'⟨r,rfl,hr,rfl⟩)
 go_ret;exact⟨rfl,rfl⟩
theorem zgY (nm:ByteArray)(kd ls ms:Int)(a:Option Addr)(cap:Nat)(ws:List ByteArray)(to:ByteArray)(rl:Int)(mu fx:Bool)(df wg:ByteArray)(v:ByteArray)(w:World)(hw:zF w a ws) :
 Calls Tryz.prog 256 #[.agg #[.string nm,.int .i64 kd,.int .i64 ls,.int .i64 ms,.slice a ws.length cap,.string to,.int .i64 rl,.bool mu,.bool fx,.string df,.string wg],.string v] w
  fun e w'=>e=.returned (.bool (has ws v))/\Below w.heap.size w w':=by
 go_enter Tryz.func256,Tryz.ntmps256
 go_wp2_with (go_at_call 258;refine(zlN _ _ _ _ _ (hw.mono (by exact bAl _ _))).mono ?_;rintro e w'⟨rfl,rfl⟩)
 go_ret;exact⟨rfl,bAl _ _⟩
theorem zgD (nm:ByteArray)(kd ls ms:Int)(sl:Value)(to:ByteArray)(rl:Int)(mu fx:Bool)(df wg:ByteArray)(v:ByteArray)(w:World)(hs:v.size<=maxLen) :
 Calls Tryz.prog 264 #[.agg #[.string nm,.int .i64 kd,.int .i64 ls,.int .i64 ms,sl,.string to,.int .i64 rl,.bool mu,.bool fx,.string df,.string wg],.string v] w
  fun e w'=>e=.returned (.bool (zA v))/\Below w.heap.size w w':=by
 go_enter Tryz.func264,Tryz.ntmps264
 go_wp2_with (go_at_call 154;refine(zH _ _ hs).mono ?_;rintro e w'⟨rfl,rfl⟩)
 go_ret;exact⟨rfl,bAl _ _⟩
theorem zgl (nm:ByteArray)(kd ls ms:Int)(sl:Value)(to:ByteArray)(rl:Int)(mu fx:Bool)(df wg:ByteArray)(s:ByteArray)(w:World)(hs:s.size<=maxLen) :
 Calls Tryz.prog 261 #[.agg #[.string nm,.int .i64 kd,.int .i64 ls,.int .i64 ms,sl,.string to,.int .i64 rl,.bool mu,.bool fx,.string df,.string wg],.string s] w
  fun e w'=>e=.returned (.bool (zby ls ms s))/\Below w.heap.size w w':=by
 unfold maxLen at hs
 by_cases h1:(s.size:Int)<ls
 ·go_enter Tryz.func261,Tryz.ntmps261
  go_wp2
  go_ret;refine⟨ze ?_,bAl _ _⟩;unfold zby;rw[decide_eq_false (by omega)];rfl
 ·by_cases h2:ms<(s.size:Int)
  ·go_enter Tryz.func261,Tryz.ntmps261
   go_wp2
   go_ret;refine⟨ze ?_,bAl _ _⟩;unfold zby;rw[decide_eq_false (show ¬(s.size:Int)<=ms by omega)];simp
  ·have HF:Hid (zby ls ms s=zbw s):=by
    unfold zby
    rw[decide_eq_true (show ls<=s.size by omega),decide_eq_true (show(s.size:Int)<=ms by omega)];simp[Hid]
   go_enter Tryz.func261,Tryz.ntmps261
   go_wp2
   go_loop [20] (fun i=>∃k:Nat,k<=s.size/\i=.int .i64 k/\(s.data.toList.take k).all y9=true) (fun i=>s.size-(intOf i).toNat)
   case atStart=>exact⟨0,Nat.zero_le _,rfl,rfl⟩
   case round=>
    obtain⟨k,hk,rfl,hall⟩:=hrel
    by_cases hlt:k<s.size
    ·have HS:Hid ((s.data.toList.take (k+1)).all y9=(true&&y9 s[k])):=by rw[zaJ _ s k hlt,hall];rfl
     have HN:Hid (y9 s[k]=false->zbw s=false):=fun h=>zb3 y9 s k hlt h
     clear hall
     by_cases h33:(s[k].toNat:Int)<33
     ·have HC:Hid (y9 s[k]=false):=by simp[y9,Hid];omega
      go_wp2
      go_ret;exact⟨ze (HF.out.trans (HN.out HC.out)).symm,bAl _ _⟩
     ·by_cases h126:126<(s[k].toNat:Int)
      ·have HC:Hid (y9 s[k]=false):=by simp[y9,Hid];omega
       go_wp2
       go_ret;exact⟨ze (HF.out.trans (HN.out HC.out)).symm,bAl _ _⟩
      ·have HC:Hid (y9 s[k]=true):=by simp[y9,Hid];omega
       go_wp2
       go_round
       case rel=>exact⟨k+1,by omega,by go_num,by rw[HS.out,HC.out];rfl⟩
       case measure=>simp[intOf];omega
    ·have HA:Hid (zbw s=true):=by unfold zbw Hid;rw[<- zar s k (by omega)];exact hall
     clear hall
     go_wp2
     go_ret;exact⟨ze (HF.out.trans HA.out).symm,bAl _ _⟩
theorem zau (a:Option Addr)(cap:Nat)(ws:List ByteArray)(w:World)(hw:zF w a ws) :
 Calls Tryz.prog 138 #[.slice a ws.length cap] w fun e w'=>e=.returned (.bool (asc ws))/\∃n,w'=w.drewN n:=by
 have hl:=hw.len;unfold maxLen at hl;go_enter Tryz.func138,Tryz.ntmps138
 go_wp2
 go_loopw [3] (fun i wr=>∃k:Nat,k<=ws.length/\i=.int .i64 k/\up (zdN ws) k=true/\∃n,wr=w.drewN n) (fun i _=>ws.length-(intOf i).toNat)
 case atStart=>exact⟨0,Nat.zero_le _,rfl,rfl,0,rfl⟩
 case round=>
  obtain⟨k,hk,rfl,hup,hwr⟩:=hrel;have HW:Hid (∃n,wr=w.drewN n):=hwr
  by_cases hlt:k<ws.length
  ·obtain⟨b,off,rfl,hb,hc0⟩:=hw.cells (by rintro rfl;simp at hlt)
   have hc:∀i (h:i<ws.length),wr.cell? ⟨b,off+i,none⟩=some (.string ws[i]):=by obtain⟨n,rfl⟩:=hwr;exact hc0
   have hsm:=hw.small _ (List.getElem_mem hlt);clear hw hc0 hwr;have hck:=hc k hlt;have hltI:(k:Int)<(ws.length:Int):=by omega
   by_cases hn:zA ws[k]=true
   ·have hn':=hn
    by_cases hk0:k=0
    ·have HF:Hid (up (zdN ws) (k+1)=true):=by subst hk0;unfold Hid;rw[qZ,zhP hlt hn];rfl
     have hg:decide (0<k)=false:=by simp;omega
     clear hn hc hup hk0
     go_wp2
     go_quiet ((go_at_call 109;exact Calls.quiet_of_same (zf hn' (zk _ _ hsm))))
     go_wp2
     obtain⟨n,rfl⟩:=HW.out;exact⟨⟨k+1,by omega,by go_num,HF.out,n+nq,by simp⟩,by simp[intOf];omega⟩
    ·obtain⟨m,rfl⟩:∃m,k=m+1:=⟨k-1,by omega⟩
     have hcm:=hc m (by omega);have HU:Hid (up (zdN ws) (m+1+1)=less ws[m] ws[m+1]):=by unfold Hid;rw[qZ,hup,zeg hlt hn];rfl
     have HN:Hid (less ws[m] ws[m+1]=false->asc ws=false):=fun h=>zaG hlt (by rw[zeg hlt hn];exact h)
     clear hn hc hup hk0
     by_cases hls:less ws[m] ws[m+1]=true
     ·have hls':Op.bytesLess ws[m].toList ws[m+1].toList=true:=hls
      have HLS:Hid (less ws[m] ws[m+1]=true):=hls;clear hls
      go_wp2
      go_quiet ((go_at_call 109;exact Calls.quiet_of_same (zf hn' (zk _ _ hsm))))
      go_wp2
      obtain⟨n,rfl⟩:=HW.out;exact⟨⟨m+1+1,by omega,by go_num,by rw[HU.out,HLS.out],n+nq,by simp⟩,by simp[intOf];omega⟩
     ·have hls':Op.bytesLess ws[m].toList ws[m+1].toList=false:=by simpa[less] using hls
      have HLS:Hid (less ws[m] ws[m+1]=false):=hls';clear hls
      go_wp2
      go_quiet ((go_at_call 109;exact Calls.quiet_of_same (zf hn' (zk _ _ hsm))))
      go_wp2
      go_ret;refine⟨ze (HN.out HLS.out).symm,?_⟩;obtain⟨n,rfl⟩:=HW.out;exact⟨n+nq,by simp⟩
   ·have hn':zA ws[k]=false:=by simpa using hn
    have HF:Hid (asc ws=false):=zaG hlt (zjx hlt hn');clear hn hc hup
    go_wp2
    go_quiet ((go_at_call 109;exact Calls.quiet_of_same (zf hn' (zk _ _ hsm))))
    go_wp2
    go_ret;refine⟨ze HF.out.symm,?_⟩;obtain⟨n,rfl⟩:=HW.out;exact⟨n+nq,by simp⟩
  ·have HF:Hid (asc ws=true):=by
    have e:k=ws.length:=by omega
    subst e;exact hup
   clear hw hup hwr
   go_wp2
   go_ret;exact⟨ze HF.out.symm,HW.out⟩
theorem zi5 {a b:ByteArray}(h:a=b):Ending.returned (.string a)=.returned (.string b):=by rw[h]
theorem zcL (a:Option Addr)(cap:Nat)(ts:List Tm)(v:ByteArray)(w:World)(hw:jO w a ts) :
 Calls Tryz.prog 137 #[.slice a ts.length cap,.string v] w fun e w'=>e=.returned (.string (over ts v))/\w'=w:=by
 have hl:=hw.len;unfold maxLen at hl;go_enter Tryz.func137,Tryz.ntmps137;go_wp2_with fail
 go_loop [5] (fun i=>∃k:Nat,k<=ts.length/\i=.int .i64 k/\yB (ts.take k) v=false) (fun i=>ts.length-(intOf i).toNat)
 case atStart=>exact⟨0,Nat.zero_le _,rfl,rfl⟩
 case round=>
  obtain⟨k,hk,rfl,hall⟩:=hrel
  by_cases hlt:k<ts.length
  ·obtain⟨b,off,rfl,hb,c0,c1⟩:=hw.load (bRf _ _) k hlt
   clear hw;have HS:Hid (yB (ts.take (k+1)) v=(false||decide (ts[k].nm=v))):=by rw[zdS ts v k hlt,hall];rfl
   have hltI:(k:Int)<(ts.length:Int):=by omega
   by_cases he:ts[k].nm=v
   ·have hbe:(ts[k].nm.toList == v.toList)=true:=by rw[beq_toList];simpa using he
    have HR:=hid (zl6 ts v k hlt hall he);clear he hall;go_wp2_with fail
    go_ret;exact⟨zi5 HR.out.symm,rfl⟩
   ·have hbe:(ts[k].nm.toList == v.toList)=false:=by rw[beq_toList];simpa using he
    have HE:=hid he;clear he hall;go_wp2_with fail
    go_round
    case rel=>exact⟨k+1,by omega,by go_num,by rw[HS.out,decide_eq_false HE.out];rfl⟩
    case measure=>simp[intOf];omega
  ·have HR:=hid (zht ts v (by rw[<- zeZ ts v k (by omega)];exact hall))
   clear hall hw;go_wp2_with fail
   go_ret;exact⟨zi5 HR.out.symm,rfl⟩
theorem zej (a:Option Addr)(cap:Nat)(ts:List Tm)(v:ByteArray)(w:World)(hw:jO w a ts) :
 Calls Tryz.prog 200 #[.slice a ts.length cap,.string v] w fun e w'=>e=.returned (.string (over ts v))/\Below w.heap.size w w':=by
 have hl:=hw.len;unfold maxLen at hl;go_enter Tryz.func200,Tryz.ntmps200;go_wp2_with fail
 go_loopw [9] (fun i wr=>∃k:Nat,k<=ts.length/\i=.int .i64 k/\yB (ts.take k) v=false/\Below w.heap.size w wr) (fun i _=>ts.length-(intOf i).toNat)
 case atStart=>exact⟨0,Nat.zero_le _,rfl,rfl,bRf _ _⟩
 case round=>
  obtain⟨k,hk,rfl,hall,hB⟩:=hrel;have hsz:=hB.size
  by_cases hlt:k<ts.length
  ·obtain⟨b,off,rfl,hb,c0,c1⟩:=hw.load hB k hlt
   clear hw;have HS:Hid (yB (ts.take (k+1)) v=(false||decide (ts[k].nm=v))):=by rw[zdS ts v k hlt,hall];rfl
   have hltI:(k:Int)<(ts.length:Int):=by omega
   have hbr:b<wr.heap.size:=by omega
   by_cases he:ts[k].nm=v
   ·have hbe:(ts[k].nm.toList == v.toList)=true:=by rw[beq_toList];simpa using he
    have HR:=hid (zl6 ts v k hlt hall he);clear he hall;go_wp2_with fail
    go_ret;exact⟨zi5 HR.out.symm,hB.alloc hsz _⟩
   ·have hbe:(ts[k].nm.toList == v.toList)=false:=by rw[beq_toList];simpa using he
    have HE:=hid he;clear he hall;go_wp2_with fail
    exact⟨⟨k+1,by omega,by go_num,by rw[HS.out,decide_eq_false HE.out];rfl,hB.alloc hsz _⟩,by simp[intOf];omega⟩
  ·have HR:=hid (zht ts v (by rw[<- zeZ ts v k (by omega)];exact hall))
   clear hall hw;go_wp2_with fail
   go_ret;exact⟨zi5 HR.out.symm,hB⟩
end Go.Proofs.YtkficnallnpjnaaGreat
namespace Go.Proofs.YtkficnallnpjnaaGreat
theorem qO {α:Type}(p:α->Bool)(l:List α)(k:Nat)(h:k<l.length):(l.take (k+1)).all p=((l.take k).all p&&p l[k]):=by
 rw[tSe h,List.all_append];simp
theorem zaw {α:Type}(p:α->Bool)(l:List α)(k:Nat)(h:k<l.length)(hp:p l[k]=false):l.all p=false:=by
 rw[List.all_eq_false];exact⟨l[k],List.getElem_mem h,by simp[hp]⟩
end Go.Proofs.YtkficnallnpjnaaGreat
