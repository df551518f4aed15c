import Derived.Test.YtghnakljnhnenaaGreatM13
set_option maxHeartbeats 4000000
namespace Go.Proofs.YtghnakljnhnenaaGreat
open Go.RowKit
theorem zoB (k:Nat):zc8 (List.range (k+1))=zc8 (List.range k) ++ [.int .i64 (k:Int)]:=by simp [zc8,List.range_succ]
set_option maxRecDepth 20000 in
theorem zhC (s:Shp) (ms:List Mnd) (ma fa:Option Addr) (mcap fcap:Nat) (w:World) (hm:yY w ma ms) (hf:zP w fa s.fs) (hl:ms.length<=1048576) (hn:s.fs.length<=6)
 (hrd:∀ q,q < s.fs.length->∀ x ∈ Gate.zY s ms q,0<=x/\x < s.fs.length) :
 Calls Tryz.prog 144 #[.agg #[.string s.kd,.slice fa s.fs.length fcap],.slice ma ms.length mcap] w
  fun e w'=>∃ v,e = .returned (.tuple #[v,.bool (Gate.zI (Gate.zl s ms) s.fs.length).1])/\Below w.heap.size w w'/\((Gate.zI (Gate.zl s ms) s.fs.length).1=true->w'.ownsRow w.heap.size 3 1 v (Gate.zI (Gate.zl s ms) s.fs.length).2.row.length (zc8 (Gate.zI (Gate.zl s ms) s.fs.length).2.row)):=by
 obtain ⟨i0,hi0,hz0,hz1',hz2⟩:=info_parts Tryz.zfS;have HH:Hid (yY w ma ms/\zP w fa s.fs/\ms.length<=1048576/\s.fs.length<=6/\∀ q,q < s.fs.length->∀ x ∈ Gate.zY s ms q,0<=x/\x < s.fs.length):=⟨hm,hf,hl,hn,hrd⟩
 clear hm hf hl hrd;go_enter Tryz.func144,Tryz.ntmps144;go_wp2_with fail
 go_loopw [6,11] (fun v0 iv wr=>∃ (k:Nat) (v:Value),v=v0/\k<=s.fs.length/\iv = .int .i64 k/\wr.ownsRow (w.heap.size+2) 3 1 v k (zc8 (List.range k))/\wr.heap[w.heap.size]?=some (.cells #[.string s.kd,.slice fa s.fs.length fcap] 123)/\wr.heap[w.heap.size+1]?=some (.cells #[.slice ma ms.length mcap] 38)/\Below w.heap.size w wr) (fun _ iv _=>s.fs.length - (intOf iv).toNat)
 case atStart=>exact ⟨0,_,rfl,Nat.zero_le _,rfl,World.ownsRow_nil _ _ _ _,(yh _ _ _).1,(yh _ _ _).2,zA _ _ _⟩
 case round =>
  obtain ⟨k,v,hv,hk,rfl,hown,hs,hmm,hB⟩:=hrel;subst hv;have HX:Hid (wr.ownsRow (w.heap.size+2) 3 1 v k (zc8 (List.range k))/\wr.heap[w.heap.size]?=some (.cells #[.string s.kd,.slice fa s.fs.length fcap] 123)/\wr.heap[w.heap.size+1]?=some (.cells #[.slice ma ms.length mcap] 38)/\Below w.heap.size w wr):=⟨hown,hs,hmm,hB⟩
  have hzz:w.heap.size+1 < wr.heap.size:=(gES hmm).1;clear hown hs hmm hB
  by_cases hlt:k < s.fs.length
  ·have hltI:(k:Int) < (s.fs.length:Int):=by omega
   have hgb:∀ g,v.ownBlock=some g->w.heap.size+2<=g:=fun g hg=>(HX.out.1.lt g hg).1
   have HGB:Hid (∀ g,v.ownBlock=some g->w.heap.size+2<=g):=hgb;clear hgb
   go_wp2_with (at_builtin;refine zg0 ?_)
   show wpList _ _ _ _ _ _
   refine wpList_append_own _ rfl (.tmp 14) (.tmp 16) 35 rfl (w.heap.size+2) 3 i0 (.int .i64 0) 1 8 Tryz.underlying35 hi0 hz0 hz1' hz2 rfl (by decide) v _ _ rfl (HX.out.1.alloc _) ⟨wr.heap.size,0,none⟩ 1 1 [.int .i64 (k:Int)] rfl rfl (zca _ _ _) (by intro u hu;simp at hu;subst hu;rfl) (by unfold maxLen;omega) (by omega) (by simp;omega) ?_;intro v' w1 hown' hgr _;obtain ⟨va,vcap,rfl⟩:=yV hown';go_wp2_with fail
   refine ⟨⟨k+1,_,rfl,by omega,by go_num,by rw [zoB];exact hown',?_,?_,zaQ HX.out.2.2.2 HX.out.2.2.2.size hgr (fun g hg=>by have:=HGB.out g hg;omega)⟩,zn hlt⟩
   ·exact (zaI hgr (by simp;omega) (fun g hg=>by have:=HGB.out g hg;omega)).trans ((Below.heap_alloc _ _ _ (by omega)).trans HX.out.2.1)
   ·exact (zaI hgr (by simp;omega) (fun g hg=>by have:=HGB.out g hg;omega)).trans ((Below.heap_alloc _ _ _ hzz).trans HX.out.2.2.1)
  ·have e:k=s.fs.length:=by omega
   subst e;obtain ⟨va,vcap,rfl⟩:=yV HX.out.1
   have HPL:Hid (zjz wr va s.fs.length):=by
    intro hpos;obtain ⟨_,⟨h0,h1⟩ | ⟨g,cap,cur,h0,h1⟩⟩:=id HX.out.1
    ·omega
    ·cases h0
     refine ⟨g,rfl,(HX.out.1.lt g rfl).2,fun q hq=>?_⟩;rw [HX.out.1.cellAt q (by omega)]
     simp [zc8,hq]
   go_wp2_with fail
   refine (zoO s ms w ma fa va mcap fcap vcap (w.heap.size+1) w.heap.size wr HH.out.1 HH.out.2.1 HH.out.2.2.1 HH.out.2.2.2.1 HH.out.2.2.2.2 HX.out.2.2.2 hzz (by omega) (by rw [cell_of_block HX.out.2.2.1];rfl) (fun j=>cell_of_block HX.out.2.1) HPL.out).mono ?_;rintro e w2 ⟨v2,rfl,hb2,hyes⟩;have HY:Hid (Below w.heap.size w w2/\((Gate.zI (Gate.zl s ms) s.fs.length).1=true->w2.ownsRow w.heap.size 3 1 v2 (Gate.zI (Gate.zl s ms) s.fs.length).2.row.length (zc8 (Gate.zI (Gate.zl s ms) s.fs.length).2.row))):=⟨hb2,fun h=>j3 (hyes h) (by omega)⟩
   clear hb2 hyes;go_wp2_with fail
   go_ret2
   exact ⟨v2,rfl,HY.out⟩
def qV (s:ByteArray):Int:=if Gate.zal s=true then Gate.zfP s else -1
theorem zkr (k:Nat) (h:k<=7):(10:Int) ^ k<=10000000:=by
 have:k=0 \/ k=1 \/ k=2 \/ k=3 \/ k=4 \/ k=5 \/ k=6 \/ k=7:=by omega
 rcases this with h | h | h | h | h | h | h | h <;> subst h <;> decide
theorem zj6 (s:ByteArray) (w:World) (h1:1<=s.size) (h7:s.size<=7) (hz:s.size<=1 \/ ¬ (s[0].toNat:Int)=48) :
 Calls Tryz.prog 174 #[.string s] w fun e w'=>e = .returned (.int .i64 (qV s))/\w'=w:=by
 have HF:Hid (Gate.zal s=Gate.zba s):=Gate.zkA s h1 h7 hz
 rcases (show (s.size<=1) \/ (1 < s.size/\¬ (s[0].toNat:Int)=48) by rcases hz with h | h <;> omega) with hone | ⟨hmore,hz0⟩
 all_goals
  clear hz
  try have hz1:((s[0].toNat:Int) == 48)=false:=by simpa using hz0
  try clear hz0
  go_enter Tryz.func174,Tryz.ntmps174
  go_wp2_with (go_at_call 59;refine (zbb _ _ _ _ (by omega) (by omega)).mono ?_;rintro e w' ⟨rfl,rfl⟩)
  go_loop [3,4] (fun n i=>∃ k:Nat,k<=s.size/\i = .int .i64 k/\(s.data.toList.take k).all Gate.digit=true/\n = .int .i64 (Gate.dec (s.data.toList.take k))) (fun _ i=>s.size - (intOf i).toNat)
  case atStart=>exact ⟨0,Nat.zero_le _,rfl,rfl,rfl⟩
  case round =>
   obtain ⟨k,hk,rfl,hall,rfl⟩:=hrel;have hlen:(s.data.toList.take k).length<=k:=List.length_take_le _ _;obtain ⟨hd0,hd1⟩:=Gate.zeV _ hall k hlen
   by_cases hlt:k < s.size
   ·have hp:=zkr k (by omega)
    have hd2:Gate.dec (s.data.toList.take k) < 10000000:=by omega
    clear hp hd1 hlen;have HS:Hid ((s.data.toList.take (k+1)).all Gate.digit=(true && Gate.digit s[k])):=by rw [Gate.zaN _ s k hlt,hall];rfl
    have HD:Hid (Gate.dec (s.data.toList.take (k+1))=Gate.dec (s.data.toList.take k) * 10+((s[k].toNat:Int) - 48)):=by rw [Gate.zha s k hlt];exact Gate.zmG _ _
    have HN:Hid (Gate.digit s[k]=false->Gate.zba s=false):=fun h=>Gate.zb4 Gate.digit s k hlt h
    clear hall
    by_cases h48:(s[k].toNat:Int) < 48
    ·have HC:Hid (Gate.digit s[k]=false):=by simp [Gate.digit,Hid];omega
     go_wp2
     go_ret;exact ⟨zq (by unfold qV;rw [HF.out,HN.out HC.out];rfl),rfl⟩
    ·by_cases h57:57 < (s[k].toNat:Int)
     ·have HC:Hid (Gate.digit s[k]=false):=by simp [Gate.digit,Hid];omega
      go_wp2
      go_ret;exact ⟨zq (by unfold qV;rw [HF.out,HN.out HC.out];rfl),rfl⟩
     ·have HC:Hid (Gate.digit s[k]=true):=by simp [Gate.digit,Hid];omega
      go_wp2
      go_round
      case rel=>exact ⟨k+1,by omega,by go_num,by rw [HS.out,HC.out];rfl,by rw [HD.out];go_num⟩
      case measure=>simp [intOf];omega
   ·have HA:Hid (Gate.zba s=true):=by unfold Gate.zba Hid;rw [<- Gate.zaz s k (by omega)];exact hall
    have HB:Hid (Gate.dec (s.data.toList.take k)=Gate.zfP s):=by rw [Gate.zaz s k (by omega)];rfl
    clear hall hd0 hd1 hlen
    go_wp2
    go_ret;exact ⟨zq (by unfold qV;rw [HF.out,HA.out,HB.out];rfl),rfl⟩
theorem zd8 (s:ByteArray) (w:World) (hs:s.size<=maxLen) :
 Calls Tryz.prog 174 #[.string s] w fun e w'=>e = .returned (.int .i64 (qV s))/\w'=w:=by
 unfold maxLen at hs
 by_cases h17:1<=s.size/\s.size<=7
 ·obtain ⟨h1,h7⟩:=h17
  by_cases hz:1 < s.size/\(s[0].toNat:Int)=48
  ·obtain ⟨hm,hz0⟩:=hz
   have HF:Hid (qV s=-1):=by unfold qV Hid;rw [Gate.zfj s hm hz0];rfl
   have hz1:((s[0].toNat:Int) == 48)=true:=by simpa using hz0
   clear hz0;go_enter Tryz.func174,Tryz.ntmps174
   go_wp2_with (go_at_call 59;refine (zbb _ _ _ _ (by omega) (by omega)).mono ?_;rintro e w' ⟨rfl,rfl⟩)
   go_ret;exact ⟨zq HF.out.symm,rfl⟩
  ·exact zj6 s w h1 h7 (by omega)
 ·have HF:Hid (qV s=-1):=by unfold qV Hid;rw [Gate.zdT s h17];rfl
  go_enter Tryz.func174,Tryz.ntmps174
  go_wp2_with (go_at_call 59;refine (zcW _ _ _ _ (by omega)).mono ?_;rintro e w' ⟨rfl,rfl⟩)
  go_ret;exact ⟨zq HF.out.symm,rfl⟩
theorem zit {a b:Int} {p q:Bool} (h:a=b) (h2:p=q):Ending.returned (.tuple #[.int .i64 a,.bool p]) = .returned (.tuple #[.int .i64 b,.bool q]):=by rw [h,h2]
def zaD (s:ByteArray):Int:=if Gate.zal s=true then Gate.zfP s else 0
theorem zju (s:ByteArray) (w:World) (h1:1<=s.size) (h7:s.size<=7) (hz:s.size<=1 \/ ¬ (s[0].toNat:Int)=48) :
 Calls Tryz.prog 225 #[.string s] w fun e w'=>e = .returned (.tuple #[.int .i64 (zaD s),.bool (Gate.zal s)])/\w'=w:=by
 have HF:Hid (Gate.zal s=Gate.zba s):=Gate.zkA s h1 h7 hz;have hne:s.toList.isEmpty=false:=by rw [Gate.zu];exact decide_eq_false (by omega)
 rcases (show (¬ (s[0].toNat:Int)=48) \/ (s.size<=1/\(s[0].toNat:Int)=48) by rcases hz with h | h <;> omega) with hz0 | ⟨hone,hz0⟩
 all_goals
  clear hz
  first
   | (have hz1:((s[0].toNat:Int) == 48)=true:=by simpa using hz0)
   | (have hz1:((s[0].toNat:Int) == 48)=false:=by simpa using hz0)
  clear hz0;go_enter Tryz.func225,Tryz.ntmps225
  go_wp2
  go_loop [4,25] (fun n i=>∃ k:Nat,k<=s.size/\i = .int .i64 k/\(s.data.toList.take k).all Gate.digit=true/\n = .int .i64 (Gate.dec (s.data.toList.take k))) (fun _ i=>s.size - (intOf i).toNat)
  case atStart=>exact ⟨0,Nat.zero_le _,rfl,rfl,rfl⟩
  case round =>
   obtain ⟨k,hk,rfl,hall,rfl⟩:=hrel;have hlen:(s.data.toList.take k).length<=k:=List.length_take_le _ _;obtain ⟨hd0,hd1⟩:=Gate.zeV _ hall k hlen
   by_cases hlt:k < s.size
   ·have hp:=zkr k (by omega)
    have hd2:Gate.dec (s.data.toList.take k) < 10000000:=by omega
    clear hp hd1 hlen;have HS:Hid ((s.data.toList.take (k+1)).all Gate.digit=(true && Gate.digit s[k])):=by rw [Gate.zaN _ s k hlt,hall];rfl
    have HD:Hid (Gate.dec (s.data.toList.take (k+1))=Gate.dec (s.data.toList.take k) * 10+((s[k].toNat:Int) - 48)):=by rw [Gate.zha s k hlt];exact Gate.zmG _ _
    have HN:Hid (Gate.digit s[k]=false->Gate.zba s=false):=fun h=>Gate.zb4 Gate.digit s k hlt h
    clear hall
    by_cases hd:48<=(s[k].toNat:Int)/\(s[k].toNat:Int)<=57
    ·have HC:Hid (Gate.digit s[k]=true):=by simp [Gate.digit,Hid];omega
     obtain ⟨h48,h57⟩:=hd
     go_wp2_with (go_at_call 207;refine (zhL _ _ h48 h57).mono ?_;rintro e w' ⟨rfl,rfl⟩)
     go_round
     case rel=>exact ⟨k+1,by omega,by go_num,by rw [HS.out,HC.out];rfl,by rw [HD.out]⟩
     case measure=>simp [intOf];omega
    ·have HC:Hid (Gate.digit s[k]=false):=by simp [Gate.digit,Hid];omega
     have HDD:Hid (¬ (48<=(s[k].toNat:Int)/\(s[k].toNat:Int)<=57)):=hd;clear hd
     go_wp2_with (go_at_call 207;refine (zcO _ _ HDD.out).mono ?_;rintro e w' ⟨rfl,rfl⟩)
     go_ret2
     exact ⟨zit (by unfold zaD;rw [HF.out,HN.out HC.out];rfl) (by rw [HF.out,HN.out HC.out]),rfl⟩
   ·have HA:Hid (Gate.zba s=true):=by unfold Gate.zba Hid;rw [<- Gate.zaz s k (by omega)];exact hall
    have HB:Hid (Gate.dec (s.data.toList.take k)=Gate.zfP s):=by rw [Gate.zaz s k (by omega)];rfl
    clear hall hd0 hd1 hlen
    go_wp2
    go_ret2
    exact ⟨zit (by unfold zaD;rw [HF.out,HA.out,HB.out];rfl) (by rw [HF.out,HA.out]),rfl⟩
theorem zda (s:ByteArray) (w:World) (hs:s.size<=maxLen) :
 Calls Tryz.prog 225 #[.string s] w fun e w'=>e = .returned (.tuple #[.int .i64 (zaD s),.bool (Gate.zal s)])/\w'=w:=by
 unfold maxLen at hs
 by_cases h0:s.size=0
 ·rw [Gate.zde s h0]
  go_enter Tryz.func225,Tryz.ntmps225
  go_wp2
  go_ret2
  exact ⟨rfl,rfl⟩
 have hne:s.toList.isEmpty=false:=by rw [Gate.zu];simp [h0]
 by_cases h7:s.size<=7
 ·by_cases hz:1 < s.size/\(s[0].toNat:Int)=48
  ·obtain ⟨hm,hz0⟩:=hz
   have HF:Hid (Gate.zal s=false):=Gate.zfj s hm hz0;have hz1:((s[0].toNat:Int) == 48)=true:=by simpa using hz0
   clear hz0;go_enter Tryz.func225,Tryz.ntmps225
   go_wp2
   go_ret2
   exact ⟨zit (by unfold zaD;rw [HF.out];rfl) HF.out.symm,rfl⟩
  ·exact zju s w (by omega) h7 (by omega)
 ·have HF:Hid (Gate.zal s=false):=Gate.zdT s (by omega)
  go_enter Tryz.func225,Tryz.ntmps225
  go_wp2
  go_ret2
  exact ⟨zit (by unfold zaD;rw [HF.out];rfl) HF.out.symm,rfl⟩
theorem zow (a:Option Addr) (cap:Nat) (ws:List ByteArray) (v:ByteArray) (w:World) (hw:zD w a ws) :
 Calls Tryz.prog 250 #[.slice a ws.length cap,.string v] w fun e w'=>∃ r:Int,e = .returned (.int .i64 r)/\decide (0<=r)=Gate.has ws v/\w'=w:=by
 have hl:=hw.len;unfold maxLen at hl
 by_cases hne:ws=[]
 ·subst hne
  go_enter Tryz.func250,Tryz.ntmps250
  go_wp2
  go_loop [8] (fun i=>i = .int .i64 0) (fun i=>0)
  case atStart=>rfl
  case round =>
   subst hrel
   go_wp2
   go_ret;exact ⟨_,rfl,rfl,rfl⟩
 ·obtain ⟨b,off,rfl,hb,hc⟩:=hw.cells hne
  clear hw;have HL:Hid (0 < ws.length):=List.length_pos_iff.2 hne;clear hne;go_enter Tryz.func250,Tryz.ntmps250
  go_wp2
  go_loop [8] (fun i=>∃ k:Nat,k<=ws.length/\i = .int .i64 k/\Gate.has (ws.take k) v=false) (fun i=>ws.length - (intOf i).toNat)
  case atStart=>exact ⟨0,Nat.zero_le _,rfl,rfl⟩
  case round =>
   obtain ⟨k,hk,rfl,hall⟩:=hrel
   by_cases hlt:k < ws.length
   ·have hck:=hc k hlt
    clear hc;have HS:Hid (Gate.has (ws.take (k+1)) v=(false || decide (ws[k]=v))):=by rw [Gate.zmT ws v k hlt,hall];rfl
    have HN:Hid (ws[k]=v->Gate.has ws v=true):=fun h=>Gate.zpP ws v k hlt h
    clear hall
    by_cases he:ws[k]=v
    ·have hbe:(v.toList == ws[k].toList)=true:=by rw [Gate.beq_toList];simpa using he.symm
     have HE:Hid (ws[k]=v):=he;clear he
     go_wp2
     go_ret;exact ⟨_,rfl,by rw [HN.out HE.out];simp,rfl⟩
    ·have hbe:(v.toList == ws[k].toList)=false:=by rw [Gate.beq_toList];simpa using fun h=>he h.symm
     have HE:Hid (¬ ws[k]=v):=he;clear he
     go_wp2
     go_round
     case rel=>exact ⟨k+1,by omega,by go_num,by rw [HS.out,decide_eq_false HE.out];rfl⟩
     case measure=>simp [intOf];omega
   ·have HA:Hid (Gate.has ws v=false):=by rw [<- Gate.zoj ws v k (by omega)];exact hall
    clear hall hc
    go_wp2
    go_ret;exact ⟨_,rfl,by rw [HA.out];rfl,rfl⟩
theorem zlm (a:Option Addr) (cap:Nat) (ws:List ByteArray) (v:ByteArray) (w:World) (hw:zD w a ws) :
 Calls Tryz.prog 249 #[.slice a ws.length cap,.string v] w fun e w'=>e = .returned (.bool (Gate.has ws v))/\w'=w:=by
 go_enter Tryz.func249,Tryz.ntmps249
 go_wp2_with (go_at_call 250;refine (zow _ _ _ _ _ hw).mono ?_;rintro e w' ⟨r,rfl,hr,rfl⟩)
 go_ret;exact ⟨rfl,rfl⟩
theorem zfR (nm:ByteArray) (kd ls ms:Int) (a:Option Addr) (cap:Nat) (ws:List ByteArray) (to:ByteArray) (rl:Int) (mu fx:Bool) (df wg:ByteArray) (v:ByteArray) (w:World) (hw:zD w a ws) :
 Calls Tryz.prog 247 #[.agg #[.string nm,.int .i64 kd,.int .i64 ls,.int .i64 ms,.slice a ws.length cap,.string to,.int .i64 rl,.bool mu,.bool fx,.string df,.string wg],.string v] w
  fun e w'=>e = .returned (.bool (Gate.has ws v))/\Below w.heap.size w w':=by
 go_enter Tryz.func247,Tryz.ntmps247
 go_wp2_with (go_at_call 249;refine (zlm _ _ _ _ _ (hw.mono (by exact bAl _ _))).mono ?_;rintro e w' ⟨rfl,rfl⟩)
 go_ret;exact ⟨rfl,bAl _ _⟩
theorem zgD (nm:ByteArray) (kd ls ms:Int) (sl:Value) (to:ByteArray) (rl:Int) (mu fx:Bool) (df wg:ByteArray) (v:ByteArray) (w:World) (hs:v.size<=maxLen) :
 Calls Tryz.prog 255 #[.agg #[.string nm,.int .i64 kd,.int .i64 ls,.int .i64 ms,sl,.string to,.int .i64 rl,.bool mu,.bool fx,.string df,.string wg],.string v] w
  fun e w'=>e = .returned (.bool (Gate.zy v))/\Below w.heap.size w w':=by
 go_enter Tryz.func255,Tryz.ntmps255
 go_wp2_with (go_at_call 145;refine (zG _ _ hs).mono ?_;rintro e w' ⟨rfl,rfl⟩)
 go_ret;exact ⟨rfl,bAl _ _⟩
theorem zf2 (nm:ByteArray) (kd ls ms:Int) (sl:Value) (to:ByteArray) (rl:Int) (mu fx:Bool) (df wg:ByteArray) (s:ByteArray) (w:World) (hs:s.size<=maxLen) :
 Calls Tryz.prog 252 #[.agg #[.string nm,.int .i64 kd,.int .i64 ls,.int .i64 ms,sl,.string to,.int .i64 rl,.bool mu,.bool fx,.string df,.string wg],.string s] w
  fun e w'=>e = .returned (.bool (Gate.za4 ls ms s))/\Below w.heap.size w w':=by
 unfold maxLen at hs
 by_cases h1:(s.size:Int) < ls
 ·go_enter Tryz.func252,Tryz.ntmps252
  go_wp2
  go_ret;refine ⟨ze ?_,bAl _ _⟩;unfold Gate.za4;rw [decide_eq_false (by omega)];rfl
 ·by_cases h2:ms < (s.size:Int)
  ·go_enter Tryz.func252,Tryz.ntmps252
   go_wp2
   go_ret;refine ⟨ze ?_,bAl _ _⟩;unfold Gate.za4;rw [decide_eq_false (show ¬ (s.size:Int)<=ms by omega)];simp
  ·have HF:Hid (Gate.za4 ls ms s=Gate.zbG s):=by
    unfold Gate.za4;rw [decide_eq_true (show ls<=s.size by omega),decide_eq_true (show (s.size:Int)<=ms by omega)];simp [Hid]
   go_enter Tryz.func252,Tryz.ntmps252
   go_wp2
   go_loop [20] (fun i=>∃ k:Nat,k<=s.size/\i = .int .i64 k/\(s.data.toList.take k).all Gate.y8=true) (fun i=>s.size - (intOf i).toNat)
   case atStart=>exact ⟨0,Nat.zero_le _,rfl,rfl⟩
   case round =>
    obtain ⟨k,hk,rfl,hall⟩:=hrel
    by_cases hlt:k < s.size
    ·have HS:Hid ((s.data.toList.take (k+1)).all Gate.y8=(true && Gate.y8 s[k])):=by rw [Gate.zaN _ s k hlt,hall];rfl
     have HN:Hid (Gate.y8 s[k]=false->Gate.zbG s=false):=fun h=>Gate.zb4 Gate.y8 s k hlt h
     clear hall
     by_cases h33:(s[k].toNat:Int) < 33
     ·have HC:Hid (Gate.y8 s[k]=false):=by simp [Gate.y8,Hid];omega
      go_wp2
      go_ret;exact ⟨ze (HF.out.trans (HN.out HC.out)).symm,bAl _ _⟩
     ·by_cases h126:126 < (s[k].toNat:Int)
      ·have HC:Hid (Gate.y8 s[k]=false):=by simp [Gate.y8,Hid];omega
       go_wp2
       go_ret;exact ⟨ze (HF.out.trans (HN.out HC.out)).symm,bAl _ _⟩
      ·have HC:Hid (Gate.y8 s[k]=true):=by simp [Gate.y8,Hid];omega
       go_wp2
       go_round
       case rel=>exact ⟨k+1,by omega,by go_num,by rw [HS.out,HC.out];rfl⟩
       case measure=>simp [intOf];omega
    ·have HA:Hid (Gate.zbG s=true):=by unfold Gate.zbG Hid;rw [<- Gate.zaz s k (by omega)];exact hall
     clear hall
     go_wp2
     go_ret;exact ⟨ze (HF.out.trans HA.out).symm,bAl _ _⟩
end Go.Proofs.YtghnakljnhnenaaGreat
