import Derived.Test.YtaickbhifenbjaaGreatM01
import Derived.Test.YtaickbhifenbjaaGreatM02
import Derived.Test.YtaickbhifenbjaaGreatM09
set_option maxHeartbeats 1000000
namespace Go.Proofs.YtaickbhifenbjaaGreat
open Go.RowKit
theorem qL (a:Option Addr) (cap:Nat) (ss:List Shp) (v:ByteArray) (w:World) (hw:yL w a ss) :
 Calls Tryz.prog 131 #[.slice a ss.length cap,.string v] w fun e w'=>∃ fa fcap,e = .returned (.tuple #[.agg #[.string (Gate.shapeOf ss v).kd,.slice fa (Gate.shapeOf ss v).fs.length fcap],.bool (Gate.zH ss v)]) /\
  zR w fa (Gate.shapeOf ss v).fs/\Below w.heap.size w w':=by
 have hl:=hw.len
 unfold maxLen at hl
 go_enter Tryz.func131,Tryz.ntmps131
 go_wp2
 go_loopw [10] (fun i wr=>∃ k:Nat,k<=ss.length/\i = .int .i64 k/\Gate.zH (ss.take k) v=false/\Below (w.heap.size+1) (w.alloc (.cells #[.string ByteArray.empty,.slice none 0 0] 115)) wr) (fun i _=>ss.length - (intOf i).toNat)
 case atStart=>exact ⟨0,Nat.zero_le _,rfl,rfl,Below.refl _ _⟩
 case round =>
  obtain ⟨k,hk,rfl,hno,hbl⟩:=hrel
  have hsz:w.heap.size < wr.heap.size:=by have:=hbl.size;simp at this;omega
  have hB0:Below w.heap.size w wr:=((Below.refl _ _).alloc (Nat.le_refl _) _).trans (hbl.mono (by omega))
  have hX0:wr.cell? ⟨w.heap.size,0,none⟩=some (.string ByteArray.empty):=(hbl.cell (p:=⟨w.heap.size,0,none⟩) (by simp)).trans (by rw [World.cell?_alloc_at _ _ _ _ rfl];rfl)
  have hX1:wr.cell? ⟨w.heap.size,1,none⟩=some (.slice none 0 0):=(hbl.cell (p:=⟨w.heap.size,1,none⟩) (by simp)).trans (by rw [World.cell?_alloc_at _ _ _ _ rfl];rfl)
  have hF0:wr.frozen? ⟨w.heap.size,0,none⟩=false:=(hbl.frozen (p:=⟨w.heap.size,0,none⟩) (by simp)).trans (by rw [World.frozen?_alloc_at _ _ _ _ rfl])
  have hF1:wr.frozen? ⟨w.heap.size,1,none⟩=false:=(hbl.frozen (p:=⟨w.heap.size,1,none⟩) (by simp)).trans (by rw [World.frozen?_alloc_at _ _ _ _ rfl])
  by_cases hlt:k < ss.length
  ·obtain ⟨b,off,rfl,hb,hr⟩:=hw.rows (by rintro rfl;simp at hlt)
   obtain ⟨fa,fcap,hs⟩:=hr k hlt
   have hck:=(hB0.cell (p:=⟨b,off+k * 2,none⟩) hb).trans hs.kind
   have hcl:=(hB0.cell (p:=⟨b,off+k * 2+1,none⟩) hb).trans hs.list
   have hfl:=hs.flds
   clear hw hr hs
   by_cases he:ss[k].kd=v
   ·have hbe:(ss[k].kd.toList == v.toList)=true:=by rw [Gate.beq_toList];simpa using he
    have HA:Hid (Gate.zH ss v=true):=Gate.zif ss v k hlt he
    have HB:Hid (Gate.shapeOf ss v=ss[k]):=Gate.zeM ss v k hlt hno he
    clear he hno
    go_wp2
    refine bodyPost_ret (v:=.tuple #[.agg #[.string ss[k].kd,.slice fa ss[k].fs.length fcap],.bool true]) (by simp [results,Tryz.results131,go_sem,hX0,hX1,hsz]) rfl ⟨fa,fcap,by rw [HA.out,HB.out],by rw [HB.out];exact hfl,?_⟩
    exact ((hB0.setCell (Nat.le_refl _) _).setCell (Nat.le_refl _) _).alloc (by simp [World.setCell];omega) _
   ·have hbe:(ss[k].kd.toList == v.toList)=false:=by rw [Gate.beq_toList];simpa using he
    have HS:Hid (Gate.zH (ss.take (k+1)) v=false):=by unfold Hid;rw [Gate.zfd ss v k hlt,hno,decide_eq_false he];rfl
    clear he hno hX0 hX1 hF0 hF1
    go_wp2
    go_roundw
    case rel=>exact ⟨k+1,by omega,by go_num,HS.out,hbl.alloc (by omega) _⟩
    case measure=>simp [intOf];omega
  ·have HA:Hid (Gate.zH ss v=false):=by rw [<- Gate.zgL ss v k (by omega)];exact hno
   have HB:Hid (Gate.shapeOf ss v=Gate.zb7):=Gate.zkl ss v HA.out
   clear hno hw
   go_wp2
   refine bodyPost_ret (v:=.tuple #[.agg #[.string ByteArray.empty,.slice none 0 0],.bool false]) (by simp [results,Tryz.results131,go_sem,hX0,hX1];rfl) rfl ⟨none,0,by rw [HA.out,HB.out];rfl,by rw [HB.out];exact ⟨by simp [Gate.zb7,maxLen],fun h=>absurd rfl h⟩,?_⟩
   exact (hB0.setCell (Nat.le_refl _) _).setCell (Nat.le_refl _) _
theorem zcc (a:Option Addr) (cap:Nat) (ws:List ByteArray) (v:ByteArray) (w:World) (hw:zF w a ws) :
 Calls Tryz.prog 164 #[.slice a ws.length cap,.string v] w fun e w'=>e = .returned (.bool (Gate.has ws v))/\w'=w:=by
 have hl:=hw.len
 unfold maxLen at hl
 by_cases hne:ws=[]
 ·subst hne
  go_enter Tryz.func164,Tryz.ntmps164
  go_wp2
  go_loop [5] (fun i=>i = .int .i64 0) (fun i=>0)
  case atStart=>rfl
  case round =>
   subst hrel
   go_wp2
   go_ret
   exact ⟨rfl,rfl⟩
 ·obtain ⟨b,off,rfl,hb,hc⟩:=hw.cells hne
  clear hw
  have HL:Hid (0 < ws.length):=List.length_pos_iff.2 hne
  clear hne
  go_enter Tryz.func164,Tryz.ntmps164
  go_wp2
  go_loop [5] (fun i=>∃ k:Nat,k<=ws.length/\i = .int .i64 k/\Gate.has (ws.take k) v=false) (fun i=>ws.length - (intOf i).toNat)
  case atStart=>exact ⟨0,Nat.zero_le _,rfl,rfl⟩
  case round =>
   obtain ⟨k,hk,rfl,hall⟩:=hrel
   by_cases hlt:k < ws.length
   ·have hck:=hc k hlt
    clear hc
    have HS:Hid (Gate.has (ws.take (k+1)) v=(false || decide (ws[k]=v))):=by rw [Gate.zlP ws v k hlt,hall];rfl
    have HN:Hid (ws[k]=v->Gate.has ws v=true):=fun h=>Gate.zot ws v k hlt h
    clear hall
    by_cases he:ws[k]=v
    ·have hbe:(ws[k].toList == v.toList)=true:=by rw [Gate.beq_toList];simpa using he
     have HE:Hid (ws[k]=v):=he
     clear he
     go_wp2
     go_ret
     exact ⟨ze (HN.out HE.out).symm,rfl⟩
    ·have hbe:(ws[k].toList == v.toList)=false:=by rw [Gate.beq_toList];simpa using he
     have HE:Hid (¬ ws[k]=v):=he
     clear he
     go_wp2
     go_round
     case rel=>exact ⟨k+1,by omega,by go_num,by rw [HS.out,decide_eq_false HE.out];rfl⟩
     case measure=>simp [intOf];omega
   ·have HA:Hid (Gate.has ws v=false):=by rw [<- Gate.zmZ ws v k (by omega)];exact hall
    clear hall hc
    go_wp2
    go_ret
    exact ⟨ze HA.out.symm,rfl⟩
theorem ziy (a:Option Addr) (cap:Nat) (ws:List ByteArray) (w:World) (hw:zF w a ws) :
 Calls Tryz.prog 216 #[.slice a ws.length cap] w fun e w'=>e = .returned (.bool (Gate.asc ws))/\w'=w:=by
 have hl:=hw.len
 unfold maxLen at hl
 go_enter Tryz.func216,Tryz.ntmps216
 go_wp2
 go_loop [7] (fun i=>∃ k:Nat,k<=ws.length/\i = .int .i64 k/\Gate.up (Gate.zda ws) k=true) (fun i=>ws.length - (intOf i).toNat)
 case atStart=>exact ⟨0,Nat.zero_le _,rfl,rfl⟩
 case round =>
  obtain ⟨k,hk,rfl,hup⟩:=hrel
  by_cases hlt:k < ws.length
  ·obtain ⟨b,off,rfl,hb,hc⟩:=hw.cells (by rintro rfl;simp at hlt)
   have hsm:=hw.small _ (List.getElem_mem hlt)
   clear hw
   have hck:=hc k hlt
   by_cases hn:Gate.zx ws[k]=true
   ·by_cases hk0:k=0
    ·have HF:Hid (Gate.up (Gate.zda ws) (k+1)=true):=by subst hk0;unfold Hid;rw [Gate.jc,Gate.zgG hlt hn];rfl
     have hg:decide (0 < k)=false:=by simp;omega
     have HN:Hid (Gate.zx ws[k]=true):=hn
     clear hn hc hup hk0
     go_wp2_with (go_at_call 134;refine (zf HN.out (zG _ _ hsm)).mono ?_;rintro e w' ⟨rfl,rfl⟩)
     go_round
     case rel=>exact ⟨k+1,by omega,by go_num,HF.out⟩
     case measure=>simp [intOf];omega
    ·obtain ⟨m,rfl⟩:∃ m,k=m+1:=⟨k - 1,by omega⟩
     have hcm:=hc m (by omega)
     have HU:Hid (Gate.up (Gate.zda ws) (m+1+1)=Gate.less ws[m] ws[m+1]):=by unfold Hid;rw [Gate.jc,hup,Gate.zdl hlt hn];rfl
     have HNN:Hid (Gate.less ws[m] ws[m+1]=false->Gate.asc ws=false):=fun h=>Gate.zaw hlt (by rw [Gate.zdl hlt hn];exact h)
     have HN:Hid (Gate.zx ws[m+1]=true):=hn
     clear hn hc hup hk0
     by_cases hls:Gate.less ws[m] ws[m+1]=true
     ·have hls':Op.bytesLess ws[m].toList ws[m+1].toList=true:=hls
      have HLS:Hid (Gate.less ws[m] ws[m+1]=true):=hls
      clear hls
      go_wp2_with (go_at_call 134;refine (zf HN.out (zG _ _ hsm)).mono ?_;rintro e w' ⟨rfl,rfl⟩)
      go_round
      case rel=>exact ⟨m+1+1,by omega,by go_num,by rw [HU.out,HLS.out]⟩
      case measure=>simp [intOf];omega
     ·have hls':Op.bytesLess ws[m].toList ws[m+1].toList=false:=by simpa [Gate.less] using hls
      have HLS:Hid (Gate.less ws[m] ws[m+1]=false):=hls'
      clear hls
      go_wp2_with (go_at_call 134;refine (zf HN.out (zG _ _ hsm)).mono ?_;rintro e w' ⟨rfl,rfl⟩)
      go_ret
      exact ⟨ze (HNN.out HLS.out).symm,rfl⟩
   ·have hn':Gate.zx ws[k]=false:=by simpa using hn
    have HF:Hid (Gate.asc ws=false):=Gate.zaw hlt (Gate.zh6 hlt hn')
    have HN:Hid (Gate.zx ws[k]=false):=hn'
    clear hn hn' hc hup
    go_wp2_with (go_at_call 134;refine (zf HN.out (zG _ _ hsm)).mono ?_;rintro e w' ⟨rfl,rfl⟩)
    go_ret
    exact ⟨ze HF.out.symm,rfl⟩
  ·have HF:Hid (Gate.asc ws=true):=by
    have e:k=ws.length:=by omega
    subst e;exact hup
   clear hw hup
   go_wp2
   go_ret
   exact ⟨ze HF.out.symm,rfl⟩
theorem zba (ls ms lo hi:Int) (w:World) :
 Calls Tryz.prog 150 #[.int .i64 ls,.int .i64 ms,.int .i64 lo,.int .i64 hi] w fun e w'=>e = .returned (.bool (Gate.jA ls ms lo hi))/\w'=w:=by
 go_enter Tryz.func150,Tryz.ntmps150
 go_wp2
 all_goals
  go_ret
  refine ⟨ze ?_,rfl⟩
  rw [Bool.eq_iff_iff];simp [Gate.jA];try omega
theorem zbj (nm:ByteArray) (kd ls ms:Int) (a:Option Addr) (n cap:Nat) (to:ByteArray) (rl:Int) (mu fx:Bool) (df wg:ByteArray) (w:World) :
 Calls Tryz.prog 238 #[.agg #[.string nm,.int .i64 kd,.int .i64 ls,.int .i64 ms,.slice a n cap,.string to,.int .i64 rl,.bool mu,.bool fx,.string df,.string wg]] w fun e w'=>e = .returned (.bool (Gate.yG 1 ls ms n to rl wg))/\Below w.heap.size w w':=by
 go_enter Tryz.func238,Tryz.ntmps238
 go_wp2
 all_goals
  go_ret
  refine ⟨ze ?_,(Below.refl _ _).alloc (Nat.le_refl _) _⟩
  simp_all [Gate.yG]
  try (rw [Bool.eq_iff_iff];simp)
theorem zca (nm:ByteArray) (kd ls ms:Int) (a:Option Addr) (n cap:Nat) (to:ByteArray) (rl:Int) (mu fx:Bool) (df wg:ByteArray) (w:World) :
 Calls Tryz.prog 241 #[.agg #[.string nm,.int .i64 kd,.int .i64 ls,.int .i64 ms,.slice a n cap,.string to,.int .i64 rl,.bool mu,.bool fx,.string df,.string wg]] w fun e w'=>e = .returned (.bool (Gate.yG 2 ls ms n to rl wg))/\Below w.heap.size w w':=by
 go_enter Tryz.func241,Tryz.ntmps241
 go_wp2
 all_goals
  go_ret
  refine ⟨ze ?_,(Below.refl _ _).alloc (Nat.le_refl _) _⟩
  simp_all [Gate.yG]
  try (rw [Bool.eq_iff_iff];simp)
theorem zb1 (nm:ByteArray) (kd ls ms:Int) (a:Option Addr) (n cap:Nat) (to:ByteArray) (rl:Int) (mu fx:Bool) (df wg:ByteArray) (w:World) :
 Calls Tryz.prog 246 #[.agg #[.string nm,.int .i64 kd,.int .i64 ls,.int .i64 ms,.slice a n cap,.string to,.int .i64 rl,.bool mu,.bool fx,.string df,.string wg]] w fun e w'=>e = .returned (.bool (Gate.yG 3 ls ms n to rl wg))/\Below w.heap.size w w':=by
 go_enter Tryz.func246,Tryz.ntmps246
 go_wp2
 all_goals
  go_ret
  refine ⟨ze ?_,(Below.refl _ _).alloc (Nat.le_refl _) _⟩
  simp_all [Gate.yG]
  try (rw [Bool.eq_iff_iff];simp)
theorem zb2 (nm:ByteArray) (kd ls ms:Int) (a:Option Addr) (n cap:Nat) (to:ByteArray) (rl:Int) (mu fx:Bool) (df wg:ByteArray) (w:World) :
 Calls Tryz.prog 249 #[.agg #[.string nm,.int .i64 kd,.int .i64 ls,.int .i64 ms,.slice a n cap,.string to,.int .i64 rl,.bool mu,.bool fx,.string df,.string wg]] w fun e w'=>e = .returned (.bool (Gate.yG 4 ls ms n to rl wg))/\Below w.heap.size w w':=by
 go_enter Tryz.func249,Tryz.ntmps249
 go_wp2
 all_goals
  go_ret
  refine ⟨ze ?_,(Below.refl _ _).alloc (Nat.le_refl _) _⟩
  simp_all [Gate.yG]
  try (rw [Bool.eq_iff_iff];simp)
theorem zbW (nm:ByteArray) (ls ms:Int) (a:Option Addr) (cap:Nat) (ws:List ByteArray) (to:ByteArray) (rl:Int) (mu fx:Bool) (df wg:ByteArray) (a0:Option Addr) (cap0:Nat) (ss:List Shp) (w:World) (hwg:wg.size<=maxLen) :
 Calls Tryz.prog 240 #[.agg #[.string nm,.int .i64 1,.int .i64 ls,.int .i64 ms,.slice a ws.length cap,.string to,.int .i64 rl,.bool mu,.bool fx,.string df,.string wg],.slice a0 ss.length cap0] w fun e w'=>e = .returned (.bool (Gate.z8 ss ⟨nm,1,ls,ms,ws,to,rl,mu,fx,df,wg⟩))/\Below w.heap.size w w':=by
 have HF:Hid (Gate.z8 ss ⟨nm,1,ls,ms,ws,to,rl,mu,fx,df,wg⟩=(Gate.jA ls ms 0 1000000 && (wg.toList.isEmpty || Gate.zx wg))):=by simp [Gate.z8,Hid]
 by_cases hr:Gate.jA ls ms 0 1000000=true
 ·by_cases he:wg.toList.isEmpty=true
  ·go_enter Tryz.func240,Tryz.ntmps240
   go_wp2_with (go_at_call 150;refine (zba _ _ _ _ _).mono ?_;rintro e w' ⟨rfl,rfl⟩)
   go_ret
   exact ⟨ze (by rw [HF.out,hr,he];rfl),(Below.refl _ _).alloc (Nat.le_refl _) _⟩
  ·have he':wg.toList.isEmpty=false:=by simpa using he
   clear he
   go_enter Tryz.func240,Tryz.ntmps240
   go_wp2_with (first | (go_at_call 150;refine (zba _ _ _ _ _).mono ?_;rintro e w' ⟨rfl,rfl⟩) | (go_at_call 134;refine (zG _ _ hwg).mono ?_;rintro e w' ⟨rfl,rfl⟩))
   go_ret
   exact ⟨ze (by rw [HF.out,hr,he'];rfl),(Below.refl _ _).alloc (Nat.le_refl _) _⟩
 ·have hr':Gate.jA ls ms 0 1000000=false:=by simpa using hr
  clear hr
  go_enter Tryz.func240,Tryz.ntmps240
  go_wp2_with (go_at_call 150;refine (zba _ _ _ _ _).mono ?_;rintro e w' ⟨rfl,rfl⟩)
  go_ret
  exact ⟨ze (by rw [HF.out,hr'];rfl),(Below.refl _ _).alloc (Nat.le_refl _) _⟩
theorem zcR (nm:ByteArray) (ls ms:Int) (a:Option Addr) (cap:Nat) (ws:List ByteArray) (to:ByteArray) (rl:Int) (mu fx:Bool) (df wg:ByteArray) (a0:Option Addr) (cap0:Nat) (ss:List Shp) (w:World) :
 Calls Tryz.prog 248 #[.agg #[.string nm,.int .i64 3,.int .i64 ls,.int .i64 ms,.slice a ws.length cap,.string to,.int .i64 rl,.bool mu,.bool fx,.string df,.string wg],.slice a0 ss.length cap0] w fun e w'=>e = .returned (.bool (Gate.z8 ss ⟨nm,3,ls,ms,ws,to,rl,mu,fx,df,wg⟩))/\Below w.heap.size w w':=by
 have HF:Hid (Gate.z8 ss ⟨nm,3,ls,ms,ws,to,rl,mu,fx,df,wg⟩=Gate.jA ls ms 1 40):=by simp [Gate.z8,Hid]
 go_enter Tryz.func248,Tryz.ntmps248
 go_wp2_with (go_at_call 150;refine (zba _ _ _ _ _).mono ?_;rintro e w' ⟨rfl,rfl⟩)
 go_ret
 exact ⟨ze HF.out.symm,(Below.refl _ _).alloc (Nat.le_refl _) _⟩
theorem zcP (nm:ByteArray) (ls ms:Int) (a:Option Addr) (cap:Nat) (ws:List ByteArray) (to:ByteArray) (rl:Int) (mu fx:Bool) (df wg:ByteArray) (a0:Option Addr) (cap0:Nat) (ss:List Shp) (w:World) (hw:zF w a ws) :
 Calls Tryz.prog 243 #[.agg #[.string nm,.int .i64 2,.int .i64 ls,.int .i64 ms,.slice a ws.length cap,.string to,.int .i64 rl,.bool mu,.bool fx,.string df,.string wg],.slice a0 ss.length cap0] w fun e w'=>e = .returned (.bool (Gate.z8 ss ⟨nm,2,ls,ms,ws,to,rl,mu,fx,df,wg⟩))/\Below w.heap.size w w':=by
 have HF:Hid (Gate.z8 ss ⟨nm,2,ls,ms,ws,to,rl,mu,fx,df,wg⟩=(decide (1<=ws.length) && decide (ws.length<=6) && Gate.asc ws)):=by simp [Gate.z8,Hid]
 have hl:=hw.len
 unfold maxLen at hl
 by_cases h1:0 < ws.length
 ·by_cases h6:ws.length<=6
  ·go_enter Tryz.func243,Tryz.ntmps243
   go_wp2_with (go_at_call 216;refine (ziy _ _ _ _ (by exact hw.mono ((Below.refl _ _).alloc (Nat.le_refl _) _))).mono ?_;rintro e w' ⟨rfl,rfl⟩)
   go_ret
   exact ⟨ze (by rw [HF.out,decide_eq_true (show 1<=ws.length by omega),decide_eq_true h6];rfl),(Below.refl _ _).alloc (Nat.le_refl _) _⟩
  ·go_enter Tryz.func243,Tryz.ntmps243
   go_wp2_with fail
   go_ret
   exact ⟨ze (by rw [HF.out,decide_eq_true (show 1<=ws.length by omega),decide_eq_false (show ¬ ws.length<=6 by omega)];rfl),(Below.refl _ _).alloc (Nat.le_refl _) _⟩
 ·go_enter Tryz.func243,Tryz.ntmps243
  go_wp2_with fail
  go_ret
  exact ⟨ze (by rw [HF.out,decide_eq_false (show ¬ 1<=ws.length by omega)];rfl),(Below.refl _ _).alloc (Nat.le_refl _) _⟩
end Go.Proofs.YtaickbhifenbjaaGreat
