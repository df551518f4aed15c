import Derived.Test.YtjnpjkigofldlaaGreatM02
set_option maxHeartbeats 1000000
namespace Go.Proofs.YtjnpjkigofldlaaGreat
open Go.RowKit
def qU (s:BA):Int:=if zaC s=true then zg5 s else -1
theorem zne (k:Nat)(h:k<=7):(10:Int) ^ k<=10000000:=by
 have:k=0 \/ k=1 \/ k=2 \/ k=3 \/ k=4 \/ k=5 \/ k=6 \/ k=7:=by omega
 rcases this with h|h|h|h|h|h|h|h <;> subst h <;> decide
theorem zl0 (s:BA)(w:World)(h1:1<=s.size)(h7:s.size<=7)(hz:s.size<=1 \/ ¬(s[0].toNat:Int)=48) :
 Calls Tryz.prog 167 #[.s s] w fun e w'=>e=.returned (.i (qU s))/\w'=w:=by
 have HF:Hid (zaC s=za3 s):=znl s h1 h7 hz
 rcases(show(s.size<=1) \/ (1<s.size/\¬(s[0].toNat:Int)=48) by rcases hz with h|h <;> omega) with hone|⟨hmore,hz0⟩
 all_goals
  clear hz
  try have hz1:((s[0].toNat:Int) == 48)=false:=by simpa using hz0
  try clear hz0
  go_in
  go_wp2_with (go_at_call 63;refine(zdb _ _ _ _ (by omega) (by omega)).mono ?_;rintro e w'⟨rfl,rfl⟩)
  go_loop [3,4] (fun n i=>∃k:Nat,k<=s.size/\i=.i k/\(s.data.toList.take k).all digit=true/\n=.i (dec (s.data.toList.take k))) (fun _ i=>s.size-(intOf i).toNat)
  case atStart=>exact⟨0,Nat.zero_le _,rfl,rfl,rfl⟩
  case round=>
   obtain⟨k,hk,rfl,hall,rfl⟩:=hrel;have hlen:(s.data.toList.take k).length<=k:=List.length_take_le _ _;obtain⟨hd0,hd1⟩:=zfV _ hall k hlen
   by_cases hlt:k<s.size
   ·have hp:=zne k (by omega)
    have hd2:dec (s.data.toList.take k)<10000000:=by omega
    clear hp hd1 hlen;have HS:Hid ((s.data.toList.take (k+1)).all digit=(true&&digit s[k])):=by rw[zcy _ s k hlt,hall];rfl
    have HD:Hid (dec (s.data.toList.take (k+1))=dec (s.data.toList.take k)*10+((s[k].toNat:Int)-48)):=by rw[zh8 s k hlt];exact zpw _ _
    have HN:Hid (digit s[k]=false->za3 s=false):=fun h=>zeJ digit s k hlt h
    clear hall
    by_cases h48:(s[k].toNat:Int)<48
    ·have HC:Hid (digit s[k]=false):=by simp[digit,Hid];omega
     go_wp2
     go_ret;exact⟨zm (by unfold qU;rw[HF.o,HN.o HC.o];rfl),rfl⟩
    ·by_cases h57:57<(s[k].toNat:Int)
     ·have HC:Hid (digit s[k]=false):=by simp[digit,Hid];omega
      go_wp2
      go_ret;exact⟨zm (by unfold qU;rw[HF.o,HN.o HC.o];rfl),rfl⟩
     ·have HC:Hid (digit s[k]=true):=by simp[digit,Hid];omega
      go_wp2
      go_round
      case rel=>exact⟨k+1,by omega,by go_num,by rw[HS.o,HC.o];rfl,by rw[HD.o];go_num⟩
      case measure=>simp[intOf];omega
   ·have HA:Hid (za3 s=true):=by unfold za3 Hid;rw[<- zbD s k (by omega)];exact hall
    have HB:Hid (dec (s.data.toList.take k)=zg5 s):=by rw[zbD s k (by omega)];rfl
    clear hall hd0 hd1 hlen
    go_wp2
    go_ret;exact⟨zm (by unfold qU;rw[HF.o,HA.o,HB.o];rfl),rfl⟩
theorem zeP (s:BA)(w:World)(hs:s.size<=maxLen) :
 Calls Tryz.prog 167 #[.s s] w fun e w'=>e=.returned (.i (qU s))/\w'=w:=by
 unfold maxLen at hs
 by_cases h17:1<=s.size/\s.size<=7
 ·obtain⟨h1,h7⟩:=h17
  by_cases hz:1<s.size/\(s[0].toNat:Int)=48
  ·obtain⟨hm,hz0⟩:=hz
   have HF:Hid (qU s=-1):=by unfold qU Hid;rw[zgc s hm hz0];rfl
   have hz1:((s[0].toNat:Int) == 48)=true:=by simpa using hz0
   clear hz0;go_in
   go_wp2_with (go_at_call 63;refine(zdb _ _ _ _ (by omega) (by omega)).mono ?_;rintro e w'⟨rfl,rfl⟩)
   go_ret;exact⟨zm HF.o.symm,rfl⟩
  ·exact zl0 s w h1 h7 (by omega)
 ·have HF:Hid (qU s=-1):=by unfold qU Hid;rw[zez s h17];rfl
  go_in
  go_wp2_with (go_at_call 63;refine(zfU _ _ _ _ (by omega)).mono ?_;rintro e w'⟨rfl,rfl⟩)
  go_ret;exact⟨zm HF.o.symm,rfl⟩
theorem zdJ (a:OA)(cap:Nat)(ws:List BA)(w:World)(hw:zD w a ws)(hl:ws.length<=1048576) :
 Calls Tryz.prog 133 #[.l a ws.length cap] w fun e w'=>e=.returned (.l (some (aD w.heap.size 0)) ws.length ws.length)/\w'=w.alloc (.cells (jS ws) 9):=by
 have hmk:∀w:World,(Instr.makeSlice 98 (.i ws.length) (.i ws.length)).run Tryz.prog w=.ok (.l (some (aD w.heap.size 0)) ws.length ws.length) (w.alloc (.cells (strCells ws 0) 9)):=by
  intro w;have h:=run_make_row' (P:=Tryz.prog) 98 9 (.s ByteArray.empty) 16 Tryz.underlying98 (by kernel_rfl) rfl .i64 .i64 ws.length (by omega) (by omega) w;rw[zmc]at h;exact h
 go_in
 go_wp2
 clear hmk
 go_loopw [4] (fun i wr=>∃k:Nat,k<=ws.length/\i=.i k/\wr=w.alloc (.cells (strCells ws k) 9)) (fun i _=>ws.length-(intOf i).toNat)
 case atStart=>exact⟨0,Nat.zero_le _,rfl,rfl⟩
 case round=>
  obtain⟨k,hk,rfl,rfl⟩:=hrel
  by_cases hlt:k<ws.length
  ·obtain⟨b,off,rfl,hb,hc⟩:=hw.cells (by rintro rfl;simp at hlt)
   clear hw;have hck:=hc k hlt;have hold:=zpr ws k hlt;have HS:=hid (zn2 ws k hlt);clear hc
   go_wp2
   go_roundw
   case rel=>exact⟨k+1,by omega,by go_num,by rw[HS.o]⟩
   case measure=>simp[intOf];omega
  ·have HA:=hid (znr ws k (by omega))
   clear hw
   go_wp2
   go_ret;exact⟨rfl,by rw[HA.o]⟩
theorem znP (w:World)(o1 o2 o3 o4:Obj):Bw w ((((w.alloc o1).alloc o2).alloc o3).alloc o4):=
 (((bAl _ _).alloc (by simp) _).alloc (by simp;omega) _).alloc (by simp;omega) _
theorem at4 (w:World)(o1 o2 o3 o4:Obj):((((w.alloc o1).alloc o2).alloc o3).alloc o4).heap[w.heap.size+1+1+1]?=some o4:=by
 have h:=MapKept.heap_alloc (((w.alloc o1).alloc o2).alloc o3) o4
 simpa using h.1
theorem zjn (nm:BA)(kd ls ms:Int)(a:OA)(cap:Nat)(ws:List BA)(to:BA)(rl:Int)(mu fx:Bool)(df wg:BA)(w:World)(hw:zD w a ws)(hl:ws.length<=1048576) :
 Calls Tryz.prog 168 #[.agg #[.s nm,.i kd,.i ls,.i ms,.l a ws.length cap,.s to,.i rl,.bool mu,.bool fx,.s df,.s wg]] w
  fun e w'=>∃bk,e=.returned (.agg #[.s nm,.i kd,.i ls,.i ms,.l (some (aD bk 0)) ws.length ws.length,.s to,.i rl,.bool mu,.bool fx,.s df,.s wg]) /\
   w.heap.size<=bk/\bk<w'.heap.size/\w'.heap[bk]?=some (.cells (jS ws) 9)/\Bw w w':=by
 go_in
 go_wp2_with (go_at_call 133;refine(zdJ _ _ _ _ (by exact hw.mono (((bAl _ _).alloc (by simp) _).alloc (by simp;omega) _)) hl).mono ?_;rintro e w'⟨rfl,rfl⟩)
 refine bodyPost_ret (v:=.agg #[.s nm,.i kd,.i ls,.i ms,.l (some (aD (w.heap.size+1+1+1) 0)) ws.length ws.length,.s to,.i rl,.bool mu,.bool fx,.s df,.s wg]) (by simp[results,Tryz.results168,go_sem]) rfl ⟨w.heap.size+1+1+1,rfl,by omega,by simp,at4 _ _ _ _ _,znP _ _ _ _ _⟩
end Go.Proofs.YtjnpjkigofldlaaGreat
