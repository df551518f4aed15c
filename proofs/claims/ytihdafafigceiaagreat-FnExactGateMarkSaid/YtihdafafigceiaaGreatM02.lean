import Derived.WalkKit
import Derived.Laws.NewBlocks
import Derived.Laws.MakeOwn
import Derived.Laws.OwnMore
import Derived.Deep.Draws
import Derived.Deep.OwnRows
import Derived.MapKept
import Derived.Test.YtihdafafigceiaaGreatRows
import Derived.Test.YtihdafafigceiaaGreatM01
import Derived.WalkSpells
import Derived.WalkLawsBesides
import Derived.Deep.QuietTactic
import Derived.BigQuiet
set_option maxHeartbeats 1000000
namespace Go.Proofs.YtihdafafigceiaaGreat
open Go.RowKit
theorem ze {a b:Bool} (h:a=b):Ending.returned (.bool a) = .returned (.bool b):=by rw [h]
theorem zq {k:IntKind} {a b:Int} (h:a=b):Ending.returned (.int k a) = .returned (.int k b):=by rw [h]
def zK (t:Nat) (left:Int):Int:=if (t:Int)<=left then left - t else -1
theorem zL {t:Nat} {left:Int} (h:(t:Int)<=left):zK t left=left - t:=by simp [zK,h]
theorem zC {t:Nat} {left:Int} (h:¬ (t:Int)<=left):zK t left=-1:=by simp [zK,h]
theorem za1 {α:Type} (g:α->Nat) (l:List α) (k:Nat) (h:k < l.length):((l.take (k+1)).map g).sum=((l.take k).map g).sum+g l[k]:=by
 rw [List.take_succ_eq_append_getElem h,List.map_append,List.sum_append];simp
theorem zcB {α:Type} (g:α->Nat) (l:List α) (k:Nat):((l.take k).map g).sum<=(l.map g).sum:=by
 conv=>rhs;rw [<- List.take_append_drop k l]
 rw [List.map_append,List.sum_append];omega
theorem zh0 {α:Type} (g:α->Nat) (l:List α) (k:Nat) (h:k < l.length):g l[k]<=(l.map g).sum:=by
 have h1:=za1 g l k h
 have h2:=zcB g l (k+1)
 omega
theorem jI {P:Program} (t e:TypeId) (z:Value) (size bytes:Nat) (ht:P.underlying t=some (.slice e)) (hinfo:(P.info? e).map (fun i=>(i.zero,i.size,i.bytes))=some (some z,size,bytes))
 (n:Nat) (hbytes:bytes * n<=281474976710656) (h63:n<=9223372036854775807) (w:World) :
 (Instr.makeSlice t (.int .i64 (n:Int)) (.int .i64 (n:Int))).run P w = .ok (.slice (some ⟨w.heap.size,0,none⟩) n n) (w.alloc (.cells (madeCells z.cells (n * size)) e)):=by
 obtain ⟨i,hi,hzz⟩:=Option.map_eq_some_iff.1 hinfo
 simp only [Prod.mk.injEq] at hzz
 obtain ⟨hz,hs,hb⟩:=hzz
 have hb':(i.bytes:Int) * (n:Int)<=281474976710656:=by
  have h:((i.bytes * n:Nat):Int)<=281474976710656:=by rw [hb];omega
  rwa [Int.natCast_mul] at h
 have hr:=run_make (P:=P) w t e i z ht hi hz .i64 .i64 n n (by omega) (Int.le_refl _) hb' (by omega)
 simp only [Int.toNat_natCast,hs] at hr
 exact hr
theorem yD (n lo hi:Int) (w:World) :
 Calls Tryz.prog 57 #[.int .i64 n,.int .i64 lo,.int .i64 hi] w fun e w'=>e = .returned (.bool (decide (lo<=n) && decide (n<=hi)))/\w'=w:=by
 go_enter Tryz.func57,Tryz.ntmps57
 go_wp2
 all_goals
  go_ret
  refine ⟨ze ?_,rfl⟩
  simp;try omega
theorem zaV (n lo hi:Int) (w:World) (h1:lo<=n) (h2:n<=hi) :
 Calls Tryz.prog 57 #[.int .i64 n,.int .i64 lo,.int .i64 hi] w fun e w'=>e = .returned (.bool true)/\w'=w:=by
 refine (yD n lo hi w).mono ?_
 rintro e w' ⟨rfl,rfl⟩
 exact ⟨ze (by simp;omega),rfl⟩
theorem zcL (n lo hi:Int) (w:World) (h1:¬ (lo<=n/\n<=hi)) :
 Calls Tryz.prog 57 #[.int .i64 n,.int .i64 lo,.int .i64 hi] w fun e w'=>e = .returned (.bool false)/\w'=w:=by
 refine (yD n lo hi w).mono ?_
 rintro e w' ⟨rfl,rfl⟩
 exact ⟨ze (by simp;omega),rfl⟩
theorem zg4 (c:UInt8) (w:World) :
 Calls Tryz.prog 203 #[.int .u8 c.toNat] w fun e w'=>e = .returned (.bool (Gate.digit c))/\w'=w:=by
 go_enter Tryz.func203,Tryz.ntmps203
 go_wp2
 all_goals
  go_ret
  refine ⟨ze ?_,rfl⟩
  rw [Bool.eq_iff_iff];simp [Gate.digit];try omega
theorem zgV (c:UInt8) (w:World) (h:48<=(c.toNat:Int)) (h2:(c.toNat:Int)<=57) :
 Calls Tryz.prog 203 #[.int .u8 c.toNat] w fun e w'=>e = .returned (.bool true)/\w'=w:=by
 refine (zg4 c w).mono ?_
 rintro e w' ⟨rfl,rfl⟩
 exact ⟨ze (by simp [Gate.digit];omega),rfl⟩
theorem zcr (c:UInt8) (w:World) (h:¬ (48<=(c.toNat:Int)/\(c.toNat:Int)<=57)) :
 Calls Tryz.prog 203 #[.int .u8 c.toNat] w fun e w'=>e = .returned (.bool false)/\w'=w:=by
 refine (zg4 c w).mono ?_
 rintro e w' ⟨rfl,rfl⟩
 exact ⟨ze (by simp [Gate.digit];omega),rfl⟩
def zb3 (ws:List ByteArray):Nat:=(ws.map ByteArray.size).sum
def qV (ws:List ByteArray):Nat:=ws.length+zb3 ws
theorem zmZ (ws:List ByteArray) (k:Nat) (h:k < ws.length):zb3 (ws.take (k+1))=zb3 (ws.take k)+ws[k].size:=by
 unfold zb3;rw [List.take_succ_eq_append_getElem h,List.map_append,List.sum_append];simp
theorem zoL (ws:List ByteArray) (k:Nat):zb3 (ws.take k)<=zb3 ws:=by
 unfold zb3
 conv=>rhs;rw [<- List.take_append_drop k ws]
 rw [List.map_append,List.sum_append];omega
theorem znO (ws:List ByteArray) (k:Nat) (h:ws.length<=k):zb3 (ws.take k)=zb3 ws:=by rw [List.take_of_length_le h]
theorem zeR (a:Option Addr) (cap:Nat) (ws:List ByteArray) (left:Int) (w:World) (hw:zD w a ws) (h0:0<=left) (h1:left<=1048576) :
 Calls Tryz.prog 84 #[.slice a ws.length cap,.int .i64 left] w fun e w'=>e = .returned (.int .i64 (zK (qV ws) left))/\w'=w:=by
 have hl:=hw.len
 unfold maxLen at hl
 by_cases hfit:(ws.length:Int)<=left
 ·go_enter Tryz.func84,Tryz.ntmps84
  go_wp2
  go_loop [1,5] (fun l i=>∃ k:Nat,k<=ws.length/\i = .int .i64 k/\0<=left - ws.length - zb3 (ws.take k)/\l = .int .i64 (left - ws.length - zb3 (ws.take k))) (fun _ i=>ws.length - (intOf i).toNat)
  case atStart=>exact ⟨0,Nat.zero_le _,rfl,by simp [zb3];omega,by simp [zb3]⟩
  case round =>
   obtain ⟨k,hk,rfl,hpos,rfl⟩:=hrel
   by_cases hlt:k < ws.length
   ·obtain ⟨b,off,rfl,hb,hc⟩:=hw.cells (by rintro rfl;simp at hlt)
    have hsm:=hw.small _ (List.getElem_mem hlt)
    unfold maxLen at hsm
    clear hw
    have hck:=hc k hlt
    have HS:Hid (zb3 (ws.take (k+1))=zb3 (ws.take k)+ws[k].size):=zmZ ws k hlt
    have hle:=zoL ws (k+1)
    clear hc
    by_cases hneg:left - ws.length - zb3 (ws.take k) - ws[k].size < 0
    ·have HF:Hid (zK (qV ws) left=-1):=zC (by have:=HS.out;unfold qV;omega)
     clear hle
     go_wp2
     go_ret
     exact ⟨zq HF.out.symm,rfl⟩
    ·clear hle
     go_wp2
     go_round
     case rel=>exact ⟨k+1,by omega,by go_num,by rw [HS.out];omega,by rw [HS.out];go_num⟩
     case measure=>simp [intOf];omega
   ·have HF:Hid (zK (qV ws) left=left - ws.length - zb3 (ws.take k)):=by
     rw [znO ws k (by omega)] at hpos ⊢
     have e:zK (qV ws) left=left - qV ws:=zL (by unfold qV;omega)
     unfold Hid;rw [e];unfold qV;omega
    clear hw
    go_wp2
    go_ret
    exact ⟨zq HF.out.symm,rfl⟩
 ·have HF:Hid (zK (qV ws) left=-1):=zC (by unfold qV;omega)
  clear hw
  go_enter Tryz.func84,Tryz.ntmps84
  go_wp2
  go_ret
  exact ⟨zq HF.out.symm,rfl⟩
theorem zc2 (a a':Option Addr) (cap cap':Nat) (ws:List ByteArray) (w:World) (hw:zD w a ws) (hw':zD w a' ws) :
 Calls Tryz.prog 116 #[.slice a ws.length cap,.slice a' ws.length cap'] w fun e w'=>e = .returned (.bool true)/\Below w.heap.size w w':=by
 have hl:=hw.len
 unfold maxLen at hl
 have hnn:((ws.length:Int) != ws.length)=false:=by simp
 go_enter Tryz.func116,Tryz.ntmps116
 go_wp2
 go_loopw [5] (fun i wr=>∃ k:Nat,k<=ws.length/\i = .int .i64 k/\∃ n,wr=w.drewN n) (fun i _=>ws.length - (intOf i).toNat)
 case atStart=>exact ⟨0,Nat.zero_le _,rfl,0,rfl⟩
 case round =>
  obtain ⟨k,hk,rfl,nd,rfl⟩:=hrel
  by_cases hlt:k < ws.length
  ·obtain ⟨b,off,rfl,hb,hc⟩:=hw.cells (by rintro rfl;simp at hlt)
   obtain ⟨b',off',rfl,hb',hc'⟩:=hw'.cells (by rintro rfl;simp at hlt)
   clear hw hw'
   have hck:=hc k hlt
   have hck':=hc' k hlt
   have hltI:(k:Int) < (ws.length:Int):=by omega
   clear hc hc'
   go_wp2
   go_quiet (fail)
   go_wp2
   exact ⟨⟨k+1,by omega,by go_num,nd+nq,rfl⟩,by simp [intOf];omega⟩
  ·clear hw hw'
   go_wp2
   go_ret
   exact ⟨rfl,below_drewN (Below.refl _ _) nd⟩
theorem zhD (nm:ByteArray) (kd ls ms:Int) (a a':Option Addr) (cap cap':Nat) (ws:List ByteArray) (to:ByteArray) (rl:Int) (mu fx:Bool) (df wg:ByteArray) (w:World) (hw:zD w a ws) (hw':zD w a' ws) :
 Calls Tryz.prog 164 #[.agg #[.string nm,.int .i64 kd,.int .i64 ls,.int .i64 ms,.slice a ws.length cap,.string to,.int .i64 rl,.bool mu,.bool fx,.string df,.string wg],.agg #[.string nm,.int .i64 kd,.int .i64 ls,.int .i64 ms,.slice a' ws.length cap',.string to,.int .i64 rl,.bool mu,.bool fx,.string df,.string wg]] w
  fun e w'=>e = .returned (.bool true)/\Below w.heap.size w w':=by
 go_enter Tryz.func164,Tryz.ntmps164
 go_wp2_with (go_at_call 116;refine (zc2 _ _ _ _ _ _ (by exact hw.mono (zA _ _ _)) (by exact hw'.mono (zA _ _ _))).mono ?_;rintro e w1 ⟨rfl,hb1⟩;have hc1:=(zpb hb1).1;have hz1:=hb1.size;simp only [World.size_alloc] at hz1)
 go_ret
 exact ⟨rfl,(zA _ _ _).trans (hb1.mono (by simp;omega))⟩
def zah (nm:ByteArray) (ws:List ByteArray) (to df wg:ByteArray):Nat:=nm.size+qV ws+to.size+df.size+wg.size
theorem jX (a:Option Addr) (cap:Nat) (ws:List ByteArray) (left:Int) (w:World) (hw:zD w a ws) (h0:0<=left) (h1:left<=1048576) (h:(qV ws:Int)<=left) :
 Calls Tryz.prog 84 #[.slice a ws.length cap,.int .i64 left] w fun e w'=>e = .returned (.int .i64 (left - qV ws))/\w'=w:=by
 refine (zeR a cap ws left w hw h0 h1).mono ?_
 rintro e w' ⟨rfl,rfl⟩
 exact ⟨zq (zL h),rfl⟩
theorem zdG (a:Option Addr) (cap:Nat) (ws:List ByteArray) (left:Int) (w:World) (hw:zD w a ws) (h0:0<=left) (h1:left<=1048576) (h:¬ (qV ws:Int)<=left) :
 Calls Tryz.prog 84 #[.slice a ws.length cap,.int .i64 left] w fun e w'=>e = .returned (.int .i64 (-1))/\w'=w:=by
 refine (zeR a cap ws left w hw h0 h1).mono ?_
 rintro e w' ⟨rfl,rfl⟩
 exact ⟨zq (zC h),rfl⟩
theorem zd7 (nm:ByteArray) (kd ls ms:Int) (a:Option Addr) (cap:Nat) (ws:List ByteArray) (to:ByteArray) (rl:Int) (mu fx:Bool) (df wg:ByteArray) (left:Int) (w:World) (hw:zD w a ws) (h0:0<=left) (h1:left<=1048576)
 (hnm:nm.size<=maxLen) (hto:to.size<=maxLen) (hdf:df.size<=maxLen) (hwg:wg.size<=maxLen) :
 Calls Tryz.prog 118 #[.agg #[.string nm,.int .i64 kd,.int .i64 ls,.int .i64 ms,.slice a ws.length cap,.string to,.int .i64 rl,.bool mu,.bool fx,.string df,.string wg],.int .i64 left] w fun e w'=>e = .returned (.int .i64 (zK (zah nm ws to df wg) left))/\Below w.heap.size w w':=by
 unfold maxLen at hnm hto hdf hwg
 by_cases c1:(nm.size:Int)<=left
 rotate_left
 ·have HF:Hid (zK (zah nm ws to df wg) left=-1):=zC (by unfold zah;omega)
  go_enter Tryz.func118,Tryz.ntmps118
  go_wp2_with fail
  go_ret
  exact ⟨zq HF.out.symm,(Below.refl _ _).alloc (Nat.le_refl _) _⟩
 by_cases c2:(qV ws:Int)<=left - nm.size
 rotate_left
 ·have HF:Hid (zK (zah nm ws to df wg) left=-1):=zC (by unfold zah;omega)
  go_enter Tryz.func118,Tryz.ntmps118
  go_wp2_with (go_at_call 84;refine (zdG _ _ _ _ _ (by exact hw.mono ((Below.refl _ _).alloc (Nat.le_refl _) _)) (by omega) (by omega) (by omega)).mono ?_;rintro e w1 ⟨rfl,rfl⟩)
  go_ret
  exact ⟨zq HF.out.symm,(Below.refl _ _).alloc (Nat.le_refl _) _⟩
 by_cases c3:(to.size:Int)<=left - nm.size - qV ws
 rotate_left
 ·have HF:Hid (zK (zah nm ws to df wg) left=-1):=zC (by unfold zah;omega)
  go_enter Tryz.func118,Tryz.ntmps118
  go_wp2_with (go_at_call 84;refine (jX _ _ _ _ _ (by exact hw.mono ((Below.refl _ _).alloc (Nat.le_refl _) _)) (by omega) (by omega) (by omega)).mono ?_;rintro e w1 ⟨rfl,rfl⟩)
  go_ret
  exact ⟨zq HF.out.symm,(Below.refl _ _).alloc (Nat.le_refl _) _⟩
 by_cases c4:(df.size:Int)<=left - nm.size - qV ws - to.size
 rotate_left
 ·have HF:Hid (zK (zah nm ws to df wg) left=-1):=zC (by unfold zah;omega)
  go_enter Tryz.func118,Tryz.ntmps118
  go_wp2_with (go_at_call 84;refine (jX _ _ _ _ _ (by exact hw.mono ((Below.refl _ _).alloc (Nat.le_refl _) _)) (by omega) (by omega) (by omega)).mono ?_;rintro e w1 ⟨rfl,rfl⟩)
  go_ret
  exact ⟨zq HF.out.symm,(Below.refl _ _).alloc (Nat.le_refl _) _⟩
 by_cases c5:(wg.size:Int)<=left - nm.size - qV ws - to.size - df.size
 rotate_left
 ·have HF:Hid (zK (zah nm ws to df wg) left=-1):=zC (by unfold zah;omega)
  go_enter Tryz.func118,Tryz.ntmps118
  go_wp2_with (go_at_call 84;refine (jX _ _ _ _ _ (by exact hw.mono ((Below.refl _ _).alloc (Nat.le_refl _) _)) (by omega) (by omega) (by omega)).mono ?_;rintro e w1 ⟨rfl,rfl⟩)
  go_ret
  exact ⟨zq HF.out.symm,(Below.refl _ _).alloc (Nat.le_refl _) _⟩
 ·have HF:Hid (zK (zah nm ws to df wg) left=left - nm.size - qV ws - to.size - df.size - wg.size):=by
   have e:zK (zah nm ws to df wg) left=left - zah nm ws to df wg:=zL (by unfold zah;omega)
   unfold Hid;rw [e];unfold zah;omega
  go_enter Tryz.func118,Tryz.ntmps118
  go_wp2_with (go_at_call 84;refine (jX _ _ _ _ _ (by exact hw.mono ((Below.refl _ _).alloc (Nat.le_refl _) _)) (by omega) (by omega) (by omega)).mono ?_;rintro e w1 ⟨rfl,rfl⟩)
  go_ret
  exact ⟨zq HF.out.symm,(Below.refl _ _).alloc (Nat.le_refl _) _⟩
end Go.Proofs.YtihdafafigceiaaGreat
namespace Go.Proofs.YtihdafafigceiaaGreat.Gate
def up (P:Nat->Bool) (n:Nat):Bool:=(List.range n).all P
theorem qZ (P:Nat->Bool) (n:Nat):up P (n+1)=(up P n && P n):=by simp [up,List.range_succ,List.all_append]
theorem zaD {P:Nat->Bool} {k n:Nat} (h:k < n) (hk:P k=false):up P n=false:=by
 unfold up;rw [List.all_eq_false];exact ⟨k,List.mem_range.2 h,by simp [hk]⟩
theorem zg1 {P:Nat->Bool} {k n:Nat} (h:k < n) (hu:up P n=true):P k=true:=by
 unfold up at hu;rw [List.all_eq_true] at hu;exact hu k (List.mem_range.2 h)
def less (a b:ByteArray):Bool:=Op.bytesLess a.toList b.toList
def zdc (ws:List ByteArray) (i:Nat):Bool:=zy (ws.getD i ByteArray.empty) && (decide (i=0) || less (ws.getD (i - 1) ByteArray.empty) (ws.getD i ByteArray.empty))
def asc (ws:List ByteArray):Bool:=up (zdc ws) ws.length
theorem getD_at {α:Type} (l:List α) (i:Nat) (d:α) (h:i < l.length):l.getD i d=l[i]:=by
 rw [List.getD_eq_getElem?_getD,List.getElem?_eq_getElem h];rfl
theorem zi4 {ws:List ByteArray} {k:Nat} (h:k < ws.length) (hn:zy ws[k]=false):zdc ws k=false:=by
 unfold zdc;rw [getD_at ws k _ h,hn];rfl
theorem zha {ws:List ByteArray} (h:0 < ws.length) (hn:zy ws[0]=true):zdc ws 0=true:=by
 unfold zdc;rw [getD_at ws 0 _ h,hn];rfl
theorem zdI {ws:List ByteArray} {k:Nat} (h:k+1 < ws.length) (hn:zy ws[k+1]=true):zdc ws (k+1)=less ws[k] ws[k+1]:=by
 unfold zdc;rw [getD_at ws (k+1) _ h,Nat.add_sub_cancel,getD_at ws k _ (by omega),hn];simp
def yF (kd ls ms:Int) (n:Nat) (to:ByteArray) (rl:Int) (wg:ByteArray):Bool :=
 if kd=1 then decide (n=0) && to.toList.isEmpty && decide (rl=0)
 else if kd=2 then decide (ls=0) && decide (ms=0) && to.toList.isEmpty && decide (rl=0) && wg.toList.isEmpty
 else if kd=3 then decide (n=0) && to.toList.isEmpty && decide (rl=0) && wg.toList.isEmpty
 else if kd=4 then decide (ls=0) && decide (ms=0) && decide (n=0) && wg.toList.isEmpty
 else false
def jE (ls ms lo hi:Int):Bool:=decide (lo<=ls) && decide (ls<=ms) && decide (ms<=hi)
def zG (ss:List Shp) (k:ByteArray):Bool:=ss.any fun s=>decide (s.kd=k)
def zW (ss:List Shp) (f:Fld):Bool :=
 if f.kd=1 then jE f.ls f.ms 0 1000000 && (f.wg.toList.isEmpty || zy f.wg)
 else if f.kd=2 then decide (1<=f.ws.length) && decide (f.ws.length<=6) && asc f.ws
 else if f.kd=3 then jE f.ls f.ms 1 40
 else if f.kd=4 then zG ss f.to && (decide (1<=f.rl) && decide (f.rl<=3)) && f.df.toList.isEmpty && (decide (f.rl ≠ 2) || !f.mu)
 else false
def bare (f:Fld):Bool:=yF f.kd f.ls f.ms f.ws.length f.to f.rl f.wg
def zez (f:Fld) (v:ByteArray):Bool:=fits f.kd f.ls f.ms f.ws v
def zpk (f:Fld):Bool:=f.df.toList.isEmpty || zez f f.df
def yG (ss:List Shp) (f:Fld):Bool:=bare f && zW ss f && zpk f
def zca:Shp:=⟨ByteArray.empty,[]⟩
def shapeOf (ss:List Shp) (k:ByteArray):Shp:=(ss.find? fun s=>decide (s.kd=k)).getD zca
theorem zf7 (ss:List Shp) (v:ByteArray) (k:Nat) (h:k < ss.length):zG (ss.take (k+1)) v=(zG (ss.take k) v || decide (ss[k].kd=v)):=by
 unfold zG;rw [List.take_succ_eq_append_getElem h,List.any_append];simp
theorem ziz (ss:List Shp) (v:ByteArray) (k:Nat) (h:k < ss.length) (e:ss[k].kd=v):zG ss v=true:=by
 unfold zG;rw [List.any_eq_true];exact ⟨ss[k],List.getElem_mem h,by simpa using e⟩
theorem zhd (ss:List Shp) (v:ByteArray) (k:Nat) (h:ss.length<=k):zG (ss.take k) v=zG ss v:=by rw [List.take_of_length_le h]
theorem ze7 (ss:List Shp) (v:ByteArray) (k:Nat) (h:k < ss.length) (hb:zG (ss.take k) v=false) (e:ss[k].kd=v):shapeOf ss v=ss[k]:=by
 unfold shapeOf
 have hn:(ss.take k).find? (fun s=>decide (s.kd=v))=none:=by
  rw [List.find?_eq_none];intro x hx;unfold zG at hb;rw [List.any_eq_false] at hb;exact hb x hx
 conv=>lhs;rw [<- List.take_append_drop k ss]
 rw [List.find?_append,hn,List.drop_eq_getElem_cons h,List.find?_cons_of_pos (by simpa using e)];rfl
theorem zkI (ss:List Shp) (v:ByteArray) (hb:zG ss v=false):shapeOf ss v=zca:=by
 unfold shapeOf
 have hn:ss.find? (fun s=>decide (s.kd=v))=none:=by
  rw [List.find?_eq_none];intro x hx;unfold zG at hb;rw [List.any_eq_false] at hb;exact hb x hx
 rw [hn];rfl
def hasName (fs:List Fld) (v:ByteArray):Bool:=fs.any fun f=>decide (f.nm=v)
def zQ (fs:List Fld) (v:ByteArray):Int:=match fs.findIdx? (fun f=>decide (f.nm=v)) with | some i=>i | none=>-1
theorem zdL (fs:List Fld) (v:ByteArray) (k:Nat) (h:k < fs.length):hasName (fs.take (k+1)) v=(hasName (fs.take k) v || decide (fs[k].nm=v)):=by
 unfold hasName;rw [List.take_succ_eq_append_getElem h,List.any_append];simp
theorem zhe (fs:List Fld) (v:ByteArray) (k:Nat) (h:fs.length<=k):hasName (fs.take k) v=hasName fs v:=by rw [List.take_of_length_le h]
theorem zdw (fs:List Fld) (v:ByteArray) (k:Nat) (h:k < fs.length) (hb:hasName (fs.take k) v=false) (e:fs[k].nm=v):zQ fs v=k:=by
 unfold zQ
 have hf:fs.findIdx? (fun f=>decide (f.nm=v))=some k:=by
  rw [List.findIdx?_eq_some_iff_getElem]
  refine ⟨h,by simpa using e,fun j hj=>?_⟩
  unfold hasName at hb
  rw [List.any_eq_false] at hb
  have hm:fs[j] ∈ fs.take k:=by
   rw [List.mem_iff_getElem]
   exact ⟨j,by simp;omega,by simp⟩
  exact hb _ hm
 rw [hf]
theorem zf8 (fs:List Fld) (v:ByteArray) (hb:hasName fs v=false):zQ fs v=-1:=by
 unfold zQ
 have hf:fs.findIdx? (fun f=>decide (f.nm=v))=none:=by
  rw [List.findIdx?_eq_none_iff]
  intro x hx
  unfold hasName at hb
  rw [List.any_eq_false] at hb
  simpa using hb x hx
 rw [hf]
theorem zjK (fs:List Fld) (v:ByteArray) (k:Nat) (h:k < fs.length) (hh:hasName (fs.take k) v=true):∃ j,j < k/\zQ fs v=j:=by
 unfold hasName at hh
 rw [List.any_eq_true] at hh
 obtain ⟨x,hx,he⟩:=hh
 obtain ⟨j,hj,rfl⟩:=List.mem_iff_getElem.1 hx
 have hjk:j < k:=by simp at hj;omega
 have hjl:j < fs.length:=by omega
 have hv:fs[j].nm=v:=by simpa using he
 cases hf:fs.findIdx? (fun f=>decide (f.nm=v)) with
 | none =>
  rw [List.findIdx?_eq_none_iff] at hf
  have:=hf fs[j] (List.getElem_mem hjl)
  simp [hv] at this
 | some i =>
  refine ⟨i,?_,by unfold zQ;rw [hf]⟩
  rw [List.findIdx?_eq_some_iff_getElem] at hf
  obtain ⟨hi,_,hmin⟩:=hf
  rcases Nat.lt_or_ge i k with h1 | h1
  ·exact h1
  ·exfalso
   have:=hmin j (by omega)
   simp [hv] at this
def zbv:Fld:=⟨ByteArray.empty,0,0,0,[],ByteArray.empty,0,false,false,ByteArray.empty,ByteArray.empty⟩
def zdr (ss:List Shp) (fs:List Fld) (i:Nat):Bool :=
 zy (fs.getD i zbv).nm && !hasName (fs.take i) (fs.getD i zbv).nm && yG ss (fs.getD i zbv)
def yT (ss:List Shp) (fs:List Fld):Bool:=decide (fs.length<=6) && up (zdr ss fs) fs.length
theorem zhW (ss:List Shp) (fs:List Fld) (i:Nat) (h:i < fs.length):zdr ss fs i=(zy fs[i].nm && !hasName (fs.take i) fs[i].nm && yG ss fs[i]):=by
 unfold zdr;rw [getD_at fs i _ h]
def yR (ss:List Shp) (i:Nat):Bool :=
 zy (ss.getD i zca).kd && (decide (i=0) || less (ss.getD (i - 1) zca).kd (ss.getD i zca).kd) && yT ss (ss.getD i zca).fs
def yg (ss:List Shp):Bool:=decide (ss.length<=6) && up (yR ss) ss.length
theorem zeT (ss:List Shp) (h:0 < ss.length):yR ss 0=(zy ss[0].kd && yT ss ss[0].fs):=by
 unfold yR;rw [getD_at ss 0 _ h];simp
theorem zfo (ss:List Shp) (k:Nat) (h:k+1 < ss.length):yR ss (k+1)=(zy ss[k+1].kd && less ss[k].kd ss[k+1].kd && yT ss ss[k+1].fs):=by
 unfold yR;rw [getD_at ss (k+1) _ h,Nat.add_sub_cancel,getD_at ss k _ (by omega)];simp
theorem zbN:∀ x:List UInt8,Op.bytesLess x x=false
 | []=>rfl
 | a :: x=>by
  simp only [Op.bytesLess,Bool.or_eq_false_iff,decide_eq_false_iff_not,Bool.and_eq_false_iff]
  exact ⟨fun h=>by simp at h,Or.inr (zbN x)⟩
theorem za4:∀ x y z:List UInt8,Op.bytesLess x y=true->Op.bytesLess y z=true->Op.bytesLess x z=true
 | _,[],_,h,_=>by simp [Op.bytesLess] at h
 | [],_ :: _,[],_,h=>by simp [Op.bytesLess] at h
 | [],_ :: _,_ :: _,_,_=>rfl
 | _ :: _,_ :: _,[],_,h=>by simp [Op.bytesLess] at h
 | a :: x,b :: y,c :: z,h,k=>by
  simp only [Op.bytesLess,Bool.or_eq_true,decide_eq_true_eq,Bool.and_eq_true,beq_iff_eq] at h k ⊢
  rcases h with h | ⟨rfl,h⟩
  ·rcases k with k | ⟨rfl,k⟩
   ·exact Or.inl (UInt8.lt_trans h k)
   ·exact Or.inl h
  ·rcases k with k | ⟨rfl,k⟩
   ·exact Or.inl k
   ·exact Or.inr ⟨rfl,za4 x y z h k⟩
end Go.Proofs.YtihdafafigceiaaGreat.Gate
