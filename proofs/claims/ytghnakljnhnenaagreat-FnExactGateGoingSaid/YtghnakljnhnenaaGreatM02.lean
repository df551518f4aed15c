import Derived.Deep.OwnRows
import Derived.MapKept
import Derived.Test.YtghnakljnhnenaaGreatRows
import Derived.Test.YtghnakljnhnenaaGreatM01
import Derived.WalkSpells
import Derived.WalkLawsBesides
import Derived.Deep.QuietTactic
import Derived.BigQuiet
set_option maxHeartbeats 1000000
namespace Go.Proofs.YtghnakljnhnenaaGreat
open Go.RowKit
theorem ze {a b:Bool} (h:a=b):Ending.returned (.bool a) = .returned (.bool b):=by rw [h]
theorem zq {k:IntKind} {a b:Int} (h:a=b):Ending.returned (.int k a) = .returned (.int k b):=by rw [h]
def zL (t:Nat) (left:Int):Int:=if (t:Int)<=left then left - t else -1
theorem zN {t:Nat} {left:Int} (h:(t:Int)<=left):zL t left=left - t:=by simp [zL,h]
theorem zC {t:Nat} {left:Int} (h:¬ (t:Int)<=left):zL t left=-1:=by simp [zL,h]
theorem za5 {α:Type} (g:α->Nat) (l:List α) (k:Nat) (h:k < l.length):((l.take (k+1)).map g).sum=((l.take k).map g).sum+g l[k]:=by
 rw [tSe h,List.map_append,List.sum_append];simp
theorem zcQ {α:Type} (g:α->Nat) (l:List α) (k:Nat):((l.take k).map g).sum<=(l.map g).sum:=by
 conv=>rhs;rw [<- List.take_append_drop k l]
 rw [List.map_append,List.sum_append];omega
theorem ziu {α:Type} (g:α->Nat) (l:List α) (k:Nat) (h:k < l.length):g l[k]<=(l.map g).sum:=by
 have h1:=za5 g l k h;have h2:=zcQ g l (k+1);omega
theorem jK {P:Program} (t e:TypeId) (z:Value) (size bytes:Nat) (ht:P.underlying t=some (.slice e)) (hinfo:(P.info? e).map (fun i=>(i.zero,i.size,i.bytes))=some (some z,size,bytes))
 (n:Nat) (hbytes:bytes * n<=281474976710656) (h63:n<=9223372036854775807) (w:World) :
 (Instr.makeSlice t (.int .i64 (n:Int)) (.int .i64 (n:Int))).run P w = .ok (.slice (some ⟨w.heap.size,0,none⟩) n n) (w.alloc (.cells (madeCells z.cells (n * size)) e)):=by
 obtain ⟨i,hi,hzz⟩:=Option.map_eq_some_iff.1 hinfo;simp only [Prod.mk.injEq] at hzz;obtain ⟨hz,hs,hb⟩:=hzz
 have hb':(i.bytes:Int) * (n:Int)<=281474976710656:=by
  have h:((i.bytes * n:Nat):Int)<=281474976710656:=by rw [hb];omega
  rwa [Int.natCast_mul] at h
 have hr:=run_make (P:=P) w t e i z ht hi hz .i64 .i64 n n (by omega) (Int.le_refl _) hb' (by omega);simp only [Int.toNat_natCast,hs] at hr;exact hr
theorem yD (n lo hi:Int) (w:World) :
 Calls Tryz.prog 59 #[.int .i64 n,.int .i64 lo,.int .i64 hi] w fun e w'=>e = .returned (.bool (decide (lo<=n) && decide (n<=hi)))/\w'=w:=by
 go_enter Tryz.func59,Tryz.ntmps59
 go_wp2
 all_goals
  go_ret;refine ⟨ze ?_,rfl⟩
  simp;try omega
theorem zbb (n lo hi:Int) (w:World) (h1:lo<=n) (h2:n<=hi) :
 Calls Tryz.prog 59 #[.int .i64 n,.int .i64 lo,.int .i64 hi] w fun e w'=>e = .returned (.bool true)/\w'=w:=by
 refine (yD n lo hi w).mono ?_;rintro e w' ⟨rfl,rfl⟩;exact ⟨ze (by simp;omega),rfl⟩
theorem zcW (n lo hi:Int) (w:World) (h1:¬ (lo<=n/\n<=hi)) :
 Calls Tryz.prog 59 #[.int .i64 n,.int .i64 lo,.int .i64 hi] w fun e w'=>e = .returned (.bool false)/\w'=w:=by
 refine (yD n lo hi w).mono ?_;rintro e w' ⟨rfl,rfl⟩;exact ⟨ze (by simp;omega),rfl⟩
theorem zhA (c:UInt8) (w:World) :
 Calls Tryz.prog 207 #[.int .u8 c.toNat] w fun e w'=>e = .returned (.bool (Gate.digit c))/\w'=w:=by
 go_enter Tryz.func207,Tryz.ntmps207
 go_wp2
 all_goals
  go_ret;refine ⟨ze ?_,rfl⟩;rw [Bool.eq_iff_iff];simp [Gate.digit];try omega
theorem zhL (c:UInt8) (w:World) (h:48<=(c.toNat:Int)) (h2:(c.toNat:Int)<=57) :
 Calls Tryz.prog 207 #[.int .u8 c.toNat] w fun e w'=>e = .returned (.bool true)/\w'=w:=by
 refine (zhA c w).mono ?_;rintro e w' ⟨rfl,rfl⟩;exact ⟨ze (by simp [Gate.digit];omega),rfl⟩
theorem zcO (c:UInt8) (w:World) (h:¬ (48<=(c.toNat:Int)/\(c.toNat:Int)<=57)) :
 Calls Tryz.prog 207 #[.int .u8 c.toNat] w fun e w'=>e = .returned (.bool false)/\w'=w:=by
 refine (zhA c w).mono ?_;rintro e w' ⟨rfl,rfl⟩;exact ⟨ze (by simp [Gate.digit];omega),rfl⟩
def zb9 (ws:List ByteArray):Nat:=(ws.map ByteArray.size).sum
def qW (ws:List ByteArray):Nat:=ws.length+zb9 ws
theorem znu (ws:List ByteArray) (k:Nat) (h:k < ws.length):zb9 (ws.take (k+1))=zb9 (ws.take k)+ws[k].size:=by
 unfold zb9;rw [tSe h,List.map_append,List.sum_append];simp
theorem zpk (ws:List ByteArray) (k:Nat):zb9 (ws.take k)<=zb9 ws:=by
 unfold zb9
 conv=>rhs;rw [<- List.take_append_drop k ws]
 rw [List.map_append,List.sum_append];omega
theorem zov (ws:List ByteArray) (k:Nat) (h:ws.length<=k):zb9 (ws.take k)=zb9 ws:=by rw [tOl h]
theorem zfd (a:Option Addr) (cap:Nat) (ws:List ByteArray) (left:Int) (w:World) (hw:zD w a ws) (h0:0<=left) (h1:left<=1048576) :
 Calls Tryz.prog 86 #[.slice a ws.length cap,.int .i64 left] w fun e w'=>e = .returned (.int .i64 (zL (qW ws) left))/\w'=w:=by
 have hl:=hw.len;unfold maxLen at hl
 by_cases hfit:(ws.length:Int)<=left
 ·go_enter Tryz.func86,Tryz.ntmps86
  go_wp2
  go_loop [1,5] (fun l i=>∃ k:Nat,k<=ws.length/\i = .int .i64 k/\0<=left - ws.length - zb9 (ws.take k)/\l = .int .i64 (left - ws.length - zb9 (ws.take k))) (fun _ i=>ws.length - (intOf i).toNat)
  case atStart=>exact ⟨0,Nat.zero_le _,rfl,by simp [zb9];omega,by simp [zb9]⟩
  case round =>
   obtain ⟨k,hk,rfl,hpos,rfl⟩:=hrel
   by_cases hlt:k < ws.length
   ·obtain ⟨b,off,rfl,hb,hc⟩:=hw.cells (by rintro rfl;simp at hlt)
    have hsm:=hw.small _ (List.getElem_mem hlt);unfold maxLen at hsm;clear hw;have hck:=hc k hlt;have HS:Hid (zb9 (ws.take (k+1))=zb9 (ws.take k)+ws[k].size):=znu ws k hlt;have hle:=zpk ws (k+1);clear hc
    by_cases hneg:left - ws.length - zb9 (ws.take k) - ws[k].size < 0
    ·have HF:Hid (zL (qW ws) left=-1):=zC (by have:=HS.out;unfold qW;omega)
     clear hle
     go_wp2
     go_ret;exact ⟨zq HF.out.symm,rfl⟩
    ·clear hle
     go_wp2
     go_round
     case rel=>exact ⟨k+1,by omega,by go_num,by rw [HS.out];omega,by rw [HS.out];go_num⟩
     case measure=>simp [intOf];omega
   ·have HF:Hid (zL (qW ws) left=left - ws.length - zb9 (ws.take k)):=by
     rw [zov ws k (by omega)] at hpos ⊢;have e:zL (qW ws) left=left - qW ws:=zN (by unfold qW;omega);unfold Hid;rw [e];unfold qW;omega
    clear hw
    go_wp2
    go_ret;exact ⟨zq HF.out.symm,rfl⟩
 ·have HF:Hid (zL (qW ws) left=-1):=zC (by unfold qW;omega)
  clear hw;go_enter Tryz.func86,Tryz.ntmps86
  go_wp2
  go_ret;exact ⟨zq HF.out.symm,rfl⟩
theorem zdc (a a':Option Addr) (cap cap':Nat) (ws:List ByteArray) (w:World) (hw:zD w a ws) (hw':zD w a' ws) :
 Calls Tryz.prog 121 #[.slice a ws.length cap,.slice a' ws.length cap'] w fun e w'=>e = .returned (.bool true)/\Below w.heap.size w w':=by
 have hl:=hw.len;unfold maxLen at hl;have hnn:((ws.length:Int) != ws.length)=false:=by simp
 go_enter Tryz.func121,Tryz.ntmps121
 go_wp2
 go_loopw [5] (fun i wr=>∃ k:Nat,k<=ws.length/\i = .int .i64 k/\∃ n,wr=w.drewN n) (fun i _=>ws.length - (intOf i).toNat)
 case atStart=>exact ⟨0,Nat.zero_le _,rfl,0,rfl⟩
 case round =>
  obtain ⟨k,hk,rfl,nd,rfl⟩:=hrel
  by_cases hlt:k < ws.length
  ·obtain ⟨b,off,rfl,hb,hc⟩:=hw.cells (by rintro rfl;simp at hlt)
   obtain ⟨b',off',rfl,hb',hc'⟩:=hw'.cells (by rintro rfl;simp at hlt);clear hw hw';have hck:=hc k hlt;have hck':=hc' k hlt;have hltI:(k:Int) < (ws.length:Int):=by omega
   clear hc hc'
   go_wp2
   go_quiet (fail)
   go_wp2
   exact ⟨⟨k+1,by omega,by go_num,nd+nq,rfl⟩,by simp [intOf];omega⟩
  ·clear hw hw'
   go_wp2
   go_ret;exact ⟨rfl,below_drewN (bRf _ _) nd⟩
theorem zh4 (nm:ByteArray) (kd ls ms:Int) (a a':Option Addr) (cap cap':Nat) (ws:List ByteArray) (to:ByteArray) (rl:Int) (mu fx:Bool) (df wg:ByteArray) (w:World) (hw:zD w a ws) (hw':zD w a' ws) :
 Calls Tryz.prog 168 #[.agg #[.string nm,.int .i64 kd,.int .i64 ls,.int .i64 ms,.slice a ws.length cap,.string to,.int .i64 rl,.bool mu,.bool fx,.string df,.string wg],.agg #[.string nm,.int .i64 kd,.int .i64 ls,.int .i64 ms,.slice a' ws.length cap',.string to,.int .i64 rl,.bool mu,.bool fx,.string df,.string wg]] w
  fun e w'=>e = .returned (.bool true)/\Below w.heap.size w w':=by
 go_enter Tryz.func168,Tryz.ntmps168
 go_wp2_with (go_at_call 121;refine (zdc _ _ _ _ _ _ (by exact hw.mono (zA _ _ _)) (by exact hw'.mono (zA _ _ _))).mono ?_;rintro e w1 ⟨rfl,hb1⟩;have hc1:=(zqe hb1).1;have hz1:=hb1.size;simp only [World.size_alloc] at hz1)
 go_ret;exact ⟨rfl,(zA _ _ _).trans (hb1.mono (by simp;omega))⟩
def zam (nm:ByteArray) (ws:List ByteArray) (to df wg:ByteArray):Nat:=nm.size+qW ws+to.size+df.size+wg.size
theorem zaa (a:Option Addr) (cap:Nat) (ws:List ByteArray) (left:Int) (w:World) (hw:zD w a ws) (h0:0<=left) (h1:left<=1048576) (h:(qW ws:Int)<=left) :
 Calls Tryz.prog 86 #[.slice a ws.length cap,.int .i64 left] w fun e w'=>e = .returned (.int .i64 (left - qW ws))/\w'=w:=by
 refine (zfd a cap ws left w hw h0 h1).mono ?_;rintro e w' ⟨rfl,rfl⟩;exact ⟨zq (zN h),rfl⟩
theorem zdZ (a:Option Addr) (cap:Nat) (ws:List ByteArray) (left:Int) (w:World) (hw:zD w a ws) (h0:0<=left) (h1:left<=1048576) (h:¬ (qW ws:Int)<=left) :
 Calls Tryz.prog 86 #[.slice a ws.length cap,.int .i64 left] w fun e w'=>e = .returned (.int .i64 (-1))/\w'=w:=by
 refine (zfd a cap ws left w hw h0 h1).mono ?_;rintro e w' ⟨rfl,rfl⟩;exact ⟨zq (zC h),rfl⟩
theorem zee (nm:ByteArray) (kd ls ms:Int) (a:Option Addr) (cap:Nat) (ws:List ByteArray) (to:ByteArray) (rl:Int) (mu fx:Bool) (df wg:ByteArray) (left:Int) (w:World) (hw:zD w a ws) (h0:0<=left) (h1:left<=1048576)
 (hnm:nm.size<=maxLen) (hto:to.size<=maxLen) (hdf:df.size<=maxLen) (hwg:wg.size<=maxLen) :
 Calls Tryz.prog 123 #[.agg #[.string nm,.int .i64 kd,.int .i64 ls,.int .i64 ms,.slice a ws.length cap,.string to,.int .i64 rl,.bool mu,.bool fx,.string df,.string wg],.int .i64 left] w fun e w'=>e = .returned (.int .i64 (zL (zam nm ws to df wg) left))/\Below w.heap.size w w':=by
 unfold maxLen at hnm hto hdf hwg
 by_cases c1:(nm.size:Int)<=left
 rotate_left
 ·have HF:Hid (zL (zam nm ws to df wg) left=-1):=zC (by unfold zam;omega)
  go_enter Tryz.func123,Tryz.ntmps123;go_wp2_with fail
  go_ret;exact ⟨zq HF.out.symm,bAl _ _⟩
 by_cases c2:(qW ws:Int)<=left - nm.size
 rotate_left
 ·have HF:Hid (zL (zam nm ws to df wg) left=-1):=zC (by unfold zam;omega)
  go_enter Tryz.func123,Tryz.ntmps123
  go_wp2_with (go_at_call 86;refine (zdZ _ _ _ _ _ (by exact hw.mono (bAl _ _)) (by omega) (by omega) (by omega)).mono ?_;rintro e w1 ⟨rfl,rfl⟩)
  go_ret;exact ⟨zq HF.out.symm,bAl _ _⟩
 by_cases c3:(to.size:Int)<=left - nm.size - qW ws
 rotate_left
 ·have HF:Hid (zL (zam nm ws to df wg) left=-1):=zC (by unfold zam;omega)
  go_enter Tryz.func123,Tryz.ntmps123
  go_wp2_with (go_at_call 86;refine (zaa _ _ _ _ _ (by exact hw.mono (bAl _ _)) (by omega) (by omega) (by omega)).mono ?_;rintro e w1 ⟨rfl,rfl⟩)
  go_ret;exact ⟨zq HF.out.symm,bAl _ _⟩
 by_cases c4:(df.size:Int)<=left - nm.size - qW ws - to.size
 rotate_left
 ·have HF:Hid (zL (zam nm ws to df wg) left=-1):=zC (by unfold zam;omega)
  go_enter Tryz.func123,Tryz.ntmps123
  go_wp2_with (go_at_call 86;refine (zaa _ _ _ _ _ (by exact hw.mono (bAl _ _)) (by omega) (by omega) (by omega)).mono ?_;rintro e w1 ⟨rfl,rfl⟩)
  go_ret;exact ⟨zq HF.out.symm,bAl _ _⟩
 by_cases c5:(wg.size:Int)<=left - nm.size - qW ws - to.size - df.size
 rotate_left
 ·have HF:Hid (zL (zam nm ws to df wg) left=-1):=zC (by unfold zam;omega)
  go_enter Tryz.func123,Tryz.ntmps123
  go_wp2_with (go_at_call 86;refine (zaa _ _ _ _ _ (by exact hw.mono (bAl _ _)) (by omega) (by omega) (by omega)).mono ?_;rintro e w1 ⟨rfl,rfl⟩)
  go_ret;exact ⟨zq HF.out.symm,bAl _ _⟩
 ·have HF:Hid (zL (zam nm ws to df wg) left=left - nm.size - qW ws - to.size - df.size - wg.size):=by
   have e:zL (zam nm ws to df wg) left=left - zam nm ws to df wg:=zN (by unfold zam;omega);unfold Hid;rw [e];unfold zam;omega
  go_enter Tryz.func123,Tryz.ntmps123
  go_wp2_with (go_at_call 86;refine (zaa _ _ _ _ _ (by exact hw.mono (bAl _ _)) (by omega) (by omega) (by omega)).mono ?_;rintro e w1 ⟨rfl,rfl⟩)
  go_ret;exact ⟨zq HF.out.symm,bAl _ _⟩
end Go.Proofs.YtghnakljnhnenaaGreat
namespace Go.Proofs.YtghnakljnhnenaaGreat.Gate
def up (P:Nat->Bool) (n:Nat):Bool:=(List.range n).all P
theorem q9 (P:Nat->Bool) (n:Nat):up P (n+1)=(up P n && P n):=by simp [up,List.range_succ,List.all_append]
theorem zaR {P:Nat->Bool} {k n:Nat} (h:k < n) (hk:P k=false):up P n=false:=by
 unfold up;rw [List.all_eq_false];exact ⟨k,List.mem_range.2 h,by simp [hk]⟩
theorem ze6 {P:Nat->Bool} {k n:Nat} (h:k < n) (hu:up P n=true):P k=true:=by
 unfold up at hu;rw [List.all_eq_true] at hu;exact hu k (List.mem_range.2 h)
def less (a b:ByteArray):Bool:=Op.bytesLess a.toList b.toList
def zdD (ws:List ByteArray) (i:Nat):Bool:=zy (ws.getD i ByteArray.empty) && (decide (i=0) || less (ws.getD (i - 1) ByteArray.empty) (ws.getD i ByteArray.empty))
def asc (ws:List ByteArray):Bool:=up (zdD ws) ws.length
theorem getD_at {α:Type} (l:List α) (i:Nat) (d:α) (h:i < l.length):l.getD i d=l[i]:=by
 rw [List.getD_eq_getElem?_getD,List.getElem?_eq_getElem h];rfl
theorem zi6 {ws:List ByteArray} {k:Nat} (h:k < ws.length) (hn:zy ws[k]=false):zdD ws k=false:=by
 unfold zdD;rw [getD_at ws k _ h,hn];rfl
theorem zhn {ws:List ByteArray} (h:0 < ws.length) (hn:zy ws[0]=true):zdD ws 0=true:=by
 unfold zdD;rw [getD_at ws 0 _ h,hn];rfl
theorem zdK {ws:List ByteArray} {k:Nat} (h:k+1 < ws.length) (hn:zy ws[k+1]=true):zdD ws (k+1)=less ws[k] ws[k+1]:=by
 unfold zdD;rw [getD_at ws (k+1) _ h,Nat.add_sub_cancel,getD_at ws k _ (by omega),hn];simp
def yG (kd ls ms:Int) (n:Nat) (to:ByteArray) (rl:Int) (wg:ByteArray):Bool :=
 if kd=1 then decide (n=0) && to.toList.isEmpty && decide (rl=0)
 else if kd=2 then decide (ls=0) && decide (ms=0) && to.toList.isEmpty && decide (rl=0) && wg.toList.isEmpty
 else if kd=3 then decide (n=0) && to.toList.isEmpty && decide (rl=0) && wg.toList.isEmpty
 else if kd=4 then decide (ls=0) && decide (ms=0) && decide (n=0) && wg.toList.isEmpty
 else false
def jF (ls ms lo hi:Int):Bool:=decide (lo<=ls) && decide (ls<=ms) && decide (ms<=hi)
def zF (ss:List Shp) (k:ByteArray):Bool:=ss.any fun s=>decide (s.kd=k)
def zZ (ss:List Shp) (f:Fld):Bool :=
 if f.kd=1 then jF f.ls f.ms 0 1000000 && (f.wg.toList.isEmpty || zy f.wg)
 else if f.kd=2 then decide (1<=f.ws.length) && decide (f.ws.length<=6) && asc f.ws
 else if f.kd=3 then jF f.ls f.ms 1 40
 else if f.kd=4 then zF ss f.to && (decide (1<=f.rl) && decide (f.rl<=3)) && f.df.toList.isEmpty && (decide (f.rl ≠ 2) || !f.mu)
 else false
def bare (f:Fld):Bool:=yG f.kd f.ls f.ms f.ws.length f.to f.rl f.wg
def zeK (f:Fld) (v:ByteArray):Bool:=fits f.kd f.ls f.ms f.ws v
def zql (f:Fld):Bool:=f.df.toList.isEmpty || zeK f f.df
def yF (ss:List Shp) (f:Fld):Bool:=bare f && zZ ss f && zql f
def zb2:Shp:=⟨ByteArray.empty,[]⟩
def shapeOf (ss:List Shp) (k:ByteArray):Shp:=(ss.find? fun s=>decide (s.kd=k)).getD zb2
theorem zf4 (ss:List Shp) (v:ByteArray) (k:Nat) (h:k < ss.length):zF (ss.take (k+1)) v=(zF (ss.take k) v || decide (ss[k].kd=v)):=by
 unfold zF;rw [tSe h,List.any_append];simp
theorem ziF (ss:List Shp) (v:ByteArray) (k:Nat) (h:k < ss.length) (e:ss[k].kd=v):zF ss v=true:=by
 unfold zF;rw [List.any_eq_true];exact ⟨ss[k],List.getElem_mem h,by simpa using e⟩
theorem zhH (ss:List Shp) (v:ByteArray) (k:Nat) (h:ss.length<=k):zF (ss.take k) v=zF ss v:=by rw [tOl h]
theorem zfm (ss:List Shp) (v:ByteArray) (k:Nat) (h:k < ss.length) (hb:zF (ss.take k) v=false) (e:ss[k].kd=v):shapeOf ss v=ss[k]:=by
 unfold shapeOf
 have hn:(ss.take k).find? (fun s=>decide (s.kd=v))=none:=by
  rw [List.find?_eq_none];intro x hx;unfold zF at hb;rw [List.any_eq_false] at hb;exact hb x hx
 conv=>lhs;rw [<- List.take_append_drop k ss]
 rw [List.find?_append,hn,List.drop_eq_getElem_cons h,List.find?_cons_of_pos (by simpa using e)];rfl
theorem zge (ss:List Shp) (v:ByteArray) (hb:zF ss v=false):shapeOf ss v=zb2:=by
 unfold shapeOf
 have hn:ss.find? (fun s=>decide (s.kd=v))=none:=by
  rw [List.find?_eq_none];intro x hx;unfold zF at hb;rw [List.any_eq_false] at hb;exact hb x hx
 rw [hn];rfl
def hasName (fs:List Fld) (v:ByteArray):Bool:=fs.any fun f=>decide (f.nm=v)
def zR (fs:List Fld) (v:ByteArray):Int:=match fs.findIdx? (fun f=>decide (f.nm=v)) with | some i=>i | none=>-1
theorem zdV (fs:List Fld) (v:ByteArray) (k:Nat) (h:k < fs.length):hasName (fs.take (k+1)) v=(hasName (fs.take k) v || decide (fs[k].nm=v)):=by
 unfold hasName;rw [tSe h,List.any_append];simp
theorem zhE (fs:List Fld) (v:ByteArray) (k:Nat) (h:fs.length<=k):hasName (fs.take k) v=hasName fs v:=by rw [tOl h]
theorem zeb (fs:List Fld) (v:ByteArray) (k:Nat) (h:k < fs.length) (hb:hasName (fs.take k) v=false) (e:fs[k].nm=v):zR fs v=k:=by
 unfold zR
 have hf:fs.findIdx? (fun f=>decide (f.nm=v))=some k:=by
  rw [List.findIdx?_eq_some_iff_getElem];refine ⟨h,by simpa using e,fun j hj=>?_⟩;unfold hasName at hb;rw [List.any_eq_false] at hb
  have hm:fs[j] ∈ fs.take k:=by
   rw [List.mem_iff_getElem];exact ⟨j,by simp;omega,by simp⟩
  exact hb _ hm
 rw [hf]
theorem zfH (fs:List Fld) (v:ByteArray) (hb:hasName fs v=false):zR fs v=-1:=by
 unfold zR
 have hf:fs.findIdx? (fun f=>decide (f.nm=v))=none:=by
  rw [List.findIdx?_eq_none_iff];intro x hx;unfold hasName at hb;rw [List.any_eq_false] at hb
  simpa using hb x hx
 rw [hf]
theorem zjL (fs:List Fld) (v:ByteArray) (k:Nat) (h:k < fs.length) (hh:hasName (fs.take k) v=true):∃ j,j < k/\zR fs v=j:=by
 unfold hasName at hh;rw [List.any_eq_true] at hh;obtain ⟨x,hx,he⟩:=hh;obtain ⟨j,hj,rfl⟩:=List.mem_iff_getElem.1 hx;have hjk:j < k:=by simp at hj;omega
 have hjl:j < fs.length:=by omega
 have hv:fs[j].nm=v:=by simpa using he
 cases hf:fs.findIdx? (fun f=>decide (f.nm=v)) with
 | none =>
  rw [List.findIdx?_eq_none_iff] at hf
  have:=hf fs[j] (List.getElem_mem hjl)
  simp [hv] at this
 | some i =>
  refine ⟨i,?_,by unfold zR;rw [hf]⟩;rw [List.findIdx?_eq_some_iff_getElem] at hf;obtain ⟨hi,_,hmin⟩:=hf
  rcases Nat.lt_or_ge i k with h1 | h1
  ·exact h1
  ·exfalso
   have:=hmin j (by omega)
   simp [hv] at this
def zbC:Fld:=⟨ByteArray.empty,0,0,0,[],ByteArray.empty,0,false,false,ByteArray.empty,ByteArray.empty⟩
def zd0 (ss:List Shp) (fs:List Fld) (i:Nat):Bool :=
 zy (fs.getD i zbC).nm && !hasName (fs.take i) (fs.getD i zbC).nm && yF ss (fs.getD i zbC)
def yU (ss:List Shp) (fs:List Fld):Bool:=decide (fs.length<=6) && up (zd0 ss fs) fs.length
theorem zgB (ss:List Shp) (fs:List Fld) (i:Nat) (h:i < fs.length):zd0 ss fs i=(zy fs[i].nm && !hasName (fs.take i) fs[i].nm && yF ss fs[i]):=by
 unfold zd0;rw [getD_at fs i _ h]
def yR (ss:List Shp) (i:Nat):Bool :=
 zy (ss.getD i zb2).kd && (decide (i=0) || less (ss.getD (i - 1) zb2).kd (ss.getD i zb2).kd) && yU ss (ss.getD i zb2).fs
def zQ (ss:List Shp):Bool:=decide (ss.length<=6) && up (yR ss) ss.length
theorem zfb (ss:List Shp) (h:0 < ss.length):yR ss 0=(zy ss[0].kd && yU ss ss[0].fs):=by
 unfold yR;rw [getD_at ss 0 _ h];simp
theorem zgb (ss:List Shp) (k:Nat) (h:k+1 < ss.length):yR ss (k+1)=(zy ss[k+1].kd && less ss[k].kd ss[k+1].kd && yU ss ss[k+1].fs):=by
 unfold yR;rw [getD_at ss (k+1) _ h,Nat.add_sub_cancel,getD_at ss k _ (by omega)];simp
theorem zbY:∀ x:List UInt8,Op.bytesLess x x=false
 | []=>rfl
 | a :: x=>by
  simp only [Op.bytesLess,Bool.or_eq_false_iff,decide_eq_false_iff_not,Bool.and_eq_false_iff];exact ⟨fun h=>by simp at h,Or.inr (zbY x)⟩
theorem zbj:∀ x y z:List UInt8,Op.bytesLess x y=true->Op.bytesLess y z=true->Op.bytesLess x z=true
 | _,[],_,h,_=>by simp [Op.bytesLess] at h
 | [],_ :: _,[],_,h=>by simp [Op.bytesLess] at h
 | [],_ :: _,_ :: _,_,_=>rfl
 | _ :: _,_ :: _,[],_,h=>by simp [Op.bytesLess] at h
 | a :: x,b :: y,c :: z,h,k=>by
  simp only [Op.bytesLess,Bool.or_eq_true,decide_eq_true_eq,Bool.and_eq_true,beq_iff_eq] at h k ⊢
  rcases h with h | ⟨rfl,h⟩
  ·rcases k with k | ⟨rfl,k⟩
   ·exact Or.inl (UInt8.lt_trans h k)
   ·exact Or.inl h
  ·rcases k with k | ⟨rfl,k⟩
   ·exact Or.inl k
   ·exact Or.inr ⟨rfl,zbj x y z h k⟩
end Go.Proofs.YtghnakljnhnenaaGreat.Gate
