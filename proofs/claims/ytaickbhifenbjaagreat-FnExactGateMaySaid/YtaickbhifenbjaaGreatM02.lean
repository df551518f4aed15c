import Derived.Test.YtaickbhifenbjaaGreatM01
import Derived.Deep.QuietTactic
import Derived.BigQuiet
set_option maxHeartbeats 1000000
namespace Go.Proofs.YtaickbhifenbjaaGreat
open Go.RowKit
def zbP (ws:List ByteArray):Nat:=(ws.map ByteArray.size).sum
def qW (ws:List ByteArray):Nat:=ws.length+zbP ws
theorem zl2 (ws:List ByteArray) (k:Nat) (h:k < ws.length):zbP (ws.take (k+1))=zbP (ws.take k)+ws[k].size:=by
 unfold zbP;rw [List.take_succ_eq_append_getElem h,List.map_append,List.sum_append];simp
theorem zn2 (ws:List ByteArray) (k:Nat):zbP (ws.take k)<=zbP ws:=by
 unfold zbP
 conv=>rhs;rw [<- List.take_append_drop k ws]
 rw [List.map_append,List.sum_append];omega
theorem znf (ws:List ByteArray) (k:Nat) (h:ws.length<=k):zbP (ws.take k)=zbP ws:=by rw [List.take_of_length_le h]
theorem zeE (a:Option Addr) (cap:Nat) (ws:List ByteArray) (left:Int) (w:World) (hw:zF w a ws) (h0:0<=left) (h1:left<=1048576) :
 Calls Tryz.prog 75 #[.slice a ws.length cap,.int .i64 left] w fun e w'=>e = .returned (.int .i64 (zL (qW ws) left))/\w'=w:=by
 have hl:=hw.len
 unfold maxLen at hl
 by_cases hfit:(ws.length:Int)<=left
 ·go_enter Tryz.func75,Tryz.ntmps75
  go_wp2
  go_loop [1,5] (fun l i=>∃ k:Nat,k<=ws.length/\i = .int .i64 k/\0<=left - ws.length - zbP (ws.take k)/\l = .int .i64 (left - ws.length - zbP (ws.take k))) (fun _ i=>ws.length - (intOf i).toNat)
  case atStart=>exact ⟨0,Nat.zero_le _,rfl,by simp [zbP];omega,by simp [zbP]⟩
  case round =>
   obtain ⟨k,hk,rfl,hpos,rfl⟩:=hrel
   by_cases hlt:k < ws.length
   ·obtain ⟨b,off,rfl,hb,hc⟩:=hw.cells (by rintro rfl;simp at hlt)
    have hsm:=hw.small _ (List.getElem_mem hlt)
    unfold maxLen at hsm
    clear hw
    have hck:=hc k hlt
    have HS:Hid (zbP (ws.take (k+1))=zbP (ws.take k)+ws[k].size):=zl2 ws k hlt
    have hle:=zn2 ws (k+1)
    clear hc
    by_cases hneg:left - ws.length - zbP (ws.take k) - ws[k].size < 0
    ·have HF:Hid (zL (qW ws) left=-1):=zD (by have:=HS.out;unfold qW;omega)
     clear hle
     go_wp2
     go_ret
     exact ⟨zm HF.out.symm,rfl⟩
    ·clear hle
     go_wp2
     go_round
     case rel=>exact ⟨k+1,by omega,by go_num,by rw [HS.out];omega,by rw [HS.out];go_num⟩
     case measure=>simp [intOf];omega
   ·have HF:Hid (zL (qW ws) left=left - ws.length - zbP (ws.take k)):=by
     rw [znf ws k (by omega)] at hpos ⊢
     have e:zL (qW ws) left=left - qW ws:=zM (by unfold qW;omega)
     unfold Hid;rw [e];unfold qW;omega
    clear hw
    go_wp2
    go_ret
    exact ⟨zm HF.out.symm,rfl⟩
 ·have HF:Hid (zL (qW ws) left=-1):=zD (by unfold qW;omega)
  clear hw
  go_enter Tryz.func75,Tryz.ntmps75
  go_wp2
  go_ret
  exact ⟨zm HF.out.symm,rfl⟩
theorem zcU (a a':Option Addr) (cap cap':Nat) (ws:List ByteArray) (w:World) (hw:zF w a ws) (hw':zF w a' ws) :
 Calls Tryz.prog 111 #[.slice a ws.length cap,.slice a' ws.length cap'] w fun e w'=>e = .returned (.bool true)/\Below w.heap.size w w':=by
 have hl:=hw.len
 unfold maxLen at hl
 have hnn:((ws.length:Int) != ws.length)=false:=by simp
 go_enter Tryz.func111,Tryz.ntmps111
 go_wp2
 go_loopw [5] (fun i wr=>∃ k:Nat,k<=ws.length/\i = .int .i64 k/\∃ n,wr=w.drewN n) (fun i _=>ws.length - (intOf i).toNat)
 case atStart=>exact ⟨0,Nat.zero_le _,rfl,0,rfl⟩
 case round =>
  obtain ⟨k,hk,rfl,nd,rfl⟩:=hrel
  by_cases hlt:k < ws.length
  ·obtain ⟨b,off,rfl,hb,hc⟩:=hw.cells (by rintro rfl;simp at hlt)
   obtain ⟨b',off',rfl,hb',hc'⟩:=hw'.cells (by rintro rfl;simp at hlt)
   clear hw hw'
   have hck:=hc k hlt
   have hck':=hc' k hlt
   have hltI:(k:Int) < (ws.length:Int):=by omega
   clear hc hc'
   go_wp2
   go_quiet (fail)
   go_wp2
   exact ⟨⟨k+1,by omega,by go_num,nd+nq,rfl⟩,by simp [intOf];omega⟩
  ·clear hw hw'
   go_wp2
   go_ret
   exact ⟨rfl,below_drewN (Below.refl _ _) nd⟩
theorem zhm (nm:ByteArray) (kd ls ms:Int) (a a':Option Addr) (cap cap':Nat) (ws:List ByteArray) (to:ByteArray) (rl:Int) (mu fx:Bool) (df wg:ByteArray) (w:World) (hw:zF w a ws) (hw':zF w a' ws) :
 Calls Tryz.prog 159 #[.agg #[.string nm,.int .i64 kd,.int .i64 ls,.int .i64 ms,.slice a ws.length cap,.string to,.int .i64 rl,.bool mu,.bool fx,.string df,.string wg],.agg #[.string nm,.int .i64 kd,.int .i64 ls,.int .i64 ms,.slice a' ws.length cap',.string to,.int .i64 rl,.bool mu,.bool fx,.string df,.string wg]] w
  fun e w'=>e = .returned (.bool true)/\Below w.heap.size w w':=by
 go_enter Tryz.func159,Tryz.ntmps159
 go_wp2_with (go_at_call 111;refine (zcU _ _ _ _ _ _ (by exact hw.mono (zC _ _ _)) (by exact hw'.mono (zC _ _ _))).mono ?_;rintro e w1 ⟨rfl,hb1⟩;have hc1:=(zo0 hb1).1;have hz1:=hb1.size;simp only [World.size_alloc] at hz1)
 go_ret
 exact ⟨rfl,(zC _ _ _).trans (hb1.mono (by simp;omega))⟩
def j6 (nm:ByteArray) (ws:List ByteArray) (to df wg:ByteArray):Nat:=nm.size+qW ws+to.size+df.size+wg.size
theorem jT (a:Option Addr) (cap:Nat) (ws:List ByteArray) (left:Int) (w:World) (hw:zF w a ws) (h0:0<=left) (h1:left<=1048576) (h:(qW ws:Int)<=left) :
 Calls Tryz.prog 75 #[.slice a ws.length cap,.int .i64 left] w fun e w'=>e = .returned (.int .i64 (left - qW ws))/\w'=w:=by
 refine (zeE a cap ws left w hw h0 h1).mono ?_
 rintro e w' ⟨rfl,rfl⟩
 exact ⟨zm (zM h),rfl⟩
theorem zdv (a:Option Addr) (cap:Nat) (ws:List ByteArray) (left:Int) (w:World) (hw:zF w a ws) (h0:0<=left) (h1:left<=1048576) (h:¬ (qW ws:Int)<=left) :
 Calls Tryz.prog 75 #[.slice a ws.length cap,.int .i64 left] w fun e w'=>e = .returned (.int .i64 (-1))/\w'=w:=by
 refine (zeE a cap ws left w hw h0 h1).mono ?_
 rintro e w' ⟨rfl,rfl⟩
 exact ⟨zm (zD h),rfl⟩
theorem zdN (nm:ByteArray) (kd ls ms:Int) (a:Option Addr) (cap:Nat) (ws:List ByteArray) (to:ByteArray) (rl:Int) (mu fx:Bool) (df wg:ByteArray) (left:Int) (w:World) (hw:zF w a ws) (h0:0<=left) (h1:left<=1048576)
 (hnm:nm.size<=maxLen) (hto:to.size<=maxLen) (hdf:df.size<=maxLen) (hwg:wg.size<=maxLen) :
 Calls Tryz.prog 113 #[.agg #[.string nm,.int .i64 kd,.int .i64 ls,.int .i64 ms,.slice a ws.length cap,.string to,.int .i64 rl,.bool mu,.bool fx,.string df,.string wg],.int .i64 left] w fun e w'=>e = .returned (.int .i64 (zL (j6 nm ws to df wg) left))/\Below w.heap.size w w':=by
 unfold maxLen at hnm hto hdf hwg
 by_cases c1:(nm.size:Int)<=left
 rotate_left
 ·have HF:Hid (zL (j6 nm ws to df wg) left=-1):=zD (by unfold j6;omega)
  go_enter Tryz.func113,Tryz.ntmps113
  go_wp2_with fail
  go_ret
  exact ⟨zm HF.out.symm,(Below.refl _ _).alloc (Nat.le_refl _) _⟩
 by_cases c2:(qW ws:Int)<=left - nm.size
 rotate_left
 ·have HF:Hid (zL (j6 nm ws to df wg) left=-1):=zD (by unfold j6;omega)
  go_enter Tryz.func113,Tryz.ntmps113
  go_wp2_with (go_at_call 75;refine (zdv _ _ _ _ _ (by exact hw.mono ((Below.refl _ _).alloc (Nat.le_refl _) _)) (by omega) (by omega) (by omega)).mono ?_;rintro e w1 ⟨rfl,rfl⟩)
  go_ret
  exact ⟨zm HF.out.symm,(Below.refl _ _).alloc (Nat.le_refl _) _⟩
 by_cases c3:(to.size:Int)<=left - nm.size - qW ws
 rotate_left
 ·have HF:Hid (zL (j6 nm ws to df wg) left=-1):=zD (by unfold j6;omega)
  go_enter Tryz.func113,Tryz.ntmps113
  go_wp2_with (go_at_call 75;refine (jT _ _ _ _ _ (by exact hw.mono ((Below.refl _ _).alloc (Nat.le_refl _) _)) (by omega) (by omega) (by omega)).mono ?_;rintro e w1 ⟨rfl,rfl⟩)
  go_ret
  exact ⟨zm HF.out.symm,(Below.refl _ _).alloc (Nat.le_refl _) _⟩
 by_cases c4:(df.size:Int)<=left - nm.size - qW ws - to.size
 rotate_left
 ·have HF:Hid (zL (j6 nm ws to df wg) left=-1):=zD (by unfold j6;omega)
  go_enter Tryz.func113,Tryz.ntmps113
  go_wp2_with (go_at_call 75;refine (jT _ _ _ _ _ (by exact hw.mono ((Below.refl _ _).alloc (Nat.le_refl _) _)) (by omega) (by omega) (by omega)).mono ?_;rintro e w1 ⟨rfl,rfl⟩)
  go_ret
  exact ⟨zm HF.out.symm,(Below.refl _ _).alloc (Nat.le_refl _) _⟩
 by_cases c5:(wg.size:Int)<=left - nm.size - qW ws - to.size - df.size
 rotate_left
 ·have HF:Hid (zL (j6 nm ws to df wg) left=-1):=zD (by unfold j6;omega)
  go_enter Tryz.func113,Tryz.ntmps113
  go_wp2_with (go_at_call 75;refine (jT _ _ _ _ _ (by exact hw.mono ((Below.refl _ _).alloc (Nat.le_refl _) _)) (by omega) (by omega) (by omega)).mono ?_;rintro e w1 ⟨rfl,rfl⟩)
  go_ret
  exact ⟨zm HF.out.symm,(Below.refl _ _).alloc (Nat.le_refl _) _⟩
 ·have HF:Hid (zL (j6 nm ws to df wg) left=left - nm.size - qW ws - to.size - df.size - wg.size):=by
   have e:zL (j6 nm ws to df wg) left=left - j6 nm ws to df wg:=zM (by unfold j6;omega)
   unfold Hid;rw [e];unfold j6;omega
  go_enter Tryz.func113,Tryz.ntmps113
  go_wp2_with (go_at_call 75;refine (jT _ _ _ _ _ (by exact hw.mono ((Below.refl _ _).alloc (Nat.le_refl _) _)) (by omega) (by omega) (by omega)).mono ?_;rintro e w1 ⟨rfl,rfl⟩)
  go_ret
  exact ⟨zm HF.out.symm,(Below.refl _ _).alloc (Nat.le_refl _) _⟩
structure Fld where
 nm:ByteArray
 kd:Int
 ls:Int
 ms:Int
 ws:List ByteArray
 to:ByteArray
 rl:Int
 mu:Bool
 fx:Bool
 df:ByteArray
 wg:ByteArray
structure Shp where
 kd:ByteArray
 fs:List Fld
def Fld.cells (f:Fld) (a:Option Addr) (cap:Nat):Array Value :=
 #[.string f.nm, .int .i64 f.kd, .int .i64 f.ls, .int .i64 f.ms, .slice a f.ws.length cap, .string f.to, .int .i64 f.rl, .bool f.mu, .bool f.fx, .string f.df, .string f.wg]
structure Fld.Small (f:Fld):Prop where
 nm:f.nm.size<=maxLen
 to:f.to.size<=maxLen
 df:f.df.size<=maxLen
 wg:f.wg.size<=maxLen
structure zdJ (w:World) (b off:Nat) (f:Fld) (a:Option Addr) (cap:Nat):Prop where
 small:f.Small
 strs:zF w a f.ws
 cell:∀ j,j < 11->w.cell? ⟨b,off+j,none⟩=(f.cells a cap)[j]?
structure zR (w:World) (a:Option Addr) (fs:List Fld):Prop where
 len:fs.length<=maxLen
 rows:fs ≠ []->∃ b off,a=some ⟨b,off,none⟩/\b < w.heap.size/\∀ i (h:i < fs.length),∃ wa wcap,zdJ w b (off+i * 11) fs[i] wa wcap
structure zjL (w:World) (b off:Nat) (s:Shp) (a:Option Addr) (cap:Nat):Prop where
 small:s.kd.size<=maxLen
 flds:zR w a s.fs
 kind:w.cell? ⟨b,off,none⟩=some (.string s.kd)
 list:w.cell? ⟨b,off+1,none⟩=some (.slice a s.fs.length cap)
structure yL (w:World) (a:Option Addr) (ss:List Shp):Prop where
 len:ss.length<=maxLen
 rows:ss ≠ []->∃ b off,a=some ⟨b,off,none⟩/\b < w.heap.size/\∀ i (h:i < ss.length),∃ fa fcap,zjL w b (off+i * 2) ss[i] fa fcap
theorem zdJ.mono {w w':World} {b off:Nat} {f:Fld} {a:Option Addr} {cap:Nat} (h:zdJ w b off f a cap) (hb:b < w.heap.size) (hl:Below w.heap.size w w'):zdJ w' b off f a cap :=
 ⟨h.small,h.strs.mono hl,fun j hj=>(hl.cell (p:=⟨b,off+j,none⟩) hb).trans (h.cell j hj)⟩
theorem zR.mono {w w':World} {a:Option Addr} {fs:List Fld} (h:zR w a fs) (hl:Below w.heap.size w w'):zR w' a fs :=
 ⟨h.len,fun hne=>by
  obtain ⟨b,off,ha,hb,hr⟩:=h.rows hne
  refine ⟨b,off,ha,Nat.lt_of_lt_of_le hb hl.size,fun i hi=>?_⟩
  obtain ⟨wa,wcap,hf⟩:=hr i hi
  exact ⟨wa,wcap,hf.mono hb hl⟩⟩
theorem zjL.mono {w w':World} {b off:Nat} {s:Shp} {a:Option Addr} {cap:Nat} (h:zjL w b off s a cap) (hb:b < w.heap.size) (hl:Below w.heap.size w w'):zjL w' b off s a cap :=
 ⟨h.small,h.flds.mono hl,(hl.cell (p:=⟨b,off,none⟩) hb).trans h.kind,(hl.cell (p:=⟨b,off+1,none⟩) hb).trans h.list⟩
theorem yL.mono {w w':World} {a:Option Addr} {ss:List Shp} (h:yL w a ss) (hl:Below w.heap.size w w'):yL w' a ss :=
 ⟨h.len,fun hne=>by
  obtain ⟨b,off,ha,hb,hr⟩:=h.rows hne
  refine ⟨b,off,ha,Nat.lt_of_lt_of_le hb hl.size,fun i hi=>?_⟩
  obtain ⟨fa,fcap,hs⟩:=hr i hi
  exact ⟨fa,fcap,hs.mono hb hl⟩⟩
theorem zdJ.load {w:World} {b off:Nat} {f:Fld} {a:Option Addr} {cap:Nat} (h:zdJ w b off f a cap) :
 w.cell? ⟨b,off,none⟩=some (.string f.nm)/\w.cell? ⟨b,off+1,none⟩=some (.int .i64 f.kd)/\w.cell? ⟨b,off+2,none⟩=some (.int .i64 f.ls)/\w.cell? ⟨b,off+3,none⟩=some (.int .i64 f.ms) /\
 w.cell? ⟨b,off+4,none⟩=some (.slice a f.ws.length cap)/\w.cell? ⟨b,off+5,none⟩=some (.string f.to)/\w.cell? ⟨b,off+6,none⟩=some (.int .i64 f.rl)/\w.cell? ⟨b,off+7,none⟩=some (.bool f.mu) /\
 w.cell? ⟨b,off+8,none⟩=some (.bool f.fx)/\w.cell? ⟨b,off+9,none⟩=some (.string f.df)/\w.cell? ⟨b,off+10,none⟩=some (.string f.wg) :=
 ⟨h.cell 0 (by omega),h.cell 1 (by omega),h.cell 2 (by omega),h.cell 3 (by omega),h.cell 4 (by omega),h.cell 5 (by omega),h.cell 6 (by omega),h.cell 7 (by omega),h.cell 8 (by omega),h.cell 9 (by omega),h.cell 10 (by omega)⟩
end Go.Proofs.YtaickbhifenbjaaGreat
namespace Go.Proofs.YtaickbhifenbjaaGreat.Gate
def up (P:Nat->Bool) (n:Nat):Bool:=(List.range n).all P
theorem jc (P:Nat->Bool) (n:Nat):up P (n+1)=(up P n && P n):=by simp [up,List.range_succ,List.all_append]
theorem zaw {P:Nat->Bool} {k n:Nat} (h:k < n) (hk:P k=false):up P n=false:=by
 unfold up;rw [List.all_eq_false];exact ⟨k,List.mem_range.2 h,by simp [hk]⟩
theorem zfF {P:Nat->Bool} {k n:Nat} (h:k < n) (hu:up P n=true):P k=true:=by
 unfold up at hu;rw [List.all_eq_true] at hu;exact hu k (List.mem_range.2 h)
def less (a b:ByteArray):Bool:=Op.bytesLess a.toList b.toList
def zda (ws:List ByteArray) (i:Nat):Bool:=zx (ws.getD i ByteArray.empty) && (decide (i=0) || less (ws.getD (i - 1) ByteArray.empty) (ws.getD i ByteArray.empty))
def asc (ws:List ByteArray):Bool:=up (zda ws) ws.length
theorem getD_at {α:Type} (l:List α) (i:Nat) (d:α) (h:i < l.length):l.getD i d=l[i]:=by
 rw [List.getD_eq_getElem?_getD,List.getElem?_eq_getElem h];rfl
theorem zh6 {ws:List ByteArray} {k:Nat} (h:k < ws.length) (hn:zx ws[k]=false):zda ws k=false:=by
 unfold zda;rw [getD_at ws k _ h,hn];rfl
theorem zgG {ws:List ByteArray} (h:0 < ws.length) (hn:zx ws[0]=true):zda ws 0=true:=by
 unfold zda;rw [getD_at ws 0 _ h,hn];rfl
theorem zdl {ws:List ByteArray} {k:Nat} (h:k+1 < ws.length) (hn:zx ws[k+1]=true):zda ws (k+1)=less ws[k] ws[k+1]:=by
 unfold zda;rw [getD_at ws (k+1) _ h,Nat.add_sub_cancel,getD_at ws k _ (by omega),hn];simp
def yG (kd ls ms:Int) (n:Nat) (to:ByteArray) (rl:Int) (wg:ByteArray):Bool :=
 if kd=1 then decide (n=0) && to.toList.isEmpty && decide (rl=0)
 else if kd=2 then decide (ls=0) && decide (ms=0) && to.toList.isEmpty && decide (rl=0) && wg.toList.isEmpty
 else if kd=3 then decide (n=0) && to.toList.isEmpty && decide (rl=0) && wg.toList.isEmpty
 else if kd=4 then decide (ls=0) && decide (ms=0) && decide (n=0) && wg.toList.isEmpty
 else false
def jA (ls ms lo hi:Int):Bool:=decide (lo<=ls) && decide (ls<=ms) && decide (ms<=hi)
def zH (ss:List Shp) (k:ByteArray):Bool:=ss.any fun s=>decide (s.kd=k)
def z8 (ss:List Shp) (f:Fld):Bool :=
 if f.kd=1 then jA f.ls f.ms 0 1000000 && (f.wg.toList.isEmpty || zx f.wg)
 else if f.kd=2 then decide (1<=f.ws.length) && decide (f.ws.length<=6) && asc f.ws
 else if f.kd=3 then jA f.ls f.ms 1 40
 else if f.kd=4 then zH ss f.to && (decide (1<=f.rl) && decide (f.rl<=3)) && f.df.toList.isEmpty && (decide (f.rl ≠ 2) || !f.mu)
 else false
def bare (f:Fld):Bool:=yG f.kd f.ls f.ms f.ws.length f.to f.rl f.wg
def zd8 (f:Fld) (v:ByteArray):Bool:=fits f.kd f.ls f.ms f.ws v
def zo5 (f:Fld):Bool:=f.df.toList.isEmpty || zd8 f f.df
def yH (ss:List Shp) (f:Fld):Bool:=bare f && z8 ss f && zo5 f
def zb7:Shp:=⟨ByteArray.empty,[]⟩
def shapeOf (ss:List Shp) (k:ByteArray):Shp:=(ss.find? fun s=>decide (s.kd=k)).getD zb7
theorem zfd (ss:List Shp) (v:ByteArray) (k:Nat) (h:k < ss.length):zH (ss.take (k+1)) v=(zH (ss.take k) v || decide (ss[k].kd=v)):=by
 unfold zH;rw [List.take_succ_eq_append_getElem h,List.any_append];simp
theorem zif (ss:List Shp) (v:ByteArray) (k:Nat) (h:k < ss.length) (e:ss[k].kd=v):zH ss v=true:=by
 unfold zH;rw [List.any_eq_true];exact ⟨ss[k],List.getElem_mem h,by simpa using e⟩
theorem zgL (ss:List Shp) (v:ByteArray) (k:Nat) (h:ss.length<=k):zH (ss.take k) v=zH ss v:=by rw [List.take_of_length_le h]
theorem zeM (ss:List Shp) (v:ByteArray) (k:Nat) (h:k < ss.length) (hb:zH (ss.take k) v=false) (e:ss[k].kd=v):shapeOf ss v=ss[k]:=by
 unfold shapeOf
 have hn:(ss.take k).find? (fun s=>decide (s.kd=v))=none:=by
  rw [List.find?_eq_none];intro x hx;unfold zH at hb;rw [List.any_eq_false] at hb;exact hb x hx
 conv=>lhs;rw [<- List.take_append_drop k ss]
 rw [List.find?_append,hn,List.drop_eq_getElem_cons h,List.find?_cons_of_pos (by simpa using e)];rfl
theorem zkl (ss:List Shp) (v:ByteArray) (hb:zH ss v=false):shapeOf ss v=zb7:=by
 unfold shapeOf
 have hn:ss.find? (fun s=>decide (s.kd=v))=none:=by
  rw [List.find?_eq_none];intro x hx;unfold zH at hb;rw [List.any_eq_false] at hb;exact hb x hx
 rw [hn];rfl
def hasName (fs:List Fld) (v:ByteArray):Bool:=fs.any fun f=>decide (f.nm=v)
def zP (fs:List Fld) (v:ByteArray):Int:=match fs.findIdx? (fun f=>decide (f.nm=v)) with | some i=>i | none=>-1
theorem zdp (fs:List Fld) (v:ByteArray) (k:Nat) (h:k < fs.length):hasName (fs.take (k+1)) v=(hasName (fs.take k) v || decide (fs[k].nm=v)):=by
 unfold hasName;rw [List.take_succ_eq_append_getElem h,List.any_append];simp
theorem zgH (fs:List Fld) (v:ByteArray) (k:Nat) (h:fs.length<=k):hasName (fs.take k) v=hasName fs v:=by rw [List.take_of_length_le h]
theorem zdh (fs:List Fld) (v:ByteArray) (k:Nat) (h:k < fs.length) (hb:hasName (fs.take k) v=false) (e:fs[k].nm=v):zP fs v=k:=by
 unfold zP
 have hf:fs.findIdx? (fun f=>decide (f.nm=v))=some k:=by
  rw [List.findIdx?_eq_some_iff_getElem]
  refine ⟨h,by simpa using e,fun j hj=>?_⟩
  unfold hasName at hb
  rw [List.any_eq_false] at hb
  have hm:fs[j] ∈ fs.take k:=by
   rw [List.mem_iff_getElem]
   exact ⟨j,by simp;omega,by simp⟩
  exact hb _ hm
 rw [hf]
theorem ze9 (fs:List Fld) (v:ByteArray) (hb:hasName fs v=false):zP fs v=-1:=by
 unfold zP
 have hf:fs.findIdx? (fun f=>decide (f.nm=v))=none:=by
  rw [List.findIdx?_eq_none_iff]
  intro x hx
  unfold hasName at hb
  rw [List.any_eq_false] at hb
  simpa using hb x hx
 rw [hf]
theorem ziX (fs:List Fld) (v:ByteArray) (k:Nat) (h:k < fs.length) (hh:hasName (fs.take k) v=true):∃ j,j < k/\zP fs v=j:=by
 unfold hasName at hh
 rw [List.any_eq_true] at hh
 obtain ⟨x,hx,he⟩:=hh
 obtain ⟨j,hj,rfl⟩:=List.mem_iff_getElem.1 hx
 have hjk:j < k:=by simp at hj;omega
 have hjl:j < fs.length:=by omega
 have hv:fs[j].nm=v:=by simpa using he
 cases hf:fs.findIdx? (fun f=>decide (f.nm=v)) with
 | none =>
  rw [List.findIdx?_eq_none_iff] at hf
  have:=hf fs[j] (List.getElem_mem hjl)
  simp [hv] at this
 | some i =>
  refine ⟨i,?_,by unfold zP;rw [hf]⟩
  rw [List.findIdx?_eq_some_iff_getElem] at hf
  obtain ⟨hi,_,hmin⟩:=hf
  rcases Nat.lt_or_ge i k with h1 | h1
  ·exact h1
  ·exfalso
   have:=hmin j (by omega)
   simp [hv] at this
def zbm:Fld:=⟨ByteArray.empty,0,0,0,[],ByteArray.empty,0,false,false,ByteArray.empty,ByteArray.empty⟩
def zdD (ss:List Shp) (fs:List Fld) (i:Nat):Bool :=
 zx (fs.getD i zbm).nm && !hasName (fs.take i) (fs.getD i zbm).nm && yH ss (fs.getD i zbm)
def yY (ss:List Shp) (fs:List Fld):Bool:=decide (fs.length<=6) && up (zdD ss fs) fs.length
theorem zhD (ss:List Shp) (fs:List Fld) (i:Nat) (h:i < fs.length):zdD ss fs i=(zx fs[i].nm && !hasName (fs.take i) fs[i].nm && yH ss fs[i]):=by
 unfold zdD;rw [getD_at fs i _ h]
def yX (ss:List Shp) (i:Nat):Bool :=
 zx (ss.getD i zb7).kd && (decide (i=0) || less (ss.getD (i - 1) zb7).kd (ss.getD i zb7).kd) && yY ss (ss.getD i zb7).fs
def yt (ss:List Shp):Bool:=decide (ss.length<=6) && up (yX ss) ss.length
theorem zez (ss:List Shp) (h:0 < ss.length):yX ss 0=(zx ss[0].kd && yY ss ss[0].fs):=by
 unfold yX;rw [getD_at ss 0 _ h];simp
theorem zfj (ss:List Shp) (k:Nat) (h:k+1 < ss.length):yX ss (k+1)=(zx ss[k+1].kd && less ss[k].kd ss[k+1].kd && yY ss ss[k+1].fs):=by
 unfold yX;rw [getD_at ss (k+1) _ h,Nat.add_sub_cancel,getD_at ss k _ (by omega)];simp
theorem zbz:∀ x:List UInt8,Op.bytesLess x x=false
 | []=>rfl
 | a :: x=>by
  simp only [Op.bytesLess,Bool.or_eq_false_iff,decide_eq_false_iff_not,Bool.and_eq_false_iff]
  exact ⟨fun h=>by simp at h,Or.inr (zbz x)⟩
theorem zaY:∀ x y z:List UInt8,Op.bytesLess x y=true->Op.bytesLess y z=true->Op.bytesLess x z=true
 | _,[],_,h,_=>by simp [Op.bytesLess] at h
 | [],_ :: _,[],_,h=>by simp [Op.bytesLess] at h
 | [],_ :: _,_ :: _,_,_=>rfl
 | _ :: _,_ :: _,[],_,h=>by simp [Op.bytesLess] at h
 | a :: x,b :: y,c :: z,h,k=>by
  simp only [Op.bytesLess,Bool.or_eq_true,decide_eq_true_eq,Bool.and_eq_true,beq_iff_eq] at h k ⊢
  rcases h with h | ⟨rfl,h⟩
  ·rcases k with k | ⟨rfl,k⟩
   ·exact Or.inl (UInt8.lt_trans h k)
   ·exact Or.inl h
  ·rcases k with k | ⟨rfl,k⟩
   ·exact Or.inl k
   ·exact Or.inr ⟨rfl,zaY x y z h k⟩
end Go.Proofs.YtaickbhifenbjaaGreat.Gate
