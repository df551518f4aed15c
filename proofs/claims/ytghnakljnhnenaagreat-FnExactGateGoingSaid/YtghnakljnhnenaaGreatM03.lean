import Derived.Test.YtghnakljnhnenaaGreatM02
set_option maxHeartbeats 2000000
namespace Go.Proofs.YtghnakljnhnenaaGreat
open Go.RowKit
def Fld.sz (f:Fld):Nat:=zam f.nm f.ws f.to f.df f.wg
def zgF (fs:List Fld):Nat:=(fs.map Fld.sz).sum
def zaJ (fs:List Fld):Nat:=fs.length+zgF fs
def Shp.sz (s:Shp):Nat:=s.kd.size+zaJ s.fs
def zfM (ss:List Shp):Nat:=(ss.map Shp.sz).sum
def zaT (ss:List Shp):Nat:=ss.length+zfM ss
theorem zib (nm:ByteArray) (kd ls ms:Int) (a:Option Addr) (cap:Nat) (ws:List ByteArray) (to:ByteArray) (rl:Int) (mu fx:Bool) (df wg:ByteArray) (left:Int) (w:World) (hw:zD w a ws) (h0:0<=left) (h1:left<=1048576)
 (hnm:nm.size<=maxLen) (hto:to.size<=maxLen) (hdf:df.size<=maxLen) (hwg:wg.size<=maxLen) (h:(zam nm ws to df wg:Int)<=left) :
 Calls Tryz.prog 123 #[.agg #[.string nm,.int .i64 kd,.int .i64 ls,.int .i64 ms,.slice a ws.length cap,.string to,.int .i64 rl,.bool mu,.bool fx,.string df,.string wg],.int .i64 left] w fun e w'=>e = .returned (.int .i64 (left - zam nm ws to df wg))/\Below w.heap.size w w':=by
 refine (zee nm kd ls ms a cap ws to rl mu fx df wg left w hw h0 h1 hnm hto hdf hwg).mono ?_;rintro e w' ⟨rfl,hb⟩;exact ⟨zq (zN h),hb⟩
theorem ziI (nm:ByteArray) (kd ls ms:Int) (a:Option Addr) (cap:Nat) (ws:List ByteArray) (to:ByteArray) (rl:Int) (mu fx:Bool) (df wg:ByteArray) (left:Int) (w:World) (hw:zD w a ws) (h0:0<=left) (h1:left<=1048576)
 (hnm:nm.size<=maxLen) (hto:to.size<=maxLen) (hdf:df.size<=maxLen) (hwg:wg.size<=maxLen) (h:¬ (zam nm ws to df wg:Int)<=left) :
 Calls Tryz.prog 123 #[.agg #[.string nm,.int .i64 kd,.int .i64 ls,.int .i64 ms,.slice a ws.length cap,.string to,.int .i64 rl,.bool mu,.bool fx,.string df,.string wg],.int .i64 left] w fun e w'=>e = .returned (.int .i64 (-1))/\Below w.heap.size w w':=by
 refine (zee nm kd ls ms a cap ws to rl mu fx df wg left w hw h0 h1 hnm hto hdf hwg).mono ?_;rintro e w' ⟨rfl,hb⟩;exact ⟨zq (zC h),hb⟩
theorem zdB (a:Option Addr) (cap:Nat) (fs:List Fld) (left:Int) (w:World) (hw:zP w a fs) (h0:0<=left) (h1:left<=1048576) :
 Calls Tryz.prog 85 #[.slice a fs.length cap,.int .i64 left] w fun e w'=>e = .returned (.int .i64 (zL (zaJ fs) left))/\Below w.heap.size w w':=by
 have hl:=hw.len;unfold maxLen at hl
 by_cases hfit:(fs.length:Int)<=left
 ·go_enter Tryz.func85,Tryz.ntmps85
  go_wp2_with fail
  go_loopw [1,5] (fun l i wr=>∃ k:Nat,k<=fs.length/\i = .int .i64 k/\0<=left - fs.length - zgF (fs.take k)/\l = .int .i64 (left - fs.length - zgF (fs.take k))/\Below w.heap.size w wr) (fun _ i _=>fs.length - (intOf i).toNat)
  case atStart=>exact ⟨0,Nat.zero_le _,rfl,by simp [zgF];omega,by simp [zgF],bRf _ _⟩
  case round =>
   obtain ⟨k,hk,rfl,hpos,rfl,hB⟩:=hrel
   by_cases hlt:k < fs.length
   ·obtain ⟨b,off,rfl,hb,hr⟩:=hw.rows (by rintro rfl;simp at hlt)
    obtain ⟨wa,wcap,hf0⟩:=hr k hlt;have hf:=hf0.mono hb hB;obtain ⟨c0,c1,c2,c3,c4,c5,c6,c7,c8,c9,c10⟩:=hf.load;have hsm:=hf.small;have hst:=hf.strs;have HS:Hid (zgF (fs.take (k+1))=zgF (fs.take k)+fs[k].sz):=za5 Fld.sz fs k hlt;have hle:zgF (fs.take (k+1))<=zgF fs:=zcQ Fld.sz fs (k+1);clear hw hr hf0 hf
    by_cases hneg:(zam fs[k].nm fs[k].ws fs[k].to fs[k].df fs[k].wg:Int)<=left - fs.length - zgF (fs.take k)
    ·have HNG:Hid ((zam fs[k].nm fs[k].ws fs[k].to fs[k].df fs[k].wg:Int)<=left - fs.length - zgF (fs.take k)):=hneg
     clear hle;go_wp2_with fail
     refine (zib _ _ _ _ _ _ _ _ _ _ _ _ _ _ _ hst hpos (by omega) hsm.nm hsm.to hsm.df hsm.wg HNG.out).mono ?_;rintro e w1 ⟨rfl,hb1⟩;have hB1:=hB.trans (hb1.mono hB.size);clear hb1;go_wp2_with fail
     exact ⟨⟨k+1,by omega,by go_num,by rw [HS.out];show 0<=_ - ((_+zam _ _ _ _ _:Nat):Int);omega,by rw [HS.out];show Value.int _ _=Value.int _ (_ - ((_+zam _ _ _ _ _:Nat):Int));congr 1;omega,hB1⟩,by simp [intOf];omega⟩
    ·have HF:Hid (zL (zaJ fs) left=-1):=zC (by have:=HS.out;unfold zaJ;unfold Fld.sz at this;omega)
     have HNG:Hid (¬ (zam fs[k].nm fs[k].ws fs[k].to fs[k].df fs[k].wg:Int)<=left - fs.length - zgF (fs.take k)):=hneg;clear hneg hle;go_wp2_with fail
     refine (ziI _ _ _ _ _ _ _ _ _ _ _ _ _ _ _ hst hpos (by omega) hsm.nm hsm.to hsm.df hsm.wg (by have:=HNG.out;omega)).mono ?_;rintro e w1 ⟨rfl,hb1⟩;have hB1:=hB.trans (hb1.mono hB.size);clear hb1;go_wp2_with fail
     go_ret;exact ⟨zq HF.out.symm,hB1⟩
   ·have HF:Hid (zL (zaJ fs) left=left - fs.length - zgF (fs.take k)):=by
     rw [tOl (by omega)] at hpos ⊢;have e:zL (zaJ fs) left=left - zaJ fs:=zN (by unfold zaJ;omega);unfold Hid;rw [e];unfold zaJ;omega
    clear hw
    go_wp2
    go_ret;exact ⟨zq HF.out.symm,hB⟩
 ·have HF:Hid (zL (zaJ fs) left=-1):=zC (by unfold zaJ;omega)
  clear hw;go_enter Tryz.func85,Tryz.ntmps85
  go_wp2
  go_ret;exact ⟨zq HF.out.symm,bRf _ _⟩
theorem zgX (a:Option Addr) (cap:Nat) (fs:List Fld) (left:Int) (w:World) (hw:zP w a fs) (h0:0<=left) (h1:left<=1048576) (h:(zaJ fs:Int)<=left) :
 Calls Tryz.prog 85 #[.slice a fs.length cap,.int .i64 left] w fun e w'=>e = .returned (.int .i64 (left - zaJ fs))/\Below w.heap.size w w':=by
 refine (zdB a cap fs left w hw h0 h1).mono ?_;rintro e w' ⟨rfl,hb⟩;exact ⟨zq (zN h),hb⟩
theorem zh9 (a:Option Addr) (cap:Nat) (fs:List Fld) (left:Int) (w:World) (hw:zP w a fs) (h0:0<=left) (h1:left<=1048576) (h:¬ (zaJ fs:Int)<=left) :
 Calls Tryz.prog 85 #[.slice a fs.length cap,.int .i64 left] w fun e w'=>e = .returned (.int .i64 (-1))/\Below w.heap.size w w':=by
 refine (zdB a cap fs left w hw h0 h1).mono ?_;rintro e w' ⟨rfl,hb⟩;exact ⟨zq (zC h),hb⟩
theorem zeh (kd:ByteArray) (a:Option Addr) (cap:Nat) (fs:List Fld) (left:Int) (w:World) (hkd:kd.size<=maxLen) (hw:zP w a fs) (h0:0<=left) (h1:left<=1048576) :
 Calls Tryz.prog 51 #[.agg #[.string kd,.slice a fs.length cap],.int .i64 left] w fun e w'=>e = .returned (.int .i64 (zL (Shp.sz ⟨kd,fs⟩) left))/\Below w.heap.size w w':=by
 unfold maxLen at hkd
 by_cases c1:(kd.size:Int)<=left
 rotate_left
 ·have HF:Hid (zL (Shp.sz ⟨kd,fs⟩) left=-1):=zC (by unfold Shp.sz;simp only;omega)
  go_enter Tryz.func51,Tryz.ntmps51;go_wp2_with fail
  go_ret;exact ⟨zq HF.out.symm,bAl _ _⟩
 by_cases c2:(zaJ fs:Int)<=left - kd.size
 ·have HF:Hid (zL (Shp.sz ⟨kd,fs⟩) left=left - kd.size - zaJ fs):=by
   have e:zL (Shp.sz ⟨kd,fs⟩) left=left - Shp.sz ⟨kd,fs⟩:=zN (by unfold Shp.sz;simp only;omega);unfold Hid;rw [e];unfold Shp.sz;simp only;omega
  go_enter Tryz.func51,Tryz.ntmps51;go_wp2_with fail
  refine (zgX _ _ _ _ _ (hw.mono (bAl _ _)) (by omega) (by omega) (by omega)).mono ?_;rintro e w1 ⟨rfl,hb1⟩;go_wp2_with fail
  go_ret;exact ⟨zq HF.out.symm,(bAl _ _).trans (hb1.mono (by simp))⟩
 ·have HF:Hid (zL (Shp.sz ⟨kd,fs⟩) left=-1):=zC (by unfold Shp.sz;simp only;omega)
  go_enter Tryz.func51,Tryz.ntmps51;go_wp2_with fail
  refine (zh9 _ _ _ _ _ (hw.mono (bAl _ _)) (by omega) (by omega) (by omega)).mono ?_;rintro e w1 ⟨rfl,hb1⟩;go_wp2_with fail
  go_ret;exact ⟨zq HF.out.symm,(bAl _ _).trans (hb1.mono (by simp))⟩
theorem zii (kd:ByteArray) (a:Option Addr) (cap:Nat) (fs:List Fld) (left:Int) (w:World) (hkd:kd.size<=maxLen) (hw:zP w a fs) (h0:0<=left) (h1:left<=1048576) (h:(Shp.sz ⟨kd,fs⟩:Int)<=left) :
 Calls Tryz.prog 51 #[.agg #[.string kd,.slice a fs.length cap],.int .i64 left] w fun e w'=>e = .returned (.int .i64 (left - Shp.sz ⟨kd,fs⟩))/\Below w.heap.size w w':=by
 refine (zeh kd a cap fs left w hkd hw h0 h1).mono ?_;rintro e w' ⟨rfl,hb⟩;exact ⟨zq (zN h),hb⟩
theorem zjo (kd:ByteArray) (a:Option Addr) (cap:Nat) (fs:List Fld) (left:Int) (w:World) (hkd:kd.size<=maxLen) (hw:zP w a fs) (h0:0<=left) (h1:left<=1048576) (h:¬ (Shp.sz ⟨kd,fs⟩:Int)<=left) :
 Calls Tryz.prog 51 #[.agg #[.string kd,.slice a fs.length cap],.int .i64 left] w fun e w'=>e = .returned (.int .i64 (-1))/\Below w.heap.size w w':=by
 refine (zeh kd a cap fs left w hkd hw h0 h1).mono ?_;rintro e w' ⟨rfl,hb⟩;exact ⟨zq (zC h),hb⟩
theorem zg3 (a:Option Addr) (cap:Nat) (ss:List Shp) (left:Int) (w:World) (hw:yI w a ss) (h0:0<=left) (h1:left<=1048576) :
 Calls Tryz.prog 17 #[.slice a ss.length cap,.int .i64 left] w fun e w'=>e = .returned (.int .i64 (zL (zaT ss) left))/\Below w.heap.size w w':=by
 have hl:=hw.len;unfold maxLen at hl
 by_cases hfit:(ss.length:Int)<=left
 ·go_enter Tryz.func17,Tryz.ntmps17
  go_wp2_with fail
  go_loopw [1,5] (fun l i wr=>∃ k:Nat,k<=ss.length/\i = .int .i64 k/\0<=left - ss.length - zfM (ss.take k)/\l = .int .i64 (left - ss.length - zfM (ss.take k))/\Below w.heap.size w wr) (fun _ i _=>ss.length - (intOf i).toNat)
  case atStart=>exact ⟨0,Nat.zero_le _,rfl,by simp [zfM];omega,by simp [zfM],bRf _ _⟩
  case round =>
   obtain ⟨k,hk,rfl,hpos,rfl,hB⟩:=hrel
   by_cases hlt:k < ss.length
   ·obtain ⟨b,off,rfl,hb,hr⟩:=hw.rows (by rintro rfl;simp at hlt)
    obtain ⟨fa,fcap,hs0⟩:=hr k hlt;have hs:=hs0.mono hb hB;have hck:=hs.kind;have hcl:=hs.list;have hfl:=hs.zdk;have hsm:=hs.small;have HS:Hid (zfM (ss.take (k+1))=zfM (ss.take k)+Shp.sz ⟨ss[k].kd,ss[k].fs⟩):=za5 Shp.sz ss k hlt;have hle:zfM (ss.take (k+1))<=zfM ss:=zcQ Shp.sz ss (k+1);clear hw hr hs0 hs
    by_cases hneg:(Shp.sz ⟨ss[k].kd,ss[k].fs⟩:Int)<=left - ss.length - zfM (ss.take k)
    ·have HNG:Hid ((Shp.sz ⟨ss[k].kd,ss[k].fs⟩:Int)<=left - ss.length - zfM (ss.take k)):=hneg
     clear hle;go_wp2_with fail
     refine (zii _ _ _ _ _ _ hsm hfl hpos (by omega) HNG.out).mono ?_;rintro e w1 ⟨rfl,hb1⟩;have hB1:=hB.trans (hb1.mono hB.size);clear hb1;go_wp2_with fail
     exact ⟨⟨k+1,by omega,by go_num,by rw [HS.out];omega,by rw [HS.out];congr 1;omega,hB1⟩,by simp [intOf];omega⟩
    ·have HF:Hid (zL (zaT ss) left=-1):=zC (by have:=HS.out;unfold zaT;omega)
     have HNG:Hid (¬ (Shp.sz ⟨ss[k].kd,ss[k].fs⟩:Int)<=left - ss.length - zfM (ss.take k)):=hneg;clear hneg hle;go_wp2_with fail
     refine (zjo _ _ _ _ _ _ hsm hfl hpos (by omega) (by have:=HNG.out;omega)).mono ?_;rintro e w1 ⟨rfl,hb1⟩;have hB1:=hB.trans (hb1.mono hB.size);clear hb1;go_wp2_with fail
     go_ret;exact ⟨zq HF.out.symm,hB1⟩
   ·have HF:Hid (zL (zaT ss) left=left - ss.length - zfM (ss.take k)):=by
     rw [tOl (by omega)] at hpos ⊢;have e:zL (zaT ss) left=left - zaT ss:=zN (by unfold zaT;omega);unfold Hid;rw [e];unfold zaT;omega
    clear hw
    go_wp2
    go_ret;exact ⟨zq HF.out.symm,hB⟩
 ·have HF:Hid (zL (zaT ss) left=-1):=zC (by unfold zaT;omega)
  clear hw;go_enter Tryz.func17,Tryz.ntmps17
  go_wp2
  go_ret;exact ⟨zq HF.out.symm,bRf _ _⟩
theorem zk {w:World} {b o:Nat} {C:Array Value} {t:TypeId} (h:w.heap[b]?=some (.cells C t)) (v:Value):(w.setCell ⟨b,o,none⟩ v).heap[b]?=some (.cells (C.setIfInBounds o v) t):=by
 simp [World.setCell,Array.getElem?_modify,h]
theorem cell_of_block {w:World} {b o:Nat} {C:Array Value} {t:TypeId} (h:w.heap[b]?=some (.cells C t)):w.cell? ⟨b,o,none⟩=C[o]?:=by simp [World.cell?,h]
theorem zi {w:World} {b o:Nat} {C:Array Value} {t:TypeId} (h:w.heap[b]?=some (.cells C t)):w.frozen? ⟨b,o,none⟩=false:=by simp [World.frozen?,h]
def zmz (w:World) (b o:Nat) (v0 v1 v2 v3 v4 v5 v6 v7 v8 v9 v10:Value):World:=((((((((((w.setCell ⟨b,o,none⟩ v0).setCell ⟨b,o+1,none⟩ v1).setCell ⟨b,o+2,none⟩ v2).setCell ⟨b,o+3,none⟩ v3).setCell ⟨b,o+4,none⟩ v4).setCell ⟨b,o+5,none⟩ v5).setCell ⟨b,o+6,none⟩ v6).setCell ⟨b,o+7,none⟩ v7).setCell ⟨b,o+8,none⟩ v8).setCell ⟨b,o+9,none⟩ v9).setCell ⟨b,o+10,none⟩ v10
def zjw (C:Array Value) (o:Nat) (v0 v1 v2 v3 v4 v5 v6 v7 v8 v9 v10:Value):Array Value:=((((((((((C.setIfInBounds o v0).setIfInBounds (o+1) v1).setIfInBounds (o+2) v2).setIfInBounds (o+3) v3).setIfInBounds (o+4) v4).setIfInBounds (o+5) v5).setIfInBounds (o+6) v6).setIfInBounds (o+7) v7).setIfInBounds (o+8) v8).setIfInBounds (o+9) v9).setIfInBounds (o+10) v10
theorem zmb {w:World} {b o:Nat} {C:Array Value} {t:TypeId} (h:w.heap[b]?=some (.cells C t)) (v0 v1 v2 v3 v4 v5 v6 v7 v8 v9 v10:Value):(zmz w b o v0 v1 v2 v3 v4 v5 v6 v7 v8 v9 v10).heap[b]?=some (.cells (zjw C o v0 v1 v2 v3 v4 v5 v6 v7 v8 v9 v10) t) :=
 zk (zk (zk (zk (zk (zk (zk (zk (zk (zk (zk h v0) v1) v2) v3) v4) v5) v6) v7) v8) v9) v10
theorem zl5 {B:Nat} {a w:World} (h:Below B a w) {b:Nat} (hb:B<=b) (o:Nat) (v0 v1 v2 v3 v4 v5 v6 v7 v8 v9 v10:Value):Below B a (zmz w b o v0 v1 v2 v3 v4 v5 v6 v7 v8 v9 v10) :=
 ((((((((((h.setCell hb v0).setCell hb v1).setCell hb v2).setCell hb v3).setCell hb v4).setCell hb v5).setCell hb v6).setCell hb v7).setCell hb v8).setCell hb v9).setCell hb v10
theorem zhq (w:World) (b o b':Nat) (hb:b' ≠ b) (v0 v1 v2 v3 v4 v5 v6 v7 v8 v9 v10:Value):(zmz w b o v0 v1 v2 v3 v4 v5 v6 v7 v8 v9 v10).heap[b']?=w.heap[b']?:=by
 unfold zmz
 iterate 11 rw [Below.heap_setCell _ _ _ _ hb]
theorem znn (C:Array Value) (o:Nat) (v0 v1 v2 v3 v4 v5 v6 v7 v8 v9 v10:Value):(zjw C o v0 v1 v2 v3 v4 v5 v6 v7 v8 v9 v10).size=C.size:=by simp [zjw]
theorem zo5 (C:Array Value) (o i:Nat) (v0 v1 v2 v3 v4 v5 v6 v7 v8 v9 v10:Value) (h:i < o \/ o+11<=i):(zjw C o v0 v1 v2 v3 v4 v5 v6 v7 v8 v9 v10)[i]?=C[i]?:=by
 unfold zjw
 iterate 11 rw [Array.getElem?_setIfInBounds,if_neg (by omega)]
theorem zpQ (C:Array Value) (o j:Nat) (v0 v1 v2 v3 v4 v5 v6 v7 v8 v9 v10:Value) (hj:j < 11) (ho:o+11<=C.size):(zjw C o v0 v1 v2 v3 v4 v5 v6 v7 v8 v9 v10)[o+j]?=(#[v0,v1,v2,v3,v4,v5,v6,v7,v8,v9,v10]:Array Value)[j]?:=by
 have hc:j=0 \/ j=1 \/ j=2 \/ j=3 \/ j=4 \/ j=5 \/ j=6 \/ j=7 \/ j=8 \/ j=9 \/ j=10:=by omega
 unfold zjw
 rcases hc with h | h | h | h | h | h | h | h | h | h | h <;> subst h <;> simp [Array.getElem?_setIfInBounds] <;> omega
theorem zdd (a:Option Addr) (cap:Nat) (ws:List ByteArray) (w:World) (hw:zD w a ws) (hl:ws.length<=1048576) :
 Calls Tryz.prog 105 #[.slice a ws.length cap] w fun e w'=>e = .returned (.slice (some ⟨w.heap.size,0,none⟩) ws.length ws.length)/\w'=w.alloc (.cells (jB ws) 9):=by
 have hmk:∀ w:World,(Instr.makeSlice 102 (.int .i64 ws.length) (.int .i64 ws.length)).run Tryz.prog w = .ok (.slice (some ⟨w.heap.size,0,none⟩) ws.length ws.length) (w.alloc (.cells (strCells ws 0) 9)):=by
  intro w;have h:=run_make_row' (P:=Tryz.prog) 102 9 (.string ByteArray.empty) 16 Tryz.underlying102 (by kernel_rfl) rfl .i64 .i64 ws.length (by omega) (by omega) w;rw [zjY] at h;exact h
 go_enter Tryz.func105,Tryz.ntmps105
 go_wp2
 clear hmk
 go_loopw [4] (fun i wr=>∃ k:Nat,k<=ws.length/\i = .int .i64 k/\wr=w.alloc (.cells (strCells ws k) 9)) (fun i _=>ws.length - (intOf i).toNat)
 case atStart=>exact ⟨0,Nat.zero_le _,rfl,rfl⟩
 case round =>
  obtain ⟨k,hk,rfl,rfl⟩:=hrel
  by_cases hlt:k < ws.length
  ·obtain ⟨b,off,rfl,hb,hc⟩:=hw.cells (by rintro rfl;simp at hlt)
   clear hw;have hck:=hc k hlt;have hold:=zl3 ws k hlt;have HS:Hid ((strCells ws k).setIfInBounds k (.string ws[k])=strCells ws (k+1)):=zkW ws k hlt;clear hc
   go_wp2
   go_roundw
   case rel=>exact ⟨k+1,by omega,by go_num,by rw [HS.out]⟩
   case measure=>simp [intOf];omega
  ·have HA:Hid (strCells ws k=jB ws):=zlL ws k (by omega)
   clear hw
   go_wp2
   go_ret;exact ⟨rfl,by rw [HA.out]⟩
theorem zk1 (w:World) (o1 o2 o3 o4:Obj):Below w.heap.size w ((((w.alloc o1).alloc o2).alloc o3).alloc o4) :=
 (((bAl _ _).alloc (by simp) _).alloc (by simp;omega) _).alloc (by simp;omega) _
theorem at4 (w:World) (o1 o2 o3 o4:Obj):((((w.alloc o1).alloc o2).alloc o3).alloc o4).heap[w.heap.size+1+1+1]?=some o4:=by
 have h:=MapKept.heap_alloc (((w.alloc o1).alloc o2).alloc o3) o4
 simpa using h.1
theorem zh1 (nm:ByteArray) (kd ls ms:Int) (a:Option Addr) (cap:Nat) (ws:List ByteArray) (to:ByteArray) (rl:Int) (mu fx:Bool) (df wg:ByteArray) (w:World) (hw:zD w a ws) (hl:ws.length<=1048576) :
 Calls Tryz.prog 138 #[.agg #[.string nm,.int .i64 kd,.int .i64 ls,.int .i64 ms,.slice a ws.length cap,.string to,.int .i64 rl,.bool mu,.bool fx,.string df,.string wg]] w
  fun e w'=>∃ bk,e = .returned (.agg #[.string nm,.int .i64 kd,.int .i64 ls,.int .i64 ms,.slice (some ⟨bk,0,none⟩) ws.length ws.length,.string to,.int .i64 rl,.bool mu,.bool fx,.string df,.string wg]) /\
   w.heap.size<=bk/\bk < w'.heap.size/\w'.heap[bk]?=some (.cells (jB ws) 9)/\Below w.heap.size w w':=by
 go_enter Tryz.func138,Tryz.ntmps138
 go_wp2_with (go_at_call 105;refine (zdd _ _ _ _ (by exact hw.mono (((bAl _ _).alloc (by simp) _).alloc (by simp;omega) _)) hl).mono ?_;rintro e w' ⟨rfl,rfl⟩)
 refine bodyPost_ret (v:=.agg #[.string nm,.int .i64 kd,.int .i64 ls,.int .i64 ms,.slice (some ⟨w.heap.size+1+1+1,0,none⟩) ws.length ws.length,.string to,.int .i64 rl,.bool mu,.bool fx,.string df,.string wg]) (by simp [results,Tryz.results138,go_sem]) rfl ⟨w.heap.size+1+1+1,rfl,by omega,by simp,at4 _ _ _ _ _,zk1 _ _ _ _ _⟩
structure qL (lo:Nat) (w:World) (bo:Nat) (fs:List Fld) (k:Nat):Prop where
 low:lo<=bo
 rows:∃ C,w.heap[bo]?=some (.cells C 165)/\C.size=fs.length * 11 /\
  ∀ i (h:i < fs.length),i < k->∃ bk,lo<=bk/\bk ≠ bo/\w.heap[bk]?=some (.cells (jB fs[i].ws) 9)/\∀ j,j < 11->C[i * 11+j]?=(fs[i].cells (some ⟨bk,0,none⟩) fs[i].ws.length)[j]?
structure zbX (fs:List Fld):Prop where
 small:∀ i (h:i < fs.length),fs[i].Small/\fs[i].ws.length<=maxLen/\∀ s ∈ fs[i].ws,s.size<=maxLen
theorem zP.smalls {w:World} {a:Option Addr} {fs:List Fld} (h:zP w a fs):zbX fs :=
 ⟨fun i hi=>by
  obtain ⟨b,off,_,_,hr⟩:=h.rows (by rintro rfl;simp at hi);obtain ⟨wa,wcap,hf⟩:=hr i hi;exact ⟨hf.small,hf.strs.len,hf.strs.small⟩⟩
theorem qL.at {lo:Nat} {w:World} {bo:Nat} {fs:List Fld} (h:qL lo w bo fs fs.length) (hs:zbX fs) (hl:fs.length<=maxLen):zP w (some ⟨bo,0,none⟩) fs:=by
 obtain ⟨C,hC,hsz,hr⟩:=h.rows;refine ⟨hl,fun _=>⟨bo,0,rfl,(gES hC).1,fun i hi=>?_⟩⟩;obtain ⟨bk,_,_,hk,hc⟩:=hr i hi hi;obtain ⟨s1,s2,s3⟩:=hs.small i hi;refine ⟨some ⟨bk,0,none⟩,fs[i].ws.length,s1,zdn hk s2 s3,fun j hj=>?_⟩;rw [cell_of_block hC,Nat.zero_add];exact hc j hj
theorem qL.later {lo:Nat} {w w':World} {bo:Nat} {fs:List Fld} {k:Nat} (h:qL lo w bo fs k) (hb:Below w.heap.size w w'):qL lo w' bo fs k:=by
 obtain ⟨C,hC,hsz,hr⟩:=h.rows;refine ⟨h.low,C,(hb.block bo (gES hC).1).trans hC,hsz,fun i hi hk=>?_⟩;obtain ⟨bk,h1,h2,h3,h4⟩:=hr i hi hk;exact ⟨bk,h1,h2,(hb.block bk (gES h3).1).trans h3,h4⟩
theorem qL.put {lo:Nat} {w:World} {bo:Nat} {fs:List Fld} {k:Nat} (h:qL lo w bo fs k) (hk:k < fs.length) (bk:Nat) (h1:lo<=bk) (h2:bk ≠ bo) (h3:w.heap[bk]?=some (.cells (jB fs[k].ws) 9)) :
 qL lo (zmz w bo (k * 11) (.string fs[k].nm) (.int .i64 fs[k].kd) (.int .i64 fs[k].ls) (.int .i64 fs[k].ms) (.slice (some ⟨bk,0,none⟩) fs[k].ws.length fs[k].ws.length) (.string fs[k].to) (.int .i64 fs[k].rl) (.bool fs[k].mu) (.bool fs[k].fx) (.string fs[k].df) (.string fs[k].wg)) bo fs (k+1):=by
 obtain ⟨C,hC,hsz,hr⟩:=h.rows;refine ⟨h.low,_,zmb hC _ _ _ _ _ _ _ _ _ _ _,by rw [znn];exact hsz,fun i hi hik=>?_⟩
 rcases Nat.lt_or_ge i k with hlt | hge
 ·obtain ⟨bi,g1,g2,g3,g4⟩:=hr i hi hlt
  refine ⟨bi,g1,g2,by rw [zhq _ _ _ _ g2];exact g3,fun j hj=>?_⟩;rw [zo5 _ _ _ _ _ _ _ _ _ _ _ _ _ _ (by omega)];exact g4 j hj
 ·have e:i=k:=by omega
  subst e;refine ⟨bk,h1,h2,by rw [zhq _ _ _ _ h2];exact h3,fun j hj=>?_⟩;rw [zpQ _ _ _ _ _ _ _ _ _ _ _ _ _ _ hj (by omega)]
  rfl
def zos:Array Value:=#[.string ByteArray.empty,.int .i64 0,.int .i64 0,.int .i64 0,.slice none 0 0,.string ByteArray.empty,.int .i64 0,.bool false,.bool false,.string ByteArray.empty,.string ByteArray.empty]
def znc (n:Nat):Array Value:=madeCells zos (n * 11)
theorem zhj (a:Option Addr) (cap:Nat) (fs:List Fld) (w:World) (hw:zP w a fs) (hl:fs.length<=1048576) (hls:∀ i (h:i < fs.length),fs[i].ws.length<=1048576) :
 Calls Tryz.prog 104 #[.slice a fs.length cap] w fun e w'=>e = .returned (.slice (some ⟨w.heap.size,0,none⟩) fs.length fs.length)/\qL w.heap.size w' w.heap.size fs fs.length/\Below w.heap.size w w':=by
 have hmk:∀ w:World,(Instr.makeSlice 121 (.int .i64 fs.length) (.int .i64 fs.length)).run Tryz.prog w = .ok (.slice (some ⟨w.heap.size,0,none⟩) fs.length fs.length) (w.alloc (.cells (znc fs.length) 165)) :=
  fun w=>jK (P:=Tryz.prog) 121 165 (.agg zos) 11 128 Tryz.underlying121 (by kernel_rfl) fs.length (by omega) (by omega) w
 go_enter Tryz.func104,Tryz.ntmps104;go_wp2_with fail
 clear hmk
 go_loopw [4] (fun i wr=>∃ k:Nat,k<=fs.length/\i = .int .i64 k/\qL w.heap.size wr w.heap.size fs k/\Below w.heap.size w wr) (fun i _=>fs.length - (intOf i).toNat)
 case atStart=>exact ⟨0,Nat.zero_le _,rfl,⟨Nat.le_refl _,znc fs.length,(MapKept.heap_alloc w _).1,size_madeCells _ _,fun i _ h=>absurd h (by omega)⟩,bAl _ _⟩
 case round =>
  obtain ⟨k,hk,rfl,hown,hB⟩:=hrel
  by_cases hlt:k < fs.length
  ·obtain ⟨b,off,rfl,hb,hr⟩:=hw.rows (by rintro rfl;simp at hlt)
   obtain ⟨wa,wcap,hf0⟩:=hr k hlt;have hf:=hf0.mono hb hB;obtain ⟨c0,c1,c2,c3,c4,c5,c6,c7,c8,c9,c10⟩:=hf.load;have hst:=hf.strs;have HLS:Hid (fs[k].ws.length<=1048576):=hls k hlt;have hltI:(k:Int) < (fs.length:Int):=by omega
   clear hw hr hf0 hf;go_wp2_with fail
   refine (zh1 _ _ _ _ _ _ _ _ _ _ _ _ _ _ hst HLS.out).mono ?_;rintro e w1 ⟨bk,rfl,hlo,hhi,hbk,hb1⟩;have hB1:=hB.trans (hb1.mono hB.size);have hown1:=hown.later hb1;obtain ⟨C,hC,hsz,_⟩:=hown1.rows;have hfz:∀ o,w1.frozen? ⟨w.heap.size,o,none⟩=false:=fun o=>zi hC
   have hex:∀ o,o < fs.length * 11->∃ v,w1.cell? ⟨w.heap.size,o,none⟩=some v:=fun o ho=>⟨C[o]'(by omega),by rw [cell_of_block hC];exact Array.getElem?_eq_getElem (by omega)⟩
   obtain ⟨v0,hv0⟩:=hex (k * 11) (by omega);obtain ⟨v1,hv1⟩:=hex (k * 11+1) (by omega);obtain ⟨v2,hv2⟩:=hex (k * 11+2) (by omega);obtain ⟨v3,hv3⟩:=hex (k * 11+3) (by omega);obtain ⟨v4,hv4⟩:=hex (k * 11+4) (by omega);obtain ⟨v5,hv5⟩:=hex (k * 11+5) (by omega);obtain ⟨v6,hv6⟩:=hex (k * 11+6) (by omega);obtain ⟨v7,hv7⟩:=hex (k * 11+7) (by omega);obtain ⟨v8,hv8⟩:=hex (k * 11+8) (by omega);obtain ⟨v9,hv9⟩:=hex (k * 11+9) (by omega);obtain ⟨v10,hv10⟩:=hex (k * 11+10) (by omega);clear hex hC hsz c0 c1 c2 c3 c4 c5 c6 c7 c8 c9 c10
   have hbo:w.heap.size < wr.heap.size:=by
    obtain ⟨C',hC',_⟩:=hown.rows;exact (gES hC').1
   go_wp2_with fail
   exact ⟨⟨k+1,by omega,by go_num,hown1.put hlt bk (by omega) (by omega) hbk,zl5 hB1 (Nat.le_refl _) _ _ _ _ _ _ _ _ _ _ _ _⟩,by simp [intOf];omega⟩
  ·have HF:Hid (qL w.heap.size wr w.heap.size fs fs.length):=by
    have e:k=fs.length:=by omega
    subst e;exact hown
   clear hw hown;go_wp2_with fail
   go_ret;exact ⟨rfl,HF.out,hB⟩
structure jU (lo:Nat) (w:World) (bo:Nat) (ss:List Shp) (k:Nat):Prop where
 low:lo<=bo
 rows:∃ C,w.heap[bo]?=some (.cells C 123)/\C.size=ss.length * 2 /\
  ∀ i (h:i < ss.length),i < k->∃ bf,lo<=bf/\bo < bf/\qL (bo+1) w bf ss[i].fs ss[i].fs.length/\C[i * 2]?=some (.string ss[i].kd)/\C[i * 2+1]?=some (.slice (some ⟨bf,0,none⟩) ss[i].fs.length ss[i].fs.length)
structure zdr (ss:List Shp):Prop where
 small:∀ i (h:i < ss.length),ss[i].kd.size<=maxLen/\ss[i].fs.length<=maxLen/\zbX ss[i].fs
theorem yI.smalls {w:World} {a:Option Addr} {ss:List Shp} (h:yI w a ss):zdr ss :=
 ⟨fun i hi=>by
  obtain ⟨b,off,_,_,hr⟩:=h.rows (by rintro rfl;simp at hi);obtain ⟨fa,fcap,hs⟩:=hr i hi;exact ⟨hs.small,hs.zdk.len,hs.zdk.smalls⟩⟩
theorem jU.at {lo:Nat} {w:World} {bo:Nat} {ss:List Shp} (h:jU lo w bo ss ss.length) (hs:zdr ss) (hl:ss.length<=maxLen):yI w (some ⟨bo,0,none⟩) ss:=by
 obtain ⟨C,hC,hsz,hr⟩:=h.rows;refine ⟨hl,fun _=>⟨bo,0,rfl,(gES hC).1,fun i hi=>?_⟩⟩;obtain ⟨bf,_,_,hf,h1,h2⟩:=hr i hi hi;obtain ⟨s1,s2,s3⟩:=hs.small i hi;refine ⟨some ⟨bf,0,none⟩,ss[i].fs.length,s1,hf.at s3 s2,?_,?_⟩
 ·rw [cell_of_block hC,Nat.zero_add];exact h1
 ·rw [cell_of_block hC,Nat.zero_add];exact h2
theorem jU.later {lo:Nat} {w w':World} {bo:Nat} {ss:List Shp} {k:Nat} (h:jU lo w bo ss k) (hb:Below w.heap.size w w'):jU lo w' bo ss k:=by
 obtain ⟨C,hC,hsz,hr⟩:=h.rows;refine ⟨h.low,C,(hb.block bo (gES hC).1).trans hC,hsz,fun i hi hk=>?_⟩;obtain ⟨bf,h1,h2,h3,h4⟩:=hr i hi hk;exact ⟨bf,h1,h2,h3.later hb,h4⟩
theorem qL.setCell {lo:Nat} {w:World} {bf:Nat} {fs:List Fld} {k:Nat} (h:qL lo w bf fs k) {p:Addr} (hp:p.block < lo) (v:Value):qL lo (w.setCell p v) bf fs k:=by
 obtain ⟨C,hC,hsz,hr⟩:=h.rows;have hl:=h.low;refine ⟨h.low,C,by rw [Below.heap_setCell _ _ _ _ (by omega)];exact hC,hsz,fun i hi hk=>?_⟩;obtain ⟨bk,h1,h2,h3,h4⟩:=hr i hi hk;exact ⟨bk,h1,h2,by rw [Below.heap_setCell _ _ _ _ (by omega)];exact h3,h4⟩
theorem qL.weaken {lo lo':Nat} {w:World} {bf:Nat} {fs:List Fld} {k:Nat} (h:qL lo w bf fs k) (hl:lo'<=lo):qL lo' w bf fs k:=by
 obtain ⟨C,hC,hsz,hr⟩:=h.rows;refine ⟨Nat.le_trans hl h.low,C,hC,hsz,fun i hi hk=>?_⟩;obtain ⟨bk,h1,h2⟩:=hr i hi hk;exact ⟨bk,Nat.le_trans hl h1,h2⟩
theorem jU.put {lo:Nat} {w:World} {bo:Nat} {ss:List Shp} {k:Nat} (h:jU lo w bo ss k) (hk:k < ss.length) (bf:Nat) (h1:bo < bf) (h3:qL (bo+1) w bf ss[k].fs ss[k].fs.length) :
 jU lo ((w.setCell ⟨bo,k * 2,none⟩ (.string ss[k].kd)).setCell ⟨bo,k * 2+1,none⟩ (.slice (some ⟨bf,0,none⟩) ss[k].fs.length ss[k].fs.length)) bo ss (k+1):=by
 obtain ⟨C,hC,hsz,hr⟩:=h.rows;have hl:=h.low;refine ⟨h.low,_,zk (zk hC _) _,by simp [hsz],fun i hi hik=>?_⟩
 rcases Nat.lt_or_ge i k with hlt | hge
 ·obtain ⟨bi,g1,g2,g3,g4,g5⟩:=hr i hi hlt
  refine ⟨bi,g1,g2,(g3.setCell (by simp) _).setCell (by simp) _,?_,?_⟩
  ·rw [Array.getElem?_setIfInBounds,if_neg (by omega),Array.getElem?_setIfInBounds,if_neg (by omega)];exact g4
  ·rw [Array.getElem?_setIfInBounds,if_neg (by omega),Array.getElem?_setIfInBounds,if_neg (by omega)];exact g5
 ·have e:i=k:=by omega
  subst e;refine ⟨bf,by omega,h1,(h3.setCell (by simp) _).setCell (by simp) _,?_,?_⟩
  ·rw [Array.getElem?_setIfInBounds,if_neg (by omega),Array.getElem?_setIfInBounds,if_pos rfl,if_pos (by omega)]
  ·rw [Array.getElem?_setIfInBounds,if_pos rfl,if_pos (by simp;omega)]
theorem zic (kd:ByteArray) (a:Option Addr) (cap:Nat) (fs:List Fld) (w:World) (hw:zP w a fs) (hl:fs.length<=1048576) (hls:∀ i (h:i < fs.length),fs[i].ws.length<=1048576) :
 Calls Tryz.prog 64 #[.agg #[.string kd,.slice a fs.length cap]] w fun e w'=>∃ bf,e = .returned (.agg #[.string kd,.slice (some ⟨bf,0,none⟩) fs.length fs.length])/\qL w.heap.size w' bf fs fs.length/\Below w.heap.size w w':=by
 go_enter Tryz.func64,Tryz.ntmps64;go_wp2_with fail
 refine (zhj _ _ _ _ (hw.mono (((bAl _ _).alloc (by simp) _).alloc (by simp;omega) _)) hl hls).mono ?_;rintro e w1 ⟨rfl,hown,hb1⟩;have qr0:w1.cell? ⟨w.heap.size+1,0,none⟩=some (.string { data:=#[] }):=(hb1.cell (p:=⟨w.heap.size+1,0,none⟩) (by simp)).trans (by simp [World.cell?_alloc_at,World.cell?_alloc_past]);have fr0:w1.frozen? ⟨w.heap.size+1,0,none⟩=false:=(hb1.frozen (p:=⟨w.heap.size+1,0,none⟩) (by simp)).trans (by simp [World.frozen?_alloc_at,World.frozen?_alloc_past]);have qr1:w1.cell? ⟨w.heap.size+1,1,none⟩=some (.slice none 0 0):=(hb1.cell (p:=⟨w.heap.size+1,1,none⟩) (by simp)).trans (by simp [World.cell?_alloc_at,World.cell?_alloc_past]);have fr1:w1.frozen? ⟨w.heap.size+1,1,none⟩=false:=(hb1.frozen (p:=⟨w.heap.size+1,1,none⟩) (by simp)).trans (by simp [World.frozen?_alloc_at,World.frozen?_alloc_past]);have qo0:w1.cell? ⟨w.heap.size+1+1,0,none⟩=some (.string kd):=(hb1.cell (p:=⟨w.heap.size+1+1,0,none⟩) (by simp)).trans (by simp [World.cell?_alloc_at]);have fo0:w1.frozen? ⟨w.heap.size+1+1,0,none⟩=false:=(hb1.frozen (p:=⟨w.heap.size+1+1,0,none⟩) (by simp)).trans (by simp [World.frozen?_alloc_at]);have qo1:w1.cell? ⟨w.heap.size+1+1,1,none⟩=some (.slice none 0 0):=(hb1.cell (p:=⟨w.heap.size+1+1,1,none⟩) (by simp)).trans (by simp [World.cell?_alloc_at]);have fo1:w1.frozen? ⟨w.heap.size+1+1,1,none⟩=false:=(hb1.frozen (p:=⟨w.heap.size+1+1,1,none⟩) (by simp)).trans (by simp [World.frozen?_alloc_at]);have hz1:w.heap.size+1+1 < w1.heap.size:=by have:=hb1.size;simp at this;omega
 go_wp2_with fail
 have hsz:(((w.alloc (.cells #[.string kd,.slice a fs.length cap] 94)).alloc (.cells #[.string { data:=#[] },.slice none 0 0] 123)).alloc (.cells #[.string kd,.slice none 0 0] 123)).heap.size=w.heap.size+1+1+1:=by simp
 have hB1:Below w.heap.size w w1:=(((bAl _ _).alloc (by simp) _).alloc (by simp;omega) _).trans (hb1.mono (by simp;omega));rw [hsz] at hown;refine bodyPost_ret (v:=.agg #[.string kd,.slice (some ⟨w.heap.size+1+1+1,0,none⟩) fs.length fs.length]) (by simp [results,Tryz.results64,go_sem,qr0,qr1]) rfl ⟨w.heap.size+1+1+1,rfl,?_,?_⟩
 ·exact (((hown.setCell (by simp) _).setCell (by simp) _).setCell (by simp) _).weaken (by omega)
 ·exact ((hB1.setCell (by simp;omega) _).setCell (by simp) _).setCell (by simp) _
def zof:Array Value:=#[.string ByteArray.empty,.slice none 0 0]
def zmn (n:Nat):Array Value:=madeCells zof (n * 2)
theorem zg5 (a:Option Addr) (cap:Nat) (ss:List Shp) (w:World) (hw:yI w a ss) (hl:ss.length<=1048576) (hls:∀ i (h:i < ss.length),ss[i].fs.length<=1048576/\∀ j (h':j < ss[i].fs.length),ss[i].fs[j].ws.length<=1048576) :
 Calls Tryz.prog 28 #[.slice a ss.length cap] w fun e w'=>e = .returned (.slice (some ⟨w.heap.size,0,none⟩) ss.length ss.length)/\jU w.heap.size w' w.heap.size ss ss.length/\Below w.heap.size w w':=by
 have hmk:∀ w:World,(Instr.makeSlice 37 (.int .i64 ss.length) (.int .i64 ss.length)).run Tryz.prog w = .ok (.slice (some ⟨w.heap.size,0,none⟩) ss.length ss.length) (w.alloc (.cells (zmn ss.length) 123)) :=
  fun w=>jK (P:=Tryz.prog) 37 123 (.agg zof) 2 40 Tryz.underlying37 (by kernel_rfl) ss.length (by omega) (by omega) w
 go_enter Tryz.func28,Tryz.ntmps28;go_wp2_with fail
 clear hmk
 go_loopw [4] (fun i wr=>∃ k:Nat,k<=ss.length/\i = .int .i64 k/\jU w.heap.size wr w.heap.size ss k/\Below w.heap.size w wr) (fun i _=>ss.length - (intOf i).toNat)
 case atStart=>exact ⟨0,Nat.zero_le _,rfl,⟨Nat.le_refl _,zmn ss.length,(MapKept.heap_alloc w _).1,size_madeCells _ _,fun i _ h=>absurd h (by omega)⟩,bAl _ _⟩
 case round =>
  obtain ⟨k,hk,rfl,hown,hB⟩:=hrel
  by_cases hlt:k < ss.length
  ·obtain ⟨b,off,rfl,hb,hr⟩:=hw.rows (by rintro rfl;simp at hlt)
   obtain ⟨fa,fcap,hs0⟩:=hr k hlt;have hs:=hs0.mono hb hB;have hck:=hs.kind;have hcl:=hs.list;have hfl:=hs.zdk;have HLS:=hls k hlt;have HLS':Hid (ss[k].fs.length<=1048576/\∀ j (h':j < ss[k].fs.length),ss[k].fs[j].ws.length<=1048576):=HLS;have hltI:(k:Int) < (ss.length:Int):=by omega
   clear hw hr hs0 hs HLS;go_wp2_with fail
   refine (zic _ _ _ _ _ hfl HLS'.out.1 HLS'.out.2).mono ?_;rintro e w1 ⟨bf,rfl,hof,hb1⟩;have hB1:=hB.trans (hb1.mono hB.size);have hown1:=hown.later hb1
   have hbo:w.heap.size < wr.heap.size:=by
    obtain ⟨C',hC',_⟩:=hown.rows;exact (gES hC').1
   obtain ⟨C,hC,hsz,_⟩:=hown1.rows;have hfz:∀ o,w1.frozen? ⟨w.heap.size,o,none⟩=false:=fun o=>zi hC
   have hex:∀ o,o < ss.length * 2->∃ v,w1.cell? ⟨w.heap.size,o,none⟩=some v:=fun o ho=>⟨C[o]'(by omega),by rw [cell_of_block hC];exact Array.getElem?_eq_getElem (by omega)⟩
   obtain ⟨v0,hv0⟩:=hex (k * 2) (by omega);obtain ⟨v1,hv1⟩:=hex (k * 2+1) (by omega);clear hex hC hsz hck hcl;have hlow:=hof.low;go_wp2_with fail
   exact ⟨⟨k+1,by omega,by go_num,hown1.put hlt bf (by omega) (hof.weaken (by omega)),(hB1.setCell (Nat.le_refl _) _).setCell (Nat.le_refl _) _⟩,by simp [intOf];omega⟩
  ·have HF:Hid (jU w.heap.size wr w.heap.size ss ss.length):=by
    have e:k=ss.length:=by omega
    subst e;exact hown
   clear hw hown;go_wp2_with fail
   go_ret;exact ⟨rfl,HF.out,hB⟩
end Go.Proofs.YtghnakljnhnenaaGreat
