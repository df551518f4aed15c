import Derived.Test.YtaickbhifenbjaaGreatM02
import Derived.Test.YtaickbhifenbjaaGreatM01
import Derived.Deep.OwnRows
import Derived.MapKept
set_option maxHeartbeats 2000000
namespace Go.Proofs.YtaickbhifenbjaaGreat
open Go.RowKit
def Fld.sz (f:Fld):Nat:=j6 f.nm f.ws f.to f.df f.wg
def zfG (fs:List Fld):Nat:=(fs.map Fld.sz).sum
def zau (fs:List Fld):Nat:=fs.length+zfG fs
def Shp.sz (s:Shp):Nat:=s.kd.size+zau s.fs
def zfn (ss:List Shp):Nat:=(ss.map Shp.sz).sum
def zaA (ss:List Shp):Nat:=ss.length+zfn ss
theorem zgY (nm:ByteArray) (kd ls ms:Int) (a:Option Addr) (cap:Nat) (ws:List ByteArray) (to:ByteArray) (rl:Int) (mu fx:Bool) (df wg:ByteArray) (left:Int) (w:World) (hw:zF w a ws) (h0:0<=left) (h1:left<=1048576)
 (hnm:nm.size<=maxLen) (hto:to.size<=maxLen) (hdf:df.size<=maxLen) (hwg:wg.size<=maxLen) (h:(j6 nm ws to df wg:Int)<=left) :
 Calls Tryz.prog 113 #[.agg #[.string nm,.int .i64 kd,.int .i64 ls,.int .i64 ms,.slice a ws.length cap,.string to,.int .i64 rl,.bool mu,.bool fx,.string df,.string wg],.int .i64 left] w fun e w'=>e = .returned (.int .i64 (left - j6 nm ws to df wg))/\Below w.heap.size w w':=by
 refine (zdN nm kd ls ms a cap ws to rl mu fx df wg left w hw h0 h1 hnm hto hdf hwg).mono ?_
 rintro e w' ⟨rfl,hb⟩
 exact ⟨zm (zM h),hb⟩
theorem ziK (nm:ByteArray) (kd ls ms:Int) (a:Option Addr) (cap:Nat) (ws:List ByteArray) (to:ByteArray) (rl:Int) (mu fx:Bool) (df wg:ByteArray) (left:Int) (w:World) (hw:zF w a ws) (h0:0<=left) (h1:left<=1048576)
 (hnm:nm.size<=maxLen) (hto:to.size<=maxLen) (hdf:df.size<=maxLen) (hwg:wg.size<=maxLen) (h:¬ (j6 nm ws to df wg:Int)<=left) :
 Calls Tryz.prog 113 #[.agg #[.string nm,.int .i64 kd,.int .i64 ls,.int .i64 ms,.slice a ws.length cap,.string to,.int .i64 rl,.bool mu,.bool fx,.string df,.string wg],.int .i64 left] w fun e w'=>e = .returned (.int .i64 (-1))/\Below w.heap.size w w':=by
 refine (zdN nm kd ls ms a cap ws to rl mu fx df wg left w hw h0 h1 hnm hto hdf hwg).mono ?_
 rintro e w' ⟨rfl,hb⟩
 exact ⟨zm (zD h),hb⟩
theorem zdc (a:Option Addr) (cap:Nat) (fs:List Fld) (left:Int) (w:World) (hw:zR w a fs) (h0:0<=left) (h1:left<=1048576) :
 Calls Tryz.prog 74 #[.slice a fs.length cap,.int .i64 left] w fun e w'=>e = .returned (.int .i64 (zL (zau fs) left))/\Below w.heap.size w w':=by
 have hl:=hw.len
 unfold maxLen at hl
 by_cases hfit:(fs.length:Int)<=left
 ·go_enter Tryz.func74,Tryz.ntmps74
  go_wp2_with fail
  go_loopw [1,5] (fun l i wr=>∃ k:Nat,k<=fs.length/\i = .int .i64 k/\0<=left - fs.length - zfG (fs.take k)/\l = .int .i64 (left - fs.length - zfG (fs.take k))/\Below w.heap.size w wr) (fun _ i _=>fs.length - (intOf i).toNat)
  case atStart=>exact ⟨0,Nat.zero_le _,rfl,by simp [zfG];omega,by simp [zfG],Below.refl _ _⟩
  case round =>
   obtain ⟨k,hk,rfl,hpos,rfl,hB⟩:=hrel
   by_cases hlt:k < fs.length
   ·obtain ⟨b,off,rfl,hb,hr⟩:=hw.rows (by rintro rfl;simp at hlt)
    obtain ⟨wa,wcap,hf0⟩:=hr k hlt
    have hf:=hf0.mono hb hB
    obtain ⟨c0,c1,c2,c3,c4,c5,c6,c7,c8,c9,c10⟩:=hf.load
    have hsm:=hf.small
    have hst:=hf.strs
    have HS:Hid (zfG (fs.take (k+1))=zfG (fs.take k)+fs[k].sz):=zaS Fld.sz fs k hlt
    have hle:zfG (fs.take (k+1))<=zfG fs:=zcm Fld.sz fs (k+1)
    clear hw hr hf0 hf
    by_cases hneg:(j6 fs[k].nm fs[k].ws fs[k].to fs[k].df fs[k].wg:Int)<=left - fs.length - zfG (fs.take k)
    ·have HNG:Hid ((j6 fs[k].nm fs[k].ws fs[k].to fs[k].df fs[k].wg:Int)<=left - fs.length - zfG (fs.take k)):=hneg
     clear hle
     go_wp2_with fail
     refine (zgY _ _ _ _ _ _ _ _ _ _ _ _ _ _ _ hst hpos (by omega) hsm.nm hsm.to hsm.df hsm.wg HNG.out).mono ?_
     rintro e w1 ⟨rfl,hb1⟩
     have hB1:=hB.trans (hb1.mono hB.size)
     clear hb1
     go_wp2_with fail
     exact ⟨⟨k+1,by omega,by go_num,by rw [HS.out];show 0<=_ - ((_+j6 _ _ _ _ _:Nat):Int);omega,by rw [HS.out];show Value.int _ _=Value.int _ (_ - ((_+j6 _ _ _ _ _:Nat):Int));congr 1;omega,hB1⟩,by simp [intOf];omega⟩
    ·have HF:Hid (zL (zau fs) left=-1):=zD (by have:=HS.out;unfold zau;unfold Fld.sz at this;omega)
     have HNG:Hid (¬ (j6 fs[k].nm fs[k].ws fs[k].to fs[k].df fs[k].wg:Int)<=left - fs.length - zfG (fs.take k)):=hneg
     clear hneg hle
     go_wp2_with fail
     refine (ziK _ _ _ _ _ _ _ _ _ _ _ _ _ _ _ hst hpos (by omega) hsm.nm hsm.to hsm.df hsm.wg (by have:=HNG.out;omega)).mono ?_
     rintro e w1 ⟨rfl,hb1⟩
     have hB1:=hB.trans (hb1.mono hB.size)
     clear hb1
     go_wp2_with fail
     go_ret
     exact ⟨zm HF.out.symm,hB1⟩
   ·have HF:Hid (zL (zau fs) left=left - fs.length - zfG (fs.take k)):=by
     rw [List.take_of_length_le (by omega)] at hpos ⊢
     have e:zL (zau fs) left=left - zau fs:=zM (by unfold zau;omega)
     unfold Hid;rw [e];unfold zau;omega
    clear hw
    go_wp2
    go_ret
    exact ⟨zm HF.out.symm,hB⟩
 ·have HF:Hid (zL (zau fs) left=-1):=zD (by unfold zau;omega)
  clear hw
  go_enter Tryz.func74,Tryz.ntmps74
  go_wp2
  go_ret
  exact ⟨zm HF.out.symm,Below.refl _ _⟩
theorem zfX (a:Option Addr) (cap:Nat) (fs:List Fld) (left:Int) (w:World) (hw:zR w a fs) (h0:0<=left) (h1:left<=1048576) (h:(zau fs:Int)<=left) :
 Calls Tryz.prog 74 #[.slice a fs.length cap,.int .i64 left] w fun e w'=>e = .returned (.int .i64 (left - zau fs))/\Below w.heap.size w w':=by
 refine (zdc a cap fs left w hw h0 h1).mono ?_
 rintro e w' ⟨rfl,hb⟩
 exact ⟨zm (zM h),hb⟩
theorem zhd (a:Option Addr) (cap:Nat) (fs:List Fld) (left:Int) (w:World) (hw:zR w a fs) (h0:0<=left) (h1:left<=1048576) (h:¬ (zau fs:Int)<=left) :
 Calls Tryz.prog 74 #[.slice a fs.length cap,.int .i64 left] w fun e w'=>e = .returned (.int .i64 (-1))/\Below w.heap.size w w':=by
 refine (zdc a cap fs left w hw h0 h1).mono ?_
 rintro e w' ⟨rfl,hb⟩
 exact ⟨zm (zD h),hb⟩
theorem zdM (kd:ByteArray) (a:Option Addr) (cap:Nat) (fs:List Fld) (left:Int) (w:World) (hkd:kd.size<=maxLen) (hw:zR w a fs) (h0:0<=left) (h1:left<=1048576) :
 Calls Tryz.prog 39 #[.agg #[.string kd,.slice a fs.length cap],.int .i64 left] w fun e w'=>e = .returned (.int .i64 (zL (Shp.sz ⟨kd,fs⟩) left))/\Below w.heap.size w w':=by
 unfold maxLen at hkd
 by_cases c1:(kd.size:Int)<=left
 rotate_left
 ·have HF:Hid (zL (Shp.sz ⟨kd,fs⟩) left=-1):=zD (by unfold Shp.sz;simp only;omega)
  go_enter Tryz.func39,Tryz.ntmps39
  go_wp2_with fail
  go_ret
  exact ⟨zm HF.out.symm,(Below.refl _ _).alloc (Nat.le_refl _) _⟩
 by_cases c2:(zau fs:Int)<=left - kd.size
 ·have HF:Hid (zL (Shp.sz ⟨kd,fs⟩) left=left - kd.size - zau fs):=by
   have e:zL (Shp.sz ⟨kd,fs⟩) left=left - Shp.sz ⟨kd,fs⟩:=zM (by unfold Shp.sz;simp only;omega)
   unfold Hid;rw [e];unfold Shp.sz;simp only;omega
  go_enter Tryz.func39,Tryz.ntmps39
  go_wp2_with fail
  refine (zfX _ _ _ _ _ (hw.mono ((Below.refl _ _).alloc (Nat.le_refl _) _)) (by omega) (by omega) (by omega)).mono ?_
  rintro e w1 ⟨rfl,hb1⟩
  go_wp2_with fail
  go_ret
  exact ⟨zm HF.out.symm,((Below.refl _ _).alloc (Nat.le_refl _) _).trans (hb1.mono (by simp))⟩
 ·have HF:Hid (zL (Shp.sz ⟨kd,fs⟩) left=-1):=zD (by unfold Shp.sz;simp only;omega)
  go_enter Tryz.func39,Tryz.ntmps39
  go_wp2_with fail
  refine (zhd _ _ _ _ _ (hw.mono ((Below.refl _ _).alloc (Nat.le_refl _) _)) (by omega) (by omega) (by omega)).mono ?_
  rintro e w1 ⟨rfl,hb1⟩
  go_wp2_with fail
  go_ret
  exact ⟨zm HF.out.symm,((Below.refl _ _).alloc (Nat.le_refl _) _).trans (hb1.mono (by simp))⟩
theorem zgZ (kd:ByteArray) (a:Option Addr) (cap:Nat) (fs:List Fld) (left:Int) (w:World) (hkd:kd.size<=maxLen) (hw:zR w a fs) (h0:0<=left) (h1:left<=1048576) (h:(Shp.sz ⟨kd,fs⟩:Int)<=left) :
 Calls Tryz.prog 39 #[.agg #[.string kd,.slice a fs.length cap],.int .i64 left] w fun e w'=>e = .returned (.int .i64 (left - Shp.sz ⟨kd,fs⟩))/\Below w.heap.size w w':=by
 refine (zdM kd a cap fs left w hkd hw h0 h1).mono ?_
 rintro e w' ⟨rfl,hb⟩
 exact ⟨zm (zM h),hb⟩
theorem zid (kd:ByteArray) (a:Option Addr) (cap:Nat) (fs:List Fld) (left:Int) (w:World) (hkd:kd.size<=maxLen) (hw:zR w a fs) (h0:0<=left) (h1:left<=1048576) (h:¬ (Shp.sz ⟨kd,fs⟩:Int)<=left) :
 Calls Tryz.prog 39 #[.agg #[.string kd,.slice a fs.length cap],.int .i64 left] w fun e w'=>e = .returned (.int .i64 (-1))/\Below w.heap.size w w':=by
 refine (zdM kd a cap fs left w hkd hw h0 h1).mono ?_
 rintro e w' ⟨rfl,hb⟩
 exact ⟨zm (zD h),hb⟩
theorem zf5 (a:Option Addr) (cap:Nat) (ss:List Shp) (left:Int) (w:World) (hw:yL w a ss) (h0:0<=left) (h1:left<=1048576) :
 Calls Tryz.prog 14 #[.slice a ss.length cap,.int .i64 left] w fun e w'=>e = .returned (.int .i64 (zL (zaA ss) left))/\Below w.heap.size w w':=by
 have hl:=hw.len
 unfold maxLen at hl
 by_cases hfit:(ss.length:Int)<=left
 ·go_enter Tryz.func14,Tryz.ntmps14
  go_wp2_with fail
  go_loopw [1,5] (fun l i wr=>∃ k:Nat,k<=ss.length/\i = .int .i64 k/\0<=left - ss.length - zfn (ss.take k)/\l = .int .i64 (left - ss.length - zfn (ss.take k))/\Below w.heap.size w wr) (fun _ i _=>ss.length - (intOf i).toNat)
  case atStart=>exact ⟨0,Nat.zero_le _,rfl,by simp [zfn];omega,by simp [zfn],Below.refl _ _⟩
  case round =>
   obtain ⟨k,hk,rfl,hpos,rfl,hB⟩:=hrel
   by_cases hlt:k < ss.length
   ·obtain ⟨b,off,rfl,hb,hr⟩:=hw.rows (by rintro rfl;simp at hlt)
    obtain ⟨fa,fcap,hs0⟩:=hr k hlt
    have hs:=hs0.mono hb hB
    have hck:=hs.kind
    have hcl:=hs.list
    have hfl:=hs.flds
    have hsm:=hs.small
    have HS:Hid (zfn (ss.take (k+1))=zfn (ss.take k)+Shp.sz ⟨ss[k].kd,ss[k].fs⟩):=zaS Shp.sz ss k hlt
    have hle:zfn (ss.take (k+1))<=zfn ss:=zcm Shp.sz ss (k+1)
    clear hw hr hs0 hs
    by_cases hneg:(Shp.sz ⟨ss[k].kd,ss[k].fs⟩:Int)<=left - ss.length - zfn (ss.take k)
    ·have HNG:Hid ((Shp.sz ⟨ss[k].kd,ss[k].fs⟩:Int)<=left - ss.length - zfn (ss.take k)):=hneg
     clear hle
     go_wp2_with fail
     refine (zgZ _ _ _ _ _ _ hsm hfl hpos (by omega) HNG.out).mono ?_
     rintro e w1 ⟨rfl,hb1⟩
     have hB1:=hB.trans (hb1.mono hB.size)
     clear hb1
     go_wp2_with fail
     exact ⟨⟨k+1,by omega,by go_num,by rw [HS.out];omega,by rw [HS.out];congr 1;omega,hB1⟩,by simp [intOf];omega⟩
    ·have HF:Hid (zL (zaA ss) left=-1):=zD (by have:=HS.out;unfold zaA;omega)
     have HNG:Hid (¬ (Shp.sz ⟨ss[k].kd,ss[k].fs⟩:Int)<=left - ss.length - zfn (ss.take k)):=hneg
     clear hneg hle
     go_wp2_with fail
     refine (zid _ _ _ _ _ _ hsm hfl hpos (by omega) (by have:=HNG.out;omega)).mono ?_
     rintro e w1 ⟨rfl,hb1⟩
     have hB1:=hB.trans (hb1.mono hB.size)
     clear hb1
     go_wp2_with fail
     go_ret
     exact ⟨zm HF.out.symm,hB1⟩
   ·have HF:Hid (zL (zaA ss) left=left - ss.length - zfn (ss.take k)):=by
     rw [List.take_of_length_le (by omega)] at hpos ⊢
     have e:zL (zaA ss) left=left - zaA ss:=zM (by unfold zaA;omega)
     unfold Hid;rw [e];unfold zaA;omega
    clear hw
    go_wp2
    go_ret
    exact ⟨zm HF.out.symm,hB⟩
 ·have HF:Hid (zL (zaA ss) left=-1):=zD (by unfold zaA;omega)
  clear hw
  go_enter Tryz.func14,Tryz.ntmps14
  go_wp2
  go_ret
  exact ⟨zm HF.out.symm,Below.refl _ _⟩
theorem zi {w:World} {b o:Nat} {C:Array Value} {t:TypeId} (h:w.heap[b]?=some (.cells C t)) (v:Value):(w.setCell ⟨b,o,none⟩ v).heap[b]?=some (.cells (C.setIfInBounds o v) t):=by
 simp [World.setCell,Array.getElem?_modify,h]
theorem cell_of_block {w:World} {b o:Nat} {C:Array Value} {t:TypeId} (h:w.heap[b]?=some (.cells C t)):w.cell? ⟨b,o,none⟩=C[o]?:=by simp [World.cell?,h]
theorem zn {w:World} {b o:Nat} {C:Array Value} {t:TypeId} (h:w.heap[b]?=some (.cells C t)):w.frozen? ⟨b,o,none⟩=false:=by simp [World.frozen?,h]
def zlN (w:World) (b o:Nat) (v0 v1 v2 v3 v4 v5 v6 v7 v8 v9 v10:Value):World:=((((((((((w.setCell ⟨b,o,none⟩ v0).setCell ⟨b,o+1,none⟩ v1).setCell ⟨b,o+2,none⟩ v2).setCell ⟨b,o+3,none⟩ v3).setCell ⟨b,o+4,none⟩ v4).setCell ⟨b,o+5,none⟩ v5).setCell ⟨b,o+6,none⟩ v6).setCell ⟨b,o+7,none⟩ v7).setCell ⟨b,o+8,none⟩ v8).setCell ⟨b,o+9,none⟩ v9).setCell ⟨b,o+10,none⟩ v10
def ziR (C:Array Value) (o:Nat) (v0 v1 v2 v3 v4 v5 v6 v7 v8 v9 v10:Value):Array Value:=((((((((((C.setIfInBounds o v0).setIfInBounds (o+1) v1).setIfInBounds (o+2) v2).setIfInBounds (o+3) v3).setIfInBounds (o+4) v4).setIfInBounds (o+5) v5).setIfInBounds (o+6) v6).setIfInBounds (o+7) v7).setIfInBounds (o+8) v8).setIfInBounds (o+9) v9).setIfInBounds (o+10) v10
theorem zlQ {w:World} {b o:Nat} {C:Array Value} {t:TypeId} (h:w.heap[b]?=some (.cells C t)) (v0 v1 v2 v3 v4 v5 v6 v7 v8 v9 v10:Value):(zlN w b o v0 v1 v2 v3 v4 v5 v6 v7 v8 v9 v10).heap[b]?=some (.cells (ziR C o v0 v1 v2 v3 v4 v5 v6 v7 v8 v9 v10) t) :=
 zi (zi (zi (zi (zi (zi (zi (zi (zi (zi (zi h v0) v1) v2) v3) v4) v5) v6) v7) v8) v9) v10
theorem zln {B:Nat} {a w:World} (h:Below B a w) {b:Nat} (hb:B<=b) (o:Nat) (v0 v1 v2 v3 v4 v5 v6 v7 v8 v9 v10:Value):Below B a (zlN w b o v0 v1 v2 v3 v4 v5 v6 v7 v8 v9 v10) :=
 ((((((((((h.setCell hb v0).setCell hb v1).setCell hb v2).setCell hb v3).setCell hb v4).setCell hb v5).setCell hb v6).setCell hb v7).setCell hb v8).setCell hb v9).setCell hb v10
theorem zgN (w:World) (b o b':Nat) (hb:b' ≠ b) (v0 v1 v2 v3 v4 v5 v6 v7 v8 v9 v10:Value):(zlN w b o v0 v1 v2 v3 v4 v5 v6 v7 v8 v9 v10).heap[b']?=w.heap[b']?:=by
 unfold zlN
 iterate 11 rw [Below.heap_setCell _ _ _ _ hb]
theorem zmd (C:Array Value) (o:Nat) (v0 v1 v2 v3 v4 v5 v6 v7 v8 v9 v10:Value):(ziR C o v0 v1 v2 v3 v4 v5 v6 v7 v8 v9 v10).size=C.size:=by simp [ziR]
theorem zni (C:Array Value) (o i:Nat) (v0 v1 v2 v3 v4 v5 v6 v7 v8 v9 v10:Value) (h:i < o \/ o+11<=i):(ziR C o v0 v1 v2 v3 v4 v5 v6 v7 v8 v9 v10)[i]?=C[i]?:=by
 unfold ziR
 iterate 11 rw [Array.getElem?_setIfInBounds,if_neg (by omega)]
theorem zn8 (C:Array Value) (o j:Nat) (v0 v1 v2 v3 v4 v5 v6 v7 v8 v9 v10:Value) (hj:j < 11) (ho:o+11<=C.size):(ziR C o v0 v1 v2 v3 v4 v5 v6 v7 v8 v9 v10)[o+j]?=(#[v0,v1,v2,v3,v4,v5,v6,v7,v8,v9,v10]:Array Value)[j]?:=by
 have hc:j=0 \/ j=1 \/ j=2 \/ j=3 \/ j=4 \/ j=5 \/ j=6 \/ j=7 \/ j=8 \/ j=9 \/ j=10:=by omega
 unfold ziR
 rcases hc with h | h | h | h | h | h | h | h | h | h | h <;> subst h <;> simp [Array.getElem?_setIfInBounds] <;> omega
theorem zcS (a:Option Addr) (cap:Nat) (ws:List ByteArray) (w:World) (hw:zF w a ws) (hl:ws.length<=1048576) :
 Calls Tryz.prog 96 #[.slice a ws.length cap] w fun e w'=>e = .returned (.slice (some ⟨w.heap.size,0,none⟩) ws.length ws.length)/\w'=w.alloc (.cells (zad ws) 9):=by
 have hmk:∀ w:World,(Instr.makeSlice 91 (.int .i64 ws.length) (.int .i64 ws.length)).run Tryz.prog w = .ok (.slice (some ⟨w.heap.size,0,none⟩) ws.length ws.length) (w.alloc (.cells (strCells ws 0) 9)):=by
  intro w
  have h:=run_make_row' (P:=Tryz.prog) 91 9 (.string ByteArray.empty) 16 Tryz.underlying91 (by kernel_rfl) rfl .i64 .i64 ws.length (by omega) (by omega) w
  rw [zi9] at h
  exact h
 go_enter Tryz.func96,Tryz.ntmps96
 go_wp2
 clear hmk
 go_loopw [4] (fun i wr=>∃ k:Nat,k<=ws.length/\i = .int .i64 k/\wr=w.alloc (.cells (strCells ws k) 9)) (fun i _=>ws.length - (intOf i).toNat)
 case atStart=>exact ⟨0,Nat.zero_le _,rfl,rfl⟩
 case round =>
  obtain ⟨k,hk,rfl,rfl⟩:=hrel
  by_cases hlt:k < ws.length
  ·obtain ⟨b,off,rfl,hb,hc⟩:=hw.cells (by rintro rfl;simp at hlt)
   clear hw
   have hck:=hc k hlt
   have hold:=zk5 ws k hlt
   have HS:Hid ((strCells ws k).setIfInBounds k (.string ws[k])=strCells ws (k+1)):=zkk ws k hlt
   clear hc
   go_wp2
   go_roundw
   case rel=>exact ⟨k+1,by omega,by go_num,by rw [HS.out]⟩
   case measure=>simp [intOf];omega
  ·have HA:Hid (strCells ws k=zad ws):=zj2 ws k (by omega)
   clear hw
   go_wp2
   go_ret
   exact ⟨rfl,by rw [HA.out]⟩
theorem zmR (w:World) (o1 o2 o3 o4:Obj):Below w.heap.size w ((((w.alloc o1).alloc o2).alloc o3).alloc o4) :=
 ((((Below.refl _ _).alloc (Nat.le_refl _) _).alloc (by simp) _).alloc (by simp;omega) _).alloc (by simp;omega) _
theorem at4 (w:World) (o1 o2 o3 o4:Obj):((((w.alloc o1).alloc o2).alloc o3).alloc o4).heap[w.heap.size+1+1+1]?=some o4:=by
 have h:=MapKept.heap_alloc (((w.alloc o1).alloc o2).alloc o3) o4
 simpa using h.1
theorem zhc (nm:ByteArray) (kd ls ms:Int) (a:Option Addr) (cap:Nat) (ws:List ByteArray) (to:ByteArray) (rl:Int) (mu fx:Bool) (df wg:ByteArray) (w:World) (hw:zF w a ws) (hl:ws.length<=1048576) :
 Calls Tryz.prog 127 #[.agg #[.string nm,.int .i64 kd,.int .i64 ls,.int .i64 ms,.slice a ws.length cap,.string to,.int .i64 rl,.bool mu,.bool fx,.string df,.string wg]] w
  fun e w'=>∃ bk,e = .returned (.agg #[.string nm,.int .i64 kd,.int .i64 ls,.int .i64 ms,.slice (some ⟨bk,0,none⟩) ws.length ws.length,.string to,.int .i64 rl,.bool mu,.bool fx,.string df,.string wg]) /\
   w.heap.size<=bk/\bk < w'.heap.size/\w'.heap[bk]?=some (.cells (zad ws) 9)/\Below w.heap.size w w':=by
 go_enter Tryz.func127,Tryz.ntmps127
 go_wp2_with (go_at_call 96;refine (zcS _ _ _ _ (by exact hw.mono ((((Below.refl _ _).alloc (Nat.le_refl _) _).alloc (by simp) _).alloc (by simp;omega) _)) hl).mono ?_;rintro e w' ⟨rfl,rfl⟩)
 refine bodyPost_ret (v:=.agg #[.string nm,.int .i64 kd,.int .i64 ls,.int .i64 ms,.slice (some ⟨w.heap.size+1+1+1,0,none⟩) ws.length ws.length,.string to,.int .i64 rl,.bool mu,.bool fx,.string df,.string wg]) (by simp [results,Tryz.results127,go_sem]) rfl ⟨w.heap.size+1+1+1,rfl,by omega,by simp,at4 _ _ _ _ _,zmR _ _ _ _ _⟩
structure qV (lo:Nat) (w:World) (bo:Nat) (fs:List Fld) (k:Nat):Prop where
 low:lo<=bo
 rows:∃ C,w.heap[bo]?=some (.cells C 158)/\C.size=fs.length * 11 /\
  ∀ i (h:i < fs.length),i < k->∃ bk,lo<=bk/\bk ≠ bo/\w.heap[bk]?=some (.cells (zad fs[i].ws) 9)/\∀ j,j < 11->C[i * 11+j]?=(fs[i].cells (some ⟨bk,0,none⟩) fs[i].ws.length)[j]?
structure zbw (fs:List Fld):Prop where
 small:∀ i (h:i < fs.length),fs[i].Small/\fs[i].ws.length<=maxLen/\∀ s ∈ fs[i].ws,s.size<=maxLen
theorem zR.smalls {w:World} {a:Option Addr} {fs:List Fld} (h:zR w a fs):zbw fs :=
 ⟨fun i hi=>by
  obtain ⟨b,off,_,_,hr⟩:=h.rows (by rintro rfl;simp at hi)
  obtain ⟨wa,wcap,hf⟩:=hr i hi
  exact ⟨hf.small,hf.strs.len,hf.strs.small⟩⟩
theorem qV.at {lo:Nat} {w:World} {bo:Nat} {fs:List Fld} (h:qV lo w bo fs fs.length) (hs:zbw fs) (hl:fs.length<=maxLen):zR w (some ⟨bo,0,none⟩) fs:=by
 obtain ⟨C,hC,hsz,hr⟩:=h.rows
 refine ⟨hl,fun _=>⟨bo,0,rfl,(Array.getElem?_eq_some_iff.1 hC).1,fun i hi=>?_⟩⟩
 obtain ⟨bk,_,_,hk,hc⟩:=hr i hi hi
 obtain ⟨s1,s2,s3⟩:=hs.small i hi
 refine ⟨some ⟨bk,0,none⟩,fs[i].ws.length,s1,zde hk s2 s3,fun j hj=>?_⟩
 rw [cell_of_block hC,Nat.zero_add]
 exact hc j hj
theorem qV.later {lo:Nat} {w w':World} {bo:Nat} {fs:List Fld} {k:Nat} (h:qV lo w bo fs k) (hb:Below w.heap.size w w'):qV lo w' bo fs k:=by
 obtain ⟨C,hC,hsz,hr⟩:=h.rows
 refine ⟨h.low,C,(hb.block bo (Array.getElem?_eq_some_iff.1 hC).1).trans hC,hsz,fun i hi hk=>?_⟩
 obtain ⟨bk,h1,h2,h3,h4⟩:=hr i hi hk
 exact ⟨bk,h1,h2,(hb.block bk (Array.getElem?_eq_some_iff.1 h3).1).trans h3,h4⟩
theorem qV.put {lo:Nat} {w:World} {bo:Nat} {fs:List Fld} {k:Nat} (h:qV lo w bo fs k) (hk:k < fs.length) (bk:Nat) (h1:lo<=bk) (h2:bk ≠ bo) (h3:w.heap[bk]?=some (.cells (zad fs[k].ws) 9)) :
 qV lo (zlN w bo (k * 11) (.string fs[k].nm) (.int .i64 fs[k].kd) (.int .i64 fs[k].ls) (.int .i64 fs[k].ms) (.slice (some ⟨bk,0,none⟩) fs[k].ws.length fs[k].ws.length) (.string fs[k].to) (.int .i64 fs[k].rl) (.bool fs[k].mu) (.bool fs[k].fx) (.string fs[k].df) (.string fs[k].wg)) bo fs (k+1):=by
 obtain ⟨C,hC,hsz,hr⟩:=h.rows
 refine ⟨h.low,_,zlQ hC _ _ _ _ _ _ _ _ _ _ _,by rw [zmd];exact hsz,fun i hi hik=>?_⟩
 rcases Nat.lt_or_ge i k with hlt | hge
 ·obtain ⟨bi,g1,g2,g3,g4⟩:=hr i hi hlt
  refine ⟨bi,g1,g2,by rw [zgN _ _ _ _ g2];exact g3,fun j hj=>?_⟩
  rw [zni _ _ _ _ _ _ _ _ _ _ _ _ _ _ (by omega)]
  exact g4 j hj
 ·have e:i=k:=by omega
  subst e
  refine ⟨bk,h1,h2,by rw [zgN _ _ _ _ h2];exact h3,fun j hj=>?_⟩
  rw [zn8 _ _ _ _ _ _ _ _ _ _ _ _ _ _ hj (by omega)]
  rfl
def znc:Array Value:=#[.string ByteArray.empty,.int .i64 0,.int .i64 0,.int .i64 0,.slice none 0 0,.string ByteArray.empty,.int .i64 0,.bool false,.bool false,.string ByteArray.empty,.string ByteArray.empty]
def zkU (n:Nat):Array Value:=madeCells znc (n * 11)
theorem zgf (a:Option Addr) (cap:Nat) (fs:List Fld) (w:World) (hw:zR w a fs) (hl:fs.length<=1048576) (hls:∀ i (h:i < fs.length),fs[i].ws.length<=1048576) :
 Calls Tryz.prog 95 #[.slice a fs.length cap] w fun e w'=>e = .returned (.slice (some ⟨w.heap.size,0,none⟩) fs.length fs.length)/\qV w.heap.size w' w.heap.size fs fs.length/\Below w.heap.size w w':=by
 have hmk:∀ w:World,(Instr.makeSlice 113 (.int .i64 fs.length) (.int .i64 fs.length)).run Tryz.prog w = .ok (.slice (some ⟨w.heap.size,0,none⟩) fs.length fs.length) (w.alloc (.cells (zkU fs.length) 158)) :=
  fun w=>jF (P:=Tryz.prog) 113 158 (.agg znc) 11 128 Tryz.underlying113 (by kernel_rfl) fs.length (by omega) (by omega) w
 go_enter Tryz.func95,Tryz.ntmps95
 go_wp2_with fail
 clear hmk
 go_loopw [4] (fun i wr=>∃ k:Nat,k<=fs.length/\i = .int .i64 k/\qV w.heap.size wr w.heap.size fs k/\Below w.heap.size w wr) (fun i _=>fs.length - (intOf i).toNat)
 case atStart=>exact ⟨0,Nat.zero_le _,rfl,⟨Nat.le_refl _,zkU fs.length,(MapKept.heap_alloc w _).1,size_madeCells _ _,fun i _ h=>absurd h (by omega)⟩,(Below.refl _ _).alloc (Nat.le_refl _) _⟩
 case round =>
  obtain ⟨k,hk,rfl,hown,hB⟩:=hrel
  by_cases hlt:k < fs.length
  ·obtain ⟨b,off,rfl,hb,hr⟩:=hw.rows (by rintro rfl;simp at hlt)
   obtain ⟨wa,wcap,hf0⟩:=hr k hlt
   have hf:=hf0.mono hb hB
   obtain ⟨c0,c1,c2,c3,c4,c5,c6,c7,c8,c9,c10⟩:=hf.load
   have hst:=hf.strs
   have HLS:Hid (fs[k].ws.length<=1048576):=hls k hlt
   have hltI:(k:Int) < (fs.length:Int):=by omega
   clear hw hr hf0 hf
   go_wp2_with fail
   refine (zhc _ _ _ _ _ _ _ _ _ _ _ _ _ _ hst HLS.out).mono ?_
   rintro e w1 ⟨bk,rfl,hlo,hhi,hbk,hb1⟩
   have hB1:=hB.trans (hb1.mono hB.size)
   have hown1:=hown.later hb1
   obtain ⟨C,hC,hsz,_⟩:=hown1.rows
   have hfz:∀ o,w1.frozen? ⟨w.heap.size,o,none⟩=false:=fun o=>zn hC
   have hex:∀ o,o < fs.length * 11->∃ v,w1.cell? ⟨w.heap.size,o,none⟩=some v:=fun o ho=>⟨C[o]'(by omega),by rw [cell_of_block hC];exact Array.getElem?_eq_getElem (by omega)⟩
   obtain ⟨v0,hv0⟩:=hex (k * 11) (by omega)
   obtain ⟨v1,hv1⟩:=hex (k * 11+1) (by omega)
   obtain ⟨v2,hv2⟩:=hex (k * 11+2) (by omega)
   obtain ⟨v3,hv3⟩:=hex (k * 11+3) (by omega)
   obtain ⟨v4,hv4⟩:=hex (k * 11+4) (by omega)
   obtain ⟨v5,hv5⟩:=hex (k * 11+5) (by omega)
   obtain ⟨v6,hv6⟩:=hex (k * 11+6) (by omega)
   obtain ⟨v7,hv7⟩:=hex (k * 11+7) (by omega)
   obtain ⟨v8,hv8⟩:=hex (k * 11+8) (by omega)
   obtain ⟨v9,hv9⟩:=hex (k * 11+9) (by omega)
   obtain ⟨v10,hv10⟩:=hex (k * 11+10) (by omega)
   clear hex hC hsz c0 c1 c2 c3 c4 c5 c6 c7 c8 c9 c10
   have hbo:w.heap.size < wr.heap.size:=by
    obtain ⟨C',hC',_⟩:=hown.rows
    exact (Array.getElem?_eq_some_iff.1 hC').1
   go_wp2_with fail
   exact ⟨⟨k+1,by omega,by go_num,hown1.put hlt bk (by omega) (by omega) hbk,zln hB1 (Nat.le_refl _) _ _ _ _ _ _ _ _ _ _ _ _⟩,by simp [intOf];omega⟩
  ·have HF:Hid (qV w.heap.size wr w.heap.size fs fs.length):=by
    have e:k=fs.length:=by omega
    subst e;exact hown
   clear hw hown
   go_wp2_with fail
   go_ret
   exact ⟨rfl,HF.out,hB⟩
structure jX (lo:Nat) (w:World) (bo:Nat) (ss:List Shp) (k:Nat):Prop where
 low:lo<=bo
 rows:∃ C,w.heap[bo]?=some (.cells C 115)/\C.size=ss.length * 2 /\
  ∀ i (h:i < ss.length),i < k->∃ bf,lo<=bf/\bo < bf/\qV (bo+1) w bf ss[i].fs ss[i].fs.length/\C[i * 2]?=some (.string ss[i].kd)/\C[i * 2+1]?=some (.slice (some ⟨bf,0,none⟩) ss[i].fs.length ss[i].fs.length)
structure zcW (ss:List Shp):Prop where
 small:∀ i (h:i < ss.length),ss[i].kd.size<=maxLen/\ss[i].fs.length<=maxLen/\zbw ss[i].fs
theorem yL.smalls {w:World} {a:Option Addr} {ss:List Shp} (h:yL w a ss):zcW ss :=
 ⟨fun i hi=>by
  obtain ⟨b,off,_,_,hr⟩:=h.rows (by rintro rfl;simp at hi)
  obtain ⟨fa,fcap,hs⟩:=hr i hi
  exact ⟨hs.small,hs.flds.len,hs.flds.smalls⟩⟩
theorem jX.at {lo:Nat} {w:World} {bo:Nat} {ss:List Shp} (h:jX lo w bo ss ss.length) (hs:zcW ss) (hl:ss.length<=maxLen):yL w (some ⟨bo,0,none⟩) ss:=by
 obtain ⟨C,hC,hsz,hr⟩:=h.rows
 refine ⟨hl,fun _=>⟨bo,0,rfl,(Array.getElem?_eq_some_iff.1 hC).1,fun i hi=>?_⟩⟩
 obtain ⟨bf,_,_,hf,h1,h2⟩:=hr i hi hi
 obtain ⟨s1,s2,s3⟩:=hs.small i hi
 refine ⟨some ⟨bf,0,none⟩,ss[i].fs.length,s1,hf.at s3 s2,?_,?_⟩
 ·rw [cell_of_block hC,Nat.zero_add];exact h1
 ·rw [cell_of_block hC,Nat.zero_add];exact h2
theorem jX.later {lo:Nat} {w w':World} {bo:Nat} {ss:List Shp} {k:Nat} (h:jX lo w bo ss k) (hb:Below w.heap.size w w'):jX lo w' bo ss k:=by
 obtain ⟨C,hC,hsz,hr⟩:=h.rows
 refine ⟨h.low,C,(hb.block bo (Array.getElem?_eq_some_iff.1 hC).1).trans hC,hsz,fun i hi hk=>?_⟩
 obtain ⟨bf,h1,h2,h3,h4⟩:=hr i hi hk
 exact ⟨bf,h1,h2,h3.later hb,h4⟩
theorem qV.setCell {lo:Nat} {w:World} {bf:Nat} {fs:List Fld} {k:Nat} (h:qV lo w bf fs k) {p:Addr} (hp:p.block < lo) (v:Value):qV lo (w.setCell p v) bf fs k:=by
 obtain ⟨C,hC,hsz,hr⟩:=h.rows
 have hl:=h.low
 refine ⟨h.low,C,by rw [Below.heap_setCell _ _ _ _ (by omega)];exact hC,hsz,fun i hi hk=>?_⟩
 obtain ⟨bk,h1,h2,h3,h4⟩:=hr i hi hk
 exact ⟨bk,h1,h2,by rw [Below.heap_setCell _ _ _ _ (by omega)];exact h3,h4⟩
theorem qV.weaken {lo lo':Nat} {w:World} {bf:Nat} {fs:List Fld} {k:Nat} (h:qV lo w bf fs k) (hl:lo'<=lo):qV lo' w bf fs k:=by
 obtain ⟨C,hC,hsz,hr⟩:=h.rows
 refine ⟨Nat.le_trans hl h.low,C,hC,hsz,fun i hi hk=>?_⟩
 obtain ⟨bk,h1,h2⟩:=hr i hi hk
 exact ⟨bk,Nat.le_trans hl h1,h2⟩
theorem jX.put {lo:Nat} {w:World} {bo:Nat} {ss:List Shp} {k:Nat} (h:jX lo w bo ss k) (hk:k < ss.length) (bf:Nat) (h1:bo < bf) (h3:qV (bo+1) w bf ss[k].fs ss[k].fs.length) :
 jX lo ((w.setCell ⟨bo,k * 2,none⟩ (.string ss[k].kd)).setCell ⟨bo,k * 2+1,none⟩ (.slice (some ⟨bf,0,none⟩) ss[k].fs.length ss[k].fs.length)) bo ss (k+1):=by
 obtain ⟨C,hC,hsz,hr⟩:=h.rows
 have hl:=h.low
 refine ⟨h.low,_,zi (zi hC _) _,by simp [hsz],fun i hi hik=>?_⟩
 rcases Nat.lt_or_ge i k with hlt | hge
 ·obtain ⟨bi,g1,g2,g3,g4,g5⟩:=hr i hi hlt
  refine ⟨bi,g1,g2,(g3.setCell (by simp) _).setCell (by simp) _,?_,?_⟩
  ·rw [Array.getElem?_setIfInBounds,if_neg (by omega),Array.getElem?_setIfInBounds,if_neg (by omega)];exact g4
  ·rw [Array.getElem?_setIfInBounds,if_neg (by omega),Array.getElem?_setIfInBounds,if_neg (by omega)];exact g5
 ·have e:i=k:=by omega
  subst e
  refine ⟨bf,by omega,h1,(h3.setCell (by simp) _).setCell (by simp) _,?_,?_⟩
  ·rw [Array.getElem?_setIfInBounds,if_neg (by omega),Array.getElem?_setIfInBounds,if_pos rfl,if_pos (by omega)]
  ·rw [Array.getElem?_setIfInBounds,if_pos rfl,if_pos (by simp;omega)]
theorem zg8 (kd:ByteArray) (a:Option Addr) (cap:Nat) (fs:List Fld) (w:World) (hw:zR w a fs) (hl:fs.length<=1048576) (hls:∀ i (h:i < fs.length),fs[i].ws.length<=1048576) :
 Calls Tryz.prog 53 #[.agg #[.string kd,.slice a fs.length cap]] w fun e w'=>∃ bf,e = .returned (.agg #[.string kd,.slice (some ⟨bf,0,none⟩) fs.length fs.length])/\qV w.heap.size w' bf fs fs.length/\Below w.heap.size w w':=by
 go_enter Tryz.func53,Tryz.ntmps53
 go_wp2_with fail
 refine (zgf _ _ _ _ (hw.mono ((((Below.refl _ _).alloc (Nat.le_refl _) _).alloc (by simp) _).alloc (by simp;omega) _)) hl hls).mono ?_
 rintro e w1 ⟨rfl,hown,hb1⟩
 have qr0:w1.cell? ⟨w.heap.size+1,0,none⟩=some (.string { data:=#[] }):=(hb1.cell (p:=⟨w.heap.size+1,0,none⟩) (by simp)).trans (by simp [World.cell?_alloc_at,World.cell?_alloc_past])
 have fr0:w1.frozen? ⟨w.heap.size+1,0,none⟩=false:=(hb1.frozen (p:=⟨w.heap.size+1,0,none⟩) (by simp)).trans (by simp [World.frozen?_alloc_at,World.frozen?_alloc_past])
 have qr1:w1.cell? ⟨w.heap.size+1,1,none⟩=some (.slice none 0 0):=(hb1.cell (p:=⟨w.heap.size+1,1,none⟩) (by simp)).trans (by simp [World.cell?_alloc_at,World.cell?_alloc_past])
 have fr1:w1.frozen? ⟨w.heap.size+1,1,none⟩=false:=(hb1.frozen (p:=⟨w.heap.size+1,1,none⟩) (by simp)).trans (by simp [World.frozen?_alloc_at,World.frozen?_alloc_past])
 have qo0:w1.cell? ⟨w.heap.size+1+1,0,none⟩=some (.string kd):=(hb1.cell (p:=⟨w.heap.size+1+1,0,none⟩) (by simp)).trans (by simp [World.cell?_alloc_at])
 have fo0:w1.frozen? ⟨w.heap.size+1+1,0,none⟩=false:=(hb1.frozen (p:=⟨w.heap.size+1+1,0,none⟩) (by simp)).trans (by simp [World.frozen?_alloc_at])
 have qo1:w1.cell? ⟨w.heap.size+1+1,1,none⟩=some (.slice none 0 0):=(hb1.cell (p:=⟨w.heap.size+1+1,1,none⟩) (by simp)).trans (by simp [World.cell?_alloc_at])
 have fo1:w1.frozen? ⟨w.heap.size+1+1,1,none⟩=false:=(hb1.frozen (p:=⟨w.heap.size+1+1,1,none⟩) (by simp)).trans (by simp [World.frozen?_alloc_at])
 have hz1:w.heap.size+1+1 < w1.heap.size:=by have:=hb1.size;simp at this;omega
 go_wp2_with fail
 have hsz:(((w.alloc (.cells #[.string kd,.slice a fs.length cap] 83)).alloc (.cells #[.string { data:=#[] },.slice none 0 0] 115)).alloc (.cells #[.string kd,.slice none 0 0] 115)).heap.size=w.heap.size+1+1+1:=by simp
 have hB1:Below w.heap.size w w1:=((((Below.refl _ _).alloc (Nat.le_refl _) _).alloc (by simp) _).alloc (by simp;omega) _).trans (hb1.mono (by simp;omega))
 rw [hsz] at hown
 refine bodyPost_ret (v:=.agg #[.string kd,.slice (some ⟨w.heap.size+1+1+1,0,none⟩) fs.length fs.length]) (by simp [results,Tryz.results53,go_sem,qr0,qr1]) rfl ⟨w.heap.size+1+1+1,rfl,?_,?_⟩
 ·exact (((hown.setCell (by simp) _).setCell (by simp) _).setCell (by simp) _).weaken (by omega)
 ·exact ((hB1.setCell (by simp;omega) _).setCell (by simp) _).setCell (by simp) _
def znd:Array Value:=#[.string ByteArray.empty,.slice none 0 0]
def zlY (n:Nat):Array Value:=madeCells znd (n * 2)
theorem zf7 (a:Option Addr) (cap:Nat) (ss:List Shp) (w:World) (hw:yL w a ss) (hl:ss.length<=1048576) (hls:∀ i (h:i < ss.length),ss[i].fs.length<=1048576/\∀ j (h':j < ss[i].fs.length),ss[i].fs[j].ws.length<=1048576) :
 Calls Tryz.prog 23 #[.slice a ss.length cap] w fun e w'=>e = .returned (.slice (some ⟨w.heap.size,0,none⟩) ss.length ss.length)/\jX w.heap.size w' w.heap.size ss ss.length/\Below w.heap.size w w':=by
 have hmk:∀ w:World,(Instr.makeSlice 39 (.int .i64 ss.length) (.int .i64 ss.length)).run Tryz.prog w = .ok (.slice (some ⟨w.heap.size,0,none⟩) ss.length ss.length) (w.alloc (.cells (zlY ss.length) 115)) :=
  fun w=>jF (P:=Tryz.prog) 39 115 (.agg znd) 2 40 Tryz.underlying39 (by kernel_rfl) ss.length (by omega) (by omega) w
 go_enter Tryz.func23,Tryz.ntmps23
 go_wp2_with fail
 clear hmk
 go_loopw [4] (fun i wr=>∃ k:Nat,k<=ss.length/\i = .int .i64 k/\jX w.heap.size wr w.heap.size ss k/\Below w.heap.size w wr) (fun i _=>ss.length - (intOf i).toNat)
 case atStart=>exact ⟨0,Nat.zero_le _,rfl,⟨Nat.le_refl _,zlY ss.length,(MapKept.heap_alloc w _).1,size_madeCells _ _,fun i _ h=>absurd h (by omega)⟩,(Below.refl _ _).alloc (Nat.le_refl _) _⟩
 case round =>
  obtain ⟨k,hk,rfl,hown,hB⟩:=hrel
  by_cases hlt:k < ss.length
  ·obtain ⟨b,off,rfl,hb,hr⟩:=hw.rows (by rintro rfl;simp at hlt)
   obtain ⟨fa,fcap,hs0⟩:=hr k hlt
   have hs:=hs0.mono hb hB
   have hck:=hs.kind
   have hcl:=hs.list
   have hfl:=hs.flds
   have HLS:=hls k hlt
   have HLS':Hid (ss[k].fs.length<=1048576/\∀ j (h':j < ss[k].fs.length),ss[k].fs[j].ws.length<=1048576):=HLS
   have hltI:(k:Int) < (ss.length:Int):=by omega
   clear hw hr hs0 hs HLS
   go_wp2_with fail
   refine (zg8 _ _ _ _ _ hfl HLS'.out.1 HLS'.out.2).mono ?_
   rintro e w1 ⟨bf,rfl,hof,hb1⟩
   have hB1:=hB.trans (hb1.mono hB.size)
   have hown1:=hown.later hb1
   have hbo:w.heap.size < wr.heap.size:=by
    obtain ⟨C',hC',_⟩:=hown.rows
    exact (Array.getElem?_eq_some_iff.1 hC').1
   obtain ⟨C,hC,hsz,_⟩:=hown1.rows
   have hfz:∀ o,w1.frozen? ⟨w.heap.size,o,none⟩=false:=fun o=>zn hC
   have hex:∀ o,o < ss.length * 2->∃ v,w1.cell? ⟨w.heap.size,o,none⟩=some v:=fun o ho=>⟨C[o]'(by omega),by rw [cell_of_block hC];exact Array.getElem?_eq_getElem (by omega)⟩
   obtain ⟨v0,hv0⟩:=hex (k * 2) (by omega)
   obtain ⟨v1,hv1⟩:=hex (k * 2+1) (by omega)
   clear hex hC hsz hck hcl
   have hlow:=hof.low
   go_wp2_with fail
   exact ⟨⟨k+1,by omega,by go_num,hown1.put hlt bf (by omega) (hof.weaken (by omega)),(hB1.setCell (Nat.le_refl _) _).setCell (Nat.le_refl _) _⟩,by simp [intOf];omega⟩
  ·have HF:Hid (jX w.heap.size wr w.heap.size ss ss.length):=by
    have e:k=ss.length:=by omega
    subst e;exact hown
   clear hw hown
   go_wp2_with fail
   go_ret
   exact ⟨rfl,HF.out,hB⟩
end Go.Proofs.YtaickbhifenbjaaGreat
