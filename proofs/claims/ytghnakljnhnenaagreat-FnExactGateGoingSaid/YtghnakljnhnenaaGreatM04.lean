import Derived.Test.YtghnakljnhnenaaGreatM03
import Derived.Deep.RegionWith
import Derived.Deep.RegionHeld3
set_option maxHeartbeats 2000000
namespace Go.Proofs.YtghnakljnhnenaaGreat
open Go.RowKit
theorem zgR (a a':Option Addr) (cap cap':Nat) (fs:List Fld) (w:World) (hw:zP w a fs) (hw':zP w a' fs) :
 Calls Tryz.prog 120 #[.slice a fs.length cap,.slice a' fs.length cap'] w fun e w'=>e = .returned (.bool true)/\Below w.heap.size w w':=by
 have hl:=hw.len;unfold maxLen at hl;have hnn:((fs.length:Int) != fs.length)=false:=by simp
 go_enter Tryz.func120,Tryz.ntmps120;go_wp2_with fail
 go_loopw [5] (fun i wr=>∃ k:Nat,k<=fs.length/\i = .int .i64 k/\Below w.heap.size w wr) (fun i _=>fs.length - (intOf i).toNat)
 case atStart=>exact ⟨0,Nat.zero_le _,rfl,bRf _ _⟩
 case round =>
  obtain ⟨k,hk,rfl,hB⟩:=hrel
  by_cases hlt:k < fs.length
  ·obtain ⟨b,off,rfl,hb,hr⟩:=hw.rows (by rintro rfl;simp at hlt)
   obtain ⟨b',off',rfl,hb',hr'⟩:=hw'.rows (by rintro rfl;simp at hlt);obtain ⟨wa,wcap,hf0⟩:=hr k hlt;obtain ⟨wa',wcap',hf0'⟩:=hr' k hlt;have hf:=hf0.mono hb hB;have hf':=hf0'.mono hb' hB;obtain ⟨c0,c1,c2,c3,c4,c5,c6,c7,c8,c9,c10⟩:=hf.load;obtain ⟨d0,d1,d2,d3,d4,d5,d6,d7,d8,d9,d10⟩:=hf'.load;have hst:=hf.strs;have hst':=hf'.strs;have hltI:(k:Int) < (fs.length:Int):=by omega
   clear hw hw' hr hr' hf0 hf0' hf hf';go_wp2_with fail
   go_region_with (go_at_call 168;refine (zh4 _ _ _ _ _ _ _ _ _ _ _ _ _ _ _ _ (by exact hst.mono ((bRf _ _).drew)) (by exact hst'.mono ((bRf _ _).drew))).mono ?_;rintro e w1 ⟨rfl,hb1'⟩;have hb1:=(bRf wr.heap.size wr).drew.trans hb1';clear hb1')
   all_goals go_wp2_with fail
   all_goals exact ⟨⟨k+1,by omega,by go_num,hB.trans (hb1.mono hB.size)⟩,by simp [intOf];omega⟩
  ·clear hw hw'
   go_wp2_with fail
   go_ret;exact ⟨rfl,hB⟩
theorem zik (kd:ByteArray) (a a':Option Addr) (cap cap':Nat) (fs:List Fld) (w:World) (hw:zP w a fs) (hw':zP w a' fs) :
 Calls Tryz.prog 75 #[.agg #[.string kd,.slice a fs.length cap],.agg #[.string kd,.slice a' fs.length cap']] w fun e w'=>e = .returned (.bool true)/\Below w.heap.size w w':=by
 go_enter Tryz.func75,Tryz.ntmps75;go_wp2_with fail
 refine (zgR _ _ _ _ _ _ (hw.mono (zA _ _ _)) (hw'.mono (zA _ _ _))).mono ?_;rintro e w1 ⟨rfl,hb1⟩;go_wp2_with fail
 go_ret;exact ⟨rfl,(zA _ _ _).trans (hb1.mono (by simp;omega))⟩
theorem zgV (a a':Option Addr) (cap cap':Nat) (ss:List Shp) (w:World) (hw:yI w a ss) (hw':yI w a' ss) :
 Calls Tryz.prog 37 #[.slice a ss.length cap,.slice a' ss.length cap'] w fun e w'=>e = .returned (.bool true)/\Below w.heap.size w w':=by
 have hl:=hw.len;unfold maxLen at hl;have hnn:((ss.length:Int) != ss.length)=false:=by simp
 go_enter Tryz.func37,Tryz.ntmps37;go_wp2_with fail
 go_loopw [5] (fun i wr=>∃ k:Nat,k<=ss.length/\i = .int .i64 k/\Below w.heap.size w wr) (fun i _=>ss.length - (intOf i).toNat)
 case atStart=>exact ⟨0,Nat.zero_le _,rfl,bRf _ _⟩
 case round =>
  obtain ⟨k,hk,rfl,hB⟩:=hrel
  by_cases hlt:k < ss.length
  ·obtain ⟨b,off,rfl,hb,hr⟩:=hw.rows (by rintro rfl;simp at hlt)
   obtain ⟨b',off',rfl,hb',hr'⟩:=hw'.rows (by rintro rfl;simp at hlt);obtain ⟨wa,wcap,hf0⟩:=hr k hlt;obtain ⟨wa',wcap',hf0'⟩:=hr' k hlt;have hf:=hf0.mono hb hB;have hf':=hf0'.mono hb' hB;have c0:=hf.kind;have c1:=hf.list;have d0:=hf'.kind;have d1:=hf'.list;have hst:=hf.zdk;have hst':=hf'.zdk;have hltI:(k:Int) < (ss.length:Int):=by omega
   clear hw hw' hr hr' hf0 hf0' hf hf';go_wp2_with fail
   go_region_with (go_at_call 75;refine (zik _ _ _ _ _ _ _ (by exact hst.mono ((bRf _ _).drew)) (by exact hst'.mono ((bRf _ _).drew))).mono ?_;rintro e w1 ⟨rfl,hb1'⟩;have hb1:=(bRf wr.heap.size wr).drew.trans hb1';clear hb1')
   all_goals go_wp2_with fail
   all_goals exact ⟨⟨k+1,by omega,by go_num,hB.trans (hb1.mono hB.size)⟩,by simp [intOf];omega⟩
  ·clear hw hw'
   go_wp2_with fail
   go_ret;exact ⟨rfl,hB⟩
theorem zpB {ss:List Shp} (h:(zaT ss:Int)<=1048576):ss.length<=1048576/\∀ i (h:i < ss.length),ss[i].fs.length<=1048576/\∀ j (h':j < ss[i].fs.length),ss[i].fs[j].ws.length<=1048576:=by
 unfold zaT at h;refine ⟨by omega,fun i hi=>?_⟩;have h1:Shp.sz ss[i]<=zfM ss:=ziu Shp.sz ss i hi;unfold Shp.sz zaJ at h1;refine ⟨by omega,fun j hj=>?_⟩;have h2:Fld.sz ss[i].fs[j]<=zgF ss[i].fs:=ziu Fld.sz ss[i].fs j hj;unfold Fld.sz zam qW at h2;omega
structure Mnd where
 kd:ByteArray
 fd:ByteArray
 wh:ByteArray
 wi:ByteArray
 pt:ByteArray
 fr:ByteArray
def Mnd.cells (m:Mnd):Array Value:=#[.string m.kd,.string m.fd,.string m.wh,.string m.wi,.string m.pt,.string m.fr]
structure Mnd.Small (m:Mnd):Prop where
 kd:m.kd.size<=maxLen
 fd:m.fd.size<=maxLen
 wh:m.wh.size<=maxLen
 wi:m.wi.size<=maxLen
 pt:m.pt.size<=maxLen
 fr:m.fr.size<=maxLen
structure yY (w:World) (a:Option Addr) (ms:List Mnd):Prop where
 len:ms.length<=maxLen
 small:∀ i (h:i < ms.length),ms[i].Small
 rows:ms ≠ []->∃ b off,a=some ⟨b,off,none⟩/\b < w.heap.size/\∀ i (h:i < ms.length),∀ j,j < 6->w.cell? ⟨b,off+i * 6+j,none⟩=ms[i].cells[j]?
theorem yY.mono {w w':World} {a:Option Addr} {ms:List Mnd} (h:yY w a ms) (hl:Below w.heap.size w w'):yY w' a ms :=
 ⟨h.len,h.small,fun hne=>by
  obtain ⟨b,off,ha,hb,hr⟩:=h.rows hne;exact ⟨b,off,ha,nLt hb hl.size,fun i hi j hj=>(hl.cell (p:=⟨b,off+i * 6+j,none⟩) hb).trans (hr i hi j hj)⟩⟩
theorem yY.load {w w':World} {a:Option Addr} {ms:List Mnd} (h:yY w a ms) (hl:Below w.heap.size w w') (i:Nat) (hi:i < ms.length):∃ b off,a=some ⟨b,off,none⟩/\b < w.heap.size /\
 w'.cell? ⟨b,off+i * 6,none⟩=some (.string ms[i].kd)/\w'.cell? ⟨b,off+i * 6+1,none⟩=some (.string ms[i].fd)/\w'.cell? ⟨b,off+i * 6+2,none⟩=some (.string ms[i].wh)/\w'.cell? ⟨b,off+i * 6+3,none⟩=some (.string ms[i].wi)/\w'.cell? ⟨b,off+i * 6+4,none⟩=some (.string ms[i].pt)/\w'.cell? ⟨b,off+i * 6+5,none⟩=some (.string ms[i].fr):=by
 obtain ⟨b,off,ha,hb,hr⟩:=h.rows (by rintro rfl;simp at hi);have hc:∀ j,j < 6->w'.cell? ⟨b,off+i * 6+j,none⟩=ms[i].cells[j]?:=fun j hj=>(hl.cell (p:=⟨b,off+i * 6+j,none⟩) hb).trans (hr i hi j hj)
 exact ⟨b,off,ha,hb,hc 0 (by omega),hc 1 (by omega),hc 2 (by omega),hc 3 (by omega),hc 4 (by omega),hc 5 (by omega)⟩
def Mnd.sz (m:Mnd):Nat:=m.kd.size+m.fd.size+m.wh.size+m.wi.size+m.pt.size+m.fr.size
def zgM (ms:List Mnd):Nat:=(ms.map Mnd.sz).sum
def zbr (ms:List Mnd):Nat:=ms.length+zgM ms
theorem zeU (m:Mnd) (left:Int) (w:World) (hm:m.Small) (h0:0<=left) (h1:left<=1048576) :
 Calls Tryz.prog 52 #[.agg m.cells,.int .i64 left] w fun e w'=>e = .returned (.int .i64 (zL m.sz left))/\Below w.heap.size w w':=by
 have k1:=hm.kd;have k2:=hm.fd;have k3:=hm.wh;have k4:=hm.wi;have k5:=hm.pt;have k6:=hm.fr;unfold maxLen at k1 k2 k3 k4 k5 k6;unfold Mnd.cells;have hB:∀ ob,Below w.heap.size w (w.alloc ob):=fun ob=>bAl _ _
 by_cases hf:(m.sz:Int)<=left
 ·have HF:Hid (zL m.sz left=left - m.kd.size - m.fd.size - m.wh.size - m.wi.size - m.pt.size - m.fr.size):=by
   unfold Hid;rw [zN hf];unfold Mnd.sz;omega
  unfold Mnd.sz at hf;go_enter Tryz.func52,Tryz.ntmps52;go_wp2_with fail
  go_ret;exact ⟨zq HF.out.symm,hB _⟩
 ·have HF:Hid (zL m.sz left=-1):=zC hf
  have HN:Hid (¬ ((m.kd.size+m.fd.size+m.wh.size+m.wi.size+m.pt.size+m.fr.size:Nat):Int)<=left):=hf;clear hf;go_enter Tryz.func52,Tryz.ntmps52;go_wp2_with fail
  all_goals go_ret
  all_goals first | exact ⟨zq HF.out.symm,hB _⟩ | (exfalso;have:=HN.out;simp at *;omega)
theorem zjF (m:Mnd) (left:Int) (w:World) (hm:m.Small) (h0:0<=left) (h1:left<=1048576) (h:(m.sz:Int)<=left) :
 Calls Tryz.prog 52 #[.agg m.cells,.int .i64 left] w fun e w'=>e = .returned (.int .i64 (left - m.sz))/\Below w.heap.size w w':=by
 refine (zeU m left w hm h0 h1).mono ?_;rintro e w' ⟨rfl,hb⟩;exact ⟨zq (zN h),hb⟩
theorem zj0 (m:Mnd) (left:Int) (w:World) (hm:m.Small) (h0:0<=left) (h1:left<=1048576) (h:¬ (m.sz:Int)<=left) :
 Calls Tryz.prog 52 #[.agg m.cells,.int .i64 left] w fun e w'=>e = .returned (.int .i64 (-1))/\Below w.heap.size w w':=by
 refine (zeU m left w hm h0 h1).mono ?_;rintro e w' ⟨rfl,hb⟩;exact ⟨zq (zC h),hb⟩
theorem zhR (a:Option Addr) (cap:Nat) (ms:List Mnd) (left:Int) (w:World) (hw:yY w a ms) (h0:0<=left) (h1:left<=1048576) :
 Calls Tryz.prog 18 #[.slice a ms.length cap,.int .i64 left] w fun e w'=>e = .returned (.int .i64 (zL (zbr ms) left))/\Below w.heap.size w w':=by
 have hl:=hw.len;unfold maxLen at hl
 by_cases hfit:(ms.length:Int)<=left
 ·go_enter Tryz.func18,Tryz.ntmps18
  go_wp2_with fail
  go_loopw [1,5] (fun l i wr=>∃ k:Nat,k<=ms.length/\i = .int .i64 k/\0<=left - ms.length - zgM (ms.take k)/\l = .int .i64 (left - ms.length - zgM (ms.take k))/\Below w.heap.size w wr) (fun _ i _=>ms.length - (intOf i).toNat)
  case atStart=>exact ⟨0,Nat.zero_le _,rfl,by simp [zgM];omega,by simp [zgM],bRf _ _⟩
  case round =>
   obtain ⟨k,hk,rfl,hpos,rfl,hB⟩:=hrel
   by_cases hlt:k < ms.length
   ·obtain ⟨b,off,rfl,hb,c0,c1,c2,c3,c4,c5⟩:=hw.load hB k hlt
    have hsm:=hw.small k hlt;have HS:Hid (zgM (ms.take (k+1))=zgM (ms.take k)+ms[k].sz):=za5 Mnd.sz ms k hlt;have hle:zgM (ms.take (k+1))<=zgM ms:=zcQ Mnd.sz ms (k+1);clear hw
    by_cases hneg:(ms[k].sz:Int)<=left - ms.length - zgM (ms.take k)
    ·have HNG:Hid ((ms[k].sz:Int)<=left - ms.length - zgM (ms.take k)):=hneg
     clear hle;go_wp2_with fail
     refine (zjF _ _ _ hsm hpos (by omega) HNG.out).mono ?_;rintro e w1 ⟨rfl,hb1⟩;have hB1:=hB.trans (hb1.mono hB.size);clear hb1;go_wp2_with fail
     exact ⟨⟨k+1,by omega,by go_num,by rw [HS.out];omega,by rw [HS.out];congr 1;omega,hB1⟩,by simp [intOf];omega⟩
    ·have HF:Hid (zL (zbr ms) left=-1):=zC (by have:=HS.out;unfold zbr;omega)
     have HNG:Hid (¬ (ms[k].sz:Int)<=left - ms.length - zgM (ms.take k)):=hneg;clear hneg hle;go_wp2_with fail
     refine (zj0 _ _ _ hsm hpos (by omega) (by have:=HNG.out;omega)).mono ?_;rintro e w1 ⟨rfl,hb1⟩;have hB1:=hB.trans (hb1.mono hB.size);clear hb1;go_wp2_with fail
     go_ret;exact ⟨zq HF.out.symm,hB1⟩
   ·have HF:Hid (zL (zbr ms) left=left - ms.length - zgM (ms.take k)):=by
     rw [tOl (by omega)] at hpos ⊢;have e:zL (zbr ms) left=left - zbr ms:=zN (by unfold zbr;omega);unfold Hid;rw [e];unfold zbr;omega
    clear hw
    go_wp2
    go_ret;exact ⟨zq HF.out.symm,hB⟩
 ·have HF:Hid (zL (zbr ms) left=-1):=zC (by unfold zbr;omega)
  clear hw;go_enter Tryz.func18,Tryz.ntmps18
  go_wp2
  go_ret;exact ⟨zq HF.out.symm,bRf _ _⟩
theorem zjt (m:Mnd) (w:World):Calls Tryz.prog 76 #[.agg m.cells,.agg m.cells] w fun e w'=>e = .returned (.bool true)/\Below w.heap.size w w':=by
 unfold Mnd.cells;go_enter Tryz.func76,Tryz.ntmps76;go_wp2_with fail
 go_ret;exact ⟨rfl,zA _ _ _⟩
theorem zij (a a':Option Addr) (cap cap':Nat) (ms:List Mnd) (w:World) (hw:yY w a ms) (hw':yY w a' ms) :
 Calls Tryz.prog 38 #[.slice a ms.length cap,.slice a' ms.length cap'] w fun e w'=>e = .returned (.bool true)/\Below w.heap.size w w':=by
 have hl:=hw.len;unfold maxLen at hl;have hnn:((ms.length:Int) != ms.length)=false:=by simp
 go_enter Tryz.func38,Tryz.ntmps38;go_wp2_with fail
 go_loopw [5] (fun i wr=>∃ k:Nat,k<=ms.length/\i = .int .i64 k/\Below w.heap.size w wr) (fun i _=>ms.length - (intOf i).toNat)
 case atStart=>exact ⟨0,Nat.zero_le _,rfl,bRf _ _⟩
 case round =>
  obtain ⟨k,hk,rfl,hB⟩:=hrel
  by_cases hlt:k < ms.length
  ·obtain ⟨b,off,rfl,hb,c0,c1,c2,c3,c4,c5⟩:=hw.load hB k hlt
   obtain ⟨b',off',rfl,hb',d0,d1,d2,d3,d4,d5⟩:=hw'.load hB k hlt;have hltI:(k:Int) < (ms.length:Int):=by omega
   clear hw hw';go_wp2_with fail
   go_region_with (go_at_call 76;refine (zjt ms[k] _).mono ?_;rintro e w1 ⟨rfl,hb1'⟩;have hb1:=(bRf wr.heap.size wr).drew.trans hb1';clear hb1')
   all_goals go_wp2_with fail
   all_goals exact ⟨⟨k+1,by omega,by go_num,hB.trans (hb1.mono hB.size)⟩,by simp [intOf];omega⟩
  ·clear hw hw'
   go_wp2_with fail
   go_ret;exact ⟨rfl,hB⟩
structure jg (lo:Nat) (w:World) (bo:Nat) (ms:List Mnd) (k:Nat):Prop where
 low:lo<=bo
 rows:∃ C,w.heap[bo]?=some (.cells C 125)/\C.size=ms.length * 6/\∀ i (h:i < ms.length),i < k->∀ j,j < 6->C[i * 6+j]?=ms[i].cells[j]?
theorem jg.at {lo:Nat} {w:World} {bo:Nat} {ms:List Mnd} (h:jg lo w bo ms ms.length) (hs:∀ i (h:i < ms.length),ms[i].Small) (hl:ms.length<=maxLen):yY w (some ⟨bo,0,none⟩) ms:=by
 obtain ⟨C,hC,hsz,hr⟩:=h.rows;refine ⟨hl,hs,fun _=>⟨bo,0,rfl,(gES hC).1,fun i hi j hj=>?_⟩⟩;rw [cell_of_block hC,Nat.zero_add];exact hr i hi hi j hj
theorem jg.later {lo:Nat} {w w':World} {bo:Nat} {ms:List Mnd} {k:Nat} (h:jg lo w bo ms k) (hb:Below w.heap.size w w'):jg lo w' bo ms k:=by
 obtain ⟨C,hC,hsz,hr⟩:=h.rows;exact ⟨h.low,C,(hb.block bo (gES hC).1).trans hC,hsz,hr⟩
end Go.Proofs.YtghnakljnhnenaaGreat
