import Derived.Test.YtjnpjkigofldlaaGreatM07
import Derived.Deep.RegionWith
import Derived.Test.YtjnpjkigofldlaaGreatM08
set_option maxHeartbeats 2000000
namespace Go.Proofs.YtjnpjkigofldlaaGreat
open Go.RowKit
theorem zh2 (a a':OA)(cap cap':Nat)(fs:List Fld)(w:World)(hw:yw w a fs)(hw':yw w a' fs) :
 Calls Tryz.prog 153 #[.l a fs.length cap,.l a' fs.length cap'] w fun e w'=>e=.returned (.bool true)/\Bw w w':=by
 have hl:=hw.len;unfold maxLen at hl;have hnn:((fs.length:Int) != fs.length)=false:=by simp
 go_in;go_wp2
 go_loopw [5] (fun i wr=>∃k:Nat,k<=fs.length/\i=.i k/\Bw w wr) (fun i _=>fs.length-(intOf i).toNat)
 case atStart=>exact⟨0,Nat.zero_le _,rfl,bRf _ _⟩
 case round=>
  obtain⟨k,hk,rfl,hB⟩:=hrel
  by_cases hlt:k<fs.length
  ·obtain⟨b,off,rfl,hb,hr⟩:=hw.rows (by rintro rfl;simp at hlt)
   obtain⟨b',off',rfl,hb',hr'⟩:=hw'.rows (by rintro rfl;simp at hlt);obtain⟨wa,wcap,hf0⟩:=hr k hlt;obtain⟨wa',wcap',hf0'⟩:=hr' k hlt;have hf:=hf0.mono hb hB;have hf':=hf0'.mono hb' hB;obtain⟨c0,c1,c2,c3,c4,c5,c6,c7,c8,c9,c10⟩:=hf.load;obtain⟨d0,d1,d2,d3,d4,d5,d6,d7,d8,d9,d10⟩:=hf'.load;have hst:=hf.strs;have hst':=hf'.strs;have hltI:(k:Int)<(fs.length:Int):=by omega
   clear hw hw' hr hr' hf0 hf0' hf hf';go_wp2_with fail
   go_region_with (go_at_call 201;refine(zjZ _ _ _ _ _ _ _ _ _ _ _ _ _ _ _ _ (by exact hst.mono ((bRf _ _).drew)) (by exact hst'.mono ((bRf _ _).drew))).mono ?_;rintro e w1⟨rfl,hb1'⟩;have hb1:=(bRf wr.heap.size wr).drew.trans hb1';clear hb1')
   all_goals go_wp2
   all_goals exact⟨⟨k+1,by omega,by go_num,hB.trans (hb1.mono hB.size)⟩,by simp[intOf];omega⟩
  ·clear hw hw'
   go_wp2
   go_ret;exact⟨rfl,hB⟩
theorem zjr (kd:BA)(a a':OA)(cap cap':Nat)(fs:List Fld)(w:World)(hw:yw w a fs)(hw':yw w a' fs) :
 Calls Tryz.prog 101 #[.agg #[.s kd,.l a fs.length cap],.agg #[.s kd,.l a' fs.length cap']] w fun e w'=>e=.returned (.bool true)/\Bw w w':=by
 go_in;go_wp2_with fail
 refine(zh2 _ _ _ _ _ _ (hw.mono (zo _ _ _)) (hw'.mono (zo _ _ _))).mono ?_;rintro e w1⟨rfl,hb1⟩;go_wp2
 go_ret;exact⟨rfl,(zo _ _ _).trans (hb1.mono (by simp;omega))⟩
theorem ziL (a a':OA)(cap cap':Nat)(ss:List Shp)(w:World)(hw:yU w a ss)(hw':yU w a' ss) :
 Calls Tryz.prog 41 #[.l a ss.length cap,.l a' ss.length cap'] w fun e w'=>e=.returned (.bool true)/\Bw w w':=by
 have hl:=hw.len;unfold maxLen at hl;have hnn:((ss.length:Int) != ss.length)=false:=by simp
 go_in;go_wp2
 go_loopw [5] (fun i wr=>∃k:Nat,k<=ss.length/\i=.i k/\Bw w wr) (fun i _=>ss.length-(intOf i).toNat)
 case atStart=>exact⟨0,Nat.zero_le _,rfl,bRf _ _⟩
 case round=>
  obtain⟨k,hk,rfl,hB⟩:=hrel
  by_cases hlt:k<ss.length
  ·obtain⟨b,off,rfl,hb,hr⟩:=hw.rows (by rintro rfl;simp at hlt)
   obtain⟨b',off',rfl,hb',hr'⟩:=hw'.rows (by rintro rfl;simp at hlt);obtain⟨wa,wcap,hf0⟩:=hr k hlt;obtain⟨wa',wcap',hf0'⟩:=hr' k hlt;have hf:=hf0.mono hb hB;have hf':=hf0'.mono hb' hB;have c0:=hf.kind;have c1:=hf.list;have d0:=hf'.kind;have d1:=hf'.list;have hst:=hf.zdE;have hst':=hf'.zdE;have hltI:(k:Int)<(ss.length:Int):=by omega
   clear hw hw' hr hr' hf0 hf0' hf hf';go_wp2_with fail
   go_region_with (go_at_call 101;refine(zjr _ _ _ _ _ _ _ (by exact hst.mono ((bRf _ _).drew)) (by exact hst'.mono ((bRf _ _).drew))).mono ?_;rintro e w1⟨rfl,hb1'⟩;have hb1:=(bRf wr.heap.size wr).drew.trans hb1';clear hb1')
   all_goals go_wp2
   all_goals exact⟨⟨k+1,by omega,by go_num,hB.trans (hb1.mono hB.size)⟩,by simp[intOf];omega⟩
  ·clear hw hw'
   go_wp2
   go_ret;exact⟨rfl,hB⟩
def Mnd.sz (m:Mnd):Nat:=m.kd.size+m.fd.size+m.wh.size+m.wi.size+m.pt.size+m.fr.size
def zjS (ms:List Mnd):Nat:=(ms.map Mnd.sz).sum
def zbi (ms:List Mnd):Nat:=ms.length+zjS ms
theorem zfl (m:Mnd)(left:Int)(w:World)(hm:m.Small)(h0:0<=left)(h1:left<=1048576) :
 Calls Tryz.prog 56 #[.agg m.cells,.i left] w fun e w'=>e=.returned (.i (zJ m.sz left))/\Bw w w':=by
 have k1:=hm.kd;have k2:=hm.fd;have k3:=hm.wh;have k4:=hm.wi;have k5:=hm.pt;have k6:=hm.fr;unfold maxLen at k1 k2 k3 k4 k5 k6;unfold Mnd.cells;have hB:∀ob,Bw w (w.alloc ob):=fun ob=>bAl _ _
 by_cases hf:(m.sz:Int)<=left
 ·have HF:Hid (zJ m.sz left=left-m.kd.size-m.fd.size-m.wh.size-m.wi.size-m.pt.size-m.fr.size):=by
   unfold Hid;rw[zN hf];unfold Mnd.sz;omega
  unfold Mnd.sz at hf;go_in;go_wp2
  go_ret;exact⟨zm HF.o.symm,hB _⟩
 ·have HF:Hid (zJ m.sz left=-1):=zy hf
  have HN:Hid (¬((m.kd.size+m.fd.size+m.wh.size+m.wi.size+m.pt.size+m.fr.size:Nat):Int)<=left):=hf;clear hf;go_in;go_wp2
  all_goals go_ret
  all_goals first|exact⟨zm HF.o.symm,hB _⟩|(exfalso;have:=HN.o;simp at *;omega)
theorem zkx (m:Mnd)(left:Int)(w:World)(hm:m.Small)(h0:0<=left)(h1:left<=1048576)(h:(m.sz:Int)<=left) :
 Calls Tryz.prog 56 #[.agg m.cells,.i left] w fun e w'=>e=.returned (.i (left-m.sz))/\Bw w w':=by
 refine(zfl m left w hm h0 h1).mono ?_;rintro e w'⟨rfl,hb⟩;exact⟨zm (zN h),hb⟩
theorem zl5 (m:Mnd)(left:Int)(w:World)(hm:m.Small)(h0:0<=left)(h1:left<=1048576)(h:¬(m.sz:Int)<=left) :
 Calls Tryz.prog 56 #[.agg m.cells,.i left] w fun e w'=>e=.returned (.i (-1))/\Bw w w':=by
 refine(zfl m left w hm h0 h1).mono ?_;rintro e w'⟨rfl,hb⟩;exact⟨zm (zy h),hb⟩
theorem zjH (a:OA)(cap:Nat)(ms:List Mnd)(left:Int)(w:World)(hw:qQ w a ms)(h0:0<=left)(h1:left<=1048576) :
 Calls Tryz.prog 16 #[.l a ms.length cap,.i left] w fun e w'=>e=.returned (.i (zJ (zbi ms) left))/\Bw w w':=by
 have hl:=hw.len;unfold maxLen at hl
 by_cases hfit:(ms.length:Int)<=left
 ·go_in
  go_wp2
  go_loopw [1,5] (fun l i wr=>∃k:Nat,k<=ms.length/\i=.i k/\0<=left-ms.length-zjS (ms.take k)/\l=.i (left-ms.length-zjS (ms.take k))/\Bw w wr) (fun _ i _=>ms.length-(intOf i).toNat)
  case atStart=>exact⟨0,Nat.zero_le _,rfl,by simp[zjS];omega,by simp[zjS],bRf _ _⟩
  case round=>
   obtain⟨k,hk,rfl,hpos,rfl,hB⟩:=hrel
   by_cases hlt:k<ms.length
   ·obtain⟨b,off,rfl,hb,c0,c1,c2,c3,c4,c5⟩:=hw.load hB k hlt
    have hsm:=hw.small k hlt;have HS:Hid (zjS (ms.take (k+1))=zjS (ms.take k)+ms[k].sz):=za6 Mnd.sz ms k hlt;have hle:zjS (ms.take (k+1))<=zjS ms:=zc5 Mnd.sz ms (k+1);clear hw
    by_cases hneg:(ms[k].sz:Int)<=left-ms.length-zjS (ms.take k)
    ·have HNG:Hid ((ms[k].sz:Int)<=left-ms.length-zjS (ms.take k)):=hneg
     clear hle;go_wp2_with fail
     refine(zkx _ _ _ hsm hpos (by omega) HNG.o).mono ?_;rintro e w1⟨rfl,hb1⟩;have hB1:=hB.trans (hb1.mono hB.size);clear hb1;go_wp2
     exact⟨⟨k+1,by omega,by go_num,by rw[HS.o];omega,by rw[HS.o];congr 1;omega,hB1⟩,by simp[intOf];omega⟩
    ·have HF:Hid (zJ (zbi ms) left=-1):=zy (by have:=HS.o;unfold zbi;omega)
     have HNG:=hid hneg;clear hneg hle;go_wp2_with fail
     refine(zl5 _ _ _ hsm hpos (by omega) (by have:=HNG.o;omega)).mono ?_;rintro e w1⟨rfl,hb1⟩;have hB1:=hB.trans (hb1.mono hB.size);clear hb1;go_wp2
     go_ret;exact⟨zm HF.o.symm,hB1⟩
   ·have HF:Hid (zJ (zbi ms) left=left-ms.length-zjS (ms.take k)):=by
     rw[tOl (by omega)]at hpos ⊢;have e:zJ (zbi ms) left=left-zbi ms:=zN (by unfold zbi;omega);unfold Hid;rw[e];unfold zbi;omega
    clear hw
    go_wp2
    go_ret;exact⟨zm HF.o.symm,hB⟩
 ·have HF:Hid (zJ (zbi ms) left=-1):=zy (by unfold zbi;omega)
  clear hw;go_in
  go_wp2
  go_ret;exact⟨zm HF.o.symm,bRf _ _⟩
theorem zk9 (m:Mnd)(w:World):Calls Tryz.prog 102 #[.agg m.cells,.agg m.cells] w fun e w'=>e=.returned (.bool true)/\Bw w w':=by
 unfold Mnd.cells;go_in;go_wp2
 go_ret;exact⟨rfl,zo _ _ _⟩
theorem zjt (a a':OA)(cap cap':Nat)(ms:List Mnd)(w:World)(hw:qQ w a ms)(hw':qQ w a' ms) :
 Calls Tryz.prog 42 #[.l a ms.length cap,.l a' ms.length cap'] w fun e w'=>e=.returned (.bool true)/\Bw w w':=by
 have hl:=hw.len;unfold maxLen at hl;have hnn:((ms.length:Int) != ms.length)=false:=by simp
 go_in;go_wp2
 go_loopw [5] (fun i wr=>∃k:Nat,k<=ms.length/\i=.i k/\Bw w wr) (fun i _=>ms.length-(intOf i).toNat)
 case atStart=>exact⟨0,Nat.zero_le _,rfl,bRf _ _⟩
 case round=>
  obtain⟨k,hk,rfl,hB⟩:=hrel
  by_cases hlt:k<ms.length
  ·obtain⟨b,off,rfl,hb,c0,c1,c2,c3,c4,c5⟩:=hw.load hB k hlt
   obtain⟨b',off',rfl,hb',d0,d1,d2,d3,d4,d5⟩:=hw'.load hB k hlt;have hltI:(k:Int)<(ms.length:Int):=by omega
   clear hw hw';go_wp2_with fail
   go_region_with (go_at_call 102;refine(zk9 ms[k] _).mono ?_;rintro e w1⟨rfl,hb1'⟩;have hb1:=(bRf wr.heap.size wr).drew.trans hb1';clear hb1')
   all_goals go_wp2
   all_goals exact⟨⟨k+1,by omega,by go_num,hB.trans (hb1.mono hB.size)⟩,by simp[intOf];omega⟩
  ·clear hw hw'
   go_wp2
   go_ret;exact⟨rfl,hB⟩
structure q8 (lo:Nat)(w:World)(bo:Nat)(ms:List Mnd)(k:Nat):Prop where
 low:lo<=bo
 rows:∃C,w.heap[bo]?=some (.cells C 132)/\C.size=ms.length*6/\∀i (h:i<ms.length),i<k->∀j,j<6->C[i*6+j]?=ms[i].cells[j]?
theorem q8.at {lo:Nat}{w:World}{bo:Nat}{ms:List Mnd}(h:q8 lo w bo ms ms.length)(hs:∀i (h:i<ms.length),ms[i].Small)(hl:ms.length<=maxLen):qQ w (some (aD bo 0)) ms:=by
 obtain⟨C,hC,hsz,hr⟩:=h.rows;refine⟨hl,hs,fun _=>⟨bo,0,rfl,(gES hC).1,fun i hi j hj=>?_⟩⟩;rw[cell_of_block hC,Nat.zero_add];exact hr i hi hi j hj
theorem q8.later {lo:Nat}{w w':World}{bo:Nat}{ms:List Mnd}{k:Nat}(h:q8 lo w bo ms k)(hb:Bw w w'):q8 lo w' bo ms k:=by
 obtain⟨C,hC,hsz,hr⟩:=h.rows;exact⟨h.low,C,(hb.block bo (gES hC).1).trans hC,hsz,hr⟩
end Go.Proofs.YtjnpjkigofldlaaGreat
