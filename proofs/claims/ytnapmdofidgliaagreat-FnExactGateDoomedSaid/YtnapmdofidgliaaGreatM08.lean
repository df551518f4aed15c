import Derived.Test.YtnapmdofidgliaaGreatM06
import Derived.Test.YtnapmdofidgliaaGreatM07
import Derived.Deep.RegionWith
set_option maxHeartbeats 2000000
namespace Go.Proofs.YtnapmdofidgliaaGreat
open Go.RowKit
def Mnd.sz (m:Mnd):Nat:=m.kd.size+m.fd.size+m.wh.size+m.wi.size+m.pt.size+m.fr.size
def ziD (ms:List Mnd):Nat:=(ms.map Mnd.sz).sum
def zbw (ms:List Mnd):Nat:=ms.length+ziD ms
theorem zeV (m:Mnd)(left:Int)(w:World)(hm:m.Small)(h0:0<=left)(h1:left<=1048576) :
 Calls Tryz.prog 54 #[.agg m.cells,.int .i64 left] w fun e w'=>e=.returned (.int .i64 (zK m.sz left))/\Below w.heap.size w w':=by
 have k1:=hm.kd;have k2:=hm.fd;have k3:=hm.wh;have k4:=hm.wi;have k5:=hm.pt;have k6:=hm.fr;unfold maxLen at k1 k2 k3 k4 k5 k6;unfold Mnd.cells;have hB:∀ob,Below w.heap.size w (w.alloc ob):=fun ob=>bAl _ _
 by_cases hf:(m.sz:Int)<=left
 ·have HF:Hid (zK m.sz left=left-m.kd.size-m.fd.size-m.wh.size-m.wi.size-m.pt.size-m.fr.size):=by
   unfold Hid;rw[zL hf];unfold Mnd.sz;omega
  unfold Mnd.sz at hf;go_enter Tryz.func54,Tryz.ntmps54;go_wp2_with fail
  go_ret;exact⟨zo HF.out.symm,hB _⟩
 ·have HF:Hid (zK m.sz left=-1):=zC hf
  have HN:Hid (¬((m.kd.size+m.fd.size+m.wh.size+m.wi.size+m.pt.size+m.fr.size:Nat):Int)<=left):=hf;clear hf;go_enter Tryz.func54,Tryz.ntmps54;go_wp2_with fail
  all_goals go_ret
  all_goals first|exact⟨zo HF.out.symm,hB _⟩|(exfalso;have:=HN.out;simp at *;omega)
theorem zkc (m:Mnd)(left:Int)(w:World)(hm:m.Small)(h0:0<=left)(h1:left<=1048576)(h:(m.sz:Int)<=left) :
 Calls Tryz.prog 54 #[.agg m.cells,.int .i64 left] w fun e w'=>e=.returned (.int .i64 (left-m.sz))/\Below w.heap.size w w':=by
 refine(zeV m left w hm h0 h1).mono ?_;rintro e w'⟨rfl,hb⟩;exact⟨zo (zL h),hb⟩
theorem zkZ (m:Mnd)(left:Int)(w:World)(hm:m.Small)(h0:0<=left)(h1:left<=1048576)(h:¬(m.sz:Int)<=left) :
 Calls Tryz.prog 54 #[.agg m.cells,.int .i64 left] w fun e w'=>e=.returned (.int .i64 (-1))/\Below w.heap.size w w':=by
 refine(zeV m left w hm h0 h1).mono ?_;rintro e w'⟨rfl,hb⟩;exact⟨zo (zC h),hb⟩
theorem ziu (a:Option Addr)(cap:Nat)(ms:List Mnd)(left:Int)(w:World)(hw:qN w a ms)(h0:0<=left)(h1:left<=1048576) :
 Calls Tryz.prog 18 #[.slice a ms.length cap,.int .i64 left] w fun e w'=>e=.returned (.int .i64 (zK (zbw ms) left))/\Below w.heap.size w w':=by
 have hl:=hw.len;unfold maxLen at hl
 by_cases hfit:(ms.length:Int)<=left
 ·go_enter Tryz.func18,Tryz.ntmps18
  go_wp2_with fail
  go_loopw [1,5] (fun l i wr=>∃k:Nat,k<=ms.length/\i=.int .i64 k/\0<=left-ms.length-ziD (ms.take k)/\l=.int .i64 (left-ms.length-ziD (ms.take k))/\Below w.heap.size w wr) (fun _ i _=>ms.length-(intOf i).toNat)
  case atStart=>exact⟨0,Nat.zero_le _,rfl,by simp[ziD];omega,by simp[ziD],bRf _ _⟩
  case round=>
   obtain⟨k,hk,rfl,hpos,rfl,hB⟩:=hrel
   by_cases hlt:k<ms.length
   ·obtain⟨b,off,rfl,hb,c0,c1,c2,c3,c4,c5⟩:=hw.load hB k hlt
    have hsm:=hw.small k hlt;have HS:Hid (ziD (ms.take (k+1))=ziD (ms.take k)+ms[k].sz):=zbd Mnd.sz ms k hlt;have hle:ziD (ms.take (k+1))<=ziD ms:=zcY Mnd.sz ms (k+1);clear hw
    by_cases hneg:(ms[k].sz:Int)<=left-ms.length-ziD (ms.take k)
    ·have HNG:Hid ((ms[k].sz:Int)<=left-ms.length-ziD (ms.take k)):=hneg
     clear hle;go_wp2_with fail
     refine(zkc _ _ _ hsm hpos (by omega) HNG.out).mono ?_;rintro e w1⟨rfl,hb1⟩;have hB1:=hB.trans (hb1.mono hB.size);clear hb1;go_wp2_with fail
     exact⟨⟨k+1,by omega,by go_num,by rw[HS.out];omega,by rw[HS.out];congr 1;omega,hB1⟩,by simp[intOf];omega⟩
    ·have HF:Hid (zK (zbw ms) left=-1):=zC (by have:=HS.out;unfold zbw;omega)
     have HNG:=hid hneg;clear hneg hle;go_wp2_with fail
     refine(zkZ _ _ _ hsm hpos (by omega) (by have:=HNG.out;omega)).mono ?_;rintro e w1⟨rfl,hb1⟩;have hB1:=hB.trans (hb1.mono hB.size);clear hb1;go_wp2_with fail
     go_ret;exact⟨zo HF.out.symm,hB1⟩
   ·have HF:Hid (zK (zbw ms) left=left-ms.length-ziD (ms.take k)):=by
     rw[tOl (by omega)]at hpos ⊢;have e:zK (zbw ms) left=left-zbw ms:=zL (by unfold zbw;omega);unfold Hid;rw[e];unfold zbw;omega
    clear hw
    go_wp2
    go_ret;exact⟨zo HF.out.symm,hB⟩
 ·have HF:Hid (zK (zbw ms) left=-1):=zC (by unfold zbw;omega)
  clear hw;go_enter Tryz.func18,Tryz.ntmps18
  go_wp2
  go_ret;exact⟨zo HF.out.symm,bRf _ _⟩
theorem zjl (m:Mnd)(w:World):Calls Tryz.prog 84 #[.agg m.cells,.agg m.cells] w fun e w'=>e=.returned (.bool true)/\Below w.heap.size w w':=by
 unfold Mnd.cells;go_enter Tryz.func84,Tryz.ntmps84;go_wp2_with fail
 go_ret;exact⟨rfl,zw _ _ _⟩
theorem ziw (a a':Option Addr)(cap cap':Nat)(ms:List Mnd)(w:World)(hw:qN w a ms)(hw':qN w a' ms) :
 Calls Tryz.prog 40 #[.slice a ms.length cap,.slice a' ms.length cap'] w fun e w'=>e=.returned (.bool true)/\Below w.heap.size w w':=by
 have hl:=hw.len;unfold maxLen at hl;have hnn:((ms.length:Int) != ms.length)=false:=by simp
 go_enter Tryz.func40,Tryz.ntmps40;go_wp2_with fail
 go_loopw [5] (fun i wr=>∃k:Nat,k<=ms.length/\i=.int .i64 k/\Below w.heap.size w wr) (fun i _=>ms.length-(intOf i).toNat)
 case atStart=>exact⟨0,Nat.zero_le _,rfl,bRf _ _⟩
 case round=>
  obtain⟨k,hk,rfl,hB⟩:=hrel
  by_cases hlt:k<ms.length
  ·obtain⟨b,off,rfl,hb,c0,c1,c2,c3,c4,c5⟩:=hw.load hB k hlt
   obtain⟨b',off',rfl,hb',d0,d1,d2,d3,d4,d5⟩:=hw'.load hB k hlt;have hltI:(k:Int)<(ms.length:Int):=by omega
   clear hw hw';go_wp2_with fail
   go_region_with (go_at_call 84;refine(zjl ms[k] _).mono ?_;rintro e w1⟨rfl,hb1'⟩;have hb1:=(bRf wr.heap.size wr).drew.trans hb1';clear hb1')
   all_goals go_wp2_with fail
   all_goals exact⟨⟨k+1,by omega,by go_num,hB.trans (hb1.mono hB.size)⟩,by simp[intOf];omega⟩
  ·clear hw hw'
   go_wp2_with fail
   go_ret;exact⟨rfl,hB⟩
structure je (lo:Nat)(w:World)(bo:Nat)(ms:List Mnd)(k:Nat):Prop where
 low:lo<=bo
 rows:∃C,w.heap[bo]?=some (.cells C 133)/\C.size=ms.length*6/\∀i (h:i<ms.length),i<k->∀j,j<6->C[i*6+j]?=ms[i].cells[j]?
theorem je.at {lo:Nat}{w:World}{bo:Nat}{ms:List Mnd}(h:je lo w bo ms ms.length)(hs:∀i (h:i<ms.length),ms[i].Small)(hl:ms.length<=maxLen):qN w (some ⟨bo,0,none⟩) ms:=by
 obtain⟨C,hC,hsz,hr⟩:=h.rows;refine⟨hl,hs,fun _=>⟨bo,0,rfl,(gES hC).1,fun i hi j hj=>?_⟩⟩;rw[cell_of_block hC,Nat.zero_add];exact hr i hi hi j hj
theorem je.later {lo:Nat}{w w':World}{bo:Nat}{ms:List Mnd}{k:Nat}(h:je lo w bo ms k)(hb:Below w.heap.size w w'):je lo w' bo ms k:=by
 obtain⟨C,hC,hsz,hr⟩:=h.rows;exact⟨h.low,C,(hb.block bo (gES hC).1).trans hC,hsz,hr⟩
theorem zcI (a:Option Addr)(cap:Nat)(ws:List ByteArray)(v:ByteArray)(w:World)(hw:zD w a ws) :
 Calls Tryz.prog 173 #[.slice a ws.length cap,.string v] w fun e w'=>e=.returned (.bool (has ws v))/\w'=w:=by
 have hl:=hw.len;unfold maxLen at hl
 by_cases hne:ws=[]
 ·subst hne
  go_enter Tryz.func173,Tryz.ntmps173
  go_wp2
  go_loop [5] (fun i=>i=.int .i64 0) (fun i=>0)
  case atStart=>rfl
  case round=>
   subst hrel
   go_wp2
   go_ret;exact⟨rfl,rfl⟩
 ·obtain⟨b,off,rfl,hb,hc⟩:=hw.cells hne
  clear hw;have HL:Hid (0<ws.length):=List.length_pos_iff.2 hne;clear hne;go_enter Tryz.func173,Tryz.ntmps173
  go_wp2
  go_loop [5] (fun i=>∃k:Nat,k<=ws.length/\i=.int .i64 k/\has (ws.take k) v=false) (fun i=>ws.length-(intOf i).toNat)
  case atStart=>exact⟨0,Nat.zero_le _,rfl,rfl⟩
  case round=>
   obtain⟨k,hk,rfl,hall⟩:=hrel
   by_cases hlt:k<ws.length
   ·have hck:=hc k hlt
    clear hc;have HS:Hid (has (ws.take (k+1)) v=(false||decide (ws[k]=v))):=by rw[zni ws v k hlt,hall];rfl
    have HN:Hid (ws[k]=v->has ws v=true):=fun h=>zqq ws v k hlt h
    clear hall
    by_cases he:ws[k]=v
    ·have hbe:(ws[k].toList == v.toList)=true:=by rw[beq_toList];simpa using he
     have HE:Hid (ws[k]=v):=he;clear he
     go_wp2
     go_ret;exact⟨ze (HN.out HE.out).symm,rfl⟩
    ·have hbe:(ws[k].toList == v.toList)=false:=by rw[beq_toList];simpa using he
     have HE:Hid (¬ws[k]=v):=he;clear he
     go_wp2
     go_round
     case rel=>exact⟨k+1,by omega,by go_num,by rw[HS.out,decide_eq_false HE.out];rfl⟩
     case measure=>simp[intOf];omega
   ·have HA:Hid (has ws v=false):=by rw[<- zpc ws v k (by omega)];exact hall
    clear hall hc
    go_wp2
    go_ret;exact⟨ze HA.out.symm,rfl⟩
structure jK (w:World)(o:Ob)(a a':Option Addr):Prop where
 small:o.Small
 vals:zD w a o.vs
 holds:zD w a' o.hs
theorem jK.mono {w w':World}{o:Ob}{a a':Option Addr}(h:jK w o a a')(hb:Below w.heap.size w w'):jK w' o a a':=
 ⟨h.small,h.vals.mono hb,h.holds.mono hb⟩
theorem zhG (a a':Option Addr)(cap cap':Nat)(fs:List Fld)(w:World)(hw:zY w a fs)(hw':zY w a' fs) :
 Calls Tryz.prog 124 #[.slice a fs.length cap,.slice a' fs.length cap'] w fun e w'=>e=.returned (.bool true)/\Below w.heap.size w w':=by
 have hl:=hw.len;unfold maxLen at hl;have hnn:((fs.length:Int) != fs.length)=false:=by simp
 go_enter Tryz.func124,Tryz.ntmps124;go_wp2_with fail
 go_loopw [5] (fun i wr=>∃k:Nat,k<=fs.length/\i=.int .i64 k/\Below w.heap.size w wr) (fun i _=>fs.length-(intOf i).toNat)
 case atStart=>exact⟨0,Nat.zero_le _,rfl,bRf _ _⟩
 case round=>
  obtain⟨k,hk,rfl,hB⟩:=hrel
  by_cases hlt:k<fs.length
  ·obtain⟨b,off,rfl,hb,hr⟩:=hw.rows (by rintro rfl;simp at hlt)
   obtain⟨b',off',rfl,hb',hr'⟩:=hw'.rows (by rintro rfl;simp at hlt);obtain⟨wa,wcap,hf0⟩:=hr k hlt;obtain⟨wa',wcap',hf0'⟩:=hr' k hlt;have hf:=hf0.mono hb hB;have hf':=hf0'.mono hb' hB;obtain⟨c0,c1,c2,c3,c4,c5,c6,c7,c8,c9,c10⟩:=hf.load;obtain⟨d0,d1,d2,d3,d4,d5,d6,d7,d8,d9,d10⟩:=hf'.load;have hst:=hf.strs;have hst':=hf'.strs;have hltI:(k:Int)<(fs.length:Int):=by omega
   clear hw hw' hr hr' hf0 hf0' hf hf';go_wp2_with fail
   go_region_with (go_at_call 169;refine(zix _ _ _ _ _ _ _ _ _ _ _ _ _ _ _ _ (by exact hst.mono ((bRf _ _).drew)) (by exact hst'.mono ((bRf _ _).drew))).mono ?_;rintro e w1⟨rfl,hb1'⟩;have hb1:=(bRf wr.heap.size wr).drew.trans hb1';clear hb1')
   all_goals go_wp2_with fail
   all_goals exact⟨⟨k+1,by omega,by go_num,hB.trans (hb1.mono hB.size)⟩,by simp[intOf];omega⟩
  ·clear hw hw'
   go_wp2_with fail
   go_ret;exact⟨rfl,hB⟩
theorem ziC (kd:ByteArray)(a a':Option Addr)(cap cap':Nat)(fs:List Fld)(w:World)(hw:zY w a fs)(hw':zY w a' fs) :
 Calls Tryz.prog 83 #[.agg #[.string kd,.slice a fs.length cap],.agg #[.string kd,.slice a' fs.length cap']] w fun e w'=>e=.returned (.bool true)/\Below w.heap.size w w':=by
 go_enter Tryz.func83,Tryz.ntmps83;go_wp2_with fail
 refine(zhG _ _ _ _ _ _ (hw.mono (zw _ _ _)) (hw'.mono (zw _ _ _))).mono ?_;rintro e w1⟨rfl,hb1⟩;go_wp2_with fail
 go_ret;exact⟨rfl,(zw _ _ _).trans (hb1.mono (by simp;omega))⟩
theorem zhc (a a':Option Addr)(cap cap':Nat)(ss:List Shp)(w:World)(hw:yU w a ss)(hw':yU w a' ss) :
 Calls Tryz.prog 39 #[.slice a ss.length cap,.slice a' ss.length cap'] w fun e w'=>e=.returned (.bool true)/\Below w.heap.size w w':=by
 have hl:=hw.len;unfold maxLen at hl;have hnn:((ss.length:Int) != ss.length)=false:=by simp
 go_enter Tryz.func39,Tryz.ntmps39;go_wp2_with fail
 go_loopw [5] (fun i wr=>∃k:Nat,k<=ss.length/\i=.int .i64 k/\Below w.heap.size w wr) (fun i _=>ss.length-(intOf i).toNat)
 case atStart=>exact⟨0,Nat.zero_le _,rfl,bRf _ _⟩
 case round=>
  obtain⟨k,hk,rfl,hB⟩:=hrel
  by_cases hlt:k<ss.length
  ·obtain⟨b,off,rfl,hb,hr⟩:=hw.rows (by rintro rfl;simp at hlt)
   obtain⟨b',off',rfl,hb',hr'⟩:=hw'.rows (by rintro rfl;simp at hlt);obtain⟨wa,wcap,hf0⟩:=hr k hlt;obtain⟨wa',wcap',hf0'⟩:=hr' k hlt;have hf:=hf0.mono hb hB;have hf':=hf0'.mono hb' hB;have c0:=hf.kind;have c1:=hf.list;have d0:=hf'.kind;have d1:=hf'.list;have hst:=hf.zdk;have hst':=hf'.zdk;have hltI:(k:Int)<(ss.length:Int):=by omega
   clear hw hw' hr hr' hf0 hf0' hf hf';go_wp2_with fail
   go_region_with (go_at_call 83;refine(ziC _ _ _ _ _ _ _ (by exact hst.mono ((bRf _ _).drew)) (by exact hst'.mono ((bRf _ _).drew))).mono ?_;rintro e w1⟨rfl,hb1'⟩;have hb1:=(bRf wr.heap.size wr).drew.trans hb1';clear hb1')
   all_goals go_wp2_with fail
   all_goals exact⟨⟨k+1,by omega,by go_num,hB.trans (hb1.mono hB.size)⟩,by simp[intOf];omega⟩
  ·clear hw hw'
   go_wp2_with fail
   go_ret;exact⟨rfl,hB⟩
theorem zqe {ss:List Shp}(h:(zaT ss:Int)<=1048576):ss.length<=1048576/\∀i (h:i<ss.length),ss[i].fs.length<=1048576/\∀j (h':j<ss[i].fs.length),ss[i].fs[j].ws.length<=1048576:=by
 unfold zaT at h;refine⟨by omega,fun i hi=>?_⟩;have h1:Shp.sz ss[i]<=zhj ss:=zi5 Shp.sz ss i hi;unfold Shp.sz zaV at h1;refine⟨by omega,fun j hj=>?_⟩;have h2:Fld.sz ss[i].fs[j]<=zhf ss[i].fs:=zi5 Fld.sz ss[i].fs j hj;unfold Fld.sz zay qX at h2;omega
end Go.Proofs.YtnapmdofidgliaaGreat
