import Derived.Test.YthdfpinbnncghaaGreatM06
set_option maxHeartbeats 2000000
namespace Go.Proofs.YthdfpinbnncghaaGreat
open Go.RowKit
def Mnd.sz (m:Mnd):Nat:=m.kd.size+m.fd.size+m.wh.size+m.wi.size+m.pt.size+m.fr.size
def zjv (ms:List Mnd):Nat:=(ms.map Mnd.sz).sum
def zbz (ms:List Mnd):Nat:=ms.length+zjv ms
theorem ze1 (m:Mnd)(left:Int)(w:World)(hm:m.Small)(h0:0<=left)(h1:left<=1048576) :
 Calls Tryz.prog 49 #[.agg m.cells,.i left] w fun e w'=>e=.returned (.i (zD m.sz left))/\Bw w w':=by
 have k1:=hm.kd;have k2:=hm.fd;have k3:=hm.wh;have k4:=hm.wi;have k5:=hm.pt;have k6:=hm.fr;unfold maxLen at k1 k2 k3 k4 k5 k6;unfold Mnd.cells;have hB:∀ob,Bw w (w.alloc ob):=fun ob=>bAl _ _
 by_cases hf:(m.sz:Int)<=left
 ·have HF:Hid (zD m.sz left=left-m.kd.size-m.fd.size-m.wh.size-m.wi.size-m.pt.size-m.fr.size):=by
   unfold Hid;rw[zF hf];unfold Mnd.sz;omega
  unfold Mnd.sz at hf;go_enter Tryz.func49,Tryz.ntmps49;go_wp2_with fail
  go_ret;exact⟨zk HF.o.symm,hB _⟩
 ·have HF:Hid (zD m.sz left=-1):=zq hf
  have HN:Hid (¬((m.kd.size+m.fd.size+m.wh.size+m.wi.size+m.pt.size+m.fr.size:Nat):Int)<=left):=hf;clear hf;go_enter Tryz.func49,Tryz.ntmps49;go_wp2_with fail
  all_goals go_ret
  all_goals first|exact⟨zk HF.o.symm,hB _⟩|(exfalso;have:=HN.o;simp at *;omega)
theorem zkE (m:Mnd)(left:Int)(w:World)(hm:m.Small)(h0:0<=left)(h1:left<=1048576)(h:(m.sz:Int)<=left) :
 Calls Tryz.prog 49 #[.agg m.cells,.i left] w fun e w'=>e=.returned (.i (left-m.sz))/\Bw w w':=by
 refine(ze1 m left w hm h0 h1).mono ?_;rintro e w'⟨rfl,hb⟩;exact⟨zk (zF h),hb⟩
theorem zk1 (m:Mnd)(left:Int)(w:World)(hm:m.Small)(h0:0<=left)(h1:left<=1048576)(h:¬(m.sz:Int)<=left) :
 Calls Tryz.prog 49 #[.agg m.cells,.i left] w fun e w'=>e=.returned (.i (-1))/\Bw w w':=by
 refine(ze1 m left w hm h0 h1).mono ?_;rintro e w'⟨rfl,hb⟩;exact⟨zk (zq h),hb⟩
theorem ziC (a:OA)(cap:Nat)(ms:List Mnd)(left:Int)(w:World)(hw:qZ w a ms)(h0:0<=left)(h1:left<=1048576) :
 Calls Tryz.prog 16 #[.l a ms.length cap,.i left] w fun e w'=>e=.returned (.i (zD (zbz ms) left))/\Bw w w':=by
 have hl:=hw.len;unfold maxLen at hl
 by_cases hfit:(ms.length:Int)<=left
 ·go_enter Tryz.func16,Tryz.ntmps16
  go_wp2_with fail
  go_loopw [1,5] (fun l i wr=>∃k:Nat,k<=ms.length/\i=.i k/\0<=left-ms.length-zjv (ms.take k)/\l=.i (left-ms.length-zjv (ms.take k))/\Bw w wr) (fun _ i _=>ms.length-(intOf i).toNat)
  case atStart=>exact⟨0,Nat.zero_le _,rfl,by simp[zjv];omega,by simp[zjv],bRf _ _⟩
  case round=>
   obtain⟨k,hk,rfl,hpos,rfl,hB⟩:=hrel
   by_cases hlt:k<ms.length
   ·obtain⟨b,off,rfl,hb,c0,c1,c2,c3,c4,c5⟩:=hw.load hB k hlt
    have hsm:=hw.small k hlt;have HS:Hid (zjv (ms.take (k+1))=zjv (ms.take k)+ms[k].sz):=zas Mnd.sz ms k hlt;have hle:zjv (ms.take (k+1))<=zjv ms:=zbO Mnd.sz ms (k+1);clear hw
    by_cases hneg:(ms[k].sz:Int)<=left-ms.length-zjv (ms.take k)
    ·have HNG:Hid ((ms[k].sz:Int)<=left-ms.length-zjv (ms.take k)):=hneg
     clear hle;go_wp2_with fail
     refine(zkE _ _ _ hsm hpos (by omega) HNG.o).mono ?_;rintro e w1⟨rfl,hb1⟩;have hB1:=hB.trans (hb1.mono hB.size);clear hb1;go_wp2_with fail
     exact⟨⟨k+1,by omega,by go_num,by rw[HS.o];omega,by rw[HS.o];congr 1;omega,hB1⟩,by simp[intOf];omega⟩
    ·have HF:Hid (zD (zbz ms) left=-1):=zq (by have:=HS.o;unfold zbz;omega)
     have HNG:=hid hneg;clear hneg hle;go_wp2_with fail
     refine(zk1 _ _ _ hsm hpos (by omega) (by have:=HNG.o;omega)).mono ?_;rintro e w1⟨rfl,hb1⟩;have hB1:=hB.trans (hb1.mono hB.size);clear hb1;go_wp2_with fail
     go_ret;exact⟨zk HF.o.symm,hB1⟩
   ·have HF:Hid (zD (zbz ms) left=left-ms.length-zjv (ms.take k)):=by
     rw[tOl (by omega)]at hpos ⊢;have e:zD (zbz ms) left=left-zbz ms:=zF (by unfold zbz;omega);unfold Hid;rw[e];unfold zbz;omega
    clear hw
    go_wp2
    go_ret;exact⟨zk HF.o.symm,hB⟩
 ·have HF:Hid (zD (zbz ms) left=-1):=zq (by unfold zbz;omega)
  clear hw;go_enter Tryz.func16,Tryz.ntmps16
  go_wp2
  go_ret;exact⟨zk HF.o.symm,bRf _ _⟩
theorem zkH (m:Mnd)(w:World):Calls Tryz.prog 80 #[.agg m.cells,.agg m.cells] w fun e w'=>e=.returned (.bool true)/\Bw w w':=by
 unfold Mnd.cells;go_enter Tryz.func80,Tryz.ntmps80;go_wp2_with fail
 go_ret;exact⟨rfl,zx _ _ _⟩
theorem ziR (a a':OA)(cap cap':Nat)(ms:List Mnd)(w:World)(hw:qZ w a ms)(hw':qZ w a' ms) :
 Calls Tryz.prog 41 #[.l a ms.length cap,.l a' ms.length cap'] w fun e w'=>e=.returned (.bool true)/\Bw w w':=by
 have hl:=hw.len;unfold maxLen at hl;have hnn:((ms.length:Int) != ms.length)=false:=by simp
 go_enter Tryz.func41,Tryz.ntmps41;go_wp2_with fail
 go_loopw [5] (fun i wr=>∃k:Nat,k<=ms.length/\i=.i k/\Bw w wr) (fun i _=>ms.length-(intOf i).toNat)
 case atStart=>exact⟨0,Nat.zero_le _,rfl,bRf _ _⟩
 case round=>
  obtain⟨k,hk,rfl,hB⟩:=hrel
  by_cases hlt:k<ms.length
  ·obtain⟨b,off,rfl,hb,c0,c1,c2,c3,c4,c5⟩:=hw.load hB k hlt
   obtain⟨b',off',rfl,hb',d0,d1,d2,d3,d4,d5⟩:=hw'.load hB k hlt;have hltI:(k:Int)<(ms.length:Int):=by omega
   clear hw hw';go_wp2_with fail
   go_region_with (go_at_call 80;refine(zkH ms[k] _).mono ?_;rintro e w1⟨rfl,hb1'⟩;have hb1:=(bRf wr.heap.size wr).drew.trans hb1';clear hb1')
   all_goals go_wp2_with fail
   all_goals exact⟨⟨k+1,by omega,by go_num,hB.trans (hb1.mono hB.size)⟩,by simp[intOf];omega⟩
  ·clear hw hw'
   go_wp2_with fail
   go_ret;exact⟨rfl,hB⟩
structure jM (lo:Nat)(w:World)(bo:Nat)(ms:List Mnd)(k:Nat):Prop where
 low:lo<=bo
 rows:∃C,w.heap[bo]?=some (.cells C 141)/\C.size=ms.length*6/\∀i (h:i<ms.length),i<k->∀j,j<6->C[i*6+j]?=ms[i].cells[j]?
theorem jM.at {lo:Nat}{w:World}{bo:Nat}{ms:List Mnd}(h:jM lo w bo ms ms.length)(hs:∀i (h:i<ms.length),ms[i].Small)(hl:ms.length<=maxLen):qZ w (some (aD bo 0)) ms:=by
 obtain⟨C,hC,hsz,hr⟩:=h.rows;refine⟨hl,hs,fun _=>⟨bo,0,rfl,(gES hC).1,fun i hi j hj=>?_⟩⟩;rw[cell_of_block hC,Nat.zero_add];exact hr i hi hi j hj
theorem jM.later {lo:Nat}{w w':World}{bo:Nat}{ms:List Mnd}{k:Nat}(h:jM lo w bo ms k)(hb:Bw w w'):jM lo w' bo ms k:=by
 obtain⟨C,hC,hsz,hr⟩:=h.rows;exact⟨h.low,C,(hb.block bo (gES hC).1).trans hC,hsz,hr⟩
theorem zfd (m:Tm)(left:Int)(w:World)(hm:m.Small)(h0:0<=left)(h1:left<=1048576) :
 Calls Tryz.prog 50 #[.agg m.cells,.i left] w fun e w'=>e=.returned (.i (zD m.sz left))/\Bw w w':=by
 have k1:=hm.nm;have k2:=hm.ov;unfold maxLen at k1 k2;unfold Tm.cells;have hB:∀ob,Bw w (w.alloc ob):=fun ob=>bAl _ _
 by_cases hf:(m.sz:Int)<=left
 ·have HF:Hid (zD m.sz left=left-m.nm.size-m.ov.size):=by
   unfold Hid;rw[zF hf];unfold Tm.sz;omega
  unfold Tm.sz at hf;go_enter Tryz.func50,Tryz.ntmps50;go_wp2_with fail
  go_ret;exact⟨zk HF.o.symm,hB _⟩
 ·have HF:Hid (zD m.sz left=-1):=zq hf
  have HN:Hid (¬((m.nm.size+m.ov.size:Nat):Int)<=left):=hf;clear hf;go_enter Tryz.func50,Tryz.ntmps50;go_wp2_with fail
  all_goals go_ret
  all_goals first|exact⟨zk HF.o.symm,hB _⟩|(exfalso;have:=HN.o;simp at *;omega)
theorem zkz (m:Tm)(left:Int)(w:World)(hm:m.Small)(h0:0<=left)(h1:left<=1048576)(h:(m.sz:Int)<=left) :
 Calls Tryz.prog 50 #[.agg m.cells,.i left] w fun e w'=>e=.returned (.i (left-m.sz))/\Bw w w':=by
 refine(zfd m left w hm h0 h1).mono ?_;rintro e w'⟨rfl,hb⟩;exact⟨zk (zF h),hb⟩
theorem zk4 (m:Tm)(left:Int)(w:World)(hm:m.Small)(h0:0<=left)(h1:left<=1048576)(h:¬(m.sz:Int)<=left) :
 Calls Tryz.prog 50 #[.agg m.cells,.i left] w fun e w'=>e=.returned (.i (-1))/\Bw w w':=by
 refine(zfd m left w hm h0 h1).mono ?_;rintro e w'⟨rfl,hb⟩;exact⟨zk (zq h),hb⟩
theorem ziL (a:OA)(cap:Nat)(ts:List Tm)(left:Int)(w:World)(hw:jB w a ts)(h0:0<=left)(h1:left<=1048576) :
 Calls Tryz.prog 17 #[.l a ts.length cap,.i left] w fun e w'=>e=.returned (.i (zD (zdv ts) left))/\Bw w w':=by
 have hl:=hw.len;unfold maxLen at hl
 by_cases hfit:(ts.length:Int)<=left
 ·go_enter Tryz.func17,Tryz.ntmps17
  go_wp2_with fail
  go_loopw [1,5] (fun l i wr=>∃k:Nat,k<=ts.length/\i=.i k/\0<=left-ts.length-ziY (ts.take k)/\l=.i (left-ts.length-ziY (ts.take k))/\Bw w wr) (fun _ i _=>ts.length-(intOf i).toNat)
  case atStart=>exact⟨0,Nat.zero_le _,rfl,by simp[ziY];omega,by simp[ziY],bRf _ _⟩
  case round=>
   obtain⟨k,hk,rfl,hpos,rfl,hB⟩:=hrel
   by_cases hlt:k<ts.length
   ·obtain⟨b,off,rfl,hb,c0,c1⟩:=hw.load hB k hlt
    have hsm:=hw.small k hlt;have HS:Hid (ziY (ts.take (k+1))=ziY (ts.take k)+ts[k].sz):=zas Tm.sz ts k hlt;have hle:ziY (ts.take (k+1))<=ziY ts:=zbO Tm.sz ts (k+1);clear hw
    by_cases hneg:(ts[k].sz:Int)<=left-ts.length-ziY (ts.take k)
    ·have HNG:Hid ((ts[k].sz:Int)<=left-ts.length-ziY (ts.take k)):=hneg
     clear hle;go_wp2_with fail
     refine(zkz _ _ _ hsm hpos (by omega) HNG.o).mono ?_;rintro e w1⟨rfl,hb1⟩;have hB1:=hB.trans (hb1.mono hB.size);clear hb1;go_wp2_with fail
     exact⟨⟨k+1,by omega,by go_num,by rw[HS.o];omega,by rw[HS.o];congr 1;omega,hB1⟩,by simp[intOf];omega⟩
    ·have HF:Hid (zD (zdv ts) left=-1):=zq (by have:=HS.o;unfold zdv;omega)
     have HNG:=hid hneg;clear hneg hle;go_wp2_with fail
     refine(zk4 _ _ _ hsm hpos (by omega) (by have:=HNG.o;omega)).mono ?_;rintro e w1⟨rfl,hb1⟩;have hB1:=hB.trans (hb1.mono hB.size);clear hb1;go_wp2_with fail
     go_ret;exact⟨zk HF.o.symm,hB1⟩
   ·have HF:Hid (zD (zdv ts) left=left-ts.length-ziY (ts.take k)):=by
     rw[tOl (by omega)]at hpos ⊢;have e:zD (zdv ts) left=left-zdv ts:=zF (by unfold zdv;omega);unfold Hid;rw[e];unfold zdv;omega
    clear hw
    go_wp2
    go_ret;exact⟨zk HF.o.symm,hB⟩
 ·have HF:Hid (zD (zdv ts) left=-1):=zq (by unfold zdv;omega)
  clear hw;go_enter Tryz.func17,Tryz.ntmps17
  go_wp2
  go_ret;exact⟨zk HF.o.symm,bRf _ _⟩
theorem zkD (m:Tm)(w:World):Calls Tryz.prog 81 #[.agg m.cells,.agg m.cells] w fun e w'=>e=.returned (.bool true)/\Bw w w':=by
 unfold Tm.cells;go_enter Tryz.func81,Tryz.ntmps81;go_wp2_with fail
 go_ret;exact⟨rfl,zx _ _ _⟩
theorem ziH (a a':OA)(cap cap':Nat)(ts:List Tm)(w:World)(hw:jB w a ts)(hw':jB w a' ts) :
 Calls Tryz.prog 42 #[.l a ts.length cap,.l a' ts.length cap'] w fun e w'=>e=.returned (.bool true)/\Bw w w':=by
 have hl:=hw.len;unfold maxLen at hl;have hnn:((ts.length:Int) != ts.length)=false:=by simp
 go_enter Tryz.func42,Tryz.ntmps42;go_wp2_with fail
 go_loopw [5] (fun i wr=>∃k:Nat,k<=ts.length/\i=.i k/\Bw w wr) (fun i _=>ts.length-(intOf i).toNat)
 case atStart=>exact⟨0,Nat.zero_le _,rfl,bRf _ _⟩
 case round=>
  obtain⟨k,hk,rfl,hB⟩:=hrel
  by_cases hlt:k<ts.length
  ·obtain⟨b,off,rfl,hb,c0,c1⟩:=hw.load hB k hlt
   obtain⟨b',off',rfl,hb',d0,d1⟩:=hw'.load hB k hlt;have hltI:(k:Int)<(ts.length:Int):=by omega
   clear hw hw';go_wp2_with fail
   go_region_with (go_at_call 81;refine(zkD ts[k] _).mono ?_;rintro e w1⟨rfl,hb1'⟩;have hb1:=(bRf wr.heap.size wr).drew.trans hb1';clear hb1')
   all_goals go_wp2_with fail
   all_goals exact⟨⟨k+1,by omega,by go_num,hB.trans (hb1.mono hB.size)⟩,by simp[intOf];omega⟩
  ·clear hw hw'
   go_wp2_with fail
   go_ret;exact⟨rfl,hB⟩
theorem zj8 (m:Tm)(w:World) :
 Calls Tryz.prog 67 #[.agg m.cells] w fun e w'=>e=.returned (.agg m.cells)/\Bw w w':=by
 unfold Tm.cells;go_enter Tryz.func67,Tryz.ntmps67;go_wp2_with fail
 refine bodyPost_ret (v:=.agg #[.s m.nm,.s m.ov]) (by simp[results,Tryz.results67,go_sem]) rfl ⟨rfl,?_⟩;exact(((bAl _ _).alloc (by simp) _).alloc (by simp;omega) _)
theorem zi8 (a:OA)(cap:Nat)(ts:List Tm)(w:World)(hw:jB w a ts)(hl:ts.length<=1048576) :
 Calls Tryz.prog 28 #[.l a ts.length cap] w fun e w'=>e=.returned (.l (some (aD w.heap.size 0)) ts.length ts.length)/\zaL 143 w.heap.size w' w.heap.size ts ts.length/\Bw w w':=by
 have hmk:∀w:World,(Instr.makeSlice 42 (.i ts.length) (.i ts.length)).run Tryz.prog w=.ok (.l (some (aD w.heap.size 0)) ts.length ts.length) (w.alloc (.cells (zp7 ts.length) 143)):=
  fun w=>qN (P:=Tryz.prog) 42 143 (.agg zrC) 2 32 Tryz.underlying42 (by kernel_rfl) ts.length (by omega) (by omega) w
 go_enter Tryz.func28,Tryz.ntmps28;go_wp2_with fail
 clear hmk
 go_loopw [4] (fun i wr=>∃k:Nat,k<=ts.length/\i=.i k/\zaL 143 w.heap.size wr w.heap.size ts k/\Bw w wr) (fun i _=>ts.length-(intOf i).toNat)
 case atStart=>exact⟨0,Nat.zero_le _,rfl,⟨Nat.le_refl _,zp7 ts.length,(MapKept.heap_alloc w _).1,size_madeCells _ _,fun i _ h=>absurd h (by omega)⟩,bAl _ _⟩
 case round=>
  obtain⟨k,hk,rfl,hown,hB⟩:=hrel
  by_cases hlt:k<ts.length
  ·obtain⟨b,off,rfl,hb,c0,c1⟩:=hw.load hB k hlt
   have hltI:(k:Int)<(ts.length:Int):=by omega
   clear hw;go_wp2_with fail
   refine(zj8 ts[k] _).mono ?_;rintro e w1⟨rfl,hb1⟩;have hB1:=hB.trans (hb1.mono hB.size);have hown1:=hown.later hb1
   have hbo:w.heap.size<wr.heap.size:=by
    obtain⟨C',hC',_⟩:=hown.rows;exact(gES hC').1
   obtain⟨C,hC,hsz,_⟩:=hown1.rows;have hfz:∀o,w1.frozen? (aD w.heap.size o)=false:=fun o=>zl hC
   have hex:∀o,o<ts.length*2->∃v,w1.cell? (aD w.heap.size o)=some v:=fun o ho=>⟨C[o]'(by omega),by rw[cell_of_block hC];exact Array.getElem?_eq_getElem (by omega)⟩
   obtain⟨v0,hv0⟩:=hex (k*2) (by omega);obtain⟨v1,hv1⟩:=hex (k*2+1) (by omega);have HP:=hid hown1;clear hex hC hsz c0 c1 hown hown1;unfold Tm.cells;go_wp2_with fail
   exact⟨⟨k+1,by omega,by go_num,HP.o.put hlt,zpO hB1 (Nat.le_refl _) _ _ _⟩,by simp[intOf];omega⟩
  ·have HF:Hid (zaL 143 w.heap.size wr w.heap.size ts ts.length):=by
    have e:k=ts.length:=by omega
    subst e;exact hown
   clear hw hown;go_wp2_with fail
   go_ret;exact⟨rfl,HF.o,hB⟩
structure yJ (w:World)(a:OA)(vs:List Int):Prop where
 len:vs.length<=maxLen
 cells:vs≠[]->∃b off,a=some (aD b off)/\b<w.heap.size/\∀i (h:i<vs.length),w.cell? (aD b (off+i))=some (.i vs[i])
theorem yJ.mono {w w':World}{a:OA}{vs:List Int}(h:yJ w a vs)(hb:Bw w w'):yJ w' a vs:=
 ⟨h.len,fun hne=>by
  obtain⟨b,off,ha,hbs,hc⟩:=h.cells hne;exact⟨b,off,ha,nLt hbs hb.size,fun i hi=>(hb.cell (p:=(aD b (off+i))) hbs).trans (hc i hi)⟩⟩
theorem yJ.load {w w':World}{a:OA}{vs:List Int}(h:yJ w a vs)(hl:Bw w w')(i:Nat)(hi:i<vs.length):∃b off,a=some (aD b off)/\b<w.heap.size/\w'.cell? (aD b (off+i))=some (.i vs[i]):=by
 obtain⟨b,off,ha,hb,hc⟩:=h.cells (by rintro rfl;simp at hi);exact⟨b,off,ha,hb,(hl.cell (p:=(aD b (off+i))) hb).trans (hc i hi)⟩
def zbx (vs:List Int):AV:=(vs.map (Value.int .i64)).toArray
def intCells (vs:List Int)(k:Nat):AV:=((vs.take k).map (Value.int .i64)++List.replicate (vs.length-k) (Value.i 0)).toArray
theorem znf (vs:List Int)(k:Nat)(h:k<vs.length):(intCells vs k)[k]?=some (.i 0):=by
 unfold intCells;have hl:((vs.take k).map (Value.int .i64)).length=k:=by simp;omega
 rw[List.getElem?_toArray,List.getElem?_append_right (by omega),hl,Nat.sub_self];obtain⟨m,hm⟩:∃m,vs.length-k=m+1:=⟨vs.length-k-1,by omega⟩
 rw[hm,List.replicate_succ];rfl
theorem zmf (vs:List Int)(k:Nat)(h:k<vs.length):(intCells vs k).setIfInBounds k (.i vs[k])=intCells vs (k+1):=by
 unfold intCells;rw[List.setIfInBounds_toArray,List.set_append_right _ _ (by simp;omega)]
 congr 1
 rw[tSe h,List.map_append,List.append_assoc]
 congr 1
 obtain⟨m,hm⟩:∃m,vs.length-k=m+1:=⟨vs.length-k-1,by omega⟩
 rw[hm,show vs.length-(k+1)=m by omega]
 have:k-((vs.take k).map (Value.int .i64)).length=0:=by simp;omega
 rw[this,List.replicate_succ]
 rfl
theorem zmL (vs:List Int)(k:Nat)(h:vs.length<=k):intCells vs k=zbx vs:=by
 unfold intCells zbx;rw[tOl h,show vs.length-k=0 by omega];simp
theorem zlz (vs:List Int):madeCells #[Value.i 0] vs.length=intCells vs 0:=by
 apply Array.toList_inj.1
 rw[toList_madeCells_one]
 simp[intCells]
theorem zfD {w:World}{bk:Nat}{vs:List Int}{t:TypeId}(h:w.heap[bk]?=some (.cells (zbx vs) t))(hl:vs.length<=maxLen):yJ w (some (aD bk 0)) vs:=
 ⟨hl,fun _=>⟨bk,0,rfl,(gES h).1,fun i hi=>by
  simp[World.cell?,h,zbx,hi]⟩⟩
def Rl.cells (r:Rl)(a:OA)(cap:Nat):AV:=#[.l a r.vs.length cap,.s r.kd,.s r.tm,.s r.px]
structure Rl.Small (r:Rl):Prop where
 kd:r.kd.size<=maxLen
 tm:r.tm.size<=maxLen
 px:r.px.size<=maxLen
structure zrZ (w:World)(b off:Nat)(r:Rl)(a:OA)(cap:Nat):Prop where
 small:r.Small
 ints:yJ w a r.vs
 cell:∀j,j<4->w.cell? (aD b (off+j))=(r.cells a cap)[j]?
structure zcC (w:World)(a:OA)(rs:List Rl):Prop where
 len:rs.length<=maxLen
 rows:rs≠[]->∃b off,a=some (aD b off)/\b<w.heap.size/\∀i (h:i<rs.length),∃va vcap,zrZ w b (off+i*4) rs[i] va vcap
theorem zrZ.mono {w w':World}{b off:Nat}{r:Rl}{a:OA}{cap:Nat}(h:zrZ w b off r a cap)(hb:b<w.heap.size)(hl:Bw w w'):zrZ w' b off r a cap:=
 ⟨h.small,h.ints.mono hl,fun j hj=>(hl.cell (p:=(aD b (off+j))) hb).trans (h.cell j hj)⟩
theorem zcC.mono {w w':World}{a:OA}{rs:List Rl}(h:zcC w a rs)(hl:Bw w w'):zcC w' a rs:=
 ⟨h.len,fun hne=>by
  obtain⟨b,off,ha,hb,hr⟩:=h.rows hne;refine⟨b,off,ha,nLt hb hl.size,fun i hi=>?_⟩;obtain⟨va,vcap,hf⟩:=hr i hi;exact⟨va,vcap,hf.mono hb hl⟩⟩
theorem zcC.load {w w':World}{a:OA}{rs:List Rl}(h:zcC w a rs)(hl:Bw w w')(i:Nat)(hi:i<rs.length):∃b off va vcap,a=some (aD b off)/\b<w.heap.size/\rs[i].Small/\yJ w' va rs[i].vs /\
 w'.cell? (aD b (off+i*4))=some (.l va rs[i].vs.length vcap)/\w'.cell? (aD b (off+i*4+1))=some (.s rs[i].kd)/\w'.cell? (aD b (off+i*4+2))=some (.s rs[i].tm)/\w'.cell? (aD b (off+i*4+3))=some (.s rs[i].px):=by
 obtain⟨b,off,ha,hb,hr⟩:=h.rows (by rintro rfl;simp at hi);obtain⟨va,vcap,hf0⟩:=hr i hi;have hf:=hf0.mono hb hl;exact⟨b,off,va,vcap,ha,hb,hf.small,hf.ints,hf.cell 0 (by omega),hf.cell 1 (by omega),hf.cell 2 (by omega),hf.cell 3 (by omega)⟩
def Rl.sz (r:Rl):Nat:=r.vs.length+r.kd.size+r.tm.size+r.px.size
theorem zG {w:World}{b o:Nat}{v:Value}{b':Nat}(h:b'≠b):(w.setCell (aD b o) v).heap[b']?=w.heap[b']?:=by
 simp only[World.setCell,Array.getElem?_modify];rw[if_neg (fun e=>h (Eq.symm e))]
theorem zre (w:World)(o1:Obj)(X:AV)(t:TypeId):∀o,((w.alloc o1).alloc (.cells X t)).cell? (aD (w.heap.size+1) o)=X[o]?:=by
 intro o;have h:=zn (w.alloc o1) X t o;have e:(w.alloc o1).heap.size=w.heap.size+1:=by simp
 rw[e]at h;exact h
def zef (o:Ob):Nat:=o.kd.size+o.nm.size+o.tm.size+yQ o.vs+yQ o.hs
theorem zhy (o:Ob)(a a':OA)(cap cap':Nat)(left:Int)(w:World)(ho:zab w o a a')(h0:0<=left)(h1:left<=1048576) :
 Calls Tryz.prog 51 #[.agg #[.s o.kd,.s o.nm,.s o.tm,.l a o.vs.length cap,.bool o.en,.l a' o.hs.length cap',.i o.vr],.i left] w fun e w'=>e=.returned (.i (zD (zef o) left))/\Bw w w':=by
 have hkd:=ho.small.kd;have hnm:=ho.small.nm;have htm:=ho.small.tm;have hv:=ho.vals;have hh:=ho.holds;clear ho;unfold maxLen at hkd hnm htm
 by_cases c1:(o.kd.size:Int)<=left
 rotate_left
 ·have HF:Hid (zD (zef o) left=-1):=zq (by unfold zef;omega)
  go_enter Tryz.func51,Tryz.ntmps51;go_wp2_with fail
  go_ret;exact⟨zk HF.o.symm,bAl _ _⟩
 by_cases c2:(o.nm.size:Int)<=left-o.kd.size
 rotate_left
 ·have HF:Hid (zD (zef o) left=-1):=zq (by unfold zef;omega)
  go_enter Tryz.func51,Tryz.ntmps51;go_wp2_with fail
  go_ret;exact⟨zk HF.o.symm,bAl _ _⟩
 by_cases c3:(o.tm.size:Int)<=left-o.kd.size-o.nm.size
 rotate_left
 ·have HF:Hid (zD (zef o) left=-1):=zq (by unfold zef;omega)
  go_enter Tryz.func51,Tryz.ntmps51;go_wp2_with fail
  go_ret;exact⟨zk HF.o.symm,bAl _ _⟩
 by_cases c4:(yQ o.vs:Int)<=left-o.kd.size-o.nm.size-o.tm.size
 rotate_left
 ·have HF:Hid (zD (zef o) left=-1):=zq (by unfold zef;omega)
  go_enter Tryz.func51,Tryz.ntmps51;go_wp2_with fail
  refine(zb6 _ _ _ _ _ (hv.mono (bAl _ _)) (by omega) (by omega) (by omega)).mono ?_;rintro e w1⟨rfl,rfl⟩;go_wp2_with fail
  go_ret;exact⟨zk HF.o.symm,bAl _ _⟩
 by_cases c5:(yQ o.hs:Int)<=left-o.kd.size-o.nm.size-o.tm.size-yQ o.vs
 rotate_left
 ·have HF:Hid (zD (zef o) left=-1):=zq (by unfold zef;omega)
  go_enter Tryz.func51,Tryz.ntmps51;go_wp2_with fail
  refine(yO _ _ _ _ _ (hv.mono (bAl _ _)) (by omega) (by omega) (by omega)).mono ?_;rintro e w1⟨rfl,rfl⟩;go_wp2_with fail
  refine(zb6 _ _ _ _ _ (hh.mono (bAl _ _)) (by omega) (by omega) (by omega)).mono ?_;rintro e w1⟨rfl,rfl⟩;go_wp2_with fail
  go_ret;exact⟨zk HF.o.symm,bAl _ _⟩
 ·have HF:Hid (zD (zef o) left=left-o.kd.size-o.nm.size-o.tm.size-yQ o.vs-yQ o.hs):=by
   have e:zD (zef o) left=left-zef o:=zF (by unfold zef;omega);unfold Hid;rw[e];unfold zef;omega
  go_enter Tryz.func51,Tryz.ntmps51;go_wp2_with fail
  refine(yO _ _ _ _ _ (hv.mono (bAl _ _)) (by omega) (by omega) (by omega)).mono ?_;rintro e w1⟨rfl,rfl⟩;go_wp2_with fail
  refine(yO _ _ _ _ _ (hh.mono (bAl _ _)) (by omega) (by omega) (by omega)).mono ?_;rintro e w1⟨rfl,rfl⟩;go_wp2_with fail
  go_ret;exact⟨zk HF.o.symm,bAl _ _⟩
theorem zh8 (o:Ob)(a a' b b':OA)(cap cap' dap dap':Nat)(w:World)(ho:zab w o a a')(ho':zab w o b b') :
 Calls Tryz.prog 82 #[.agg #[.s o.kd,.s o.nm,.s o.tm,.l a o.vs.length cap,.bool o.en,.l a' o.hs.length cap',.i o.vr],.agg #[.s o.kd,.s o.nm,.s o.tm,.l b o.vs.length dap,.bool o.en,.l b' o.hs.length dap',.i o.vr]] w fun e w'=>e=.returned (.bool true)/\Bw w w':=by
 go_enter Tryz.func82,Tryz.ntmps82;go_wp2_with fail
 refine(zbl _ _ _ _ _ _ (ho.vals.mono (zx _ _ _)) (ho'.vals.mono (zx _ _ _))).mono ?_;rintro e w1⟨rfl,hb1⟩;have hX1:=za (wk:=(w.alloc (.cells (oC o a a' cap cap') 145)).alloc (.cells (oC o b b' dap dap') 145)) (b:=w.heap.size) (X:=(oC o a a' cap cap')) (fun j=>by rw[World.cell?_alloc_lt _ _ (aD w.heap.size j) (by simp)];exact zn w _ _ j) (by simp;omega) hb1;have hY1:=za (wk:=(w.alloc (.cells (oC o a a' cap cap') 145)).alloc (.cells (oC o b b' dap dap') 145)) (b:=w.heap.size+1) (X:=(oC o b b' dap dap')) (fun j=>by rw[World.cell?_alloc_at _ _ _ _ (by simp)]) (by simp) hb1;have hz1:w.heap.size+1<w1.heap.size:=by have:=hb1.size;simp at this;omega
 have hB1:Bw w w1:=(zx _ _ _).trans (hb1.mono (by simp;omega));clear hb1;go_wp2_with fail
 refine(zbl _ _ _ _ _ _ (ho.holds.mono hB1) (ho'.holds.mono hB1)).mono ?_;rintro e w2⟨rfl,hb2⟩;have hX2:=za hX1 (by omega) hb2;have hY2:=za hY1 (by omega) hb2;have hB2:=hB1.trans (hb2.mono (by omega));clear hb2 hX1 hY1;go_wp2_with fail
 go_ret;exact⟨rfl,hB2⟩
theorem zsF (w:World)(o1 o2 o3 o4 o5:Obj):(((((w.alloc o1).alloc o2).alloc o3).alloc o4).alloc o5).heap[w.heap.size+1+1+1]?=some o4:=
 (Below.heap_alloc _ _ _ (by simp)).trans (at4 _ _ _ _ _)
theorem zsE (w:World)(o1 o2 o3 o4 o5:Obj):(((((w.alloc o1).alloc o2).alloc o3).alloc o4).alloc o5).heap[w.heap.size+1+1+1+1]?=some o5:=by
 have h:=(MapKept.heap_alloc ((((w.alloc o1).alloc o2).alloc o3).alloc o4) o5).1
 simpa using h
theorem zh2 (o:Ob)(a a':OA)(cap cap':Nat)(w:World)(ho:zab w o a a')(hl:o.vs.length<=1048576)(hl':o.hs.length<=1048576) :
 Calls Tryz.prog 68 #[.agg #[.s o.kd,.s o.nm,.s o.tm,.l a o.vs.length cap,.bool o.en,.l a' o.hs.length cap',.i o.vr]] w fun e w'=>∃bv bh,e=.returned (.agg #[.s o.kd,.s o.nm,.s o.tm,.l (some (aD bv 0)) o.vs.length o.vs.length,.bool o.en,.l (some (aD bh 0)) o.hs.length o.hs.length,.i o.vr]) /\
  w.heap.size<=bv/\w.heap.size<=bh/\bv≠bh/\w'.heap[bv]?=some (.cells (jO o.vs) 9)/\w'.heap[bh]?=some (.cells (jO o.hs) 9)/\Bw w w':=by
 go_enter Tryz.func68,Tryz.ntmps68;go_wp2_with fail
 refine(zbh _ _ _ _ (ho.vals.mono (((bAl _ _).alloc (by simp) _).alloc (by simp;omega) _)) hl).mono ?_;rintro e w1⟨rfl,rfl⟩;go_wp2_with fail
 refine(zbh _ _ _ _ (ho.holds.mono (zkb _ _ _ _ _)) hl').mono ?_;rintro e w2⟨rfl,rfl⟩;go_wp2_with fail
 refine bodyPost_ret (v:=.agg #[.s o.kd,.s o.nm,.s o.tm,.l (some (aD (w.heap.size+1+1+1) 0)) o.vs.length o.vs.length,.bool o.en,.l (some (aD (w.heap.size+1+1+1+1) 0)) o.hs.length o.hs.length,.i o.vr]) (by simp[results,Tryz.results68,go_sem]) rfl ⟨w.heap.size+1+1+1,w.heap.size+1+1+1+1,rfl,by omega,by omega,by omega,zsF _ _ _ _ _ _,zsE _ _ _ _ _ _,(zkb _ _ _ _ _).alloc (by simp;omega) _⟩
theorem zf7 (a:OA)(cap:Nat)(ws:List BA)(w:World)(hw:zJ w a ws) :
 Calls Tryz.prog 259 #[.l a ws.length cap] w fun e w'=>e=.returned (.bool (asc ws))/\w'=w:=by
 have hl:=hw.len;unfold maxLen at hl;go_enter Tryz.func259,Tryz.ntmps259
 go_wp2
 go_loop [7] (fun i=>∃k:Nat,k<=ws.length/\i=.i k/\up (zee ws) k=true) (fun i=>ws.length-(intOf i).toNat)
 case atStart=>exact⟨0,Nat.zero_le _,rfl,rfl⟩
 case round=>
  obtain⟨k,hk,rfl,hup⟩:=hrel
  by_cases hlt:k<ws.length
  ·obtain⟨b,off,rfl,hb,hc⟩:=hw.cells (by rintro rfl;simp at hlt)
   have hsm:=hw.small _ (List.getElem_mem hlt);clear hw;have hck:=hc k hlt
   by_cases hn:zm ws[k]=true
   ·by_cases hk0:k=0
    ·have HF:Hid (up (zee ws) (k+1)=true):=by subst hk0;unfold Hid;rw[jA,zik hlt hn];rfl
     have hg:decide (0<k)=false:=by simp;omega
     have HN:Hid (zm ws[k]=true):=hn;clear hn hc hup hk0
     go_wp2_with (go_at_call 153;refine(zf HN.o (zB _ _ hsm)).mono ?_;rintro e w'⟨rfl,rfl⟩)
     go_round
     case rel=>exact⟨k+1,by omega,by go_num,HF.o⟩
     case measure=>simp[intOf];omega
    ·obtain⟨m,rfl⟩:∃m,k=m+1:=⟨k-1,by omega⟩
     have hcm:=hc m (by omega);have HU:Hid (up (zee ws) (m+1+1)=less ws[m] ws[m+1]):=by unfold Hid;rw[jA,hup,zez hlt hn];rfl
     have HNN:Hid (less ws[m] ws[m+1]=false->asc ws=false):=fun h=>za2 hlt (by rw[zez hlt hn];exact h)
     have HN:Hid (zm ws[m+1]=true):=hn;clear hn hc hup hk0
     by_cases hls:less ws[m] ws[m+1]=true
     ·have hls':Op.bytesLess ws[m].toList ws[m+1].toList=true:=hls
      have HLS:Hid (less ws[m] ws[m+1]=true):=hls;clear hls
      go_wp2_with (go_at_call 153;refine(zf HN.o (zB _ _ hsm)).mono ?_;rintro e w'⟨rfl,rfl⟩)
      go_round
      case rel=>exact⟨m+1+1,by omega,by go_num,by rw[HU.o,HLS.o]⟩
      case measure=>simp[intOf];omega
     ·have hls':Op.bytesLess ws[m].toList ws[m+1].toList=false:=by simpa[less] using hls
      have HLS:Hid (less ws[m] ws[m+1]=false):=hls';clear hls
      go_wp2_with (go_at_call 153;refine(zf HN.o (zB _ _ hsm)).mono ?_;rintro e w'⟨rfl,rfl⟩)
      go_ret;exact⟨ze (HNN.o HLS.o).symm,rfl⟩
   ·have hn':zm ws[k]=false:=by simpa using hn
    have HF:Hid (asc ws=false):=za2 hlt (zka hlt hn');have HN:Hid (zm ws[k]=false):=hn';clear hn hn' hc hup
    go_wp2_with (go_at_call 153;refine(zf HN.o (zB _ _ hsm)).mono ?_;rintro e w'⟨rfl,rfl⟩)
    go_ret;exact⟨ze HF.o.symm,rfl⟩
  ·have HF:Hid (asc ws=true):=by
    have e:k=ws.length:=by omega
    subst e;exact hup
   clear hw hup
   go_wp2
   go_ret;exact⟨ze HF.o.symm,rfl⟩
end Go.Proofs.YthdfpinbnncghaaGreat
