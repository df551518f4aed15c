import Derived.Test.YtecncindgjdbiaaGreatM08
import Derived.Test.YtecncindgjdbiaaGreatM09
set_option maxHeartbeats 2000000
namespace Go.Proofs.YtecncindgjdbiaaGreat
open Go.RowKit
def Mnd.sz (m:Mnd):Nat:=m.kd.size+m.fd.size+m.wh.size+m.wi.size+m.pt.size+m.fr.size
def ziZ (ms:List Mnd):Nat:=(ms.map Mnd.sz).sum
def zbg (ms:List Mnd):Nat:=ms.length+ziZ ms
theorem zfd (m:Mnd)(left:Int)(w:World)(hm:m.Small)(h0:0<=left)(h1:left<=1048576) :
 Calls Tryz.prog 57 #[.agg m.cells,.i left] w fun e w'=>e=.returned (.i (zL m.sz left))/\Bw w w':=by
 have k1:=hm.kd;have k2:=hm.fd;have k3:=hm.wh;have k4:=hm.wi;have k5:=hm.pt;have k6:=hm.fr;unfold maxLen at k1 k2 k3 k4 k5 k6;unfold Mnd.cells;have hB:∀ob,Bw w (w.alloc ob):=fun ob=>bAl _ _
 by_cases hf:(m.sz:Int)<=left
 ·have HF:Hid (zL m.sz left=left-m.kd.size-m.fd.size-m.wh.size-m.wi.size-m.pt.size-m.fr.size):=by
   unfold Hid;rw[zM hf];unfold Mnd.sz;omega
  unfold Mnd.sz at hf;go_enter Tryz.func57,Tryz.ntmps57;go_wp2_with fail
  go_ret;exact⟨zo HF.o.symm,hB _⟩
 ·have HF:Hid (zL m.sz left=-1):=zC hf
  have HN:Hid (¬((m.kd.size+m.fd.size+m.wh.size+m.wi.size+m.pt.size+m.fr.size:Nat):Int)<=left):=hf;clear hf;go_enter Tryz.func57,Tryz.ntmps57;go_wp2_with fail
  all_goals go_ret
  all_goals first|exact⟨zo HF.o.symm,hB _⟩|(exfalso;have:=HN.o;simp at *;omega)
theorem zjL (m:Mnd)(left:Int)(w:World)(hm:m.Small)(h0:0<=left)(h1:left<=1048576)(h:(m.sz:Int)<=left) :
 Calls Tryz.prog 57 #[.agg m.cells,.i left] w fun e w'=>e=.returned (.i (left-m.sz))/\Bw w w':=by
 refine(zfd m left w hm h0 h1).mono ?_;rintro e w'⟨rfl,hb⟩;exact⟨zo (zM h),hb⟩
theorem zkx (m:Mnd)(left:Int)(w:World)(hm:m.Small)(h0:0<=left)(h1:left<=1048576)(h:¬(m.sz:Int)<=left) :
 Calls Tryz.prog 57 #[.agg m.cells,.i left] w fun e w'=>e=.returned (.i (-1))/\Bw w w':=by
 refine(zfd m left w hm h0 h1).mono ?_;rintro e w'⟨rfl,hb⟩;exact⟨zo (zC h),hb⟩
theorem zin (a:OA)(cap:Nat)(ms:List Mnd)(left:Int)(w:World)(hw:qL w a ms)(h0:0<=left)(h1:left<=1048576) :
 Calls Tryz.prog 16 #[.l a ms.length cap,.i left] w fun e w'=>e=.returned (.i (zL (zbg ms) left))/\Bw w w':=by
 have hl:=hw.len;unfold maxLen at hl
 by_cases hfit:(ms.length:Int)<=left
 ·go_enter Tryz.func16,Tryz.ntmps16
  go_wp2_with fail
  go_loopw [1,5] (fun l i wr=>∃k:Nat,k<=ms.length/\i=.i k/\0<=left-ms.length-ziZ (ms.take k)/\l=.i (left-ms.length-ziZ (ms.take k))/\Bw w wr) (fun _ i _=>ms.length-(intOf i).toNat)
  case atStart=>exact⟨0,Nat.zero_le _,rfl,by simp[ziZ];omega,by simp[ziZ],bRf _ _⟩
  case round=>
   obtain⟨k,hk,rfl,hpos,rfl,hB⟩:=hrel
   by_cases hlt:k<ms.length
   ·obtain⟨b,off,rfl,hb,c0,c1,c2,c3,c4,c5⟩:=hw.load hB k hlt
    have hsm:=hw.small k hlt;have HS:Hid (ziZ (ms.take (k+1))=ziZ (ms.take k)+ms[k].sz):=za5 Mnd.sz ms k hlt;have hle:ziZ (ms.take (k+1))<=ziZ ms:=zcI Mnd.sz ms (k+1);clear hw
    by_cases hneg:(ms[k].sz:Int)<=left-ms.length-ziZ (ms.take k)
    ·have HNG:Hid ((ms[k].sz:Int)<=left-ms.length-ziZ (ms.take k)):=hneg
     clear hle;go_wp2_with fail
     refine(zjL _ _ _ hsm hpos (by omega) HNG.o).mono ?_;rintro e w1⟨rfl,hb1⟩;have hB1:=hB.trans (hb1.mono hB.size);clear hb1;go_wp2_with fail
     exact⟨⟨k+1,by omega,by go_num,by rw[HS.o];omega,by rw[HS.o];congr 1;omega,hB1⟩,by simp[intOf];omega⟩
    ·have HF:Hid (zL (zbg ms) left=-1):=zC (by have:=HS.o;unfold zbg;omega)
     have HNG:=hid hneg;clear hneg hle;go_wp2_with fail
     refine(zkx _ _ _ hsm hpos (by omega) (by have:=HNG.o;omega)).mono ?_;rintro e w1⟨rfl,hb1⟩;have hB1:=hB.trans (hb1.mono hB.size);clear hb1;go_wp2_with fail
     go_ret;exact⟨zo HF.o.symm,hB1⟩
   ·have HF:Hid (zL (zbg ms) left=left-ms.length-ziZ (ms.take k)):=by
     rw[tOl (by omega)]at hpos ⊢;have e:zL (zbg ms) left=left-zbg ms:=zM (by unfold zbg;omega);unfold Hid;rw[e];unfold zbg;omega
    clear hw
    go_wp2
    go_ret;exact⟨zo HF.o.symm,hB⟩
 ·have HF:Hid (zL (zbg ms) left=-1):=zC (by unfold zbg;omega)
  clear hw;go_enter Tryz.func16,Tryz.ntmps16
  go_wp2
  go_ret;exact⟨zo HF.o.symm,bRf _ _⟩
theorem zjo (m:Mnd)(w:World):Calls Tryz.prog 94 #[.agg m.cells,.agg m.cells] w fun e w'=>e=.returned (.bool true)/\Bw w w':=by
 unfold Mnd.cells;go_enter Tryz.func94,Tryz.ntmps94;go_wp2_with fail
 go_ret;exact⟨rfl,zw _ _ _⟩
theorem ziS (a a':OA)(cap cap':Nat)(ms:List Mnd)(w:World)(hw:qL w a ms)(hw':qL w a' ms) :
 Calls Tryz.prog 43 #[.l a ms.length cap,.l a' ms.length cap'] w fun e w'=>e=.returned (.bool true)/\Bw w w':=by
 have hl:=hw.len;unfold maxLen at hl;have hnn:((ms.length:Int) != ms.length)=false:=by simp
 go_enter Tryz.func43,Tryz.ntmps43;go_wp2_with fail
 go_loopw [5] (fun i wr=>∃k:Nat,k<=ms.length/\i=.i k/\Bw w wr) (fun i _=>ms.length-(intOf i).toNat)
 case atStart=>exact⟨0,Nat.zero_le _,rfl,bRf _ _⟩
 case round=>
  obtain⟨k,hk,rfl,hB⟩:=hrel
  by_cases hlt:k<ms.length
  ·obtain⟨b,off,rfl,hb,c0,c1,c2,c3,c4,c5⟩:=hw.load hB k hlt
   obtain⟨b',off',rfl,hb',d0,d1,d2,d3,d4,d5⟩:=hw'.load hB k hlt;have hltI:(k:Int)<(ms.length:Int):=by omega
   clear hw hw';go_wp2_with fail
   go_region_with (go_at_call 94;refine(zjo ms[k] _).mono ?_;rintro e w1⟨rfl,hb1'⟩;have hb1:=(bRf wr.heap.size wr).drew.trans hb1';clear hb1')
   all_goals go_wp2_with fail
   all_goals exact⟨⟨k+1,by omega,by go_num,hB.trans (hb1.mono hB.size)⟩,by simp[intOf];omega⟩
  ·clear hw hw'
   go_wp2_with fail
   go_ret;exact⟨rfl,hB⟩
structure je (lo:Nat)(w:World)(bo:Nat)(ms:List Mnd)(k:Nat):Prop where
 low:lo<=bo
 rows:∃C,w.heap[bo]?=some (.cells C 136)/\C.size=ms.length*6/\∀i (h:i<ms.length),i<k->∀j,j<6->C[i*6+j]?=ms[i].cells[j]?
theorem je.at {lo:Nat}{w:World}{bo:Nat}{ms:List Mnd}(h:je lo w bo ms ms.length)(hs:∀i (h:i<ms.length),ms[i].Small)(hl:ms.length<=maxLen):qL w (some (aD bo 0)) ms:=by
 obtain⟨C,hC,hsz,hr⟩:=h.rows;refine⟨hl,hs,fun _=>⟨bo,0,rfl,(gES hC).1,fun i hi j hj=>?_⟩⟩;rw[cell_of_block hC,Nat.zero_add];exact hr i hi hi j hj
theorem je.later {lo:Nat}{w w':World}{bo:Nat}{ms:List Mnd}{k:Nat}(h:je lo w bo ms k)(hb:Bw w w'):je lo w' bo ms k:=by
 obtain⟨C,hC,hsz,hr⟩:=h.rows;exact⟨h.low,C,(hb.block bo (gES hC).1).trans hC,hsz,hr⟩
theorem zeM (m:Tm)(left:Int)(w:World)(hm:m.Small)(h0:0<=left)(h1:left<=1048576) :
 Calls Tryz.prog 58 #[.agg m.cells,.i left] w fun e w'=>e=.returned (.i (zL m.sz left))/\Bw w w':=by
 have k1:=hm.nm;have k2:=hm.ov;unfold maxLen at k1 k2;unfold Tm.cells;have hB:∀ob,Bw w (w.alloc ob):=fun ob=>bAl _ _
 by_cases hf:(m.sz:Int)<=left
 ·have HF:Hid (zL m.sz left=left-m.nm.size-m.ov.size):=by
   unfold Hid;rw[zM hf];unfold Tm.sz;omega
  unfold Tm.sz at hf;go_enter Tryz.func58,Tryz.ntmps58;go_wp2_with fail
  go_ret;exact⟨zo HF.o.symm,hB _⟩
 ·have HF:Hid (zL m.sz left=-1):=zC hf
  have HN:Hid (¬((m.nm.size+m.ov.size:Nat):Int)<=left):=hf;clear hf;go_enter Tryz.func58,Tryz.ntmps58;go_wp2_with fail
  all_goals go_ret
  all_goals first|exact⟨zo HF.o.symm,hB _⟩|(exfalso;have:=HN.o;simp at *;omega)
theorem zj4 (m:Tm)(left:Int)(w:World)(hm:m.Small)(h0:0<=left)(h1:left<=1048576)(h:(m.sz:Int)<=left) :
 Calls Tryz.prog 58 #[.agg m.cells,.i left] w fun e w'=>e=.returned (.i (left-m.sz))/\Bw w w':=by
 refine(zeM m left w hm h0 h1).mono ?_;rintro e w'⟨rfl,hb⟩;exact⟨zo (zM h),hb⟩
theorem zk8 (m:Tm)(left:Int)(w:World)(hm:m.Small)(h0:0<=left)(h1:left<=1048576)(h:¬(m.sz:Int)<=left) :
 Calls Tryz.prog 58 #[.agg m.cells,.i left] w fun e w'=>e=.returned (.i (-1))/\Bw w w':=by
 refine(zeM m left w hm h0 h1).mono ?_;rintro e w'⟨rfl,hb⟩;exact⟨zo (zC h),hb⟩
theorem zik (a:OA)(cap:Nat)(ts:List Tm)(left:Int)(w:World)(hw:jQ w a ts)(h0:0<=left)(h1:left<=1048576) :
 Calls Tryz.prog 17 #[.l a ts.length cap,.i left] w fun e w'=>e=.returned (.i (zL (zdc ts) left))/\Bw w w':=by
 have hl:=hw.len;unfold maxLen at hl
 by_cases hfit:(ts.length:Int)<=left
 ·go_enter Tryz.func17,Tryz.ntmps17
  go_wp2_with fail
  go_loopw [1,5] (fun l i wr=>∃k:Nat,k<=ts.length/\i=.i k/\0<=left-ts.length-zil (ts.take k)/\l=.i (left-ts.length-zil (ts.take k))/\Bw w wr) (fun _ i _=>ts.length-(intOf i).toNat)
  case atStart=>exact⟨0,Nat.zero_le _,rfl,by simp[zil];omega,by simp[zil],bRf _ _⟩
  case round=>
   obtain⟨k,hk,rfl,hpos,rfl,hB⟩:=hrel
   by_cases hlt:k<ts.length
   ·obtain⟨b,off,rfl,hb,c0,c1⟩:=hw.load hB k hlt
    have hsm:=hw.small k hlt;have HS:Hid (zil (ts.take (k+1))=zil (ts.take k)+ts[k].sz):=za5 Tm.sz ts k hlt;have hle:zil (ts.take (k+1))<=zil ts:=zcI Tm.sz ts (k+1);clear hw
    by_cases hneg:(ts[k].sz:Int)<=left-ts.length-zil (ts.take k)
    ·have HNG:Hid ((ts[k].sz:Int)<=left-ts.length-zil (ts.take k)):=hneg
     clear hle;go_wp2_with fail
     refine(zj4 _ _ _ hsm hpos (by omega) HNG.o).mono ?_;rintro e w1⟨rfl,hb1⟩;have hB1:=hB.trans (hb1.mono hB.size);clear hb1;go_wp2_with fail
     exact⟨⟨k+1,by omega,by go_num,by rw[HS.o];omega,by rw[HS.o];congr 1;omega,hB1⟩,by simp[intOf];omega⟩
    ·have HF:Hid (zL (zdc ts) left=-1):=zC (by have:=HS.o;unfold zdc;omega)
     have HNG:=hid hneg;clear hneg hle;go_wp2_with fail
     refine(zk8 _ _ _ hsm hpos (by omega) (by have:=HNG.o;omega)).mono ?_;rintro e w1⟨rfl,hb1⟩;have hB1:=hB.trans (hb1.mono hB.size);clear hb1;go_wp2_with fail
     go_ret;exact⟨zo HF.o.symm,hB1⟩
   ·have HF:Hid (zL (zdc ts) left=left-ts.length-zil (ts.take k)):=by
     rw[tOl (by omega)]at hpos ⊢;have e:zL (zdc ts) left=left-zdc ts:=zM (by unfold zdc;omega);unfold Hid;rw[e];unfold zdc;omega
    clear hw
    go_wp2
    go_ret;exact⟨zo HF.o.symm,hB⟩
 ·have HF:Hid (zL (zdc ts) left=-1):=zC (by unfold zdc;omega)
  clear hw;go_enter Tryz.func17,Tryz.ntmps17
  go_wp2
  go_ret;exact⟨zo HF.o.symm,bRf _ _⟩
theorem zkb (m:Tm)(w:World):Calls Tryz.prog 95 #[.agg m.cells,.agg m.cells] w fun e w'=>e=.returned (.bool true)/\Bw w w':=by
 unfold Tm.cells;go_enter Tryz.func95,Tryz.ntmps95;go_wp2_with fail
 go_ret;exact⟨rfl,zw _ _ _⟩
theorem ziG (a a':OA)(cap cap':Nat)(ts:List Tm)(w:World)(hw:jQ w a ts)(hw':jQ w a' ts) :
 Calls Tryz.prog 44 #[.l a ts.length cap,.l a' ts.length cap'] w fun e w'=>e=.returned (.bool true)/\Bw w w':=by
 have hl:=hw.len;unfold maxLen at hl;have hnn:((ts.length:Int) != ts.length)=false:=by simp
 go_enter Tryz.func44,Tryz.ntmps44;go_wp2_with fail
 go_loopw [5] (fun i wr=>∃k:Nat,k<=ts.length/\i=.i k/\Bw w wr) (fun i _=>ts.length-(intOf i).toNat)
 case atStart=>exact⟨0,Nat.zero_le _,rfl,bRf _ _⟩
 case round=>
  obtain⟨k,hk,rfl,hB⟩:=hrel
  by_cases hlt:k<ts.length
  ·obtain⟨b,off,rfl,hb,c0,c1⟩:=hw.load hB k hlt
   obtain⟨b',off',rfl,hb',d0,d1⟩:=hw'.load hB k hlt;have hltI:(k:Int)<(ts.length:Int):=by omega
   clear hw hw';go_wp2_with fail
   go_region_with (go_at_call 95;refine(zkb ts[k] _).mono ?_;rintro e w1⟨rfl,hb1'⟩;have hb1:=(bRf wr.heap.size wr).drew.trans hb1';clear hb1')
   all_goals go_wp2_with fail
   all_goals exact⟨⟨k+1,by omega,by go_num,hB.trans (hb1.mono hB.size)⟩,by simp[intOf];omega⟩
  ·clear hw hw'
   go_wp2_with fail
   go_ret;exact⟨rfl,hB⟩
theorem zkv (m:Tm)(w:World) :
 Calls Tryz.prog 74 #[.agg m.cells] w fun e w'=>e=.returned (.agg m.cells)/\Bw w w':=by
 unfold Tm.cells;go_enter Tryz.func74,Tryz.ntmps74;go_wp2_with fail
 refine bodyPost_ret (v:=.agg #[.s m.nm,.s m.ov]) (by simp[results,Tryz.results74,go_sem]) rfl ⟨rfl,?_⟩;exact(((bAl _ _).alloc (by simp) _).alloc (by simp;omega) _)
theorem ziY (a:OA)(cap:Nat)(ts:List Tm)(w:World)(hw:jQ w a ts)(hl:ts.length<=1048576) :
 Calls Tryz.prog 28 #[.l a ts.length cap] w fun e w'=>e=.returned (.l (some (aD w.heap.size 0)) ts.length ts.length)/\zae 138 w.heap.size w' w.heap.size ts ts.length/\Bw w w':=by
 have hmk:∀w:World,(Instr.makeSlice 45 (.i ts.length) (.i ts.length)).run Tryz.prog w=.ok (.l (some (aD w.heap.size 0)) ts.length ts.length) (w.alloc (.cells (zpf ts.length) 138)):=
  fun w=>jy (P:=Tryz.prog) 45 138 (.agg zqJ) 2 32 Tryz.underlying45 (by kernel_rfl) ts.length (by omega) (by omega) w
 go_enter Tryz.func28,Tryz.ntmps28;go_wp2_with fail
 clear hmk
 go_loopw [4] (fun i wr=>∃k:Nat,k<=ts.length/\i=.i k/\zae 138 w.heap.size wr w.heap.size ts k/\Bw w wr) (fun i _=>ts.length-(intOf i).toNat)
 case atStart=>exact⟨0,Nat.zero_le _,rfl,⟨Nat.le_refl _,zpf ts.length,(MapKept.heap_alloc w _).1,size_madeCells _ _,fun i _ h=>absurd h (by omega)⟩,bAl _ _⟩
 case round=>
  obtain⟨k,hk,rfl,hown,hB⟩:=hrel
  by_cases hlt:k<ts.length
  ·obtain⟨b,off,rfl,hb,c0,c1⟩:=hw.load hB k hlt
   have hltI:(k:Int)<(ts.length:Int):=by omega
   clear hw;go_wp2_with fail
   refine(zkv ts[k] _).mono ?_;rintro e w1⟨rfl,hb1⟩;have hB1:=hB.trans (hb1.mono hB.size);have hown1:=hown.later hb1
   have hbo:w.heap.size<wr.heap.size:=by
    obtain⟨C',hC',_⟩:=hown.rows;exact(gES hC').1
   obtain⟨C,hC,hsz,_⟩:=hown1.rows;have hfz:∀o,w1.frozen? (aD w.heap.size o)=false:=fun o=>zh hC
   have hex:∀o,o<ts.length*2->∃v,w1.cell? (aD w.heap.size o)=some v:=fun o ho=>⟨C[o]'(by omega),by rw[cell_of_block hC];exact Array.getElem?_eq_getElem (by omega)⟩
   obtain⟨v0,hv0⟩:=hex (k*2) (by omega);obtain⟨v1,hv1⟩:=hex (k*2+1) (by omega);have HP:=hid hown1;clear hex hC hsz c0 c1 hown hown1;unfold Tm.cells;go_wp2_with fail
   exact⟨⟨k+1,by omega,by go_num,HP.o.put hlt,zoF hB1 (Nat.le_refl _) _ _ _⟩,by simp[intOf];omega⟩
  ·have HF:Hid (zae 138 w.heap.size wr w.heap.size ts ts.length):=by
    have e:k=ts.length:=by omega
    subst e;exact hown
   clear hw hown;go_wp2_with fail
   go_ret;exact⟨rfl,HF.o,hB⟩
structure y9 (w:World)(a:OA)(vs:List Int):Prop where
 len:vs.length<=maxLen
 cells:vs≠[]->∃b off,a=some (aD b off)/\b<w.heap.size/\∀i (h:i<vs.length),w.cell? (aD b (off+i))=some (.i vs[i])
theorem y9.mono {w w':World}{a:OA}{vs:List Int}(h:y9 w a vs)(hb:Bw w w'):y9 w' a vs:=
 ⟨h.len,fun hne=>by
  obtain⟨b,off,ha,hbs,hc⟩:=h.cells hne;exact⟨b,off,ha,nLt hbs hb.size,fun i hi=>(hb.cell (p:=(aD b (off+i))) hbs).trans (hc i hi)⟩⟩
theorem y9.load {w w':World}{a:OA}{vs:List Int}(h:y9 w a vs)(hl:Bw w w')(i:Nat)(hi:i<vs.length):∃b off,a=some (aD b off)/\b<w.heap.size/\w'.cell? (aD b (off+i))=some (.i vs[i]):=by
 obtain⟨b,off,ha,hb,hc⟩:=h.cells (by rintro rfl;simp at hi);exact⟨b,off,ha,hb,(hl.cell (p:=(aD b (off+i))) hb).trans (hc i hi)⟩
def zbQ (vs:List Int):AV:=(vs.map (Value.int .i64)).toArray
def intCells (vs:List Int)(k:Nat):AV:=((vs.take k).map (Value.int .i64)++List.replicate (vs.length-k) (Value.i 0)).toArray
theorem zm3 (vs:List Int)(k:Nat)(h:k<vs.length):(intCells vs k)[k]?=some (.i 0):=by
 unfold intCells;have hl:((vs.take k).map (Value.int .i64)).length=k:=by simp;omega
 rw[List.getElem?_toArray,List.getElem?_append_right (by omega),hl,Nat.sub_self];obtain⟨m,hm⟩:∃m,vs.length-k=m+1:=⟨vs.length-k-1,by omega⟩
 rw[hm,List.replicate_succ];rfl
theorem zl7 (vs:List Int)(k:Nat)(h:k<vs.length):(intCells vs k).setIfInBounds k (.i vs[k])=intCells vs (k+1):=by
 unfold intCells;rw[List.setIfInBounds_toArray,List.set_append_right _ _ (by simp;omega)]
 congr 1
 rw[tSe h,List.map_append,List.append_assoc]
 congr 1
 obtain⟨m,hm⟩:∃m,vs.length-k=m+1:=⟨vs.length-k-1,by omega⟩
 rw[hm,show vs.length-(k+1)=m by omega]
 have:k-((vs.take k).map (Value.int .i64)).length=0:=by simp;omega
 rw[this,List.replicate_succ]
 rfl
theorem zl8 (vs:List Int)(k:Nat)(h:vs.length<=k):intCells vs k=zbQ vs:=by
 unfold intCells zbQ;rw[tOl h,show vs.length-k=0 by omega];simp
theorem zkI (vs:List Int):madeCells #[Value.i 0] vs.length=intCells vs 0:=by
 apply Array.toList_inj.1
 rw[toList_madeCells_one]
 simp[intCells]
theorem zhe {w:World}{bk:Nat}{vs:List Int}{t:TypeId}(h:w.heap[bk]?=some (.cells (zbQ vs) t))(hl:vs.length<=maxLen):y9 w (some (aD bk 0)) vs:=
 ⟨hl,fun _=>⟨bk,0,rfl,(gES h).1,fun i hi=>by
  simp[World.cell?,h,zbQ,hi]⟩⟩
def Rl.cells (r:Rl)(a:OA)(cap:Nat):AV:=#[.l a r.vs.length cap,.s r.kd,.s r.tm,.s r.px]
structure Rl.Small (r:Rl):Prop where
 kd:r.kd.size<=maxLen
 tm:r.tm.size<=maxLen
 px:r.px.size<=maxLen
def Rl.sz (r:Rl):Nat:=r.vs.length+r.kd.size+r.tm.size+r.px.size
theorem zG {w:World}{b o:Nat}{v:Value}{b':Nat}(h:b'≠b):(w.setCell (aD b o) v).heap[b']?=w.heap[b']?:=by
 simp only[World.setCell,Array.getElem?_modify];rw[if_neg (fun e=>h (Eq.symm e))]
theorem zp9 (w:World)(o1:Obj)(X:AV)(t:TypeId):∀o,((w.alloc o1).alloc (.cells X t)).cell? (aD (w.heap.size+1) o)=X[o]?:=by
 intro o;have h:=zl (w.alloc o1) X t o;have e:(w.alloc o1).heap.size=w.heap.size+1:=by simp
 rw[e]at h;exact h
def zdI (o:Ob):Nat:=o.kd.size+o.nm.size+o.tm.size+qX o.vs+qX o.hs
theorem zhH (o:Ob)(a a':OA)(cap cap':Nat)(left:Int)(w:World)(ho:jT w o a a')(h0:0<=left)(h1:left<=1048576) :
 Calls Tryz.prog 59 #[.agg #[.s o.kd,.s o.nm,.s o.tm,.l a o.vs.length cap,.bool o.en,.l a' o.hs.length cap',.i o.vr],.i left] w fun e w'=>e=.returned (.i (zL (zdI o) left))/\Bw w w':=by
 have hkd:=ho.small.kd;have hnm:=ho.small.nm;have htm:=ho.small.tm;have hv:=ho.vals;have hh:=ho.holds;clear ho;unfold maxLen at hkd hnm htm
 by_cases c1:(o.kd.size:Int)<=left
 rotate_left
 ·have HF:Hid (zL (zdI o) left=-1):=zC (by unfold zdI;omega)
  go_enter Tryz.func59,Tryz.ntmps59;go_wp2_with fail
  go_ret;exact⟨zo HF.o.symm,bAl _ _⟩
 by_cases c2:(o.nm.size:Int)<=left-o.kd.size
 rotate_left
 ·have HF:Hid (zL (zdI o) left=-1):=zC (by unfold zdI;omega)
  go_enter Tryz.func59,Tryz.ntmps59;go_wp2_with fail
  go_ret;exact⟨zo HF.o.symm,bAl _ _⟩
 by_cases c3:(o.tm.size:Int)<=left-o.kd.size-o.nm.size
 rotate_left
 ·have HF:Hid (zL (zdI o) left=-1):=zC (by unfold zdI;omega)
  go_enter Tryz.func59,Tryz.ntmps59;go_wp2_with fail
  go_ret;exact⟨zo HF.o.symm,bAl _ _⟩
 by_cases c4:(qX o.vs:Int)<=left-o.kd.size-o.nm.size-o.tm.size
 rotate_left
 ·have HF:Hid (zL (zdI o) left=-1):=zC (by unfold zdI;omega)
  go_enter Tryz.func59,Tryz.ntmps59;go_wp2_with fail
  refine(zeh _ _ _ _ _ (hv.mono (bAl _ _)) (by omega) (by omega) (by omega)).mono ?_;rintro e w1⟨rfl,rfl⟩;go_wp2_with fail
  go_ret;exact⟨zo HF.o.symm,bAl _ _⟩
 by_cases c5:(qX o.hs:Int)<=left-o.kd.size-o.nm.size-o.tm.size-qX o.vs
 rotate_left
 ·have HF:Hid (zL (zdI o) left=-1):=zC (by unfold zdI;omega)
  go_enter Tryz.func59,Tryz.ntmps59;go_wp2_with fail
  refine(zaa _ _ _ _ _ (hv.mono (bAl _ _)) (by omega) (by omega) (by omega)).mono ?_;rintro e w1⟨rfl,rfl⟩;go_wp2_with fail
  refine(zeh _ _ _ _ _ (hh.mono (bAl _ _)) (by omega) (by omega) (by omega)).mono ?_;rintro e w1⟨rfl,rfl⟩;go_wp2_with fail
  go_ret;exact⟨zo HF.o.symm,bAl _ _⟩
 ·have HF:Hid (zL (zdI o) left=left-o.kd.size-o.nm.size-o.tm.size-qX o.vs-qX o.hs):=by
   have e:zL (zdI o) left=left-zdI o:=zM (by unfold zdI;omega);unfold Hid;rw[e];unfold zdI;omega
  go_enter Tryz.func59,Tryz.ntmps59;go_wp2_with fail
  refine(zaa _ _ _ _ _ (hv.mono (bAl _ _)) (by omega) (by omega) (by omega)).mono ?_;rintro e w1⟨rfl,rfl⟩;go_wp2_with fail
  refine(zaa _ _ _ _ _ (hh.mono (bAl _ _)) (by omega) (by omega) (by omega)).mono ?_;rintro e w1⟨rfl,rfl⟩;go_wp2_with fail
  go_ret;exact⟨zo HF.o.symm,bAl _ _⟩
theorem zhd (o:Ob)(a a' b b':OA)(cap cap' dap dap':Nat)(w:World)(ho:jT w o a a')(ho':jT w o b b') :
 Calls Tryz.prog 89 #[.agg #[.s o.kd,.s o.nm,.s o.tm,.l a o.vs.length cap,.bool o.en,.l a' o.hs.length cap',.i o.vr],.agg #[.s o.kd,.s o.nm,.s o.tm,.l b o.vs.length dap,.bool o.en,.l b' o.hs.length dap',.i o.vr]] w fun e w'=>e=.returned (.bool true)/\Bw w w':=by
 go_enter Tryz.func89,Tryz.ntmps89;go_wp2_with fail
 refine(zdo _ _ _ _ _ _ (ho.vals.mono (zw _ _ _)) (ho'.vals.mono (zw _ _ _))).mono ?_;rintro e w1⟨rfl,hb1⟩;have hX1:=za (wk:=(w.alloc (.cells (oC o a a' cap cap') 123)).alloc (.cells (oC o b b' dap dap') 123)) (b:=w.heap.size) (X:=(oC o a a' cap cap')) (fun j=>by rw[World.cell?_alloc_lt _ _ (aD w.heap.size j) (by simp)];exact zl w _ _ j) (by simp;omega) hb1;have hY1:=za (wk:=(w.alloc (.cells (oC o a a' cap cap') 123)).alloc (.cells (oC o b b' dap dap') 123)) (b:=w.heap.size+1) (X:=(oC o b b' dap dap')) (fun j=>by rw[World.cell?_alloc_at _ _ _ _ (by simp)]) (by simp) hb1;have hz1:w.heap.size+1<w1.heap.size:=by have:=hb1.size;simp at this;omega
 have hB1:Bw w w1:=(zw _ _ _).trans (hb1.mono (by simp;omega));clear hb1;go_wp2_with fail
 refine(zdo _ _ _ _ _ _ (ho.holds.mono hB1) (ho'.holds.mono hB1)).mono ?_;rintro e w2⟨rfl,hb2⟩;have hX2:=za hX1 (by omega) hb2;have hY2:=za hY1 (by omega) hb2;have hB2:=hB1.trans (hb2.mono (by omega));clear hb2 hX1 hY1;go_wp2_with fail
 go_ret;exact⟨rfl,hB2⟩
theorem zrn (w:World)(o1 o2 o3 o4 o5:Obj):(((((w.alloc o1).alloc o2).alloc o3).alloc o4).alloc o5).heap[w.heap.size+1+1+1]?=some o4:=
 (Below.heap_alloc _ _ _ (by simp)).trans (at4 _ _ _ _ _)
theorem zro (w:World)(o1 o2 o3 o4 o5:Obj):(((((w.alloc o1).alloc o2).alloc o3).alloc o4).alloc o5).heap[w.heap.size+1+1+1+1]?=some o5:=by
 have h:=(MapKept.heap_alloc ((((w.alloc o1).alloc o2).alloc o3).alloc o4) o5).1
 simpa using h
theorem zhc (o:Ob)(a a':OA)(cap cap':Nat)(w:World)(ho:jT w o a a')(hl:o.vs.length<=1048576)(hl':o.hs.length<=1048576) :
 Calls Tryz.prog 75 #[.agg #[.s o.kd,.s o.nm,.s o.tm,.l a o.vs.length cap,.bool o.en,.l a' o.hs.length cap',.i o.vr]] w fun e w'=>∃bv bh,e=.returned (.agg #[.s o.kd,.s o.nm,.s o.tm,.l (some (aD bv 0)) o.vs.length o.vs.length,.bool o.en,.l (some (aD bh 0)) o.hs.length o.hs.length,.i o.vr]) /\
  w.heap.size<=bv/\w.heap.size<=bh/\bv≠bh/\w'.heap[bv]?=some (.cells (jS o.vs) 9)/\w'.heap[bh]?=some (.cells (jS o.hs) 9)/\Bw w w':=by
 go_enter Tryz.func75,Tryz.ntmps75;go_wp2_with fail
 refine(zdn _ _ _ _ (ho.vals.mono (((bAl _ _).alloc (by simp) _).alloc (by simp;omega) _)) hl).mono ?_;rintro e w1⟨rfl,rfl⟩;go_wp2_with fail
 refine(zdn _ _ _ _ (ho.holds.mono (zoE _ _ _ _ _)) hl').mono ?_;rintro e w2⟨rfl,rfl⟩;go_wp2_with fail
 refine bodyPost_ret (v:=.agg #[.s o.kd,.s o.nm,.s o.tm,.l (some (aD (w.heap.size+1+1+1) 0)) o.vs.length o.vs.length,.bool o.en,.l (some (aD (w.heap.size+1+1+1+1) 0)) o.hs.length o.hs.length,.i o.vr]) (by simp[results,Tryz.results75,go_sem]) rfl ⟨w.heap.size+1+1+1,w.heap.size+1+1+1+1,rfl,by omega,by omega,by omega,zrn _ _ _ _ _ _,zro _ _ _ _ _ _,(zoE _ _ _ _ _).alloc (by simp;omega) _⟩
theorem zjb {a b:BA}(h:a=b):Ending.returned (.s a)=.returned (.s b):=by rw[h]
theorem zcK (a:OA)(cap:Nat)(ts:List Tm)(v:BA)(w:World)(hw:jQ w a ts) :
 Calls Tryz.prog 144 #[.l a ts.length cap,.s v] w fun e w'=>e=.returned (.s (over ts v))/\w'=w:=by
 have hl:=hw.len;unfold maxLen at hl;go_enter Tryz.func144,Tryz.ntmps144;go_wp2_with fail
 go_loop [5] (fun i=>∃k:Nat,k<=ts.length/\i=.i k/\yB (ts.take k) v=false) (fun i=>ts.length-(intOf i).toNat)
 case atStart=>exact⟨0,Nat.zero_le _,rfl,rfl⟩
 case round=>
  obtain⟨k,hk,rfl,hall⟩:=hrel
  by_cases hlt:k<ts.length
  ·obtain⟨b,off,rfl,hb,c0,c1⟩:=hw.load (bRf _ _) k hlt
   clear hw;have HS:Hid (yB (ts.take (k+1)) v=(false||decide (ts[k].nm=v))):=by rw[zea ts v k hlt,hall];rfl
   have hltI:(k:Int)<(ts.length:Int):=by omega
   by_cases he:ts[k].nm=v
   ·have hbe:(ts[k].nm.toList == v.toList)=true:=by rw[beq_toList];simpa using he
    have HR:=hid (zlD ts v k hlt hall he);clear he hall;go_wp2_with fail
    go_ret;exact⟨zjb HR.o.symm,rfl⟩
   ·have hbe:(ts[k].nm.toList == v.toList)=false:=by rw[beq_toList];simpa using he
    have HE:=hid he;clear he hall;go_wp2_with fail
    go_round
    case rel=>exact⟨k+1,by omega,by go_num,by rw[HS.o,decide_eq_false HE.o];rfl⟩
    case measure=>simp[intOf];omega
  ·have HR:=hid (zhE ts v (by rw[<- zeS ts v k (by omega)];exact hall))
   clear hall hw;go_wp2_with fail
   go_ret;exact⟨zjb HR.o.symm,rfl⟩
theorem zd1 (a:OA)(cap:Nat)(ts:List Tm)(v:BA)(w:World)(hw:jQ w a ts) :
 Calls Tryz.prog 205 #[.l a ts.length cap,.s v] w fun e w'=>e=.returned (.s (over ts v))/\Bw w w':=by
 have hl:=hw.len;unfold maxLen at hl;go_enter Tryz.func205,Tryz.ntmps205;go_wp2_with fail
 go_loopw [9] (fun i wr=>∃k:Nat,k<=ts.length/\i=.i k/\yB (ts.take k) v=false/\Bw w wr) (fun i _=>ts.length-(intOf i).toNat)
 case atStart=>exact⟨0,Nat.zero_le _,rfl,rfl,bRf _ _⟩
 case round=>
  obtain⟨k,hk,rfl,hall,hB⟩:=hrel;have hsz:=hB.size
  by_cases hlt:k<ts.length
  ·obtain⟨b,off,rfl,hb,c0,c1⟩:=hw.load hB k hlt
   clear hw;have HS:Hid (yB (ts.take (k+1)) v=(false||decide (ts[k].nm=v))):=by rw[zea ts v k hlt,hall];rfl
   have hltI:(k:Int)<(ts.length:Int):=by omega
   have hbr:b<wr.heap.size:=by omega
   by_cases he:ts[k].nm=v
   ·have hbe:(ts[k].nm.toList == v.toList)=true:=by rw[beq_toList];simpa using he
    have HR:=hid (zlD ts v k hlt hall he);clear he hall;go_wp2_with fail
    go_ret;exact⟨zjb HR.o.symm,hB.alloc hsz _⟩
   ·have hbe:(ts[k].nm.toList == v.toList)=false:=by rw[beq_toList];simpa using he
    have HE:=hid he;clear he hall;go_wp2_with fail
    exact⟨⟨k+1,by omega,by go_num,by rw[HS.o,decide_eq_false HE.o];rfl,hB.alloc hsz _⟩,by simp[intOf];omega⟩
  ·have HR:=hid (zhE ts v (by rw[<- zeS ts v k (by omega)];exact hall))
   clear hall hw;go_wp2_with fail
   go_ret;exact⟨zjb HR.o.symm,hB⟩
end Go.Proofs.YtecncindgjdbiaaGreat
