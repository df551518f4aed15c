import Derived.Test.YtnapmdofidgliaaGreatM09
set_option maxHeartbeats 2000000
namespace Go.Proofs.YtnapmdofidgliaaGreat
open Go.RowKit
theorem zfk (m:Tm)(left:Int)(w:World)(hm:m.Small)(h0:0<=left)(h1:left<=1048576) :
 Calls Tryz.prog 55 #[.agg m.cells,.int .i64 left] w fun e w'=>e=.returned (.int .i64 (zK m.sz left))/\Below w.heap.size w w':=by
 have k1:=hm.nm;have k2:=hm.ov;unfold maxLen at k1 k2;unfold Tm.cells;have hB:∀ob,Below w.heap.size w (w.alloc ob):=fun ob=>bAl _ _
 by_cases hf:(m.sz:Int)<=left
 ·have HF:Hid (zK m.sz left=left-m.nm.size-m.ov.size):=by
   unfold Hid;rw[zL hf];unfold Tm.sz;omega
  unfold Tm.sz at hf;go_enter Tryz.func55,Tryz.ntmps55;go_wp2_with fail
  go_ret;exact⟨zo HF.out.symm,hB _⟩
 ·have HF:Hid (zK m.sz left=-1):=zC hf
  have HN:Hid (¬((m.nm.size+m.ov.size:Nat):Int)<=left):=hf;clear hf;go_enter Tryz.func55,Tryz.ntmps55;go_wp2_with fail
  all_goals go_ret
  all_goals first|exact⟨zo HF.out.symm,hB _⟩|(exfalso;have:=HN.out;simp at *;omega)
theorem zjg (m:Tm)(left:Int)(w:World)(hm:m.Small)(h0:0<=left)(h1:left<=1048576)(h:(m.sz:Int)<=left) :
 Calls Tryz.prog 55 #[.agg m.cells,.int .i64 left] w fun e w'=>e=.returned (.int .i64 (left-m.sz))/\Below w.heap.size w w':=by
 refine(zfk m left w hm h0 h1).mono ?_;rintro e w'⟨rfl,hb⟩;exact⟨zo (zL h),hb⟩
theorem zk0 (m:Tm)(left:Int)(w:World)(hm:m.Small)(h0:0<=left)(h1:left<=1048576)(h:¬(m.sz:Int)<=left) :
 Calls Tryz.prog 55 #[.agg m.cells,.int .i64 left] w fun e w'=>e=.returned (.int .i64 (-1))/\Below w.heap.size w w':=by
 refine(zfk m left w hm h0 h1).mono ?_;rintro e w'⟨rfl,hb⟩;exact⟨zo (zC h),hb⟩
theorem ziZ (a:Option Addr)(cap:Nat)(ts:List Tm)(left:Int)(w:World)(hw:jX w a ts)(h0:0<=left)(h1:left<=1048576) :
 Calls Tryz.prog 19 #[.slice a ts.length cap,.int .i64 left] w fun e w'=>e=.returned (.int .i64 (zK (zdj ts) left))/\Below w.heap.size w w':=by
 have hl:=hw.len;unfold maxLen at hl
 by_cases hfit:(ts.length:Int)<=left
 ·go_enter Tryz.func19,Tryz.ntmps19
  go_wp2_with fail
  go_loopw [1,5] (fun l i wr=>∃k:Nat,k<=ts.length/\i=.int .i64 k/\0<=left-ts.length-ziY (ts.take k)/\l=.int .i64 (left-ts.length-ziY (ts.take k))/\Below w.heap.size w wr) (fun _ i _=>ts.length-(intOf i).toNat)
  case atStart=>exact⟨0,Nat.zero_le _,rfl,by simp[ziY];omega,by simp[ziY],bRf _ _⟩
  case round=>
   obtain⟨k,hk,rfl,hpos,rfl,hB⟩:=hrel
   by_cases hlt:k<ts.length
   ·obtain⟨b,off,rfl,hb,c0,c1⟩:=hw.load hB k hlt
    have hsm:=hw.small k hlt;have HS:Hid (ziY (ts.take (k+1))=ziY (ts.take k)+ts[k].sz):=zbd Tm.sz ts k hlt;have hle:ziY (ts.take (k+1))<=ziY ts:=zcY Tm.sz ts (k+1);clear hw
    by_cases hneg:(ts[k].sz:Int)<=left-ts.length-ziY (ts.take k)
    ·have HNG:Hid ((ts[k].sz:Int)<=left-ts.length-ziY (ts.take k)):=hneg
     clear hle;go_wp2_with fail
     refine(zjg _ _ _ hsm hpos (by omega) HNG.out).mono ?_;rintro e w1⟨rfl,hb1⟩;have hB1:=hB.trans (hb1.mono hB.size);clear hb1;go_wp2_with fail
     exact⟨⟨k+1,by omega,by go_num,by rw[HS.out];omega,by rw[HS.out];congr 1;omega,hB1⟩,by simp[intOf];omega⟩
    ·have HF:Hid (zK (zdj ts) left=-1):=zC (by have:=HS.out;unfold zdj;omega)
     have HNG:=hid hneg;clear hneg hle;go_wp2_with fail
     refine(zk0 _ _ _ hsm hpos (by omega) (by have:=HNG.out;omega)).mono ?_;rintro e w1⟨rfl,hb1⟩;have hB1:=hB.trans (hb1.mono hB.size);clear hb1;go_wp2_with fail
     go_ret;exact⟨zo HF.out.symm,hB1⟩
   ·have HF:Hid (zK (zdj ts) left=left-ts.length-ziY (ts.take k)):=by
     rw[tOl (by omega)]at hpos ⊢;have e:zK (zdj ts) left=left-zdj ts:=zL (by unfold zdj;omega);unfold Hid;rw[e];unfold zdj;omega
    clear hw
    go_wp2
    go_ret;exact⟨zo HF.out.symm,hB⟩
 ·have HF:Hid (zK (zdj ts) left=-1):=zC (by unfold zdj;omega)
  clear hw;go_enter Tryz.func19,Tryz.ntmps19
  go_wp2
  go_ret;exact⟨zo HF.out.symm,bRf _ _⟩
theorem zkk (m:Tm)(w:World):Calls Tryz.prog 85 #[.agg m.cells,.agg m.cells] w fun e w'=>e=.returned (.bool true)/\Below w.heap.size w w':=by
 unfold Tm.cells;go_enter Tryz.func85,Tryz.ntmps85;go_wp2_with fail
 go_ret;exact⟨rfl,zw _ _ _⟩
theorem ziE (a a':Option Addr)(cap cap':Nat)(ts:List Tm)(w:World)(hw:jX w a ts)(hw':jX w a' ts) :
 Calls Tryz.prog 41 #[.slice a ts.length cap,.slice a' ts.length cap'] w fun e w'=>e=.returned (.bool true)/\Below w.heap.size w w':=by
 have hl:=hw.len;unfold maxLen at hl;have hnn:((ts.length:Int) != ts.length)=false:=by simp
 go_enter Tryz.func41,Tryz.ntmps41;go_wp2_with fail
 go_loopw [5] (fun i wr=>∃k:Nat,k<=ts.length/\i=.int .i64 k/\Below w.heap.size w wr) (fun i _=>ts.length-(intOf i).toNat)
 case atStart=>exact⟨0,Nat.zero_le _,rfl,bRf _ _⟩
 case round=>
  obtain⟨k,hk,rfl,hB⟩:=hrel
  by_cases hlt:k<ts.length
  ·obtain⟨b,off,rfl,hb,c0,c1⟩:=hw.load hB k hlt
   obtain⟨b',off',rfl,hb',d0,d1⟩:=hw'.load hB k hlt;have hltI:(k:Int)<(ts.length:Int):=by omega
   clear hw hw';go_wp2_with fail
   go_region_with (go_at_call 85;refine(zkk ts[k] _).mono ?_;rintro e w1⟨rfl,hb1'⟩;have hb1:=(bRf wr.heap.size wr).drew.trans hb1';clear hb1')
   all_goals go_wp2_with fail
   all_goals exact⟨⟨k+1,by omega,by go_num,hB.trans (hb1.mono hB.size)⟩,by simp[intOf];omega⟩
  ·clear hw hw'
   go_wp2_with fail
   go_ret;exact⟨rfl,hB⟩
theorem zjV (m:Tm)(w:World) :
 Calls Tryz.prog 69 #[.agg m.cells] w fun e w'=>e=.returned (.agg m.cells)/\Below w.heap.size w w':=by
 unfold Tm.cells;go_enter Tryz.func69,Tryz.ntmps69;go_wp2_with fail
 refine bodyPost_ret (v:=.agg #[.string m.nm,.string m.ov]) (by simp[results,Tryz.results69,go_sem]) rfl ⟨rfl,?_⟩;exact(((bAl _ _).alloc (by simp) _).alloc (by simp;omega) _)
theorem ziP (a:Option Addr)(cap:Nat)(ts:List Tm)(w:World)(hw:jX w a ts)(hl:ts.length<=1048576) :
 Calls Tryz.prog 31 #[.slice a ts.length cap] w fun e w'=>e=.returned (.slice (some ⟨w.heap.size,0,none⟩) ts.length ts.length)/\zam 135 w.heap.size w' w.heap.size ts ts.length/\Below w.heap.size w w':=by
 have hmk:∀w:World,(Instr.makeSlice 39 (.int .i64 ts.length) (.int .i64 ts.length)).run Tryz.prog w=.ok (.slice (some ⟨w.heap.size,0,none⟩) ts.length ts.length) (w.alloc (.cells (zpn ts.length) 135)):=
  fun w=>jI (P:=Tryz.prog) 39 135 (.agg zqK) 2 32 Tryz.underlying39 (by kernel_rfl) ts.length (by omega) (by omega) w
 go_enter Tryz.func31,Tryz.ntmps31;go_wp2_with fail
 clear hmk
 go_loopw [4] (fun i wr=>∃k:Nat,k<=ts.length/\i=.int .i64 k/\zam 135 w.heap.size wr w.heap.size ts k/\Below w.heap.size w wr) (fun i _=>ts.length-(intOf i).toNat)
 case atStart=>exact⟨0,Nat.zero_le _,rfl,⟨Nat.le_refl _,zpn ts.length,(MapKept.heap_alloc w _).1,size_madeCells _ _,fun i _ h=>absurd h (by omega)⟩,bAl _ _⟩
 case round=>
  obtain⟨k,hk,rfl,hown,hB⟩:=hrel
  by_cases hlt:k<ts.length
  ·obtain⟨b,off,rfl,hb,c0,c1⟩:=hw.load hB k hlt
   have hltI:(k:Int)<(ts.length:Int):=by omega
   clear hw;go_wp2_with fail
   refine(zjV ts[k] _).mono ?_;rintro e w1⟨rfl,hb1⟩;have hB1:=hB.trans (hb1.mono hB.size);have hown1:=hown.later hb1
   have hbo:w.heap.size<wr.heap.size:=by
    obtain⟨C',hC',_⟩:=hown.rows;exact(gES hC').1
   obtain⟨C,hC,hsz,_⟩:=hown1.rows;have hfz:∀o,w1.frozen? ⟨w.heap.size,o,none⟩=false:=fun o=>zh hC
   have hex:∀o,o<ts.length*2->∃v,w1.cell? ⟨w.heap.size,o,none⟩=some v:=fun o ho=>⟨C[o]'(by omega),by rw[cell_of_block hC];exact Array.getElem?_eq_getElem (by omega)⟩
   obtain⟨v0,hv0⟩:=hex (k*2) (by omega);obtain⟨v1,hv1⟩:=hex (k*2+1) (by omega);have HP:=hid hown1;clear hex hC hsz c0 c1 hown hown1;unfold Tm.cells;go_wp2_with fail
   exact⟨⟨k+1,by omega,by go_num,HP.out.put hlt,zol hB1 (Nat.le_refl _) _ _ _⟩,by simp[intOf];omega⟩
  ·have HF:Hid (zam 135 w.heap.size wr w.heap.size ts ts.length):=by
    have e:k=ts.length:=by omega
    subst e;exact hown
   clear hw hown;go_wp2_with fail
   go_ret;exact⟨rfl,HF.out,hB⟩
structure qy (w:World)(a:Option Addr)(vs:List Int):Prop where
 len:vs.length<=maxLen
 cells:vs≠[]->∃b off,a=some ⟨b,off,none⟩/\b<w.heap.size/\∀i (h:i<vs.length),w.cell? ⟨b,off+i,none⟩=some (.int .i64 vs[i])
theorem qy.mono {w w':World}{a:Option Addr}{vs:List Int}(h:qy w a vs)(hb:Below w.heap.size w w'):qy w' a vs:=
 ⟨h.len,fun hne=>by
  obtain⟨b,off,ha,hbs,hc⟩:=h.cells hne;exact⟨b,off,ha,nLt hbs hb.size,fun i hi=>(hb.cell (p:=⟨b,off+i,none⟩) hbs).trans (hc i hi)⟩⟩
theorem qy.load {w w':World}{a:Option Addr}{vs:List Int}(h:qy w a vs)(hl:Below w.heap.size w w')(i:Nat)(hi:i<vs.length):∃b off,a=some ⟨b,off,none⟩/\b<w.heap.size/\w'.cell? ⟨b,off+i,none⟩=some (.int .i64 vs[i]):=by
 obtain⟨b,off,ha,hb,hc⟩:=h.cells (by rintro rfl;simp at hi);exact⟨b,off,ha,hb,(hl.cell (p:=⟨b,off+i,none⟩) hb).trans (hc i hi)⟩
def zb5 (vs:List Int):Array Value:=(vs.map (Value.int .i64)).toArray
def intCells (vs:List Int)(k:Nat):Array Value:=((vs.take k).map (Value.int .i64)++List.replicate (vs.length-k) (Value.int .i64 0)).toArray
theorem znP (vs:List Int)(k:Nat)(h:k<vs.length):(intCells vs k)[k]?=some (.int .i64 0):=by
 unfold intCells;have hl:((vs.take k).map (Value.int .i64)).length=k:=by simp;omega
 rw[List.getElem?_toArray,List.getElem?_append_right (by omega),hl,Nat.sub_self];obtain⟨m,hm⟩:∃m,vs.length-k=m+1:=⟨vs.length-k-1,by omega⟩
 rw[hm,List.replicate_succ];rfl
theorem zlL (vs:List Int)(k:Nat)(h:k<vs.length):(intCells vs k).setIfInBounds k (.int .i64 vs[k])=intCells vs (k+1):=by
 unfold intCells;rw[List.setIfInBounds_toArray,List.set_append_right _ _ (by simp;omega)]
 congr 1
 rw[tSe h,List.map_append,List.append_assoc]
 congr 1
 obtain⟨m,hm⟩:∃m,vs.length-k=m+1:=⟨vs.length-k-1,by omega⟩
 rw[hm,show vs.length-(k+1)=m by omega]
 have:k-((vs.take k).map (Value.int .i64)).length=0:=by simp;omega
 rw[this,List.replicate_succ]
 rfl
theorem zlG (vs:List Int)(k:Nat)(h:vs.length<=k):intCells vs k=zb5 vs:=by
 unfold intCells zb5;rw[tOl h,show vs.length-k=0 by omega];simp
theorem zku (vs:List Int):madeCells #[Value.int .i64 0] vs.length=intCells vs 0:=by
 apply Array.toList_inj.1
 rw[toList_madeCells_one]
 simp[intCells]
theorem zhF {w:World}{bk:Nat}{vs:List Int}{t:TypeId}(h:w.heap[bk]?=some (.cells (zb5 vs) t))(hl:vs.length<=maxLen):qy w (some ⟨bk,0,none⟩) vs:=
 ⟨hl,fun _=>⟨bk,0,rfl,(gES h).1,fun i hi=>by
  simp[World.cell?,h,zb5,hi]⟩⟩
def Rl.cells (r:Rl)(a:Option Addr)(cap:Nat):Array Value:=#[.slice a r.vs.length cap,.string r.kd,.string r.tm,.string r.px]
structure Rl.Small (r:Rl):Prop where
 kd:r.kd.size<=maxLen
 tm:r.tm.size<=maxLen
 px:r.px.size<=maxLen
def Rl.sz (r:Rl):Nat:=r.vs.length+r.kd.size+r.tm.size+r.px.size
theorem zM {w:World}{b o:Nat}{v:Value}{b':Nat}(h:b'≠b):(w.setCell ⟨b,o,none⟩ v).heap[b']?=w.heap[b']?:=by
 simp only[World.setCell,Array.getElem?_modify];rw[if_neg (fun e=>h (Eq.symm e))]
theorem zqj (w:World)(o1:Obj)(X:Array Value)(t:TypeId):∀o,((w.alloc o1).alloc (.cells X t)).cell? ⟨w.heap.size+1,o,none⟩=X[o]?:=by
 intro o;have h:=zl (w.alloc o1) X t o;have e:(w.alloc o1).heap.size=w.heap.size+1:=by simp
 rw[e]at h;exact h
def zdN (o:Ob):Nat:=o.kd.size+o.nm.size+o.tm.size+qX o.vs+qX o.hs
theorem zhR (o:Ob)(a a':Option Addr)(cap cap':Nat)(left:Int)(w:World)(ho:jK w o a a')(h0:0<=left)(h1:left<=1048576) :
 Calls Tryz.prog 56 #[.agg #[.string o.kd,.string o.nm,.string o.tm,.slice a o.vs.length cap,.bool o.en,.slice a' o.hs.length cap',.int .i64 o.vr],.int .i64 left] w fun e w'=>e=.returned (.int .i64 (zK (zdN o) left))/\Below w.heap.size w w':=by
 have hkd:=ho.small.kd;have hnm:=ho.small.nm;have htm:=ho.small.tm;have hv:=ho.vals;have hh:=ho.holds;clear ho;unfold maxLen at hkd hnm htm
 by_cases c1:(o.kd.size:Int)<=left
 rotate_left
 ·have HF:Hid (zK (zdN o) left=-1):=zC (by unfold zdN;omega)
  go_enter Tryz.func56,Tryz.ntmps56;go_wp2_with fail
  go_ret;exact⟨zo HF.out.symm,bAl _ _⟩
 by_cases c2:(o.nm.size:Int)<=left-o.kd.size
 rotate_left
 ·have HF:Hid (zK (zdN o) left=-1):=zC (by unfold zdN;omega)
  go_enter Tryz.func56,Tryz.ntmps56;go_wp2_with fail
  go_ret;exact⟨zo HF.out.symm,bAl _ _⟩
 by_cases c3:(o.tm.size:Int)<=left-o.kd.size-o.nm.size
 rotate_left
 ·have HF:Hid (zK (zdN o) left=-1):=zC (by unfold zdN;omega)
  go_enter Tryz.func56,Tryz.ntmps56;go_wp2_with fail
  go_ret;exact⟨zo HF.out.symm,bAl _ _⟩
 by_cases c4:(qX o.vs:Int)<=left-o.kd.size-o.nm.size-o.tm.size
 rotate_left
 ·have HF:Hid (zK (zdN o) left=-1):=zC (by unfold zdN;omega)
  go_enter Tryz.func56,Tryz.ntmps56;go_wp2_with fail
  refine(zee _ _ _ _ _ (hv.mono (bAl _ _)) (by omega) (by omega) (by omega)).mono ?_;rintro e w1⟨rfl,rfl⟩;go_wp2_with fail
  go_ret;exact⟨zo HF.out.symm,bAl _ _⟩
 by_cases c5:(qX o.hs:Int)<=left-o.kd.size-o.nm.size-o.tm.size-qX o.vs
 rotate_left
 ·have HF:Hid (zK (zdN o) left=-1):=zC (by unfold zdN;omega)
  go_enter Tryz.func56,Tryz.ntmps56;go_wp2_with fail
  refine(zac _ _ _ _ _ (hv.mono (bAl _ _)) (by omega) (by omega) (by omega)).mono ?_;rintro e w1⟨rfl,rfl⟩;go_wp2_with fail
  refine(zee _ _ _ _ _ (hh.mono (bAl _ _)) (by omega) (by omega) (by omega)).mono ?_;rintro e w1⟨rfl,rfl⟩;go_wp2_with fail
  go_ret;exact⟨zo HF.out.symm,bAl _ _⟩
 ·have HF:Hid (zK (zdN o) left=left-o.kd.size-o.nm.size-o.tm.size-qX o.vs-qX o.hs):=by
   have e:zK (zdN o) left=left-zdN o:=zL (by unfold zdN;omega);unfold Hid;rw[e];unfold zdN;omega
  go_enter Tryz.func56,Tryz.ntmps56;go_wp2_with fail
  refine(zac _ _ _ _ _ (hv.mono (bAl _ _)) (by omega) (by omega) (by omega)).mono ?_;rintro e w1⟨rfl,rfl⟩;go_wp2_with fail
  refine(zac _ _ _ _ _ (hh.mono (bAl _ _)) (by omega) (by omega) (by omega)).mono ?_;rintro e w1⟨rfl,rfl⟩;go_wp2_with fail
  go_ret;exact⟨zo HF.out.symm,bAl _ _⟩
theorem zhs (o:Ob)(a a' b b':Option Addr)(cap cap' dap dap':Nat)(w:World)(ho:jK w o a a')(ho':jK w o b b') :
 Calls Tryz.prog 86 #[.agg #[.string o.kd,.string o.nm,.string o.tm,.slice a o.vs.length cap,.bool o.en,.slice a' o.hs.length cap',.int .i64 o.vr],.agg #[.string o.kd,.string o.nm,.string o.tm,.slice b o.vs.length dap,.bool o.en,.slice b' o.hs.length dap',.int .i64 o.vr]] w fun e w'=>e=.returned (.bool true)/\Below w.heap.size w w':=by
 go_enter Tryz.func86,Tryz.ntmps86;go_wp2_with fail
 refine(zdp _ _ _ _ _ _ (ho.vals.mono (zw _ _ _)) (ho'.vals.mono (zw _ _ _))).mono ?_;rintro e w1⟨rfl,hb1⟩;have hX1:=za (wk:=(w.alloc (.cells #[.string o.kd,.string o.nm,.string o.tm,.slice a o.vs.length cap,.bool o.en,.slice a' o.hs.length cap',.int .i64 o.vr] 123)).alloc (.cells #[.string o.kd,.string o.nm,.string o.tm,.slice b o.vs.length dap,.bool o.en,.slice b' o.hs.length dap',.int .i64 o.vr] 123)) (b:=w.heap.size) (X:=#[.string o.kd,.string o.nm,.string o.tm,.slice a o.vs.length cap,.bool o.en,.slice a' o.hs.length cap',.int .i64 o.vr]) (fun j=>by rw[World.cell?_alloc_lt _ _ ⟨w.heap.size,j,none⟩ (by simp)];exact zl w _ _ j) (by simp;omega) hb1;have hY1:=za (wk:=(w.alloc (.cells #[.string o.kd,.string o.nm,.string o.tm,.slice a o.vs.length cap,.bool o.en,.slice a' o.hs.length cap',.int .i64 o.vr] 123)).alloc (.cells #[.string o.kd,.string o.nm,.string o.tm,.slice b o.vs.length dap,.bool o.en,.slice b' o.hs.length dap',.int .i64 o.vr] 123)) (b:=w.heap.size+1) (X:=#[.string o.kd,.string o.nm,.string o.tm,.slice b o.vs.length dap,.bool o.en,.slice b' o.hs.length dap',.int .i64 o.vr]) (fun j=>by rw[World.cell?_alloc_at _ _ _ _ (by simp)]) (by simp) hb1;have hz1:w.heap.size+1<w1.heap.size:=by have:=hb1.size;simp at this;omega
 have hB1:Below w.heap.size w w1:=(zw _ _ _).trans (hb1.mono (by simp;omega));clear hb1;go_wp2_with fail
 refine(zdp _ _ _ _ _ _ (ho.holds.mono hB1) (ho'.holds.mono hB1)).mono ?_;rintro e w2⟨rfl,hb2⟩;have hX2:=za hX1 (by omega) hb2;have hY2:=za hY1 (by omega) hb2;have hB2:=hB1.trans (hb2.mono (by omega));clear hb2 hX1 hY1;go_wp2_with fail
 go_ret;exact⟨rfl,hB2⟩
theorem zre (w:World)(o1 o2 o3 o4 o5:Obj):(((((w.alloc o1).alloc o2).alloc o3).alloc o4).alloc o5).heap[w.heap.size+1+1+1]?=some o4:=
 (Below.heap_alloc _ _ _ (by simp)).trans (at4 _ _ _ _ _)
theorem zrf (w:World)(o1 o2 o3 o4 o5:Obj):(((((w.alloc o1).alloc o2).alloc o3).alloc o4).alloc o5).heap[w.heap.size+1+1+1+1]?=some o5:=by
 have h:=(MapKept.heap_alloc ((((w.alloc o1).alloc o2).alloc o3).alloc o4) o5).1
 simpa using h
theorem zhm (o:Ob)(a a':Option Addr)(cap cap':Nat)(w:World)(ho:jK w o a a')(hl:o.vs.length<=1048576)(hl':o.hs.length<=1048576) :
 Calls Tryz.prog 70 #[.agg #[.string o.kd,.string o.nm,.string o.tm,.slice a o.vs.length cap,.bool o.en,.slice a' o.hs.length cap',.int .i64 o.vr]] w fun e w'=>∃bv bh,e=.returned (.agg #[.string o.kd,.string o.nm,.string o.tm,.slice (some ⟨bv,0,none⟩) o.vs.length o.vs.length,.bool o.en,.slice (some ⟨bh,0,none⟩) o.hs.length o.hs.length,.int .i64 o.vr]) /\
  w.heap.size<=bv/\w.heap.size<=bh/\bv≠bh/\w'.heap[bv]?=some (.cells (jY o.vs) 9)/\w'.heap[bh]?=some (.cells (jY o.hs) 9)/\Below w.heap.size w w':=by
 go_enter Tryz.func70,Tryz.ntmps70;go_wp2_with fail
 refine(zdz _ _ _ _ (ho.vals.mono (((bAl _ _).alloc (by simp) _).alloc (by simp;omega) _)) hl).mono ?_;rintro e w1⟨rfl,rfl⟩;go_wp2_with fail
 refine(zdz _ _ _ _ (ho.holds.mono (zl8 _ _ _ _ _)) hl').mono ?_;rintro e w2⟨rfl,rfl⟩;go_wp2_with fail
 refine bodyPost_ret (v:=.agg #[.string o.kd,.string o.nm,.string o.tm,.slice (some ⟨w.heap.size+1+1+1,0,none⟩) o.vs.length o.vs.length,.bool o.en,.slice (some ⟨w.heap.size+1+1+1+1,0,none⟩) o.hs.length o.hs.length,.int .i64 o.vr]) (by simp[results,Tryz.results70,go_sem]) rfl ⟨w.heap.size+1+1+1,w.heap.size+1+1+1+1,rfl,by omega,by omega,by omega,zre _ _ _ _ _ _,zrf _ _ _ _ _ _,(zl8 _ _ _ _ _).alloc (by simp;omega) _⟩
theorem zi9 {a b:ByteArray}(h:a=b):Ending.returned (.string a)=.returned (.string b):=by rw[h]
theorem zbv (a:Option Addr)(cap:Nat)(ts:List Tm)(v:ByteArray)(w:World)(hw:jX w a ts) :
 Calls Tryz.prog 132 #[.slice a ts.length cap,.string v] w fun e w'=>e=.returned (.string (over ts v))/\w'=w:=by
 have hl:=hw.len;unfold maxLen at hl;go_enter Tryz.func132,Tryz.ntmps132;go_wp2_with fail
 go_loop [5] (fun i=>∃k:Nat,k<=ts.length/\i=.int .i64 k/\yG (ts.take k) v=false) (fun i=>ts.length-(intOf i).toNat)
 case atStart=>exact⟨0,Nat.zero_le _,rfl,rfl⟩
 case round=>
  obtain⟨k,hk,rfl,hall⟩:=hrel
  by_cases hlt:k<ts.length
  ·obtain⟨b,off,rfl,hb,c0,c1⟩:=hw.load (bRf _ _) k hlt
   clear hw;have HS:Hid (yG (ts.take (k+1)) v=(false||decide (ts[k].nm=v))):=by rw[zeo ts v k hlt,hall];rfl
   have hltI:(k:Int)<(ts.length:Int):=by omega
   by_cases he:ts[k].nm=v
   ·have hbe:(ts[k].nm.toList == v.toList)=true:=by rw[beq_toList];simpa using he
    have HR:=hid (zmh ts v k hlt hall he);clear he hall;go_wp2_with fail
    go_ret;exact⟨zi9 HR.out.symm,rfl⟩
   ·have hbe:(ts[k].nm.toList == v.toList)=false:=by rw[beq_toList];simpa using he
    have HE:=hid he;clear he hall;go_wp2_with fail
    go_round
    case rel=>exact⟨k+1,by omega,by go_num,by rw[HS.out,decide_eq_false HE.out];rfl⟩
    case measure=>simp[intOf];omega
  ·have HR:=hid (zhP ts v (by rw[<- ze9 ts v k (by omega)];exact hall))
   clear hall hw;go_wp2_with fail
   go_ret;exact⟨zi9 HR.out.symm,rfl⟩
theorem zd1 (a:Option Addr)(cap:Nat)(ts:List Tm)(v:ByteArray)(w:World)(hw:jX w a ts) :
 Calls Tryz.prog 193 #[.slice a ts.length cap,.string v] w fun e w'=>e=.returned (.string (over ts v))/\Below w.heap.size w w':=by
 have hl:=hw.len;unfold maxLen at hl;go_enter Tryz.func193,Tryz.ntmps193;go_wp2_with fail
 go_loopw [9] (fun i wr=>∃k:Nat,k<=ts.length/\i=.int .i64 k/\yG (ts.take k) v=false/\Below w.heap.size w wr) (fun i _=>ts.length-(intOf i).toNat)
 case atStart=>exact⟨0,Nat.zero_le _,rfl,rfl,bRf _ _⟩
 case round=>
  obtain⟨k,hk,rfl,hall,hB⟩:=hrel;have hsz:=hB.size
  by_cases hlt:k<ts.length
  ·obtain⟨b,off,rfl,hb,c0,c1⟩:=hw.load hB k hlt
   clear hw;have HS:Hid (yG (ts.take (k+1)) v=(false||decide (ts[k].nm=v))):=by rw[zeo ts v k hlt,hall];rfl
   have hltI:(k:Int)<(ts.length:Int):=by omega
   have hbr:b<wr.heap.size:=by omega
   by_cases he:ts[k].nm=v
   ·have hbe:(ts[k].nm.toList == v.toList)=true:=by rw[beq_toList];simpa using he
    have HR:=hid (zmh ts v k hlt hall he);clear he hall;go_wp2_with fail
    go_ret;exact⟨zi9 HR.out.symm,hB.alloc hsz _⟩
   ·have hbe:(ts[k].nm.toList == v.toList)=false:=by rw[beq_toList];simpa using he
    have HE:=hid he;clear he hall;go_wp2_with fail
    exact⟨⟨k+1,by omega,by go_num,by rw[HS.out,decide_eq_false HE.out];rfl,hB.alloc hsz _⟩,by simp[intOf];omega⟩
  ·have HR:=hid (zhP ts v (by rw[<- ze9 ts v k (by omega)];exact hall))
   clear hall hw;go_wp2_with fail
   go_ret;exact⟨zi9 HR.out.symm,hB⟩
end Go.Proofs.YtnapmdofidgliaaGreat
namespace Go.Proofs.YtnapmdofidgliaaGreat
theorem qQ {α:Type}(p:α->Bool)(l:List α)(k:Nat)(h:k<l.length):(l.take (k+1)).all p=((l.take k).all p&&p l[k]):=by
 rw[tSe h,List.all_append];simp
theorem zaD {α:Type}(p:α->Bool)(l:List α)(k:Nat)(h:k<l.length)(hp:p l[k]=false):l.all p=false:=by
 rw[List.all_eq_false];exact⟨l[k],List.getElem_mem h,by simp[hp]⟩
end Go.Proofs.YtnapmdofidgliaaGreat
