import Derived.Test.YtcgpjfcocmcodaaGreatM07
set_option maxHeartbeats 2000000
namespace Go.Proofs.YtcgpjfcocmcodaaGreat
open Go.RowKit
theorem zfp (m:Tm)(left:Int)(w:World)(hm:m.Small)(h0:0<=left)(h1:left<=1048576) :
 Calls Tryz.prog 64 #[.agg m.cells,.i left] w fun e w'=>e=.returned (.i (zL m.sz left))/\Bw w w':=by
 have k1:=hm.nm;have k2:=hm.ov;unfold maxLen at k1 k2;unfold Tm.cells;have hB:∀ob,Bw w (w.alloc ob):=fun ob=>bAl _ _
 by_cases hf:(m.sz:Int)<=left
 ·have HF:Hid (zL m.sz left=left-m.nm.size-m.ov.size):=by
   unfold Hid;rw[zM hf];unfold Tm.sz;omega
  unfold Tm.sz at hf;go_enter Tryz.func64,Tryz.ntmps64;go_wp2_with fail
  go_ret;exact⟨zo HF.o.symm,hB _⟩
 ·have HF:Hid (zL m.sz left=-1):=zC hf
  have HN:Hid (¬((m.nm.size+m.ov.size:Nat):Int)<=left):=hf;clear hf;go_enter Tryz.func64,Tryz.ntmps64;go_wp2_with fail
  all_goals go_ret
  all_goals first|exact⟨zo HF.o.symm,hB _⟩|(exfalso;have:=HN.o;simp at *;omega)
theorem zkl (m:Tm)(left:Int)(w:World)(hm:m.Small)(h0:0<=left)(h1:left<=1048576)(h:(m.sz:Int)<=left) :
 Calls Tryz.prog 64 #[.agg m.cells,.i left] w fun e w'=>e=.returned (.i (left-m.sz))/\Bw w w':=by
 refine(zfp m left w hm h0 h1).mono ?_;rintro e w'⟨rfl,hb⟩;exact⟨zo (zM h),hb⟩
theorem zk6 (m:Tm)(left:Int)(w:World)(hm:m.Small)(h0:0<=left)(h1:left<=1048576)(h:¬(m.sz:Int)<=left) :
 Calls Tryz.prog 64 #[.agg m.cells,.i left] w fun e w'=>e=.returned (.i (-1))/\Bw w w':=by
 refine(zfp m left w hm h0 h1).mono ?_;rintro e w'⟨rfl,hb⟩;exact⟨zo (zC h),hb⟩
theorem ziU (a:OA)(cap:Nat)(ts:List Tm)(left:Int)(w:World)(hw:jR w a ts)(h0:0<=left)(h1:left<=1048576) :
 Calls Tryz.prog 17 #[.l a ts.length cap,.i left] w fun e w'=>e=.returned (.i (zL (zdn ts) left))/\Bw w w':=by
 have hl:=hw.len;unfold maxLen at hl
 by_cases hfit:(ts.length:Int)<=left
 ·go_enter Tryz.func17,Tryz.ntmps17
  go_wp2_with fail
  go_loopw [1,5] (fun l i wr=>∃k:Nat,k<=ts.length/\i=.i k/\0<=left-ts.length-ziL (ts.take k)/\l=.i (left-ts.length-ziL (ts.take k))/\Bw w wr) (fun _ i _=>ts.length-(intOf i).toNat)
  case atStart=>exact⟨0,Nat.zero_le _,rfl,by simp[ziL];omega,by simp[ziL],bRf _ _⟩
  case round=>
   obtain⟨k,hk,rfl,hpos,rfl,hB⟩:=hrel
   by_cases hlt:k<ts.length
   ·obtain⟨b,off,rfl,hb,c0,c1⟩:=hw.load hB k hlt
    have hsm:=hw.small k hlt;have HS:Hid (ziL (ts.take (k+1))=ziL (ts.take k)+ts[k].sz):=za7 Tm.sz ts k hlt;have hle:ziL (ts.take (k+1))<=ziL ts:=zcX Tm.sz ts (k+1);clear hw
    by_cases hneg:(ts[k].sz:Int)<=left-ts.length-ziL (ts.take k)
    ·have HNG:Hid ((ts[k].sz:Int)<=left-ts.length-ziL (ts.take k)):=hneg
     clear hle;go_wp2_with fail
     refine(zkl _ _ _ hsm hpos (by omega) HNG.o).mono ?_;rintro e w1⟨rfl,hb1⟩;have hB1:=hB.trans (hb1.mono hB.size);clear hb1;go_wp2_with fail
     exact⟨⟨k+1,by omega,by go_num,by rw[HS.o];omega,by rw[HS.o];congr 1;omega,hB1⟩,by simp[intOf];omega⟩
    ·have HF:Hid (zL (zdn ts) left=-1):=zC (by have:=HS.o;unfold zdn;omega)
     have HNG:=hid hneg;clear hneg hle;go_wp2_with fail
     refine(zk6 _ _ _ hsm hpos (by omega) (by have:=HNG.o;omega)).mono ?_;rintro e w1⟨rfl,hb1⟩;have hB1:=hB.trans (hb1.mono hB.size);clear hb1;go_wp2_with fail
     go_ret;exact⟨zo HF.o.symm,hB1⟩
   ·have HF:Hid (zL (zdn ts) left=left-ts.length-ziL (ts.take k)):=by
     rw[tOl (by omega)]at hpos ⊢;have e:zL (zdn ts) left=left-zdn ts:=zM (by unfold zdn;omega);unfold Hid;rw[e];unfold zdn;omega
    clear hw
    go_wp2
    go_ret;exact⟨zo HF.o.symm,hB⟩
 ·have HF:Hid (zL (zdn ts) left=-1):=zC (by unfold zdn;omega)
  clear hw;go_enter Tryz.func17,Tryz.ntmps17
  go_wp2
  go_ret;exact⟨zo HF.o.symm,bRf _ _⟩
theorem zks (m:Tm)(w:World):Calls Tryz.prog 106 #[.agg m.cells,.agg m.cells] w fun e w'=>e=.returned (.bool true)/\Bw w w':=by
 unfold Tm.cells;go_enter Tryz.func106,Tryz.ntmps106;go_wp2_with fail
 go_ret;exact⟨rfl,zw _ _ _⟩
theorem ziJ (a a':OA)(cap cap':Nat)(ts:List Tm)(w:World)(hw:jR w a ts)(hw':jR w a' ts) :
 Calls Tryz.prog 50 #[.l a ts.length cap,.l a' ts.length cap'] w fun e w'=>e=.returned (.bool true)/\Bw w w':=by
 have hl:=hw.len;unfold maxLen at hl;have hnn:((ts.length:Int) != ts.length)=false:=by simp
 go_enter Tryz.func50,Tryz.ntmps50;go_wp2_with fail
 go_loopw [5] (fun i wr=>∃k:Nat,k<=ts.length/\i=.i k/\Bw w wr) (fun i _=>ts.length-(intOf i).toNat)
 case atStart=>exact⟨0,Nat.zero_le _,rfl,bRf _ _⟩
 case round=>
  obtain⟨k,hk,rfl,hB⟩:=hrel
  by_cases hlt:k<ts.length
  ·obtain⟨b,off,rfl,hb,c0,c1⟩:=hw.load hB k hlt
   obtain⟨b',off',rfl,hb',d0,d1⟩:=hw'.load hB k hlt;have hltI:(k:Int)<(ts.length:Int):=by omega
   clear hw hw';go_wp2_with fail
   go_region_with (go_at_call 106;refine(zks ts[k] _).mono ?_;rintro e w1⟨rfl,hb1'⟩;have hb1:=(bRf wr.heap.size wr).drew.trans hb1';clear hb1')
   all_goals go_wp2_with fail
   all_goals exact⟨⟨k+1,by omega,by go_num,hB.trans (hb1.mono hB.size)⟩,by simp[intOf];omega⟩
  ·clear hw hw'
   go_wp2_with fail
   go_ret;exact⟨rfl,hB⟩
theorem zj8 (m:Tm)(w:World) :
 Calls Tryz.prog 81 #[.agg m.cells] w fun e w'=>e=.returned (.agg m.cells)/\Bw w w':=by
 unfold Tm.cells;go_enter Tryz.func81,Tryz.ntmps81;go_wp2_with fail
 refine bodyPost_ret (v:=.agg #[.s m.nm,.s m.ov]) (by simp[results,Tryz.results81,go_sem]) rfl ⟨rfl,?_⟩;exact(((bAl _ _).alloc (by simp) _).alloc (by simp;omega) _)
theorem ziO (a:OA)(cap:Nat)(ts:List Tm)(w:World)(hw:jR w a ts)(hl:ts.length<=1048576) :
 Calls Tryz.prog 32 #[.l a ts.length cap] w fun e w'=>e=.returned (.l (some (aD w.heap.size 0)) ts.length ts.length)/\zae 127 w.heap.size w' w.heap.size ts ts.length/\Bw w w':=by
 have hmk:∀w:World,(Instr.makeSlice 45 (.i ts.length) (.i ts.length)).run Tryz.prog w=.ok (.l (some (aD w.heap.size 0)) ts.length ts.length) (w.alloc (.cells (zpx ts.length) 127)):=
  fun w=>jE (P:=Tryz.prog) 45 127 (.agg zqs) 2 32 Tryz.underlying45 (by kernel_rfl) ts.length (by omega) (by omega) w
 go_enter Tryz.func32,Tryz.ntmps32;go_wp2_with fail
 clear hmk
 go_loopw [4] (fun i wr=>∃k:Nat,k<=ts.length/\i=.i k/\zae 127 w.heap.size wr w.heap.size ts k/\Bw w wr) (fun i _=>ts.length-(intOf i).toNat)
 case atStart=>exact⟨0,Nat.zero_le _,rfl,⟨Nat.le_refl _,zpx ts.length,(MapKept.heap_alloc w _).1,size_madeCells _ _,fun i _ h=>absurd h (by omega)⟩,bAl _ _⟩
 case round=>
  obtain⟨k,hk,rfl,hown,hB⟩:=hrel
  by_cases hlt:k<ts.length
  ·obtain⟨b,off,rfl,hb,c0,c1⟩:=hw.load hB k hlt
   have hltI:(k:Int)<(ts.length:Int):=by omega
   clear hw;go_wp2_with fail
   refine(zj8 ts[k] _).mono ?_;rintro e w1⟨rfl,hb1⟩;have hB1:=hB.trans (hb1.mono hB.size);have hown1:=hown.later hb1
   have hbo:w.heap.size<wr.heap.size:=by
    obtain⟨C',hC',_⟩:=hown.rows;exact(gES hC').1
   obtain⟨C,hC,hsz,_⟩:=hown1.rows;have hfz:∀o,w1.frozen? (aD w.heap.size o)=false:=fun o=>zh hC
   have hex:∀o,o<ts.length*2->∃v,w1.cell? (aD w.heap.size o)=some v:=fun o ho=>⟨C[o]'(by omega),by rw[cell_of_block hC];exact Array.getElem?_eq_getElem (by omega)⟩
   obtain⟨v0,hv0⟩:=hex (k*2) (by omega);obtain⟨v1,hv1⟩:=hex (k*2+1) (by omega);have HP:=hid hown1;clear hex hC hsz c0 c1 hown hown1;unfold Tm.cells;go_wp2_with fail
   exact⟨⟨k+1,by omega,by go_num,HP.o.put hlt,zov hB1 (Nat.le_refl _) _ _ _⟩,by simp[intOf];omega⟩
  ·have HF:Hid (zae 127 w.heap.size wr w.heap.size ts ts.length):=by
    have e:k=ts.length:=by omega
    subst e;exact hown
   clear hw hown;go_wp2_with fail
   go_ret;exact⟨rfl,HF.o,hB⟩
structure qm (w:World)(a:OA)(vs:List Int):Prop where
 len:vs.length<=maxLen
 cells:vs≠[]->∃b off,a=some (aD b off)/\b<w.heap.size/\∀i (h:i<vs.length),w.cell? (aD b (off+i))=some (.i vs[i])
theorem qm.mono {w w':World}{a:OA}{vs:List Int}(h:qm w a vs)(hb:Bw w w'):qm w' a vs:=
 ⟨h.len,fun hne=>by
  obtain⟨b,off,ha,hbs,hc⟩:=h.cells hne;exact⟨b,off,ha,nLt hbs hb.size,fun i hi=>(hb.cell (p:=(aD b (off+i))) hbs).trans (hc i hi)⟩⟩
theorem qm.load {w w':World}{a:OA}{vs:List Int}(h:qm w a vs)(hl:Bw w w')(i:Nat)(hi:i<vs.length):∃b off,a=some (aD b off)/\b<w.heap.size/\w'.cell? (aD b (off+i))=some (.i vs[i]):=by
 obtain⟨b,off,ha,hb,hc⟩:=h.cells (by rintro rfl;simp at hi);exact⟨b,off,ha,hb,(hl.cell (p:=(aD b (off+i))) hb).trans (hc i hi)⟩
def zbe (vs:List Int):AV:=(vs.map (Value.int .i64)).toArray
def intCells (vs:List Int)(k:Nat):AV:=((vs.take k).map (Value.int .i64)++List.replicate (vs.length-k) (Value.i 0)).toArray
theorem zmJ (vs:List Int)(k:Nat)(h:k<vs.length):(intCells vs k)[k]?=some (.i 0):=by
 unfold intCells;have hl:((vs.take k).map (Value.int .i64)).length=k:=by simp;omega
 rw[List.getElem?_toArray,List.getElem?_append_right (by omega),hl,Nat.sub_self];obtain⟨m,hm⟩:∃m,vs.length-k=m+1:=⟨vs.length-k-1,by omega⟩
 rw[hm,List.replicate_succ];rfl
theorem zmz (vs:List Int)(k:Nat)(h:k<vs.length):(intCells vs k).setIfInBounds k (.i vs[k])=intCells vs (k+1):=by
 unfold intCells;rw[List.setIfInBounds_toArray,List.set_append_right _ _ (by simp;omega)]
 congr 1
 rw[tSe h,List.map_append,List.append_assoc]
 congr 1
 obtain⟨m,hm⟩:∃m,vs.length-k=m+1:=⟨vs.length-k-1,by omega⟩
 rw[hm,show vs.length-(k+1)=m by omega]
 have:k-((vs.take k).map (Value.int .i64)).length=0:=by simp;omega
 rw[this,List.replicate_succ]
 rfl
theorem zl6 (vs:List Int)(k:Nat)(h:vs.length<=k):intCells vs k=zbe vs:=by
 unfold intCells zbe;rw[tOl h,show vs.length-k=0 by omega];simp
theorem zkI (vs:List Int):madeCells #[Value.i 0] vs.length=intCells vs 0:=by
 apply Array.toList_inj.1
 rw[toList_madeCells_one]
 simp[intCells]
theorem zhG {w:World}{bk:Nat}{vs:List Int}{t:TypeId}(h:w.heap[bk]?=some (.cells (zbe vs) t))(hl:vs.length<=maxLen):qm w (some (aD bk 0)) vs:=
 ⟨hl,fun _=>⟨bk,0,rfl,(gES h).1,fun i hi=>by
  simp[World.cell?,h,zbe,hi]⟩⟩
def Rl.cells (r:Rl)(a:OA)(cap:Nat):AV:=#[.l a r.vs.length cap,.s r.kd,.s r.tm,.s r.px]
def Ac.cells (x:Ac):AV:=#[.i x.vb,.s x.kd,.s x.tm,.s x.nm]
structure Rl.Small (r:Rl):Prop where
 kd:r.kd.size<=maxLen
 tm:r.tm.size<=maxLen
 px:r.px.size<=maxLen
def Rl.sz (r:Rl):Nat:=r.vs.length+r.kd.size+r.tm.size+r.px.size
def zrt (w:World)(b o:Nat)(v0 v1 v2 v3:Value):World:=(((w.setCell (aD b o) v0).setCell (aD b (o+1)) v1).setCell (aD b (o+2)) v2).setCell (aD b (o+3)) v3
def zo7 (C:AV)(o:Nat)(v0 v1 v2 v3:Value):AV:=(((C.setIfInBounds o v0).setIfInBounds (o+1) v1).setIfInBounds (o+2) v2).setIfInBounds (o+3) v3
theorem zoL {w:World}{b o:Nat}{C:AV}{t:TypeId}(h:w.heap[b]?=some (.cells C t))(v0 v1 v2 v3:Value):(zrt w b o v0 v1 v2 v3).heap[b]?=some (.cells (zo7 C o v0 v1 v2 v3) t):=
 zi (zi (zi (zi h v0) v1) v2) v3
theorem zD {w:World}{b o:Nat}{v:Value}{b':Nat}(h:b'≠b):(w.setCell (aD b o) v).heap[b']?=w.heap[b']?:=by
 simp only[World.setCell,Array.getElem?_modify];rw[if_neg (fun e=>h (Eq.symm e))]
theorem zkt (w:World)(b o:Nat)(v0 v1 v2 v3:Value){b':Nat}(h:b'≠b):(zrt w b o v0 v1 v2 v3).heap[b']?=w.heap[b']?:=by
 unfold zrt;rw[zD h,zD h,zD h,zD h]
theorem zp6 (C:AV)(o:Nat)(v0 v1 v2 v3:Value):(zo7 C o v0 v1 v2 v3).size=C.size:=by simp[zo7]
theorem zqE (C:AV)(o i:Nat)(v0 v1 v2 v3:Value)(h:i<o \/ o+4<=i):(zo7 C o v0 v1 v2 v3)[i]?=C[i]?:=by
 unfold zo7
 iterate 4 rw[Array.getElem?_setIfInBounds,if_neg (by omega)]
theorem zrl (C:AV)(o j:Nat)(v0 v1 v2 v3:Value)(hj:j<4)(ho:o+4<=C.size):(zo7 C o v0 v1 v2 v3)[o+j]?=(#[v0,v1,v2,v3]:AV)[j]?:=by
 have hc:j=0 \/ j=1 \/ j=2 \/ j=3:=by omega
 unfold zo7
 rcases hc with h|h|h|h <;> subst h <;> simp[Array.getElem?_setIfInBounds] <;> omega
structure zo2 (ty ti:TypeId)(lo:Nat)(w:World)(bo:Nat)(rs:List Rl)(k:Nat):Prop where
 low:lo<=bo
 rows:∃C,w.heap[bo]?=some (.cells C ty)/\C.size=rs.length*4 /\
  ∀i (h:i<rs.length),i<k->∃bk,lo<=bk/\bk≠bo/\w.heap[bk]?=some (.cells (zbe rs[i].vs) ti)/\∀j,j<4->C[i*4+j]?=(rs[i].cells (some (aD bk 0)) rs[i].vs.length)[j]?
theorem zo2.put {ty ti:TypeId}{lo:Nat}{w:World}{bo:Nat}{rs:List Rl}{k:Nat}(h:zo2 ty ti lo w bo rs k)(hk:k<rs.length)(bk:Nat)(h1:lo<=bk)(h2:bk≠bo)(h3:w.heap[bk]?=some (.cells (zbe rs[k].vs) ti)) :
 zo2 ty ti lo (zrt w bo (k*4) (.l (some (aD bk 0)) rs[k].vs.length rs[k].vs.length) (.s rs[k].kd) (.s rs[k].tm) (.s rs[k].px)) bo rs (k+1):=by
 obtain⟨C,hC,hsz,hr⟩:=h.rows;refine⟨h.low,_,zoL hC _ _ _ _,by rw[zp6];exact hsz,fun i hi hik=>?_⟩
 rcases Nat.lt_or_ge i k with hlt|hge
 ·obtain⟨bi,g1,g2,g3,g4⟩:=hr i hi hlt
  refine⟨bi,g1,g2,by rw[zkt _ _ _ _ _ _ _ g2];exact g3,fun j hj=>?_⟩;rw[zqE _ _ _ _ _ _ _ (by omega)];exact g4 j hj
 ·have e:i=k:=by omega
  subst e;refine⟨bk,h1,h2,by rw[zkt _ _ _ _ _ _ _ h2];exact h3,fun j hj=>?_⟩;rw[zrl _ _ _ _ _ _ _ hj (by omega)]
  rfl
theorem zq2 (w:World)(o1:Obj)(X:AV)(t:TypeId):∀o,((w.alloc o1).alloc (.cells X t)).cell? (aD (w.heap.size+1) o)=X[o]?:=by
 intro o;have h:=zl (w.alloc o1) X t o;have e:(w.alloc o1).heap.size=w.heap.size+1:=by simp
 rw[e]at h;exact h
def zdZ (o:Ob):Nat:=o.kd.size+o.nm.size+o.tm.size+qQ o.vs+qQ o.hs
theorem zhF (o:Ob)(a a':OA)(cap cap':Nat)(left:Int)(w:World)(ho:jU w o a a')(h0:0<=left)(h1:left<=1048576) :
 Calls Tryz.prog 65 #[.agg #[.s o.kd,.s o.nm,.s o.tm,.l a o.vs.length cap,.bool o.en,.l a' o.hs.length cap',.i o.vr],.i left] w fun e w'=>e=.returned (.i (zL (zdZ o) left))/\Bw w w':=by
 have hkd:=ho.small.kd;have hnm:=ho.small.nm;have htm:=ho.small.tm;have hv:=ho.vals;have hh:=ho.holds;clear ho;unfold maxLen at hkd hnm htm
 by_cases c1:(o.kd.size:Int)<=left
 rotate_left
 ·have HF:Hid (zL (zdZ o) left=-1):=zC (by unfold zdZ;omega)
  go_enter Tryz.func65,Tryz.ntmps65;go_wp2_with fail
  go_ret;exact⟨zo HF.o.symm,bAl _ _⟩
 by_cases c2:(o.nm.size:Int)<=left-o.kd.size
 rotate_left
 ·have HF:Hid (zL (zdZ o) left=-1):=zC (by unfold zdZ;omega)
  go_enter Tryz.func65,Tryz.ntmps65;go_wp2_with fail
  go_ret;exact⟨zo HF.o.symm,bAl _ _⟩
 by_cases c3:(o.tm.size:Int)<=left-o.kd.size-o.nm.size
 rotate_left
 ·have HF:Hid (zL (zdZ o) left=-1):=zC (by unfold zdZ;omega)
  go_enter Tryz.func65,Tryz.ntmps65;go_wp2_with fail
  go_ret;exact⟨zo HF.o.symm,bAl _ _⟩
 by_cases c4:(qQ o.vs:Int)<=left-o.kd.size-o.nm.size-o.tm.size
 rotate_left
 ·have HF:Hid (zL (zdZ o) left=-1):=zC (by unfold zdZ;omega)
  go_enter Tryz.func65,Tryz.ntmps65;go_wp2_with fail
  refine(zej _ _ _ _ _ (hv.mono (bAl _ _)) (by omega) (by omega) (by omega)).mono ?_;rintro e w1⟨rfl,rfl⟩;go_wp2_with fail
  go_ret;exact⟨zo HF.o.symm,bAl _ _⟩
 by_cases c5:(qQ o.hs:Int)<=left-o.kd.size-o.nm.size-o.tm.size-qQ o.vs
 rotate_left
 ·have HF:Hid (zL (zdZ o) left=-1):=zC (by unfold zdZ;omega)
  go_enter Tryz.func65,Tryz.ntmps65;go_wp2_with fail
  refine(j6 _ _ _ _ _ (hv.mono (bAl _ _)) (by omega) (by omega) (by omega)).mono ?_;rintro e w1⟨rfl,rfl⟩;go_wp2_with fail
  refine(zej _ _ _ _ _ (hh.mono (bAl _ _)) (by omega) (by omega) (by omega)).mono ?_;rintro e w1⟨rfl,rfl⟩;go_wp2_with fail
  go_ret;exact⟨zo HF.o.symm,bAl _ _⟩
 ·have HF:Hid (zL (zdZ o) left=left-o.kd.size-o.nm.size-o.tm.size-qQ o.vs-qQ o.hs):=by
   have e:zL (zdZ o) left=left-zdZ o:=zM (by unfold zdZ;omega);unfold Hid;rw[e];unfold zdZ;omega
  go_enter Tryz.func65,Tryz.ntmps65;go_wp2_with fail
  refine(j6 _ _ _ _ _ (hv.mono (bAl _ _)) (by omega) (by omega) (by omega)).mono ?_;rintro e w1⟨rfl,rfl⟩;go_wp2_with fail
  refine(j6 _ _ _ _ _ (hh.mono (bAl _ _)) (by omega) (by omega) (by omega)).mono ?_;rintro e w1⟨rfl,rfl⟩;go_wp2_with fail
  go_ret;exact⟨zo HF.o.symm,bAl _ _⟩
theorem zhU (o:Ob)(a a' b b':OA)(cap cap' dap dap':Nat)(w:World)(ho:jU w o a a')(ho':jU w o b b') :
 Calls Tryz.prog 100 #[.agg #[.s o.kd,.s o.nm,.s o.tm,.l a o.vs.length cap,.bool o.en,.l a' o.hs.length cap',.i o.vr],.agg #[.s o.kd,.s o.nm,.s o.tm,.l b o.vs.length dap,.bool o.en,.l b' o.hs.length dap',.i o.vr]] w fun e w'=>e=.returned (.bool true)/\Bw w w':=by
 go_enter Tryz.func100,Tryz.ntmps100;go_wp2_with fail
 refine(zdB _ _ _ _ _ _ (ho.vals.mono (zw _ _ _)) (ho'.vals.mono (zw _ _ _))).mono ?_;rintro e w1⟨rfl,hb1⟩;have hX1:=za (wk:=(w.alloc (.cells (oC o a a' cap cap') 121)).alloc (.cells (oC o b b' dap dap') 121)) (b:=w.heap.size) (X:=(oC o a a' cap cap')) (fun j=>by rw[World.cell?_alloc_lt _ _ (aD w.heap.size j) (by simp)];exact zl w _ _ j) (by simp;omega) hb1;have hY1:=za (wk:=(w.alloc (.cells (oC o a a' cap cap') 121)).alloc (.cells (oC o b b' dap dap') 121)) (b:=w.heap.size+1) (X:=(oC o b b' dap dap')) (fun j=>by rw[World.cell?_alloc_at _ _ _ _ (by simp)]) (by simp) hb1;have hz1:w.heap.size+1<w1.heap.size:=by have:=hb1.size;simp at this;omega
 have hB1:Bw w w1:=(zw _ _ _).trans (hb1.mono (by simp;omega));clear hb1;go_wp2_with fail
 refine(zdB _ _ _ _ _ _ (ho.holds.mono hB1) (ho'.holds.mono hB1)).mono ?_;rintro e w2⟨rfl,hb2⟩;have hX2:=za hX1 (by omega) hb2;have hY2:=za hY1 (by omega) hb2;have hB2:=hB1.trans (hb2.mono (by omega));clear hb2 hX1 hY1;go_wp2_with fail
 go_ret;exact⟨rfl,hB2⟩
theorem zrP (w:World)(o1 o2 o3 o4 o5:Obj):(((((w.alloc o1).alloc o2).alloc o3).alloc o4).alloc o5).heap[w.heap.size+1+1+1]?=some o4:=
 (Below.heap_alloc _ _ _ (by simp)).trans (at4 _ _ _ _ _)
theorem zrN (w:World)(o1 o2 o3 o4 o5:Obj):(((((w.alloc o1).alloc o2).alloc o3).alloc o4).alloc o5).heap[w.heap.size+1+1+1+1]?=some o5:=by
 have h:=(MapKept.heap_alloc ((((w.alloc o1).alloc o2).alloc o3).alloc o4) o5).1
 simpa using h
theorem zhw (o:Ob)(a a':OA)(cap cap':Nat)(w:World)(ho:jU w o a a')(hl:o.vs.length<=1048576)(hl':o.hs.length<=1048576) :
 Calls Tryz.prog 82 #[.agg #[.s o.kd,.s o.nm,.s o.tm,.l a o.vs.length cap,.bool o.en,.l a' o.hs.length cap',.i o.vr]] w fun e w'=>∃bv bh,e=.returned (.agg #[.s o.kd,.s o.nm,.s o.tm,.l (some (aD bv 0)) o.vs.length o.vs.length,.bool o.en,.l (some (aD bh 0)) o.hs.length o.hs.length,.i o.vr]) /\
  w.heap.size<=bv/\w.heap.size<=bh/\bv≠bh/\w'.heap[bv]?=some (.cells (jT o.vs) 9)/\w'.heap[bh]?=some (.cells (jT o.hs) 9)/\Bw w w':=by
 go_enter Tryz.func82,Tryz.ntmps82;go_wp2_with fail
 refine(zdx _ _ _ _ (ho.vals.mono (((bAl _ _).alloc (by simp) _).alloc (by simp;omega) _)) hl).mono ?_;rintro e w1⟨rfl,rfl⟩;go_wp2_with fail
 refine(zdx _ _ _ _ (ho.holds.mono (zpe _ _ _ _ _)) hl').mono ?_;rintro e w2⟨rfl,rfl⟩;go_wp2_with fail
 refine bodyPost_ret (v:=.agg #[.s o.kd,.s o.nm,.s o.tm,.l (some (aD (w.heap.size+1+1+1) 0)) o.vs.length o.vs.length,.bool o.en,.l (some (aD (w.heap.size+1+1+1+1) 0)) o.hs.length o.hs.length,.i o.vr]) (by simp[results,Tryz.results82,go_sem]) rfl ⟨w.heap.size+1+1+1,w.heap.size+1+1+1+1,rfl,by omega,by omega,by omega,zrP _ _ _ _ _ _,zrN _ _ _ _ _ _,(zpe _ _ _ _ _).alloc (by simp;omega) _⟩
theorem zjj {a b:BA}(h:a=b):Ending.returned (.s a)=.returned (.s b):=by rw[h]
theorem zcW (a:OA)(cap:Nat)(ts:List Tm)(v:BA)(w:World)(hw:jR w a ts) :
 Calls Tryz.prog 126 #[.l a ts.length cap,.s v] w fun e w'=>e=.returned (.s (over ts v))/\w'=w:=by
 have hl:=hw.len;unfold maxLen at hl;go_enter Tryz.func126,Tryz.ntmps126;go_wp2_with fail
 go_loop [5] (fun i=>∃k:Nat,k<=ts.length/\i=.i k/\z8 (ts.take k) v=false) (fun i=>ts.length-(intOf i).toNat)
 case atStart=>exact⟨0,Nat.zero_le _,rfl,rfl⟩
 case round=>
  obtain⟨k,hk,rfl,hall⟩:=hrel
  by_cases hlt:k<ts.length
  ·obtain⟨b,off,rfl,hb,c0,c1⟩:=hw.load (bRf _ _) k hlt
   clear hw;have HS:Hid (z8 (ts.take (k+1)) v=(false||decide (ts[k].nm=v))):=by rw[zeB ts v k hlt,hall];rfl
   have hltI:(k:Int)<(ts.length:Int):=by omega
   by_cases he:ts[k].nm=v
   ·have hbe:(ts[k].nm.toList == v.toList)=true:=by rw[beq_toList];simpa using he
    have HR:=hid (zlT ts v k hlt hall he);clear he hall;go_wp2_with fail
    go_ret;exact⟨zjj HR.o.symm,rfl⟩
   ·have hbe:(ts[k].nm.toList == v.toList)=false:=by rw[beq_toList];simpa using he
    have HE:=hid he;clear he hall;go_wp2_with fail
    go_round
    case rel=>exact⟨k+1,by omega,by go_num,by rw[HS.o,decide_eq_false HE.o];rfl⟩
    case measure=>simp[intOf];omega
  ·have HR:=hid (zhm ts v (by rw[<- zeY ts v k (by omega)];exact hall))
   clear hall hw;go_wp2_with fail
   go_ret;exact⟨zjj HR.o.symm,rfl⟩
theorem zei (a:OA)(cap:Nat)(ts:List Tm)(v:BA)(w:World)(hw:jR w a ts) :
 Calls Tryz.prog 147 #[.l a ts.length cap,.s v] w fun e w'=>e=.returned (.s (over ts v))/\Bw w w':=by
 have hl:=hw.len;unfold maxLen at hl;go_enter Tryz.func147,Tryz.ntmps147;go_wp2_with fail
 go_loopw [9] (fun i wr=>∃k:Nat,k<=ts.length/\i=.i k/\z8 (ts.take k) v=false/\Bw w wr) (fun i _=>ts.length-(intOf i).toNat)
 case atStart=>exact⟨0,Nat.zero_le _,rfl,rfl,bRf _ _⟩
 case round=>
  obtain⟨k,hk,rfl,hall,hB⟩:=hrel;have hsz:=hB.size
  by_cases hlt:k<ts.length
  ·obtain⟨b,off,rfl,hb,c0,c1⟩:=hw.load hB k hlt
   clear hw;have HS:Hid (z8 (ts.take (k+1)) v=(false||decide (ts[k].nm=v))):=by rw[zeB ts v k hlt,hall];rfl
   have hltI:(k:Int)<(ts.length:Int):=by omega
   have hbr:b<wr.heap.size:=by omega
   by_cases he:ts[k].nm=v
   ·have hbe:(ts[k].nm.toList == v.toList)=true:=by rw[beq_toList];simpa using he
    have HR:=hid (zlT ts v k hlt hall he);clear he hall;go_wp2_with fail
    go_ret;exact⟨zjj HR.o.symm,hB.alloc hsz _⟩
   ·have hbe:(ts[k].nm.toList == v.toList)=false:=by rw[beq_toList];simpa using he
    have HE:=hid he;clear he hall;go_wp2_with fail
    exact⟨⟨k+1,by omega,by go_num,by rw[HS.o,decide_eq_false HE.o];rfl,hB.alloc hsz _⟩,by simp[intOf];omega⟩
  ·have HR:=hid (zhm ts v (by rw[<- zeY ts v k (by omega)];exact hall))
   clear hall hw;go_wp2_with fail
   go_ret;exact⟨zjj HR.o.symm,hB⟩
end Go.Proofs.YtcgpjfcocmcodaaGreat
namespace Go.Proofs.YtcgpjfcocmcodaaGreat
theorem qN {α:Type}(p:α->Bool)(l:List α)(k:Nat)(h:k<l.length):(l.take (k+1)).all p=((l.take k).all p&&p l[k]):=by
 rw[tSe h,List.all_append];simp
theorem zaw {α:Type}(p:α->Bool)(l:List α)(k:Nat)(h:k<l.length)(hp:p l[k]=false):l.all p=false:=by
 rw[List.all_eq_false];exact⟨l[k],List.getElem_mem h,by simp[hp]⟩
end Go.Proofs.YtcgpjfcocmcodaaGreat
