import Derived.Test.YtedangodjiolaaaGreatM10
set_option maxHeartbeats 4000000
namespace Go.Proofs.YtedangodjiolaaaGreat
open Go.RowKit
structure Wt where
 kd:BA
 nm:BA
 vn:Int
def Wt.cells (m:Wt):AV:=#[.s m.kd,.s m.nm,.i m.vn]
structure Wt.Small (m:Wt):Prop where
 kd:m.kd.size<=maxLen
 nm:m.nm.size<=maxLen
structure zcs (w:World)(a:OA)(ms:List Wt):Prop where
 len:ms.length<=maxLen
 small:∀i (h:i<ms.length),ms[i].Small
 rows:ms≠[]->∃b off,a=some (aD b off)/\b<w.heap.size/\∀i (h:i<ms.length),∀j,j<3->w.cell? (aD b (off+i*3+j))=ms[i].cells[j]?
theorem zcs.mono {w w':World}{a:OA}{ms:List Wt}(h:zcs w a ms)(hl:Bw w w'):zcs w' a ms:=
 ⟨h.len,h.small,fun hne=>by
  obtain⟨b,off,ha,hb,hr⟩:=h.rows hne;exact⟨b,off,ha,nLt hb hl.size,fun i hi j hj=>(hl.cell (p:=(aD b (off+i*3+j))) hb).trans (hr i hi j hj)⟩⟩
theorem zcs.load {w w':World}{a:OA}{ms:List Wt}(h:zcs w a ms)(hl:Bw w w')(i:Nat)(hi:i<ms.length):∃b off,a=some (aD b off)/\b<w.heap.size /\
 w'.cell? (aD b (off+i*3))=some (.s ms[i].kd)/\w'.cell? (aD b (off+i*3+1))=some (.s ms[i].nm)/\w'.cell? (aD b (off+i*3+2))=some (.i ms[i].vn):=by
 obtain⟨b,off,ha,hb,hr⟩:=h.rows (by rintro rfl;simp at hi);have hc:∀j,j<3->w'.cell? (aD b (off+i*3+j))=ms[i].cells[j]?:=fun j hj=>(hl.cell (p:=(aD b (off+i*3+j))) hb).trans (hr i hi j hj)
 exact⟨b,off,ha,hb,hc 0 (by omega),hc 1 (by omega),hc 2 (by omega)⟩
def Wt.sz (m:Wt):Nat:=m.kd.size+m.nm.size
def zdT (ms:List Wt):Nat:=(ms.map Wt.sz).sum
def zcQ (ms:List Wt):Nat:=ms.length+zdT ms
theorem ze9 (m:Wt)(left:Int)(w:World)(hm:m.Small)(h0:0<=left)(h1:left<=1048576) :
 Calls Tryz.prog 223 #[.agg m.cells,.i left] w fun e w'=>e=.returned (.i (zD m.sz left))/\Bw w w':=by
 have k0:=hm.kd;have k1:=hm.nm;unfold maxLen at k0 k1;unfold Wt.cells;have hB:∀ob,Bw w (w.alloc ob):=fun ob=>bAl _ _
 by_cases hf:(m.sz:Int)<=left
 ·have HF:Hid (zD m.sz left=left-m.kd.size-m.nm.size):=by
   unfold Hid;rw[zF hf];unfold Wt.sz;omega
  unfold Wt.sz at hf;go_enter Tryz.func223,Tryz.ntmps223;go_wp2_with fail
  go_ret;exact⟨zl HF.o.symm,hB _⟩
 ·have HF:Hid (zD m.sz left=-1):=zq hf
  have HN:Hid (¬((m.kd.size+m.nm.size:Nat):Int)<=left):=hf;clear hf;go_enter Tryz.func223,Tryz.ntmps223;go_wp2_with fail
  all_goals go_ret
  all_goals first|exact⟨zl HF.o.symm,hB _⟩|(exfalso;have:=HN.o;simp at *;omega)
theorem zjK (m:Wt)(left:Int)(w:World)(hm:m.Small)(h0:0<=left)(h1:left<=1048576)(h:(m.sz:Int)<=left) :
 Calls Tryz.prog 223 #[.agg m.cells,.i left] w fun e w'=>e=.returned (.i (left-m.sz))/\Bw w w':=by
 refine(ze9 m left w hm h0 h1).mono ?_;rintro e w'⟨rfl,hb⟩;exact⟨zl (zF h),hb⟩
theorem zkL (m:Wt)(left:Int)(w:World)(hm:m.Small)(h0:0<=left)(h1:left<=1048576)(h:¬(m.sz:Int)<=left) :
 Calls Tryz.prog 223 #[.agg m.cells,.i left] w fun e w'=>e=.returned (.i (-1))/\Bw w w':=by
 refine(ze9 m left w hm h0 h1).mono ?_;rintro e w'⟨rfl,hb⟩;exact⟨zl (zq h),hb⟩
theorem zeA (a:OA)(cap:Nat)(ms:List Wt)(left:Int)(w:World)(hw:zcs w a ms)(h0:0<=left)(h1:left<=1048576) :
 Calls Tryz.prog 178 #[.l a ms.length cap,.i left] w fun e w'=>e=.returned (.i (zD (zcQ ms) left))/\Bw w w':=by
 have hl:=hw.len;unfold maxLen at hl
 by_cases hfit:(ms.length:Int)<=left
 ·go_enter Tryz.func178,Tryz.ntmps178
  go_wp2_with fail
  go_loopw [1,5] (fun l i wr=>∃k:Nat,k<=ms.length/\i=.i k/\0<=left-ms.length-zdT (ms.take k)/\l=.i (left-ms.length-zdT (ms.take k))/\Bw w wr) (fun _ i _=>ms.length-(intOf i).toNat)
  case atStart=>exact⟨0,Nat.zero_le _,rfl,by simp[zdT];omega,by simp[zdT],bRf _ _⟩
  case round=>
   obtain⟨k,hk,rfl,hpos,rfl,hB⟩:=hrel
   by_cases hlt:k<ms.length
   ·obtain⟨b,off,rfl,hb,c0,c1,c2⟩:=hw.load hB k hlt
    have hsm:=hw.small k hlt;have HS:Hid (zdT (ms.take (k+1))=zdT (ms.take k)+ms[k].sz):=zal Wt.sz ms k hlt;have hle:zdT (ms.take (k+1))<=zdT ms:=zbD Wt.sz ms (k+1);clear hw
    by_cases hneg:(ms[k].sz:Int)<=left-ms.length-zdT (ms.take k)
    ·have HNG:Hid ((ms[k].sz:Int)<=left-ms.length-zdT (ms.take k)):=hneg
     clear hle;go_wp2_with fail
     refine(zjK _ _ _ hsm hpos (by omega) HNG.o).mono ?_;rintro e w1⟨rfl,hb1⟩;have hB1:=hB.trans (hb1.mono hB.size);clear hb1;go_wp2_with fail
     exact⟨⟨k+1,by omega,by go_num,by rw[HS.o];omega,by rw[HS.o];congr 1;omega,hB1⟩,by simp[intOf];omega⟩
    ·have HF:Hid (zD (zcQ ms) left=-1):=zq (by have:=HS.o;unfold zcQ;omega)
     have HNG:Hid (¬(ms[k].sz:Int)<=left-ms.length-zdT (ms.take k)):=hneg;clear hneg hle;go_wp2_with fail
     refine(zkL _ _ _ hsm hpos (by omega) (by have:=HNG.o;omega)).mono ?_;rintro e w1⟨rfl,hb1⟩;have hB1:=hB.trans (hb1.mono hB.size);clear hb1;go_wp2_with fail
     go_ret;exact⟨zl HF.o.symm,hB1⟩
   ·have HF:Hid (zD (zcQ ms) left=left-ms.length-zdT (ms.take k)):=by
     rw[tOl (by omega)]at hpos ⊢;have e:zD (zcQ ms) left=left-zcQ ms:=zF (by unfold zcQ;omega);unfold Hid;rw[e];unfold zcQ;omega
    clear hw
    go_wp2
    go_ret;exact⟨zl HF.o.symm,hB⟩
 ·have HF:Hid (zD (zcQ ms) left=-1):=zq (by unfold zcQ;omega)
  clear hw;go_enter Tryz.func178,Tryz.ntmps178
  go_wp2
  go_ret;exact⟨zl HF.o.symm,bRf _ _⟩
theorem zj3 (m:Wt)(w:World):Calls Tryz.prog 242 #[.agg m.cells,.agg m.cells] w fun e w'=>e=.returned (.bool true)/\Bw w w':=by
 unfold Wt.cells;have hn2:(m.vn != m.vn)=false:=by simp
 go_enter Tryz.func242,Tryz.ntmps242;go_wp2_with fail
 go_ret;exact⟨rfl,zx _ _ _⟩
theorem zik (a a':OA)(cap cap':Nat)(ms:List Wt)(w:World)(hw:zcs w a ms)(hw':zcs w a' ms) :
 Calls Tryz.prog 222 #[.l a ms.length cap,.l a' ms.length cap'] w fun e w'=>e=.returned (.bool true)/\Bw w w':=by
 have hl:=hw.len;unfold maxLen at hl;have hnn:((ms.length:Int) != ms.length)=false:=by simp
 go_enter Tryz.func222,Tryz.ntmps222;go_wp2_with fail
 go_loopw [5] (fun i wr=>∃k:Nat,k<=ms.length/\i=.i k/\Bw w wr) (fun i _=>ms.length-(intOf i).toNat)
 case atStart=>exact⟨0,Nat.zero_le _,rfl,bRf _ _⟩
 case round=>
  obtain⟨k,hk,rfl,hB⟩:=hrel
  by_cases hlt:k<ms.length
  ·obtain⟨b,off,rfl,hb,c0,c1,c2⟩:=hw.load hB k hlt
   obtain⟨b',off',rfl,hb',d0,d1,d2⟩:=hw'.load hB k hlt;have hltI:(k:Int)<(ms.length:Int):=by omega
   clear hw hw';go_wp2_with fail
   go_region_with (go_at_call 242;refine(zj3 ms[k] _).mono ?_;rintro e w1⟨rfl,hb1'⟩;have hb1:=(bRf wr.heap.size wr).drew.trans hb1';clear hb1')
   all_goals go_wp2_with fail
   all_goals exact⟨⟨k+1,by omega,by go_num,hB.trans (hb1.mono hB.size)⟩,by simp[intOf];omega⟩
  ·clear hw hw'
   go_wp2_with fail
   go_ret;exact⟨rfl,hB⟩
structure zbG (lo:Nat)(w:World)(bo:Nat)(ms:List Wt)(k:Nat):Prop where
 low:lo<=bo
 rows:∃C,w.heap[bo]?=some (.cells C 176)/\C.size=ms.length*3/\∀i (h:i<ms.length),i<k->∀j,j<3->C[i*3+j]?=ms[i].cells[j]?
theorem zbG.at {lo:Nat}{w:World}{bo:Nat}{ms:List Wt}(h:zbG lo w bo ms ms.length)(hs:∀i (h:i<ms.length),ms[i].Small)(hl:ms.length<=maxLen):zcs w (some (aD bo 0)) ms:=by
 obtain⟨C,hC,hsz,hr⟩:=h.rows;refine⟨hl,hs,fun _=>⟨bo,0,rfl,(gES hC).1,fun i hi j hj=>?_⟩⟩;rw[cell_of_block hC,Nat.zero_add];exact hr i hi hi j hj
theorem zbG.later {lo:Nat}{w w':World}{bo:Nat}{ms:List Wt}{k:Nat}(h:zbG lo w bo ms k)(hb:Bw w w'):zbG lo w' bo ms k:=by
 obtain⟨C,hC,hsz,hr⟩:=h.rows;exact⟨h.low,C,(hb.block bo (gES hC).1).trans hC,hsz,hr⟩
def zpY (w:World)(b o:Nat)(v0 v1 v2:Value):World:=(((w.setCell (aD b o) v0).setCell (aD b (o+1)) v1).setCell (aD b (o+2)) v2)
def zjU (C:AV)(o:Nat)(v0 v1 v2:Value):AV:=(((C.setIfInBounds (o) v0).setIfInBounds (o+1) v1).setIfInBounds (o+2) v2)
theorem zny {w:World}{b o:Nat}{C:AV}{t:TypeId}(h:w.heap[b]?=some (.cells C t))(v0 v1 v2:Value):(zpY w b o v0 v1 v2).heap[b]?=some (.cells (zjU C o v0 v1 v2) t):=
 zi (zi (zi h v0) v1) v2
theorem zmQ {B:Nat}{a w:World}(h:Below B a w){b:Nat}(hb:B<=b)(o:Nat)(v0 v1 v2:Value):Below B a (zpY w b o v0 v1 v2):=
 ((h.setCell hb v0).setCell hb v1).setCell hb v2
theorem zoA (C:AV)(o:Nat)(v0 v1 v2:Value):(zjU C o v0 v1 v2).size=C.size:=by simp[zjU]
theorem zps (C:AV)(o i:Nat)(v0 v1 v2:Value)(h:i<o \/ o+3<=i):(zjU C o v0 v1 v2)[i]?=C[i]?:=by
 unfold zjU
 iterate 3 rw[Array.getElem?_setIfInBounds,if_neg (by omega)]
theorem zpV (C:AV)(o j:Nat)(v0 v1 v2:Value)(hj:j<3)(ho:o+3<=C.size):(zjU C o v0 v1 v2)[o+j]?=(#[v0,v1,v2]:AV)[j]?:=by
 have hc:j=0 \/ j=1 \/ j=2:=by omega
 unfold zjU
 rcases hc with h|h|h <;> subst h <;> simp[Array.getElem?_setIfInBounds] <;> omega
theorem zbG.put {lo:Nat}{w:World}{bo:Nat}{ms:List Wt}{k:Nat}(h:zbG lo w bo ms k)(hk:k<ms.length) :
 zbG lo (zpY w bo (k*3) (.s ms[k].kd) (.s ms[k].nm) (.i ms[k].vn)) bo ms (k+1):=by
 obtain⟨C,hC,hsz,hr⟩:=h.rows;refine⟨h.low,_,zny hC _ _ _,by rw[zoA];exact hsz,fun i hi hik j hj=>?_⟩
 rcases Nat.lt_or_ge i k with hlt|hge
 ·rw[zps _ _ _ _ _ _ (by omega)]
  exact hr i hi hlt j hj
 ·have e:i=k:=by omega
  subst e;rw[zpV _ _ _ _ _ _ hj (by omega)]
  rfl
theorem zj2 (m:Wt)(w:World) :
 Calls Tryz.prog 225 #[.agg m.cells] w fun e w'=>e=.returned (.agg m.cells)/\Bw w w':=by
 unfold Wt.cells;go_enter Tryz.func225,Tryz.ntmps225;go_wp2_with fail
 refine bodyPost_ret (v:=.agg #[.s m.kd,.s m.nm,.i m.vn]) (by simp[results,Tryz.results225,go_sem]) rfl ⟨rfl,?_⟩;exact(((bAl _ _).alloc (by simp) _).alloc (by simp;omega) _)
def zqh:AV:=#[.s ByteArray.empty,.s ByteArray.empty,.i 0]
def zo5 (n:Nat):AV:=madeCells zqh (n*3)
theorem zh5 (a:OA)(cap:Nat)(ms:List Wt)(w:World)(hw:zcs w a ms)(hl:ms.length<=1048576) :
 Calls Tryz.prog 189 #[.l a ms.length cap] w fun e w'=>e=.returned (.l (some (aD w.heap.size 0)) ms.length ms.length)/\zbG w.heap.size w' w.heap.size ms ms.length/\Bw w w':=by
 have hmk:∀w:World,(Instr.makeSlice 108 (.i ms.length) (.i ms.length)).run Tryz.prog w=.ok (.l (some (aD w.heap.size 0)) ms.length ms.length) (w.alloc (.cells (zo5 ms.length) 176)):=
  fun w=>qE (P:=Tryz.prog) 108 176 (.agg zqh) 3 40 Tryz.underlying108 (by kernel_rfl) ms.length (by omega) (by omega) w
 go_enter Tryz.func189,Tryz.ntmps189;go_wp2_with fail
 clear hmk
 go_loopw [4] (fun i wr=>∃k:Nat,k<=ms.length/\i=.i k/\zbG w.heap.size wr w.heap.size ms k/\Bw w wr) (fun i _=>ms.length-(intOf i).toNat)
 case atStart=>exact⟨0,Nat.zero_le _,rfl,⟨Nat.le_refl _,zo5 ms.length,(MapKept.heap_alloc w _).1,size_madeCells _ _,fun i _ h=>absurd h (by omega)⟩,bAl _ _⟩
 case round=>
  obtain⟨k,hk,rfl,hown,hB⟩:=hrel
  by_cases hlt:k<ms.length
  ·obtain⟨b,off,rfl,hb,c0,c1,c2⟩:=hw.load hB k hlt
   have hltI:(k:Int)<(ms.length:Int):=by omega
   clear hw;go_wp2_with fail
   refine(zj2 ms[k] _).mono ?_;rintro e w1⟨rfl,hb1⟩;have hB1:=hB.trans (hb1.mono hB.size);have hown1:=hown.later hb1
   have hbo:w.heap.size<wr.heap.size:=by
    obtain⟨C',hC',_⟩:=hown.rows;exact(gES hC').1
   obtain⟨C,hC,hsz,_⟩:=hown1.rows;have hfz:∀o,w1.frozen? (aD w.heap.size o)=false:=fun o=>zm hC
   have hex:∀o,o<ms.length*3->∃v,w1.cell? (aD w.heap.size o)=some v:=fun o ho=>⟨C[o]'(by omega),by rw[cell_of_block hC];exact Array.getElem?_eq_getElem (by omega)⟩
   obtain⟨v0,hv0⟩:=hex (k*3) (by omega);obtain⟨v1,hv1⟩:=hex (k*3+1) (by omega);obtain⟨v2,hv2⟩:=hex (k*3+2) (by omega);have HP:Hid (zbG w.heap.size w1 w.heap.size ms k):=hown1;clear hex hC hsz c0 c1 c2 hown hown1;unfold Wt.cells;go_wp2_with fail
   exact⟨⟨k+1,by omega,by go_num,HP.o.put hlt,zmQ hB1 (Nat.le_refl _) _ _ _ _⟩,by simp[intOf];omega⟩
  ·have HF:Hid (zbG w.heap.size wr w.heap.size ms ms.length):=by
    have e:k=ms.length:=by omega
    subst e;exact hown
   clear hw hown;go_wp2_with fail
   go_ret;exact⟨rfl,HF.o,hB⟩
structure Ak where
 who:BA
 vb:Int
 kd:BA
 nm:BA
 tm:BA
 vs:List BA
 hs:List BA
 sn:Int
 hd:BA
 to:BA
 r:Rl
 no:Int
def Ak.cells (x:Ak)(a0 a1 a2:OA)(c0 c1 c2:Nat):AV:=#[.s x.who,.i x.vb,.s x.kd,.s x.nm,.s x.tm,.l a0 x.vs.length c0,.l a1 x.hs.length c1,.i x.sn,.s x.hd,.s x.to,.l a2 x.r.vs.length c2,.s x.r.kd,.s x.r.tm,.s x.r.px,.i x.no]
structure Ak.Small (x:Ak):Prop where
 who:x.who.size<=maxLen
 kd:x.kd.size<=maxLen
 nm:x.nm.size<=maxLen
 tm:x.tm.size<=maxLen
 hd:x.hd.size<=maxLen
 to:x.to.size<=maxLen
 r:x.r.Small
structure je (w:World)(x:Ak)(a0 a1 a2:OA):Prop where
 small:x.Small
 vs:zK w a0 x.vs
 hs:zK w a1 x.hs
 r:qR w a2 x.r.vs
theorem je.mono {w w':World}{x:Ak}{a0 a1 a2:OA}(h:je w x a0 a1 a2)(hb:Bw w w'):je w' x a0 a1 a2:=⟨h.small,h.vs.mono hb,h.hs.mono hb,h.r.mono hb⟩
def Ak.sz (x:Ak):Nat:=x.who.size+x.kd.size+x.nm.size+x.tm.size+yL x.vs+yL x.hs+x.hd.size+x.to.size+x.r.sz
structure Ak.Few (x:Ak):Prop where
 vs:x.vs.length<=1048576
 hs:x.hs.length<=1048576
 r:x.r.vs.length<=1048576
theorem Ak.few {x:Ak}(h:(x.sz:Int)<=1048576):x.Few:=by
 unfold Ak.sz Rl.sz yL at h;exact⟨by omega,by omega,by omega⟩
theorem zcP (w:World)(X Y:AV)(s t:TypeId):(∀j,((w.alloc (.cells X s)).alloc (.cells Y t)).cell? (aD w.heap.size j)=X[j]?)/\∀j,((w.alloc (.cells X s)).alloc (.cells Y t)).cell? (aD (w.heap.size+1) j)=Y[j]?:=by
 refine⟨za (zn w X s) (by simp) (bAl _ _),fun j=>?_⟩;have h:=zn (w.alloc (.cells X s)) Y t j;rw[World.size_alloc]at h;exact h
theorem zdq (x:Ak)(a0 a1 a2:OA)(c0 c1 c2:Nat)(left:Int)(w:World)(ho:je w x a0 a1 a2)(h0:0<=left)(h1:left<=1048576) :
 Calls Tryz.prog 177 #[.agg (x.cells a0 a1 a2 c0 c1 c2),.i left] w fun e w'=>e=.returned (.i (zD x.sz left))/\Bw w w':=by
 have k1:=ho.small.who;have k2:=ho.small.kd;have k3:=ho.small.nm;have k4:=ho.small.tm;have k5:=ho.small.hd;have k6:=ho.small.to;have hv:=ho.vs;have hh:=ho.hs;have HM:Hid (x.r.Small/\x.r.vs.length<=maxLen):=⟨ho.small.r,ho.r.len⟩
 clear ho;unfold maxLen at k1 k2 k3 k4 k5 k6;unfold Ak.cells;have hB:∀ob,Bw w (w.alloc ob):=fun ob=>bAl _ _
 by_cases c1:(x.who.size:Int)<=left
 rotate_left
 ·have HF:Hid (zD x.sz left=-1):=zq (by unfold Ak.sz;omega)
  go_enter Tryz.func177,Tryz.ntmps177;go_wp2_with fail
  go_ret;exact⟨zl HF.o.symm,hB _⟩
 by_cases c2:(x.kd.size:Int)<=left-x.who.size
 rotate_left
 ·have HF:Hid (zD x.sz left=-1):=zq (by unfold Ak.sz;omega)
  go_enter Tryz.func177,Tryz.ntmps177;go_wp2_with fail
  go_ret;exact⟨zl HF.o.symm,hB _⟩
 by_cases c3:(x.nm.size:Int)<=left-x.who.size-x.kd.size
 rotate_left
 ·have HF:Hid (zD x.sz left=-1):=zq (by unfold Ak.sz;omega)
  go_enter Tryz.func177,Tryz.ntmps177;go_wp2_with fail
  go_ret;exact⟨zl HF.o.symm,hB _⟩
 by_cases c4:(x.tm.size:Int)<=left-x.who.size-x.kd.size-x.nm.size
 rotate_left
 ·have HF:Hid (zD x.sz left=-1):=zq (by unfold Ak.sz;omega)
  go_enter Tryz.func177,Tryz.ntmps177;go_wp2_with fail
  go_ret;exact⟨zl HF.o.symm,hB _⟩
 by_cases c5:(yL x.vs:Int)<=left-x.who.size-x.kd.size-x.nm.size-x.tm.size
 rotate_left
 ·have HF:Hid (zD x.sz left=-1):=zq (by unfold Ak.sz;omega)
  go_enter Tryz.func177,Tryz.ntmps177;go_wp2_with fail
  refine(zbP _ _ _ _ _ (hv.mono (hB _)) (by omega) (by omega) (by omega)).mono ?_;rintro e w1⟨rfl,rfl⟩;go_wp2_with fail
  go_ret;exact⟨zl HF.o.symm,hB _⟩
 by_cases c6:(yL x.hs:Int)<=left-x.who.size-x.kd.size-x.nm.size-x.tm.size-yL x.vs
 rotate_left
 ·have HF:Hid (zD x.sz left=-1):=zq (by unfold Ak.sz;omega)
  go_enter Tryz.func177,Tryz.ntmps177;go_wp2_with fail
  refine(yK _ _ _ _ _ (hv.mono (hB _)) (by omega) (by omega) (by omega)).mono ?_;rintro e w1⟨rfl,rfl⟩;go_wp2_with fail
  refine(zbP _ _ _ _ _ (hh.mono (hB _)) (by omega) (by omega) (by omega)).mono ?_;rintro e w1⟨rfl,rfl⟩;go_wp2_with fail
  go_ret;exact⟨zl HF.o.symm,hB _⟩
 by_cases c7:(x.hd.size:Int)<=left-x.who.size-x.kd.size-x.nm.size-x.tm.size-yL x.vs-yL x.hs
 rotate_left
 ·have HF:Hid (zD x.sz left=-1):=zq (by unfold Ak.sz;omega)
  go_enter Tryz.func177,Tryz.ntmps177;go_wp2_with fail
  refine(yK _ _ _ _ _ (hv.mono (hB _)) (by omega) (by omega) (by omega)).mono ?_;rintro e w1⟨rfl,rfl⟩;go_wp2_with fail
  refine(yK _ _ _ _ _ (hh.mono (hB _)) (by omega) (by omega) (by omega)).mono ?_;rintro e w1⟨rfl,rfl⟩;go_wp2_with fail
  go_ret;exact⟨zl HF.o.symm,hB _⟩
 by_cases c8:(x.to.size:Int)<=left-x.who.size-x.kd.size-x.nm.size-x.tm.size-yL x.vs-yL x.hs-x.hd.size
 rotate_left
 ·have HF:Hid (zD x.sz left=-1):=zq (by unfold Ak.sz;omega)
  go_enter Tryz.func177,Tryz.ntmps177;go_wp2_with fail
  refine(yK _ _ _ _ _ (hv.mono (hB _)) (by omega) (by omega) (by omega)).mono ?_;rintro e w1⟨rfl,rfl⟩;go_wp2_with fail
  refine(yK _ _ _ _ _ (hh.mono (hB _)) (by omega) (by omega) (by omega)).mono ?_;rintro e w1⟨rfl,rfl⟩;go_wp2_with fail
  go_ret;exact⟨zl HF.o.symm,hB _⟩
 by_cases c9:(x.r.sz:Int)<=left-x.who.size-x.kd.size-x.nm.size-x.tm.size-yL x.vs-yL x.hs-x.hd.size-x.to.size
 rotate_left
 ·have HF:Hid (zD x.sz left=-1):=zq (by unfold Ak.sz;omega)
  have HC:Hid (¬(x.r.sz:Int)<=left-x.who.size-x.kd.size-x.nm.size-x.tm.size-yL x.vs-yL x.hs-x.hd.size-x.to.size):=c9;clear c9;go_enter Tryz.func177,Tryz.ntmps177;go_wp2_with fail
  refine(yK _ _ _ _ _ (hv.mono (hB _)) (by omega) (by omega) (by omega)).mono ?_;rintro e w1⟨rfl,rfl⟩;go_wp2_with fail
  refine(yK _ _ _ _ _ (hh.mono (hB _)) (by omega) (by omega) (by omega)).mono ?_;rintro e w1⟨rfl,rfl⟩;go_wp2_with fail
  refine(zbC x.r _ _ _ _ HM.o.1 HM.o.2 (by omega) (by omega)).mono ?_;rintro e w1⟨rfl,hb⟩;rw[zq (by have:=HC.o;omega)];have hB1:=(hB _).trans (hb.mono (by simp));clear hb;go_wp2_with fail
  go_ret;exact⟨zl HF.o.symm,hB1⟩
 ·have HF:Hid (zD x.sz left=left-x.who.size-x.kd.size-x.nm.size-x.tm.size-yL x.vs-yL x.hs-x.hd.size-x.to.size-x.r.sz):=by
   unfold Hid;rw[zF (by unfold Ak.sz;omega)];unfold Ak.sz;omega
  go_enter Tryz.func177,Tryz.ntmps177;go_wp2_with fail
  refine(yK _ _ _ _ _ (hv.mono (hB _)) (by omega) (by omega) (by omega)).mono ?_;rintro e w1⟨rfl,rfl⟩;go_wp2_with fail
  refine(yK _ _ _ _ _ (hh.mono (hB _)) (by omega) (by omega) (by omega)).mono ?_;rintro e w1⟨rfl,rfl⟩;go_wp2_with fail
  refine(zbC x.r _ _ _ _ HM.o.1 HM.o.2 (by omega) (by omega)).mono ?_;rintro e w1⟨rfl,hb⟩;rw[zF c9];have hB1:=(hB _).trans (hb.mono (by simp));clear hb;go_wp2_with fail
  go_ret;exact⟨zl HF.o.symm,hB1⟩
theorem zkQ (x:Ak)(a0 a1 a2:OA)(c0 c1 c2:Nat)(b0 b1 b2:OA)(d0 d1 d2:Nat)(w:World)(ho:je w x a0 a1 a2)(ho':je w x b0 b1 b2) :
 Calls Tryz.prog 221 #[.agg (x.cells a0 a1 a2 c0 c1 c2),.agg (x.cells b0 b1 b2 d0 d1 d2)] w fun e w'=>e=.returned (.bool true)/\Bw w w':=by
 have HA:Hid (je w x a0 a1 a2/\je w x b0 b1 b2):=⟨ho,ho'⟩
 have hn1:(x.vb != x.vb)=false:=by simp
 have hn2:(x.sn != x.sn)=false:=by simp
 have hn3:(x.no != x.no)=false:=by simp
 clear ho ho';unfold Ak.cells;go_enter Tryz.func221,Tryz.ntmps221;go_wp2_with fail
 obtain⟨hX0,hY0⟩:=zcP w #[.s x.who,.i x.vb,.s x.kd,.s x.nm,.s x.tm,.l a0 x.vs.length c0,.l a1 x.hs.length c1,.i x.sn,.s x.hd,.s x.to,.l a2 x.r.vs.length c2,.s x.r.kd,.s x.r.tm,.s x.r.px,.i x.no] #[.s x.who,.i x.vb,.s x.kd,.s x.nm,.s x.tm,.l b0 x.vs.length d0,.l b1 x.hs.length d1,.i x.sn,.s x.hd,.s x.to,.l b2 x.r.vs.length d2,.s x.r.kd,.s x.r.tm,.s x.r.px,.i x.no] 107 107;have hB0:=zx w (.cells #[.s x.who,.i x.vb,.s x.kd,.s x.nm,.s x.tm,.l a0 x.vs.length c0,.l a1 x.hs.length c1,.i x.sn,.s x.hd,.s x.to,.l a2 x.r.vs.length c2,.s x.r.kd,.s x.r.tm,.s x.r.px,.i x.no] 107) (.cells #[.s x.who,.i x.vb,.s x.kd,.s x.nm,.s x.tm,.l b0 x.vs.length d0,.l b1 x.hs.length d1,.i x.sn,.s x.hd,.s x.to,.l b2 x.r.vs.length d2,.s x.r.kd,.s x.r.tm,.s x.r.px,.i x.no] 107);obtain⟨W0,hW0⟩:=xN ((w.alloc (.cells #[.s x.who,.i x.vb,.s x.kd,.s x.nm,.s x.tm,.l a0 x.vs.length c0,.l a1 x.hs.length c1,.i x.sn,.s x.hd,.s x.to,.l a2 x.r.vs.length c2,.s x.r.kd,.s x.r.tm,.s x.r.px,.i x.no] 107)).alloc (.cells #[.s x.who,.i x.vb,.s x.kd,.s x.nm,.s x.tm,.l b0 x.vs.length d0,.l b1 x.hs.length d1,.i x.sn,.s x.hd,.s x.to,.l b2 x.r.vs.length d2,.s x.r.kd,.s x.r.tm,.s x.r.px,.i x.no] 107));have hz0:w.heap.size+1<W0.heap.size:=by rw[hW0];simp
 rw[<- hW0]at hB0 hX0 hY0 ⊢;clear hW0;refine(zbb _ _ _ _ _ _ (HA.o.1.vs.mono hB0) (HA.o.2.vs.mono hB0)).mono ?_;rintro e w1⟨rfl,hb⟩;have hX1:=za hX0 (nSl hz0) hb;have hY1:=za hY0 hz0 hb;have hz1:=nLt hz0 hb.size;have hB1:=hB0.trans (hb.mono hB0.size);clear hb hX0 hY0 hz0 hB0;go_wp2_with fail
 refine(zbb _ _ _ _ _ _ (HA.o.1.hs.mono hB1) (HA.o.2.hs.mono hB1)).mono ?_;rintro e w2⟨rfl,hb⟩;have hX2:=za hX1 (nSl hz1) hb;have hY2:=za hY1 hz1 hb;have hz2:=nLt hz1 hb.size;have hB2:=hB1.trans (hb.mono hB1.size);clear hb hX1 hY1 hz1 hB1;go_wp2_with fail
 refine(zfd x.r _ _ _ _ _ (HA.o.1.r.mono hB2) (HA.o.2.r.mono hB2)).mono ?_;rintro e w3⟨rfl,hb⟩;have hX3:=za hX2 (nSl hz2) hb;have hY3:=za hY2 hz2 hb;have hz3:=nLt hz2 hb.size;have hB3:=hB2.trans (hb.mono hB2.size);clear hb hX2 hY2 hz2 hB2;go_wp2_with fail
 go_ret;exact⟨rfl,hB3⟩
def Ob.row (o:Ob)(a0 a1:OA)(c0 c1:Nat):AV:=#[.s o.kd,.s o.nm,.s o.tm,.l a0 o.vs.length c0,.bool o.en,.l a1 o.hs.length c1,.i o.vr]
def Ob.sz (o:Ob):Nat:=zdU o
theorem Ob.zoB {o:Ob}(h:(o.sz:Int)<=1048576):o.vs.length<=1048576/\o.hs.length<=1048576:=zra h (Int.le_refl _)
theorem zdL (o:Ob)(a0 a1:OA)(c0 c1:Nat)(left:Int)(w:World)(hm:o.Small)(h0':zK w a0 o.vs)(h1':zK w a1 o.hs)(h0:0<=left)(h1:left<=1048576) :
 Calls Tryz.prog 70 #[.agg (o.row a0 a1 c0 c1),.i left] w fun e w'=>e=.returned (.i (zD o.sz left))/\Bw w w':=zhd o a0 a1 c0 c1 left w ⟨hm,h0',h1'⟩ h0 h1
theorem zhc (o:Ob)(a0 a1:OA)(c0 c1:Nat)(a0' a1':OA)(c0' c1':Nat)(w:World)(hm:o.Small)(h0:zK w a0 o.vs)(h1:zK w a1 o.hs)(h0':zK w a0' o.vs)(h1':zK w a1' o.hs) :
 Calls Tryz.prog 112 #[.agg (o.row a0 a1 c0 c1),.agg (o.row a0' a1' c0' c1')] w fun e w'=>e=.returned (.bool true)/\Bw w w':=zhb o a0 a1 a0' a1' c0 c1 c0' c1' w ⟨hm,h0,h1⟩ ⟨hm,h0',h1'⟩
theorem zhj (o:Ob)(a0 a1:OA)(c0 c1:Nat)(w:World)(hm:o.Small)(h0:zK w a0 o.vs)(h1:zK w a1 o.hs)(hl:o.vs.length<=1048576/\o.hs.length<=1048576) :
 Calls Tryz.prog 92 #[.agg (o.row a0 a1 c0 c1)] w fun e w'=>∃g0 g1,e=.returned (.agg (o.row (some (aD g0 0)) (some (aD g1 0)) o.vs.length o.hs.length))/\w.heap.size<=g0/\w'.heap[g0]?=some (.cells (jI o.vs) 9)/\w.heap.size<=g1/\w'.heap[g1]?=some (.cells (jI o.hs) 9)/\Bw w w':=by
 refine(zhn o a0 a1 c0 c1 w ⟨hm,h0,h1⟩ hl.1 hl.2).mono ?_;rintro e w'⟨bv,bh,he,hv,hh,_,hbv,hbh,hb⟩;exact⟨bv,bh,he,hv,hbv,hh,hbh,hb⟩
structure zpc (w:World)(b off:Nat)(x:Ob)(a0 a1:OA)(c0 c1:Nat):Prop where
 small:x.Small
 l0:zK w a0 x.vs
 l1:zK w a1 x.hs
 cell:∀j,j<7->w.cell? (aD b (off+j))=(Ob.row x a0 a1 c0 c1)[j]?
structure zcb (w:World)(a:OA)(ms:List Ob):Prop where
 len:ms.length<=maxLen
 rows:ms≠[]->∃b off,a=some (aD b off)/\b<w.heap.size/\∀i (h:i<ms.length),∃a0 a1 c0 c1,zpc w b (off+i*7) ms[i] a0 a1 c0 c1
theorem zpc.mono {w w':World}{b off:Nat}{x:Ob}{a0 a1:OA}{c0 c1:Nat}(h:zpc w b off x a0 a1 c0 c1)(hb:b<w.heap.size)(hl:Bw w w'):zpc w' b off x a0 a1 c0 c1:=
 ⟨h.small,h.l0.mono hl,h.l1.mono hl,fun j hj=>(hl.cell (p:=(aD b (off+j))) hb).trans (h.cell j hj)⟩
theorem zcb.mono {w w':World}{a:OA}{ms:List Ob}(h:zcb w a ms)(hl:Bw w w'):zcb w' a ms:=
 ⟨h.len,fun hne=>by
  obtain⟨b,off,ha,hb,hr⟩:=h.rows hne;refine⟨b,off,ha,nLt hb hl.size,fun i hi=>?_⟩;obtain⟨a0,a1,c0,c1,hf⟩:=hr i hi;exact⟨a0,a1,c0,c1,hf.mono hb hl⟩⟩
theorem zcb.load {w w':World}{a:OA}{ms:List Ob}(h:zcb w a ms)(hl:Bw w w')(i:Nat)(hi:i<ms.length):∃b off a0 a1 c0 c1,a=some (aD b off)/\b<w.heap.size/\ms[i].Small/\zK w' a0 ms[i].vs/\zK w' a1 ms[i].hs /\
 w'.cell? (aD b (off+i*7))=some (.s ms[i].kd)/\w'.cell? (aD b (off+i*7+1))=some (.s ms[i].nm)/\w'.cell? (aD b (off+i*7+2))=some (.s ms[i].tm)/\w'.cell? (aD b (off+i*7+3))=some (.l a0 ms[i].vs.length c0)/\w'.cell? (aD b (off+i*7+4))=some (.bool ms[i].en)/\w'.cell? (aD b (off+i*7+5))=some (.l a1 ms[i].hs.length c1)/\w'.cell? (aD b (off+i*7+6))=some (.i ms[i].vr):=by
 obtain⟨b,off,ha,hb,hr⟩:=h.rows (by rintro rfl;simp at hi);obtain⟨a0,a1,c0,c1,hf0⟩:=hr i hi;have hf:=hf0.mono hb hl;exact⟨b,off,a0,a1,c0,c1,ha,hb,hf.small,hf.l0,hf.l1,hf.cell 0 (by omega),hf.cell 1 (by omega),hf.cell 2 (by omega),hf.cell 3 (by omega),hf.cell 4 (by omega),hf.cell 5 (by omega),hf.cell 6 (by omega)⟩
def zbd (ms:List Ob):Nat:=(ms.map Ob.sz).sum
def q8 (ms:List Ob):Nat:=ms.length+zbd ms
structure zgk (ms:List Ob):Prop where
 small:∀i (h:i<ms.length),ms[i].Small/\(ms[i].vs.length<=maxLen/\∀s∈ms[i].vs,s.size<=maxLen)/\(ms[i].hs.length<=maxLen/\∀s∈ms[i].hs,s.size<=maxLen)
theorem zcb.smalls {w:World}{a:OA}{ms:List Ob}(h:zcb w a ms):zgk ms:=
 ⟨fun i hi=>by
  obtain⟨b,off,_,_,hr⟩:=h.rows (by rintro rfl;simp at hi);obtain⟨a0,a1,c0,c1,hf⟩:=hr i hi;exact⟨hf.small,⟨hf.l0.len,hf.l0.small⟩,⟨hf.l1.len,hf.l1.small⟩⟩⟩
theorem zlE {ms:List Ob}{left:Int}(h:(q8 ms:Int)<=left)(hl:left<=1048576):ms.length<=1048576/\∀i (h:i<ms.length),ms[i].vs.length<=1048576/\ms[i].hs.length<=1048576:=by
 unfold q8 at h;refine⟨by omega,fun i hi=>?_⟩;have h1:ms[i].sz<=zbd ms:=zfp Ob.sz ms i hi;exact Ob.zoB (by omega)
theorem zgf (a:OA)(cap:Nat)(ms:List Ob)(left:Int)(w:World)(hw:zcb w a ms)(h0:0<=left)(h1:left<=1048576) :
 Calls Tryz.prog 34 #[.l a ms.length cap,.i left] w fun e w'=>e=.returned (.i (zD (q8 ms) left))/\Bw w w':=by
 have hl:=hw.len;unfold maxLen at hl
 by_cases hfit:(ms.length:Int)<=left
 ·go_enter Tryz.func34,Tryz.ntmps34
  go_wp2_with fail
  go_loopw [1,5] (fun l i wr=>∃k:Nat,k<=ms.length/\i=.i k/\0<=left-ms.length-zbd (ms.take k)/\l=.i (left-ms.length-zbd (ms.take k))/\Bw w wr) (fun _ i _=>ms.length-(intOf i).toNat)
  case atStart=>exact⟨0,Nat.zero_le _,rfl,by simp[zbd];omega,by simp[zbd],bRf _ _⟩
  case round=>
   obtain⟨k,hk,rfl,hpos,rfl,hB⟩:=hrel
   by_cases hlt:k<ms.length
   ·obtain⟨b,off,a0,a1,c0,c1,rfl,hb,hsm,hl0,hl1,d0,d1,d2,d3,d4,d5,d6⟩:=hw.load hB k hlt
    have hbr:=nLt hb hB.size;have HS:Hid (zbd (ms.take (k+1))=zbd (ms.take k)+ms[k].sz):=zal Ob.sz ms k hlt;have hle:zbd (ms.take (k+1))<=zbd ms:=zbD Ob.sz ms (k+1);have HI:Hid (zK wr a0 ms[k].vs/\zK wr a1 ms[k].hs):=⟨hl0,hl1⟩
    clear hw hl0 hl1
    by_cases hneg:(ms[k].sz:Int)<=left-ms.length-zbd (ms.take k)
    ·have HNG:Hid ((ms[k].sz:Int)<=left-ms.length-zbd (ms.take k)):=hneg
     clear hle;go_wp2_with fail
     refine(zdL ms[k] a0 a1 c0 c1 _ _ hsm HI.o.1 HI.o.2 hpos (by omega)).mono ?_;rintro e w1⟨rfl,hb1⟩;rw[zF HNG.o];have hB1:=hB.trans (hb1.mono hB.size);clear hb1;go_wp2_with fail
     exact⟨⟨k+1,by omega,by go_num,by rw[HS.o];omega,by rw[HS.o];congr 1;omega,hB1⟩,by simp[intOf];omega⟩
    ·have HF:Hid (zD (q8 ms) left=-1):=zq (by have:=HS.o;unfold q8;omega)
     have HNG:=hid hneg;clear hneg hle;go_wp2_with fail
     refine(zdL ms[k] a0 a1 c0 c1 _ _ hsm HI.o.1 HI.o.2 hpos (by omega)).mono ?_;rintro e w1⟨rfl,hb1⟩;rw[zq (by have:=HNG.o;omega)];have hB1:=hB.trans (hb1.mono hB.size);clear hb1;go_wp2_with fail
     go_ret;exact⟨zl HF.o.symm,hB1⟩
   ·have HF:Hid (zD (q8 ms) left=left-ms.length-zbd (ms.take k)):=by
     rw[tOl (by omega)]at hpos ⊢;have e:zD (q8 ms) left=left-q8 ms:=zF (by unfold q8;omega);unfold Hid;rw[e];unfold q8;omega
    clear hw
    go_wp2
    go_ret;exact⟨zl HF.o.symm,hB⟩
 ·have HF:Hid (zD (q8 ms) left=-1):=zq (by unfold q8;omega)
  clear hw;go_enter Tryz.func34,Tryz.ntmps34
  go_wp2
  go_ret;exact⟨zl HF.o.symm,bRf _ _⟩
theorem zgu (a a':OA)(cap cap':Nat)(ms:List Ob)(w:World)(hw:zcb w a ms)(hw':zcb w a' ms) :
 Calls Tryz.prog 64 #[.l a ms.length cap,.l a' ms.length cap'] w fun e w'=>e=.returned (.bool true)/\Bw w w':=by
 have hl:=hw.len;unfold maxLen at hl;have hnn:((ms.length:Int) != ms.length)=false:=by simp
 go_enter Tryz.func64,Tryz.ntmps64;go_wp2_with fail
 go_loopw [5] (fun i wr=>∃k:Nat,k<=ms.length/\i=.i k/\Bw w wr) (fun i _=>ms.length-(intOf i).toNat)
 case atStart=>exact⟨0,Nat.zero_le _,rfl,bRf _ _⟩
 case round=>
  obtain⟨k,hk,rfl,hB⟩:=hrel
  by_cases hlt:k<ms.length
  ·obtain⟨b,off,a0,a1,c0,c1,rfl,hb,hsm,hl0,hl1,d0,d1,d2,d3,d4,d5,d6⟩:=hw.load hB k hlt
   obtain⟨b',off',a0',a1',c0',c1',rfl,hb',_,hl0',hl1',f0,f1,f2,f3,f4,f5,f6⟩:=hw'.load hB k hlt;have hltI:(k:Int)<(ms.length:Int):=by omega
   clear hw hw';go_wp2_with fail
   go_region_with (go_at_call 112;refine(zhc ms[k] a0 a1 c0 c1 a0' a1' c0' c1' _ hsm (by exact hl0.mono ((bRf _ _).drew)) (by exact hl1.mono ((bRf _ _).drew)) (by exact hl0'.mono ((bRf _ _).drew)) (by exact hl1'.mono ((bRf _ _).drew))).mono ?_;rintro e w1⟨rfl,hb1'⟩;have hb1:=(bRf wr.heap.size wr).drew.trans hb1';clear hb1')
   all_goals go_wp2_with fail
   all_goals exact⟨⟨k+1,by omega,by go_num,hB.trans (hb1.mono hB.size)⟩,by simp[intOf];omega⟩
  ·clear hw hw'
   go_wp2_with fail
   go_ret;exact⟨rfl,hB⟩
structure zaF (lo:Nat)(w:World)(bo:Nat)(ms:List Ob)(k:Nat):Prop where
 low:lo<=bo
 rows:∃C,w.heap[bo]?=some (.cells C 154)/\C.size=ms.length*7 /\
  ∀i (h:i<ms.length),i<k->∃g0 g1,lo<=g0/\g0≠bo/\w.heap[g0]?=some (.cells (jI ms[i].vs) 9)/\lo<=g1/\g1≠bo/\w.heap[g1]?=some (.cells (jI ms[i].hs) 9)/\∀j,j<7->C[i*7+j]?=(Ob.row ms[i] (some (aD g0 0)) (some (aD g1 0)) ms[i].vs.length ms[i].hs.length)[j]?
theorem zaF.at {lo:Nat}{w:World}{bo:Nat}{ms:List Ob}(h:zaF lo w bo ms ms.length)(hs:zgk ms)(hl:ms.length<=maxLen):zcb w (some (aD bo 0)) ms:=by
 obtain⟨C,hC,hsz,hr⟩:=h.rows;refine⟨hl,fun _=>⟨bo,0,rfl,(gES hC).1,fun i hi=>?_⟩⟩;obtain⟨g0,g1,_,_,hk0,_,_,hk1,hc⟩:=hr i hi hi;obtain⟨s0,s1,s2⟩:=hs.small i hi;refine⟨some (aD g0 0),some (aD g1 0),ms[i].vs.length,ms[i].hs.length,s0,zb2 hk0 s1.1 s1.2,zb2 hk1 s2.1 s2.2,fun j hj=>?_⟩;rw[cell_of_block hC,Nat.zero_add];exact hc j hj
theorem zaF.above {lo:Nat}{w w':World}{bo:Nat}{ms:List Ob}{k:Nat}(h:zaF lo w bo ms k)(ha:zY lo w w'):zaF lo w' bo ms k:=by
 obtain⟨C,hC,hsz,hr⟩:=h.rows;refine⟨h.low,C,(ha.same _ h.low (gES hC).1).trans hC,hsz,fun i hi hk=>?_⟩;obtain⟨g0,g1,p0,q0,r0,p1,q1,r1,hc⟩:=hr i hi hk;exact⟨g0,g1,p0,q0,(ha.same _ p0 (gES r0).1).trans r0,p1,q1,(ha.same _ p1 (gES r1).1).trans r1,hc⟩
theorem zaF.later {lo:Nat}{w w':World}{bo:Nat}{ms:List Ob}{k:Nat}(h:zaF lo w bo ms k)(hb:Bw w w'):zaF lo w' bo ms k:=h.above (zY.below hb)
def zmX (w:World)(b o:Nat)(v0 v1 v2 v3 v4 v5 v6:Value):World:=(((((((w.setCell (aD b o) v0).setCell (aD b (o+1)) v1).setCell (aD b (o+2)) v2).setCell (aD b (o+3)) v3).setCell (aD b (o+4)) v4).setCell (aD b (o+5)) v5).setCell (aD b (o+6)) v6)
def zi9 (C:AV)(o:Nat)(v0 v1 v2 v3 v4 v5 v6:Value):AV:=(((((((C.setIfInBounds (o) v0).setIfInBounds (o+1) v1).setIfInBounds (o+2) v2).setIfInBounds (o+3) v3).setIfInBounds (o+4) v4).setIfInBounds (o+5) v5).setIfInBounds (o+6) v6)
theorem zmV {w:World}{b o:Nat}{C:AV}{t:TypeId}(h:w.heap[b]?=some (.cells C t))(v0 v1 v2 v3 v4 v5 v6:Value):(zmX w b o v0 v1 v2 v3 v4 v5 v6).heap[b]?=some (.cells (zi9 C o v0 v1 v2 v3 v4 v5 v6) t):=
 zi (zi (zi (zi (zi (zi (zi h v0) v1) v2) v3) v4) v5) v6
theorem zm2 {B:Nat}{a w:World}(h:Below B a w){b:Nat}(hb:B<=b)(o:Nat)(v0 v1 v2 v3 v4 v5 v6:Value):Below B a (zmX w b o v0 v1 v2 v3 v4 v5 v6):=
 ((((((h.setCell hb v0).setCell hb v1).setCell hb v2).setCell hb v3).setCell hb v4).setCell hb v5).setCell hb v6
theorem zdf (w:World)(b o:Nat)(v0 v1 v2 v3 v4 v5 v6:Value){b':Nat}(h:b'≠b):(zmX w b o v0 v1 v2 v3 v4 v5 v6).heap[b']?=w.heap[b']?:=by
 unfold zmX
 iterate 7 rw[zH h]
theorem zoP (C:AV)(o:Nat)(v0 v1 v2 v3 v4 v5 v6:Value):(zi9 C o v0 v1 v2 v3 v4 v5 v6).size=C.size:=by simp[zi9]
theorem zpe (C:AV)(o i:Nat)(v0 v1 v2 v3 v4 v5 v6:Value)(h:i<o \/ o+7<=i):(zi9 C o v0 v1 v2 v3 v4 v5 v6)[i]?=C[i]?:=by
 unfold zi9
 iterate 7 rw[Array.getElem?_setIfInBounds,if_neg (by omega)]
theorem zpR (C:AV)(o j:Nat)(v0 v1 v2 v3 v4 v5 v6:Value)(hj:j<7)(ho:o+7<=C.size):(zi9 C o v0 v1 v2 v3 v4 v5 v6)[o+j]?=(#[v0,v1,v2,v3,v4,v5,v6]:AV)[j]?:=by
 have hc:j=0 \/ j=1 \/ j=2 \/ j=3 \/ j=4 \/ j=5 \/ j=6:=by omega
 unfold zi9
 rcases hc with h|h|h|h|h|h|h <;> subst h <;> simp[Array.getElem?_setIfInBounds] <;> omega
theorem zaF.put {lo:Nat}{w:World}{bo:Nat}{ms:List Ob}{k:Nat}(h:zaF lo w bo ms k)(hk:k<ms.length)(g0 g1:Nat)(p0:lo<=g0)(q0:g0≠bo)(r0:w.heap[g0]?=some (.cells (jI ms[k].vs) 9))(p1:lo<=g1)(q1:g1≠bo)(r1:w.heap[g1]?=some (.cells (jI ms[k].hs) 9)) :
 zaF lo (zmX w bo (k*7) (.s ms[k].kd) (.s ms[k].nm) (.s ms[k].tm) (.l (some (aD g0 0)) ms[k].vs.length ms[k].vs.length) (.bool ms[k].en) (.l (some (aD g1 0)) ms[k].hs.length ms[k].hs.length) (.i ms[k].vr)) bo ms (k+1):=by
 obtain⟨C,hC,hsz,hr⟩:=h.rows;refine⟨h.low,_,zmV hC _ _ _ _ _ _ _,by rw[zoP];exact hsz,fun i hi hik=>?_⟩
 rcases Nat.lt_or_ge i k with hlt|hge
 ·obtain⟨g0',g1',x0,y0,z0,x1,y1,z1,hc⟩:=hr i hi hlt
  refine⟨g0',g1',x0,y0,(by rw[zdf _ _ _ _ _ _ _ _ _ _ y0];exact z0),x1,y1,(by rw[zdf _ _ _ _ _ _ _ _ _ _ y1];exact z1),fun j hj=>?_⟩;rw[zpe _ _ _ _ _ _ _ _ _ _ (by omega)];exact hc j hj
 ·have e:i=k:=by omega
  subst e;refine⟨g0,g1,p0,q0,(by rw[zdf _ _ _ _ _ _ _ _ _ _ q0];exact r0),p1,q1,(by rw[zdf _ _ _ _ _ _ _ _ _ _ q1];exact r1),fun j hj=>?_⟩;rw[zpR _ _ _ _ _ _ _ _ _ _ hj (by omega)]
  rfl
def zqa:AV:=#[.s ByteArray.empty,.s ByteArray.empty,.s ByteArray.empty,.l none 0 0,.bool false,.l none 0 0,.i 0]
def zoZ (n:Nat):AV:=madeCells zqa (n*7)
theorem zgx (a:OA)(cap:Nat)(ms:List Ob)(w:World)(hw:zcb w a ms)(hl:ms.length<=1048576)(hls:∀i (h:i<ms.length),ms[i].vs.length<=1048576/\ms[i].hs.length<=1048576) :
 Calls Tryz.prog 49 #[.l a ms.length cap] w fun e w'=>e=.returned (.l (some (aD w.heap.size 0)) ms.length ms.length)/\zaF w.heap.size w' w.heap.size ms ms.length/\Bw w w':=by
 have hmk:∀w:World,(Instr.makeSlice 45 (.i ms.length) (.i ms.length)).run Tryz.prog w=.ok (.l (some (aD w.heap.size 0)) ms.length ms.length) (w.alloc (.cells (zoZ ms.length) 154)):=
  fun w=>qE (P:=Tryz.prog) 45 154 (.agg zqa) 7 112 Tryz.underlying45 (by kernel_rfl) ms.length (by omega) (by omega) w
 go_enter Tryz.func49,Tryz.ntmps49;go_wp2_with fail
 clear hmk
 go_loopw [4] (fun i wr=>∃k:Nat,k<=ms.length/\i=.i k/\Hid (zaF w.heap.size wr w.heap.size ms k)/\Bw w wr) (fun i _=>ms.length-(intOf i).toNat)
 case atStart=>exact⟨0,Nat.zero_le _,rfl,⟨Nat.le_refl _,zoZ ms.length,(MapKept.heap_alloc w _).1,size_madeCells _ _,fun i _ h=>absurd h (by omega)⟩,bAl _ _⟩
 case round=>
  obtain⟨k,hk,rfl,HOW,hB⟩:=hrel
  by_cases hlt:k<ms.length
  ·obtain⟨b,off,a0,a1,c0,c1,rfl,hb,hsm,hl0,hl1,d0,d1,d2,d3,d4,d5,d6⟩:=hw.load hB k hlt
   have HLS:=hid (hls k hlt);have hltI:(k:Int)<(ms.length:Int):=by omega
   clear hw;go_wp2_with fail
   refine(zhj ms[k] a0 a1 c0 c1 _ hsm hl0 hl1 HLS.o).mono ?_;rintro e w1⟨g0,g1,rfl,p0,r0,p1,r1,hb1⟩;have hB1:=hB.trans (hb1.mono hB.size)
   have hbo:w.heap.size<wr.heap.size:=by
    obtain⟨C',hC',_⟩:=HOW.o.rows;exact(gES hC').1
   have HP:=hid (HOW.o.later hb1);obtain⟨C,hC,hsz,_⟩:=HP.o.rows;have hfz:∀o,w1.frozen? (aD w.heap.size o)=false:=fun o=>zm hC
   have hex:∀o,o<ms.length*7->∃v,w1.cell? (aD w.heap.size o)=some v:=fun o ho=>⟨C[o]'(by omega),by rw[cell_of_block hC];exact Array.getElem?_eq_getElem (by omega)⟩
   obtain⟨v0,hv0⟩:=hex (k*7) (by omega);obtain⟨v1,hv1⟩:=hex (k*7+1) (by omega);obtain⟨v2,hv2⟩:=hex (k*7+2) (by omega);obtain⟨v3,hv3⟩:=hex (k*7+3) (by omega);obtain⟨v4,hv4⟩:=hex (k*7+4) (by omega);obtain⟨v5,hv5⟩:=hex (k*7+5) (by omega);obtain⟨v6,hv6⟩:=hex (k*7+6) (by omega);have HR:=zor p0 r0 p1 r1;clear hex hC hsz d0 d1 d2 d3 d4 d5 d6 p0 r0 p1 r1 hl0 hl1;unfold Ob.row;go_wp2_with fail
   obtain⟨p0,r0,p1,r1⟩:=HR.o;exact⟨⟨k+1,by omega,by go_num,HP.o.put hlt g0 g1 (by omega) (by omega) r0 (by omega) (by omega) r1,zm2 hB1 (Nat.le_refl _) _ _ _ _ _ _ _ _⟩,by simp[intOf];omega⟩
  ·have HF:Hid (zaF w.heap.size wr w.heap.size ms ms.length):=by
    have e:k=ms.length:=by omega
    subst e;exact HOW.o
   clear hw HOW;go_wp2_with fail
   go_ret;exact⟨rfl,HF.o,hB⟩
structure Lg where
 tm:BA
 rs:BA
 mo:Int
 fr:Int
def Lg.cells (m:Lg):AV:=#[.s m.tm,.s m.rs,.i m.mo,.i m.fr]
structure Lg.Small (m:Lg):Prop where
 tm:m.tm.size<=maxLen
 rs:m.rs.size<=maxLen
structure zcJ (w:World)(a:OA)(ms:List Lg):Prop where
 len:ms.length<=maxLen
 small:∀i (h:i<ms.length),ms[i].Small
 rows:ms≠[]->∃b off,a=some (aD b off)/\b<w.heap.size/\∀i (h:i<ms.length),∀j,j<4->w.cell? (aD b (off+i*4+j))=ms[i].cells[j]?
theorem zcJ.mono {w w':World}{a:OA}{ms:List Lg}(h:zcJ w a ms)(hl:Bw w w'):zcJ w' a ms:=
 ⟨h.len,h.small,fun hne=>by
  obtain⟨b,off,ha,hb,hr⟩:=h.rows hne;exact⟨b,off,ha,nLt hb hl.size,fun i hi j hj=>(hl.cell (p:=(aD b (off+i*4+j))) hb).trans (hr i hi j hj)⟩⟩
theorem zcJ.load {w w':World}{a:OA}{ms:List Lg}(h:zcJ w a ms)(hl:Bw w w')(i:Nat)(hi:i<ms.length):∃b off,a=some (aD b off)/\b<w.heap.size /\
 w'.cell? (aD b (off+i*4))=some (.s ms[i].tm)/\w'.cell? (aD b (off+i*4+1))=some (.s ms[i].rs)/\w'.cell? (aD b (off+i*4+2))=some (.i ms[i].mo)/\w'.cell? (aD b (off+i*4+3))=some (.i ms[i].fr):=by
 obtain⟨b,off,ha,hb,hr⟩:=h.rows (by rintro rfl;simp at hi);have hc:∀j,j<4->w'.cell? (aD b (off+i*4+j))=ms[i].cells[j]?:=fun j hj=>(hl.cell (p:=(aD b (off+i*4+j))) hb).trans (hr i hi j hj)
 exact⟨b,off,ha,hb,hc 0 (by omega),hc 1 (by omega),hc 2 (by omega),hc 3 (by omega)⟩
def Lg.sz (m:Lg):Nat:=m.tm.size+m.rs.size
def zey (ms:List Lg):Nat:=(ms.map Lg.sz).sum
def zc1 (ms:List Lg):Nat:=ms.length+zey ms
theorem zd1 (m:Lg)(left:Int)(w:World)(hm:m.Small)(h0:0<=left)(h1:left<=1048576) :
 Calls Tryz.prog 72 #[.agg m.cells,.i left] w fun e w'=>e=.returned (.i (zD m.sz left))/\Bw w w':=by
 have k0:=hm.tm;have k1:=hm.rs;unfold maxLen at k0 k1;unfold Lg.cells;have hB:∀ob,Bw w (w.alloc ob):=fun ob=>bAl _ _
 by_cases hf:(m.sz:Int)<=left
 ·have HF:Hid (zD m.sz left=left-m.tm.size-m.rs.size):=by
   unfold Hid;rw[zF hf];unfold Lg.sz;omega
  unfold Lg.sz at hf;go_enter Tryz.func72,Tryz.ntmps72;go_wp2_with fail
  go_ret;exact⟨zl HF.o.symm,hB _⟩
 ·have HF:Hid (zD m.sz left=-1):=zq hf
  have HN:Hid (¬((m.tm.size+m.rs.size:Nat):Int)<=left):=hf;clear hf;go_enter Tryz.func72,Tryz.ntmps72;go_wp2_with fail
  all_goals go_ret
  all_goals first|exact⟨zl HF.o.symm,hB _⟩|(exfalso;have:=HN.o;simp at *;omega)
theorem zg8 (m:Lg)(left:Int)(w:World)(hm:m.Small)(h0:0<=left)(h1:left<=1048576)(h:(m.sz:Int)<=left) :
 Calls Tryz.prog 72 #[.agg m.cells,.i left] w fun e w'=>e=.returned (.i (left-m.sz))/\Bw w w':=by
 refine(zd1 m left w hm h0 h1).mono ?_;rintro e w'⟨rfl,hb⟩;exact⟨zl (zF h),hb⟩
theorem ziw (m:Lg)(left:Int)(w:World)(hm:m.Small)(h0:0<=left)(h1:left<=1048576)(h:¬(m.sz:Int)<=left) :
 Calls Tryz.prog 72 #[.agg m.cells,.i left] w fun e w'=>e=.returned (.i (-1))/\Bw w w':=by
 refine(zd1 m left w hm h0 h1).mono ?_;rintro e w'⟨rfl,hb⟩;exact⟨zl (zq h),hb⟩
theorem zgc (a:OA)(cap:Nat)(ms:List Lg)(left:Int)(w:World)(hw:zcJ w a ms)(h0:0<=left)(h1:left<=1048576) :
 Calls Tryz.prog 36 #[.l a ms.length cap,.i left] w fun e w'=>e=.returned (.i (zD (zc1 ms) left))/\Bw w w':=by
 have hl:=hw.len;unfold maxLen at hl
 by_cases hfit:(ms.length:Int)<=left
 ·go_enter Tryz.func36,Tryz.ntmps36
  go_wp2_with fail
  go_loopw [1,5] (fun l i wr=>∃k:Nat,k<=ms.length/\i=.i k/\0<=left-ms.length-zey (ms.take k)/\l=.i (left-ms.length-zey (ms.take k))/\Bw w wr) (fun _ i _=>ms.length-(intOf i).toNat)
  case atStart=>exact⟨0,Nat.zero_le _,rfl,by simp[zey];omega,by simp[zey],bRf _ _⟩
  case round=>
   obtain⟨k,hk,rfl,hpos,rfl,hB⟩:=hrel
   by_cases hlt:k<ms.length
   ·obtain⟨b,off,rfl,hb,c0,c1,c2,c3⟩:=hw.load hB k hlt
    have hsm:=hw.small k hlt;have HS:Hid (zey (ms.take (k+1))=zey (ms.take k)+ms[k].sz):=zal Lg.sz ms k hlt;have hle:zey (ms.take (k+1))<=zey ms:=zbD Lg.sz ms (k+1);clear hw
    by_cases hneg:(ms[k].sz:Int)<=left-ms.length-zey (ms.take k)
    ·have HNG:Hid ((ms[k].sz:Int)<=left-ms.length-zey (ms.take k)):=hneg
     clear hle;go_wp2_with fail
     refine(zg8 _ _ _ hsm hpos (by omega) HNG.o).mono ?_;rintro e w1⟨rfl,hb1⟩;have hB1:=hB.trans (hb1.mono hB.size);clear hb1;go_wp2_with fail
     exact⟨⟨k+1,by omega,by go_num,by rw[HS.o];omega,by rw[HS.o];congr 1;omega,hB1⟩,by simp[intOf];omega⟩
    ·have HF:Hid (zD (zc1 ms) left=-1):=zq (by have:=HS.o;unfold zc1;omega)
     have HNG:=hid hneg;clear hneg hle;go_wp2_with fail
     refine(ziw _ _ _ hsm hpos (by omega) (by have:=HNG.o;omega)).mono ?_;rintro e w1⟨rfl,hb1⟩;have hB1:=hB.trans (hb1.mono hB.size);clear hb1;go_wp2_with fail
     go_ret;exact⟨zl HF.o.symm,hB1⟩
   ·have HF:Hid (zD (zc1 ms) left=left-ms.length-zey (ms.take k)):=by
     rw[tOl (by omega)]at hpos ⊢;have e:zD (zc1 ms) left=left-zc1 ms:=zF (by unfold zc1;omega);unfold Hid;rw[e];unfold zc1;omega
    clear hw
    go_wp2
    go_ret;exact⟨zl HF.o.symm,hB⟩
 ·have HF:Hid (zD (zc1 ms) left=-1):=zq (by unfold zc1;omega)
  clear hw;go_enter Tryz.func36,Tryz.ntmps36
  go_wp2
  go_ret;exact⟨zl HF.o.symm,bRf _ _⟩
theorem zht (m:Lg)(w:World):Calls Tryz.prog 114 #[.agg m.cells,.agg m.cells] w fun e w'=>e=.returned (.bool true)/\Bw w w':=by
 unfold Lg.cells;have hn2:(m.mo != m.mo)=false:=by simp
 have hn3:(m.fr != m.fr)=false:=by simp
 go_enter Tryz.func114,Tryz.ntmps114;go_wp2_with fail
 go_ret;exact⟨rfl,zx _ _ _⟩
theorem zf7 (a a':OA)(cap cap':Nat)(ms:List Lg)(w:World)(hw:zcJ w a ms)(hw':zcJ w a' ms) :
 Calls Tryz.prog 66 #[.l a ms.length cap,.l a' ms.length cap'] w fun e w'=>e=.returned (.bool true)/\Bw w w':=by
 have hl:=hw.len;unfold maxLen at hl;have hnn:((ms.length:Int) != ms.length)=false:=by simp
 go_enter Tryz.func66,Tryz.ntmps66;go_wp2_with fail
 go_loopw [5] (fun i wr=>∃k:Nat,k<=ms.length/\i=.i k/\Bw w wr) (fun i _=>ms.length-(intOf i).toNat)
 case atStart=>exact⟨0,Nat.zero_le _,rfl,bRf _ _⟩
 case round=>
  obtain⟨k,hk,rfl,hB⟩:=hrel
  by_cases hlt:k<ms.length
  ·obtain⟨b,off,rfl,hb,c0,c1,c2,c3⟩:=hw.load hB k hlt
   obtain⟨b',off',rfl,hb',d0,d1,d2,d3⟩:=hw'.load hB k hlt;have hltI:(k:Int)<(ms.length:Int):=by omega
   clear hw hw';go_wp2_with fail
   go_region_with (go_at_call 114;refine(zht ms[k] _).mono ?_;rintro e w1⟨rfl,hb1'⟩;have hb1:=(bRf wr.heap.size wr).drew.trans hb1';clear hb1')
   all_goals go_wp2_with fail
   all_goals exact⟨⟨k+1,by omega,by go_num,hB.trans (hb1.mono hB.size)⟩,by simp[intOf];omega⟩
  ·clear hw hw'
   go_wp2_with fail
   go_ret;exact⟨rfl,hB⟩
structure zax (lo:Nat)(w:World)(bo:Nat)(ms:List Lg)(k:Nat):Prop where
 low:lo<=bo
 rows:∃C,w.heap[bo]?=some (.cells C 171)/\C.size=ms.length*4/\∀i (h:i<ms.length),i<k->∀j,j<4->C[i*4+j]?=ms[i].cells[j]?
theorem zax.at {lo:Nat}{w:World}{bo:Nat}{ms:List Lg}(h:zax lo w bo ms ms.length)(hs:∀i (h:i<ms.length),ms[i].Small)(hl:ms.length<=maxLen):zcJ w (some (aD bo 0)) ms:=by
 obtain⟨C,hC,hsz,hr⟩:=h.rows;refine⟨hl,hs,fun _=>⟨bo,0,rfl,(gES hC).1,fun i hi j hj=>?_⟩⟩;rw[cell_of_block hC,Nat.zero_add];exact hr i hi hi j hj
theorem zax.later {lo:Nat}{w w':World}{bo:Nat}{ms:List Lg}{k:Nat}(h:zax lo w bo ms k)(hb:Bw w w'):zax lo w' bo ms k:=by
 obtain⟨C,hC,hsz,hr⟩:=h.rows;exact⟨h.low,C,(hb.block bo (gES hC).1).trans hC,hsz,hr⟩
theorem zax.above {lo:Nat}{w w':World}{bo:Nat}{ms:List Lg}{k:Nat}(h:zax lo w bo ms k)(ha:zY lo w w'):zax lo w' bo ms k:=by
 obtain⟨C,hC,hr⟩:=h.rows;exact⟨h.low,C,(ha.same _ h.low (gES hC).1).trans hC,hr⟩
theorem zax.weaken {lo lo':Nat}{w:World}{bo:Nat}{ms:List Lg}{k:Nat}(h:zax lo w bo ms k)(hl:lo'<=lo):zax lo' w bo ms k:=⟨Nat.le_trans hl h.low,h.rows⟩
def zqo (w:World)(b o:Nat)(v0 v1 v2 v3:Value):World:=((((w.setCell (aD b o) v0).setCell (aD b (o+1)) v1).setCell (aD b (o+2)) v2).setCell (aD b (o+3)) v3)
def zjE (C:AV)(o:Nat)(v0 v1 v2 v3:Value):AV:=((((C.setIfInBounds (o) v0).setIfInBounds (o+1) v1).setIfInBounds (o+2) v2).setIfInBounds (o+3) v3)
theorem zml {w:World}{b o:Nat}{C:AV}{t:TypeId}(h:w.heap[b]?=some (.cells C t))(v0 v1 v2 v3:Value):(zqo w b o v0 v1 v2 v3).heap[b]?=some (.cells (zjE C o v0 v1 v2 v3) t):=
 zi (zi (zi (zi h v0) v1) v2) v3
theorem zmR {B:Nat}{a w:World}(h:Below B a w){b:Nat}(hb:B<=b)(o:Nat)(v0 v1 v2 v3:Value):Below B a (zqo w b o v0 v1 v2 v3):=
 (((h.setCell hb v0).setCell hb v1).setCell hb v2).setCell hb v3
theorem zn1 (C:AV)(o:Nat)(v0 v1 v2 v3:Value):(zjE C o v0 v1 v2 v3).size=C.size:=by simp[zjE]
theorem zpH (C:AV)(o i:Nat)(v0 v1 v2 v3:Value)(h:i<o \/ o+4<=i):(zjE C o v0 v1 v2 v3)[i]?=C[i]?:=by
 unfold zjE
 iterate 4 rw[Array.getElem?_setIfInBounds,if_neg (by omega)]
theorem zql (C:AV)(o j:Nat)(v0 v1 v2 v3:Value)(hj:j<4)(ho:o+4<=C.size):(zjE C o v0 v1 v2 v3)[o+j]?=(#[v0,v1,v2,v3]:AV)[j]?:=by
 have hc:j=0 \/ j=1 \/ j=2 \/ j=3:=by omega
 unfold zjE
 rcases hc with h|h|h|h <;> subst h <;> simp[Array.getElem?_setIfInBounds] <;> omega
theorem zax.put {lo:Nat}{w:World}{bo:Nat}{ms:List Lg}{k:Nat}(h:zax lo w bo ms k)(hk:k<ms.length) :
 zax lo (zqo w bo (k*4) (.s ms[k].tm) (.s ms[k].rs) (.i ms[k].mo) (.i ms[k].fr)) bo ms (k+1):=by
 obtain⟨C,hC,hsz,hr⟩:=h.rows;refine⟨h.low,_,zml hC _ _ _ _,by rw[zn1];exact hsz,fun i hi hik j hj=>?_⟩
 rcases Nat.lt_or_ge i k with hlt|hge
 ·rw[zpH _ _ _ _ _ _ _ (by omega)]
  exact hr i hi hlt j hj
 ·have e:i=k:=by omega
  subst e;rw[zql _ _ _ _ _ _ _ hj (by omega)]
  rfl
theorem zg0 (m:Lg)(w:World) :
 Calls Tryz.prog 94 #[.agg m.cells] w fun e w'=>e=.returned (.agg m.cells)/\Bw w w':=by
 unfold Lg.cells;go_enter Tryz.func94,Tryz.ntmps94;go_wp2_with fail
 refine bodyPost_ret (v:=.agg #[.s m.tm,.s m.rs,.i m.mo,.i m.fr]) (by simp[results,Tryz.results94,go_sem]) rfl ⟨rfl,?_⟩;exact(((bAl _ _).alloc (by simp) _).alloc (by simp;omega) _)
def zqb:AV:=#[.s ByteArray.empty,.s ByteArray.empty,.i 0,.i 0]
def zo4 (n:Nat):AV:=madeCells zqb (n*4)
theorem zgS (a:OA)(cap:Nat)(ms:List Lg)(w:World)(hw:zcJ w a ms)(hl:ms.length<=1048576) :
 Calls Tryz.prog 51 #[.l a ms.length cap] w fun e w'=>e=.returned (.l (some (aD w.heap.size 0)) ms.length ms.length)/\zax w.heap.size w' w.heap.size ms ms.length/\Bw w w':=by
 have hmk:∀w:World,(Instr.makeSlice 47 (.i ms.length) (.i ms.length)).run Tryz.prog w=.ok (.l (some (aD w.heap.size 0)) ms.length ms.length) (w.alloc (.cells (zo4 ms.length) 171)):=
  fun w=>qE (P:=Tryz.prog) 47 171 (.agg zqb) 4 48 Tryz.underlying47 (by kernel_rfl) ms.length (by omega) (by omega) w
 go_enter Tryz.func51,Tryz.ntmps51;go_wp2_with fail
 clear hmk
 go_loopw [4] (fun i wr=>∃k:Nat,k<=ms.length/\i=.i k/\zax w.heap.size wr w.heap.size ms k/\Bw w wr) (fun i _=>ms.length-(intOf i).toNat)
 case atStart=>exact⟨0,Nat.zero_le _,rfl,⟨Nat.le_refl _,zo4 ms.length,(MapKept.heap_alloc w _).1,size_madeCells _ _,fun i _ h=>absurd h (by omega)⟩,bAl _ _⟩
 case round=>
  obtain⟨k,hk,rfl,hown,hB⟩:=hrel
  by_cases hlt:k<ms.length
  ·obtain⟨b,off,rfl,hb,c0,c1,c2,c3⟩:=hw.load hB k hlt
   have hltI:(k:Int)<(ms.length:Int):=by omega
   clear hw;go_wp2_with fail
   refine(zg0 ms[k] _).mono ?_;rintro e w1⟨rfl,hb1⟩;have hB1:=hB.trans (hb1.mono hB.size);have hown1:=hown.later hb1
   have hbo:w.heap.size<wr.heap.size:=by
    obtain⟨C',hC',_⟩:=hown.rows;exact(gES hC').1
   obtain⟨C,hC,hsz,_⟩:=hown1.rows;have hfz:∀o,w1.frozen? (aD w.heap.size o)=false:=fun o=>zm hC
   have hex:∀o,o<ms.length*4->∃v,w1.cell? (aD w.heap.size o)=some v:=fun o ho=>⟨C[o]'(by omega),by rw[cell_of_block hC];exact Array.getElem?_eq_getElem (by omega)⟩
   obtain⟨v0,hv0⟩:=hex (k*4) (by omega);obtain⟨v1,hv1⟩:=hex (k*4+1) (by omega);obtain⟨v2,hv2⟩:=hex (k*4+2) (by omega);obtain⟨v3,hv3⟩:=hex (k*4+3) (by omega);have HP:=hid hown1;clear hex hC hsz c0 c1 c2 c3 hown hown1;unfold Lg.cells;go_wp2_with fail
   exact⟨⟨k+1,by omega,by go_num,HP.o.put hlt,zmR hB1 (Nat.le_refl _) _ _ _ _ _⟩,by simp[intOf];omega⟩
  ·have HF:Hid (zax w.heap.size wr w.heap.size ms ms.length):=by
    have e:k=ms.length:=by omega
    subst e;exact hown
   clear hw hown;go_wp2_with fail
   go_ret;exact⟨rfl,HF.o,hB⟩
structure Pu where
 dr:BA
 tm:BA
 rs:BA
 am:Int
 un:Int
def Pu.cells (m:Pu):AV:=#[.s m.dr,.s m.tm,.s m.rs,.i m.am,.i m.un]
structure Pu.Small (m:Pu):Prop where
 dr:m.dr.size<=maxLen
 tm:m.tm.size<=maxLen
 rs:m.rs.size<=maxLen
structure zdG (w:World)(a:OA)(ms:List Pu):Prop where
 len:ms.length<=maxLen
 small:∀i (h:i<ms.length),ms[i].Small
 rows:ms≠[]->∃b off,a=some (aD b off)/\b<w.heap.size/\∀i (h:i<ms.length),∀j,j<5->w.cell? (aD b (off+i*5+j))=ms[i].cells[j]?
theorem zdG.mono {w w':World}{a:OA}{ms:List Pu}(h:zdG w a ms)(hl:Bw w w'):zdG w' a ms:=
 ⟨h.len,h.small,fun hne=>by
  obtain⟨b,off,ha,hb,hr⟩:=h.rows hne;exact⟨b,off,ha,nLt hb hl.size,fun i hi j hj=>(hl.cell (p:=(aD b (off+i*5+j))) hb).trans (hr i hi j hj)⟩⟩
theorem zdG.load {w w':World}{a:OA}{ms:List Pu}(h:zdG w a ms)(hl:Bw w w')(i:Nat)(hi:i<ms.length):∃b off,a=some (aD b off)/\b<w.heap.size /\
 w'.cell? (aD b (off+i*5))=some (.s ms[i].dr)/\w'.cell? (aD b (off+i*5+1))=some (.s ms[i].tm)/\w'.cell? (aD b (off+i*5+2))=some (.s ms[i].rs)/\w'.cell? (aD b (off+i*5+3))=some (.i ms[i].am)/\w'.cell? (aD b (off+i*5+4))=some (.i ms[i].un):=by
 obtain⟨b,off,ha,hb,hr⟩:=h.rows (by rintro rfl;simp at hi);have hc:∀j,j<5->w'.cell? (aD b (off+i*5+j))=ms[i].cells[j]?:=fun j hj=>(hl.cell (p:=(aD b (off+i*5+j))) hb).trans (hr i hi j hj)
 exact⟨b,off,ha,hb,hc 0 (by omega),hc 1 (by omega),hc 2 (by omega),hc 3 (by omega),hc 4 (by omega)⟩
def Pu.sz (m:Pu):Nat:=m.dr.size+m.tm.size+m.rs.size
def zes (ms:List Pu):Nat:=(ms.map Pu.sz).sum
def zdc (ms:List Pu):Nat:=ms.length+zes ms
theorem zeC (m:Pu)(left:Int)(w:World)(hm:m.Small)(h0:0<=left)(h1:left<=1048576) :
 Calls Tryz.prog 73 #[.agg m.cells,.i left] w fun e w'=>e=.returned (.i (zD m.sz left))/\Bw w w':=by
 have k0:=hm.dr;have k1:=hm.tm;have k2:=hm.rs;unfold maxLen at k0 k1 k2;unfold Pu.cells;have hB:∀ob,Bw w (w.alloc ob):=fun ob=>bAl _ _
 by_cases hf:(m.sz:Int)<=left
 ·have HF:Hid (zD m.sz left=left-m.dr.size-m.tm.size-m.rs.size):=by
   unfold Hid;rw[zF hf];unfold Pu.sz;omega
  unfold Pu.sz at hf;go_enter Tryz.func73,Tryz.ntmps73;go_wp2_with fail
  go_ret;exact⟨zl HF.o.symm,hB _⟩
 ·have HF:Hid (zD m.sz left=-1):=zq hf
  have HN:Hid (¬((m.dr.size+m.tm.size+m.rs.size:Nat):Int)<=left):=hf;clear hf;go_enter Tryz.func73,Tryz.ntmps73;go_wp2_with fail
  all_goals go_ret
  all_goals first|exact⟨zl HF.o.symm,hB _⟩|(exfalso;have:=HN.o;simp at *;omega)
theorem zh3 (m:Pu)(left:Int)(w:World)(hm:m.Small)(h0:0<=left)(h1:left<=1048576)(h:(m.sz:Int)<=left) :
 Calls Tryz.prog 73 #[.agg m.cells,.i left] w fun e w'=>e=.returned (.i (left-m.sz))/\Bw w w':=by
 refine(zeC m left w hm h0 h1).mono ?_;rintro e w'⟨rfl,hb⟩;exact⟨zl (zF h),hb⟩
theorem zjR (m:Pu)(left:Int)(w:World)(hm:m.Small)(h0:0<=left)(h1:left<=1048576)(h:¬(m.sz:Int)<=left) :
 Calls Tryz.prog 73 #[.agg m.cells,.i left] w fun e w'=>e=.returned (.i (-1))/\Bw w w':=by
 refine(zeC m left w hm h0 h1).mono ?_;rintro e w'⟨rfl,hb⟩;exact⟨zl (zq h),hb⟩
theorem zhx (a:OA)(cap:Nat)(ms:List Pu)(left:Int)(w:World)(hw:zdG w a ms)(h0:0<=left)(h1:left<=1048576) :
 Calls Tryz.prog 37 #[.l a ms.length cap,.i left] w fun e w'=>e=.returned (.i (zD (zdc ms) left))/\Bw w w':=by
 have hl:=hw.len;unfold maxLen at hl
 by_cases hfit:(ms.length:Int)<=left
 ·go_enter Tryz.func37,Tryz.ntmps37
  go_wp2_with fail
  go_loopw [1,5] (fun l i wr=>∃k:Nat,k<=ms.length/\i=.i k/\0<=left-ms.length-zes (ms.take k)/\l=.i (left-ms.length-zes (ms.take k))/\Bw w wr) (fun _ i _=>ms.length-(intOf i).toNat)
  case atStart=>exact⟨0,Nat.zero_le _,rfl,by simp[zes];omega,by simp[zes],bRf _ _⟩
  case round=>
   obtain⟨k,hk,rfl,hpos,rfl,hB⟩:=hrel
   by_cases hlt:k<ms.length
   ·obtain⟨b,off,rfl,hb,c0,c1,c2,c3,c4⟩:=hw.load hB k hlt
    have hsm:=hw.small k hlt;have HS:Hid (zes (ms.take (k+1))=zes (ms.take k)+ms[k].sz):=zal Pu.sz ms k hlt;have hle:zes (ms.take (k+1))<=zes ms:=zbD Pu.sz ms (k+1);clear hw
    by_cases hneg:(ms[k].sz:Int)<=left-ms.length-zes (ms.take k)
    ·have HNG:Hid ((ms[k].sz:Int)<=left-ms.length-zes (ms.take k)):=hneg
     clear hle;go_wp2_with fail
     refine(zh3 _ _ _ hsm hpos (by omega) HNG.o).mono ?_;rintro e w1⟨rfl,hb1⟩;have hB1:=hB.trans (hb1.mono hB.size);clear hb1;go_wp2_with fail
     exact⟨⟨k+1,by omega,by go_num,by rw[HS.o];omega,by rw[HS.o];congr 1;omega,hB1⟩,by simp[intOf];omega⟩
    ·have HF:Hid (zD (zdc ms) left=-1):=zq (by have:=HS.o;unfold zdc;omega)
     have HNG:=hid hneg;clear hneg hle;go_wp2_with fail
     refine(zjR _ _ _ hsm hpos (by omega) (by have:=HNG.o;omega)).mono ?_;rintro e w1⟨rfl,hb1⟩;have hB1:=hB.trans (hb1.mono hB.size);clear hb1;go_wp2_with fail
     go_ret;exact⟨zl HF.o.symm,hB1⟩
   ·have HF:Hid (zD (zdc ms) left=left-ms.length-zes (ms.take k)):=by
     rw[tOl (by omega)]at hpos ⊢;have e:zD (zdc ms) left=left-zdc ms:=zF (by unfold zdc;omega);unfold Hid;rw[e];unfold zdc;omega
    clear hw
    go_wp2
    go_ret;exact⟨zl HF.o.symm,hB⟩
 ·have HF:Hid (zD (zdc ms) left=-1):=zq (by unfold zdc;omega)
  clear hw;go_enter Tryz.func37,Tryz.ntmps37
  go_wp2
  go_ret;exact⟨zl HF.o.symm,bRf _ _⟩
theorem ziz (m:Pu)(w:World):Calls Tryz.prog 115 #[.agg m.cells,.agg m.cells] w fun e w'=>e=.returned (.bool true)/\Bw w w':=by
 unfold Pu.cells;have hn3:(m.am != m.am)=false:=by simp
 have hn4:(m.un != m.un)=false:=by simp
 go_enter Tryz.func115,Tryz.ntmps115;go_wp2_with fail
 go_ret;exact⟨rfl,zx _ _ _⟩
theorem zhr (a a':OA)(cap cap':Nat)(ms:List Pu)(w:World)(hw:zdG w a ms)(hw':zdG w a' ms) :
 Calls Tryz.prog 67 #[.l a ms.length cap,.l a' ms.length cap'] w fun e w'=>e=.returned (.bool true)/\Bw w w':=by
 have hl:=hw.len;unfold maxLen at hl;have hnn:((ms.length:Int) != ms.length)=false:=by simp
 go_enter Tryz.func67,Tryz.ntmps67;go_wp2_with fail
 go_loopw [5] (fun i wr=>∃k:Nat,k<=ms.length/\i=.i k/\Bw w wr) (fun i _=>ms.length-(intOf i).toNat)
 case atStart=>exact⟨0,Nat.zero_le _,rfl,bRf _ _⟩
 case round=>
  obtain⟨k,hk,rfl,hB⟩:=hrel
  by_cases hlt:k<ms.length
  ·obtain⟨b,off,rfl,hb,c0,c1,c2,c3,c4⟩:=hw.load hB k hlt
   obtain⟨b',off',rfl,hb',d0,d1,d2,d3,d4⟩:=hw'.load hB k hlt;have hltI:(k:Int)<(ms.length:Int):=by omega
   clear hw hw';go_wp2_with fail
   go_region_with (go_at_call 115;refine(ziz ms[k] _).mono ?_;rintro e w1⟨rfl,hb1'⟩;have hb1:=(bRf wr.heap.size wr).drew.trans hb1';clear hb1')
   all_goals go_wp2_with fail
   all_goals exact⟨⟨k+1,by omega,by go_num,hB.trans (hb1.mono hB.size)⟩,by simp[intOf];omega⟩
  ·clear hw hw'
   go_wp2_with fail
   go_ret;exact⟨rfl,hB⟩
structure zar (lo:Nat)(w:World)(bo:Nat)(ms:List Pu)(k:Nat):Prop where
 low:lo<=bo
 rows:∃C,w.heap[bo]?=some (.cells C 169)/\C.size=ms.length*5/\∀i (h:i<ms.length),i<k->∀j,j<5->C[i*5+j]?=ms[i].cells[j]?
theorem zar.at {lo:Nat}{w:World}{bo:Nat}{ms:List Pu}(h:zar lo w bo ms ms.length)(hs:∀i (h:i<ms.length),ms[i].Small)(hl:ms.length<=maxLen):zdG w (some (aD bo 0)) ms:=by
 obtain⟨C,hC,hsz,hr⟩:=h.rows;refine⟨hl,hs,fun _=>⟨bo,0,rfl,(gES hC).1,fun i hi j hj=>?_⟩⟩;rw[cell_of_block hC,Nat.zero_add];exact hr i hi hi j hj
theorem zar.later {lo:Nat}{w w':World}{bo:Nat}{ms:List Pu}{k:Nat}(h:zar lo w bo ms k)(hb:Bw w w'):zar lo w' bo ms k:=by
 obtain⟨C,hC,hsz,hr⟩:=h.rows;exact⟨h.low,C,(hb.block bo (gES hC).1).trans hC,hsz,hr⟩
theorem zar.above {lo:Nat}{w w':World}{bo:Nat}{ms:List Pu}{k:Nat}(h:zar lo w bo ms k)(ha:zY lo w w'):zar lo w' bo ms k:=by
 obtain⟨C,hC,hr⟩:=h.rows;exact⟨h.low,C,(ha.same _ h.low (gES hC).1).trans hC,hr⟩
theorem zar.weaken {lo lo':Nat}{w:World}{bo:Nat}{ms:List Pu}{k:Nat}(h:zar lo w bo ms k)(hl:lo'<=lo):zar lo' w bo ms k:=⟨Nat.le_trans hl h.low,h.rows⟩
def zqG (w:World)(b o:Nat)(v0 v1 v2 v3 v4:Value):World:=(((((w.setCell (aD b o) v0).setCell (aD b (o+1)) v1).setCell (aD b (o+2)) v2).setCell (aD b (o+3)) v3).setCell (aD b (o+4)) v4)
def zjX (C:AV)(o:Nat)(v0 v1 v2 v3 v4:Value):AV:=(((((C.setIfInBounds (o) v0).setIfInBounds (o+1) v1).setIfInBounds (o+2) v2).setIfInBounds (o+3) v3).setIfInBounds (o+4) v4)
theorem zms {w:World}{b o:Nat}{C:AV}{t:TypeId}(h:w.heap[b]?=some (.cells C t))(v0 v1 v2 v3 v4:Value):(zqG w b o v0 v1 v2 v3 v4).heap[b]?=some (.cells (zjX C o v0 v1 v2 v3 v4) t):=
 zi (zi (zi (zi (zi h v0) v1) v2) v3) v4
theorem znn {B:Nat}{a w:World}(h:Below B a w){b:Nat}(hb:B<=b)(o:Nat)(v0 v1 v2 v3 v4:Value):Below B a (zqG w b o v0 v1 v2 v3 v4):=
 ((((h.setCell hb v0).setCell hb v1).setCell hb v2).setCell hb v3).setCell hb v4
theorem zob (C:AV)(o:Nat)(v0 v1 v2 v3 v4:Value):(zjX C o v0 v1 v2 v3 v4).size=C.size:=by simp[zjX]
theorem zpI (C:AV)(o i:Nat)(v0 v1 v2 v3 v4:Value)(h:i<o \/ o+5<=i):(zjX C o v0 v1 v2 v3 v4)[i]?=C[i]?:=by
 unfold zjX
 iterate 5 rw[Array.getElem?_setIfInBounds,if_neg (by omega)]
theorem zqA (C:AV)(o j:Nat)(v0 v1 v2 v3 v4:Value)(hj:j<5)(ho:o+5<=C.size):(zjX C o v0 v1 v2 v3 v4)[o+j]?=(#[v0,v1,v2,v3,v4]:AV)[j]?:=by
 have hc:j=0 \/ j=1 \/ j=2 \/ j=3 \/ j=4:=by omega
 unfold zjX
 rcases hc with h|h|h|h|h <;> subst h <;> simp[Array.getElem?_setIfInBounds] <;> omega
theorem zar.put {lo:Nat}{w:World}{bo:Nat}{ms:List Pu}{k:Nat}(h:zar lo w bo ms k)(hk:k<ms.length) :
 zar lo (zqG w bo (k*5) (.s ms[k].dr) (.s ms[k].tm) (.s ms[k].rs) (.i ms[k].am) (.i ms[k].un)) bo ms (k+1):=by
 obtain⟨C,hC,hsz,hr⟩:=h.rows;refine⟨h.low,_,zms hC _ _ _ _ _,by rw[zob];exact hsz,fun i hi hik j hj=>?_⟩
 rcases Nat.lt_or_ge i k with hlt|hge
 ·rw[zpI _ _ _ _ _ _ _ _ (by omega)]
  exact hr i hi hlt j hj
 ·have e:i=k:=by omega
  subst e;rw[zqA _ _ _ _ _ _ _ _ hj (by omega)]
  rfl
theorem zh4 (m:Pu)(w:World) :
 Calls Tryz.prog 95 #[.agg m.cells] w fun e w'=>e=.returned (.agg m.cells)/\Bw w w':=by
 unfold Pu.cells;go_enter Tryz.func95,Tryz.ntmps95;go_wp2_with fail
 refine bodyPost_ret (v:=.agg #[.s m.dr,.s m.tm,.s m.rs,.i m.am,.i m.un]) (by simp[results,Tryz.results95,go_sem]) rfl ⟨rfl,?_⟩;exact(((bAl _ _).alloc (by simp) _).alloc (by simp;omega) _)
def zpZ:AV:=#[.s ByteArray.empty,.s ByteArray.empty,.s ByteArray.empty,.i 0,.i 0]
def zo3 (n:Nat):AV:=madeCells zpZ (n*5)
theorem zhp (a:OA)(cap:Nat)(ms:List Pu)(w:World)(hw:zdG w a ms)(hl:ms.length<=1048576) :
 Calls Tryz.prog 52 #[.l a ms.length cap] w fun e w'=>e=.returned (.l (some (aD w.heap.size 0)) ms.length ms.length)/\zar w.heap.size w' w.heap.size ms ms.length/\Bw w w':=by
 have hmk:∀w:World,(Instr.makeSlice 48 (.i ms.length) (.i ms.length)).run Tryz.prog w=.ok (.l (some (aD w.heap.size 0)) ms.length ms.length) (w.alloc (.cells (zo3 ms.length) 169)):=
  fun w=>qE (P:=Tryz.prog) 48 169 (.agg zpZ) 5 64 Tryz.underlying48 (by kernel_rfl) ms.length (by omega) (by omega) w
 go_enter Tryz.func52,Tryz.ntmps52;go_wp2_with fail
 clear hmk
 go_loopw [4] (fun i wr=>∃k:Nat,k<=ms.length/\i=.i k/\zar w.heap.size wr w.heap.size ms k/\Bw w wr) (fun i _=>ms.length-(intOf i).toNat)
 case atStart=>exact⟨0,Nat.zero_le _,rfl,⟨Nat.le_refl _,zo3 ms.length,(MapKept.heap_alloc w _).1,size_madeCells _ _,fun i _ h=>absurd h (by omega)⟩,bAl _ _⟩
 case round=>
  obtain⟨k,hk,rfl,hown,hB⟩:=hrel
  by_cases hlt:k<ms.length
  ·obtain⟨b,off,rfl,hb,c0,c1,c2,c3,c4⟩:=hw.load hB k hlt
   have hltI:(k:Int)<(ms.length:Int):=by omega
   clear hw;go_wp2_with fail
   refine(zh4 ms[k] _).mono ?_;rintro e w1⟨rfl,hb1⟩;have hB1:=hB.trans (hb1.mono hB.size);have hown1:=hown.later hb1
   have hbo:w.heap.size<wr.heap.size:=by
    obtain⟨C',hC',_⟩:=hown.rows;exact(gES hC').1
   obtain⟨C,hC,hsz,_⟩:=hown1.rows;have hfz:∀o,w1.frozen? (aD w.heap.size o)=false:=fun o=>zm hC
   have hex:∀o,o<ms.length*5->∃v,w1.cell? (aD w.heap.size o)=some v:=fun o ho=>⟨C[o]'(by omega),by rw[cell_of_block hC];exact Array.getElem?_eq_getElem (by omega)⟩
   obtain⟨v0,hv0⟩:=hex (k*5) (by omega);obtain⟨v1,hv1⟩:=hex (k*5+1) (by omega);obtain⟨v2,hv2⟩:=hex (k*5+2) (by omega);obtain⟨v3,hv3⟩:=hex (k*5+3) (by omega);obtain⟨v4,hv4⟩:=hex (k*5+4) (by omega);have HP:=hid hown1;clear hex hC hsz c0 c1 c2 c3 c4 hown hown1;unfold Pu.cells;go_wp2_with fail
   exact⟨⟨k+1,by omega,by go_num,HP.o.put hlt,znn hB1 (Nat.le_refl _) _ _ _ _ _ _⟩,by simp[intOf];omega⟩
  ·have HF:Hid (zar w.heap.size wr w.heap.size ms ms.length):=by
    have e:k=ms.length:=by omega
    subst e;exact hown
   clear hw hown;go_wp2_with fail
   go_ret;exact⟨rfl,HF.o,hB⟩
end Go.Proofs.YtedangodjiolaaaGreat
