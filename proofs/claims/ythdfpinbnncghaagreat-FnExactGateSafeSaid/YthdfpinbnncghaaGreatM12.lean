import Derived.Test.YthdfpinbnncghaaGreatM10
set_option maxHeartbeats 4000000
namespace Go.Proofs.YthdfpinbnncghaaGreat
open Go.RowKit
structure Wt where
 kd:BA
 nm:BA
 vn:Int
def Wt.cells (m:Wt):AV:=#[.s m.kd,.s m.nm,.i m.vn]
structure Wt.Small (m:Wt):Prop where
 kd:m.kd.size<=maxLen
 nm:m.nm.size<=maxLen
structure zc8 (w:World)(a:OA)(ms:List Wt):Prop where
 len:ms.length<=maxLen
 small:∀i (h:i<ms.length),ms[i].Small
 rows:ms≠[]->∃b off,a=some (aD b off)/\b<w.heap.size/\∀i (h:i<ms.length),∀j,j<3->w.cell? (aD b (off+i*3+j))=ms[i].cells[j]?
theorem zc8.mono {w w':World}{a:OA}{ms:List Wt}(h:zc8 w a ms)(hl:Bw w w'):zc8 w' a ms:=
 ⟨h.len,h.small,fun hne=>by
  obtain⟨b,off,ha,hb,hr⟩:=h.rows hne;exact⟨b,off,ha,nLt hb hl.size,fun i hi j hj=>(hl.cell (p:=(aD b (off+i*3+j))) hb).trans (hr i hi j hj)⟩⟩
theorem zc8.load {w w':World}{a:OA}{ms:List Wt}(h:zc8 w a ms)(hl:Bw w w')(i:Nat)(hi:i<ms.length):∃b off,a=some (aD b off)/\b<w.heap.size /\
 w'.cell? (aD b (off+i*3))=some (.s ms[i].kd)/\w'.cell? (aD b (off+i*3+1))=some (.s ms[i].nm)/\w'.cell? (aD b (off+i*3+2))=some (.i ms[i].vn):=by
 obtain⟨b,off,ha,hb,hr⟩:=h.rows (by rintro rfl;simp at hi);have hc:∀j,j<3->w'.cell? (aD b (off+i*3+j))=ms[i].cells[j]?:=fun j hj=>(hl.cell (p:=(aD b (off+i*3+j))) hb).trans (hr i hi j hj)
 exact⟨b,off,ha,hb,hc 0 (by omega),hc 1 (by omega),hc 2 (by omega)⟩
def Wt.sz (m:Wt):Nat:=m.kd.size+m.nm.size
def zdZ (ms:List Wt):Nat:=(ms.map Wt.sz).sum
def zds (ms:List Wt):Nat:=ms.length+zdZ ms
theorem zfi (m:Wt)(left:Int)(w:World)(hm:m.Small)(h0:0<=left)(h1:left<=1048576) :
 Calls Tryz.prog 234 #[.agg m.cells,.i left] w fun e w'=>e=.returned (.i (zD m.sz left))/\Bw w w':=by
 have k0:=hm.kd;have k1:=hm.nm;unfold maxLen at k0 k1;unfold Wt.cells;have hB:∀ob,Bw w (w.alloc ob):=fun ob=>bAl _ _
 by_cases hf:(m.sz:Int)<=left
 ·have HF:Hid (zD m.sz left=left-m.kd.size-m.nm.size):=by
   unfold Hid;rw[zF hf];unfold Wt.sz;omega
  unfold Wt.sz at hf;go_enter Tryz.func234,Tryz.ntmps234;go_wp2_with fail
  go_ret;exact⟨zk HF.o.symm,hB _⟩
 ·have HF:Hid (zD m.sz left=-1):=zq hf
  have HN:Hid (¬((m.kd.size+m.nm.size:Nat):Int)<=left):=hf;clear hf;go_enter Tryz.func234,Tryz.ntmps234;go_wp2_with fail
  all_goals go_ret
  all_goals first|exact⟨zk HF.o.symm,hB _⟩|(exfalso;have:=HN.o;simp at *;omega)
theorem zjC (m:Wt)(left:Int)(w:World)(hm:m.Small)(h0:0<=left)(h1:left<=1048576)(h:(m.sz:Int)<=left) :
 Calls Tryz.prog 234 #[.agg m.cells,.i left] w fun e w'=>e=.returned (.i (left-m.sz))/\Bw w w':=by
 refine(zfi m left w hm h0 h1).mono ?_;rintro e w'⟨rfl,hb⟩;exact⟨zk (zF h),hb⟩
theorem zlF (m:Wt)(left:Int)(w:World)(hm:m.Small)(h0:0<=left)(h1:left<=1048576)(h:¬(m.sz:Int)<=left) :
 Calls Tryz.prog 234 #[.agg m.cells,.i left] w fun e w'=>e=.returned (.i (-1))/\Bw w w':=by
 refine(zfi m left w hm h0 h1).mono ?_;rintro e w'⟨rfl,hb⟩;exact⟨zk (zq h),hb⟩
theorem zjn (a:OA)(cap:Nat)(ms:List Wt)(left:Int)(w:World)(hw:zc8 w a ms)(h0:0<=left)(h1:left<=1048576) :
 Calls Tryz.prog 187 #[.l a ms.length cap,.i left] w fun e w'=>e=.returned (.i (zD (zds ms) left))/\Bw w w':=by
 have hl:=hw.len;unfold maxLen at hl
 by_cases hfit:(ms.length:Int)<=left
 ·go_enter Tryz.func187,Tryz.ntmps187
  go_wp2_with fail
  go_loopw [1,5] (fun l i wr=>∃k:Nat,k<=ms.length/\i=.i k/\0<=left-ms.length-zdZ (ms.take k)/\l=.i (left-ms.length-zdZ (ms.take k))/\Bw w wr) (fun _ i _=>ms.length-(intOf i).toNat)
  case atStart=>exact⟨0,Nat.zero_le _,rfl,by simp[zdZ];omega,by simp[zdZ],bRf _ _⟩
  case round=>
   obtain⟨k,hk,rfl,hpos,rfl,hB⟩:=hrel
   by_cases hlt:k<ms.length
   ·obtain⟨b,off,rfl,hb,c0,c1,c2⟩:=hw.load hB k hlt
    have hsm:=hw.small k hlt;have HS:Hid (zdZ (ms.take (k+1))=zdZ (ms.take k)+ms[k].sz):=zas Wt.sz ms k hlt;have hle:zdZ (ms.take (k+1))<=zdZ ms:=zbO Wt.sz ms (k+1);clear hw
    by_cases hneg:(ms[k].sz:Int)<=left-ms.length-zdZ (ms.take k)
    ·have HNG:Hid ((ms[k].sz:Int)<=left-ms.length-zdZ (ms.take k)):=hneg
     clear hle;go_wp2_with fail
     refine(zjC _ _ _ hsm hpos (by omega) HNG.o).mono ?_;rintro e w1⟨rfl,hb1⟩;have hB1:=hB.trans (hb1.mono hB.size);clear hb1;go_wp2_with fail
     exact⟨⟨k+1,by omega,by go_num,by rw[HS.o];omega,by rw[HS.o];congr 1;omega,hB1⟩,by simp[intOf];omega⟩
    ·have HF:Hid (zD (zds ms) left=-1):=zq (by have:=HS.o;unfold zds;omega)
     have HNG:Hid (¬(ms[k].sz:Int)<=left-ms.length-zdZ (ms.take k)):=hneg;clear hneg hle;go_wp2_with fail
     refine(zlF _ _ _ hsm hpos (by omega) (by have:=HNG.o;omega)).mono ?_;rintro e w1⟨rfl,hb1⟩;have hB1:=hB.trans (hb1.mono hB.size);clear hb1;go_wp2_with fail
     go_ret;exact⟨zk HF.o.symm,hB1⟩
   ·have HF:Hid (zD (zds ms) left=left-ms.length-zdZ (ms.take k)):=by
     rw[tOl (by omega)]at hpos ⊢;have e:zD (zds ms) left=left-zds ms:=zF (by unfold zds;omega);unfold Hid;rw[e];unfold zds;omega
    clear hw
    go_wp2
    go_ret;exact⟨zk HF.o.symm,hB⟩
 ·have HF:Hid (zD (zds ms) left=-1):=zq (by unfold zds;omega)
  clear hw;go_enter Tryz.func187,Tryz.ntmps187
  go_wp2
  go_ret;exact⟨zk HF.o.symm,bRf _ _⟩
theorem zjZ (m:Wt)(w:World):Calls Tryz.prog 257 #[.agg m.cells,.agg m.cells] w fun e w'=>e=.returned (.bool true)/\Bw w w':=by
 unfold Wt.cells;have hn2:(m.vn != m.vn)=false:=by simp
 go_enter Tryz.func257,Tryz.ntmps257;go_wp2_with fail
 go_ret;exact⟨rfl,zx _ _ _⟩
theorem zi4 (a a':OA)(cap cap':Nat)(ms:List Wt)(w:World)(hw:zc8 w a ms)(hw':zc8 w a' ms) :
 Calls Tryz.prog 233 #[.l a ms.length cap,.l a' ms.length cap'] w fun e w'=>e=.returned (.bool true)/\Bw w w':=by
 have hl:=hw.len;unfold maxLen at hl;have hnn:((ms.length:Int) != ms.length)=false:=by simp
 go_enter Tryz.func233,Tryz.ntmps233;go_wp2_with fail
 go_loopw [5] (fun i wr=>∃k:Nat,k<=ms.length/\i=.i k/\Bw w wr) (fun i _=>ms.length-(intOf i).toNat)
 case atStart=>exact⟨0,Nat.zero_le _,rfl,bRf _ _⟩
 case round=>
  obtain⟨k,hk,rfl,hB⟩:=hrel
  by_cases hlt:k<ms.length
  ·obtain⟨b,off,rfl,hb,c0,c1,c2⟩:=hw.load hB k hlt
   obtain⟨b',off',rfl,hb',d0,d1,d2⟩:=hw'.load hB k hlt;have hltI:(k:Int)<(ms.length:Int):=by omega
   clear hw hw';go_wp2_with fail
   go_region_with (go_at_call 257;refine(zjZ ms[k] _).mono ?_;rintro e w1⟨rfl,hb1'⟩;have hb1:=(bRf wr.heap.size wr).drew.trans hb1';clear hb1')
   all_goals go_wp2_with fail
   all_goals exact⟨⟨k+1,by omega,by go_num,hB.trans (hb1.mono hB.size)⟩,by simp[intOf];omega⟩
  ·clear hw hw'
   go_wp2_with fail
   go_ret;exact⟨rfl,hB⟩
structure zbZ (lo:Nat)(w:World)(bo:Nat)(ms:List Wt)(k:Nat):Prop where
 low:lo<=bo
 rows:∃C,w.heap[bo]?=some (.cells C 229)/\C.size=ms.length*3/\∀i (h:i<ms.length),i<k->∀j,j<3->C[i*3+j]?=ms[i].cells[j]?
theorem zbZ.at {lo:Nat}{w:World}{bo:Nat}{ms:List Wt}(h:zbZ lo w bo ms ms.length)(hs:∀i (h:i<ms.length),ms[i].Small)(hl:ms.length<=maxLen):zc8 w (some (aD bo 0)) ms:=by
 obtain⟨C,hC,hsz,hr⟩:=h.rows;refine⟨hl,hs,fun _=>⟨bo,0,rfl,(gES hC).1,fun i hi j hj=>?_⟩⟩;rw[cell_of_block hC,Nat.zero_add];exact hr i hi hi j hj
theorem zbZ.later {lo:Nat}{w w':World}{bo:Nat}{ms:List Wt}{k:Nat}(h:zbZ lo w bo ms k)(hb:Bw w w'):zbZ lo w' bo ms k:=by
 obtain⟨C,hC,hsz,hr⟩:=h.rows;exact⟨h.low,C,(hb.block bo (gES hC).1).trans hC,hsz,hr⟩
def zrb (w:World)(b o:Nat)(v0 v1 v2:Value):World:=(((w.setCell (aD b o) v0).setCell (aD b (o+1)) v1).setCell (aD b (o+2)) v2)
def zkG (C:AV)(o:Nat)(v0 v1 v2:Value):AV:=(((C.setIfInBounds (o) v0).setIfInBounds (o+1) v1).setIfInBounds (o+2) v2)
theorem znZ {w:World}{b o:Nat}{C:AV}{t:TypeId}(h:w.heap[b]?=some (.cells C t))(v0 v1 v2:Value):(zrb w b o v0 v1 v2).heap[b]?=some (.cells (zkG C o v0 v1 v2) t):=
 zh (zh (zh h v0) v1) v2
theorem zne {B:Nat}{a w:World}(h:Below B a w){b:Nat}(hb:B<=b)(o:Nat)(v0 v1 v2:Value):Below B a (zrb w b o v0 v1 v2):=
 ((h.setCell hb v0).setCell hb v1).setCell hb v2
theorem zpm (C:AV)(o:Nat)(v0 v1 v2:Value):(zkG C o v0 v1 v2).size=C.size:=by simp[zkG]
theorem zqm (C:AV)(o i:Nat)(v0 v1 v2:Value)(h:i<o \/ o+3<=i):(zkG C o v0 v1 v2)[i]?=C[i]?:=by
 unfold zkG
 iterate 3 rw[Array.getElem?_setIfInBounds,if_neg (by omega)]
theorem zrd (C:AV)(o j:Nat)(v0 v1 v2:Value)(hj:j<3)(ho:o+3<=C.size):(zkG C o v0 v1 v2)[o+j]?=(#[v0,v1,v2]:AV)[j]?:=by
 have hc:j=0 \/ j=1 \/ j=2:=by omega
 unfold zkG
 rcases hc with h|h|h <;> subst h <;> simp[Array.getElem?_setIfInBounds] <;> omega
theorem zbZ.put {lo:Nat}{w:World}{bo:Nat}{ms:List Wt}{k:Nat}(h:zbZ lo w bo ms k)(hk:k<ms.length) :
 zbZ lo (zrb w bo (k*3) (.s ms[k].kd) (.s ms[k].nm) (.i ms[k].vn)) bo ms (k+1):=by
 obtain⟨C,hC,hsz,hr⟩:=h.rows;refine⟨h.low,_,znZ hC _ _ _,by rw[zpm];exact hsz,fun i hi hik j hj=>?_⟩
 rcases Nat.lt_or_ge i k with hlt|hge
 ·rw[zqm _ _ _ _ _ _ (by omega)]
  exact hr i hi hlt j hj
 ·have e:i=k:=by omega
  subst e;rw[zrd _ _ _ _ _ _ hj (by omega)]
  rfl
theorem zjR (m:Wt)(w:World) :
 Calls Tryz.prog 236 #[.agg m.cells] w fun e w'=>e=.returned (.agg m.cells)/\Bw w w':=by
 unfold Wt.cells;go_enter Tryz.func236,Tryz.ntmps236;go_wp2_with fail
 refine bodyPost_ret (v:=.agg #[.s m.kd,.s m.nm,.i m.vn]) (by simp[results,Tryz.results236,go_sem]) rfl ⟨rfl,?_⟩;exact(((bAl _ _).alloc (by simp) _).alloc (by simp;omega) _)
def zrF:AV:=#[.s ByteArray.empty,.s ByteArray.empty,.i 0]
def zpT (n:Nat):AV:=madeCells zrF (n*3)
theorem zi9 (a:OA)(cap:Nat)(ms:List Wt)(w:World)(hw:zc8 w a ms)(hl:ms.length<=1048576) :
 Calls Tryz.prog 199 #[.l a ms.length cap] w fun e w'=>e=.returned (.l (some (aD w.heap.size 0)) ms.length ms.length)/\zbZ w.heap.size w' w.heap.size ms ms.length/\Bw w w':=by
 have hmk:∀w:World,(Instr.makeSlice 190 (.i ms.length) (.i ms.length)).run Tryz.prog w=.ok (.l (some (aD w.heap.size 0)) ms.length ms.length) (w.alloc (.cells (zpT ms.length) 229)):=
  fun w=>qN (P:=Tryz.prog) 190 229 (.agg zrF) 3 40 Tryz.underlying190 (by kernel_rfl) ms.length (by omega) (by omega) w
 go_enter Tryz.func199,Tryz.ntmps199;go_wp2_with fail
 clear hmk
 go_loopw [4] (fun i wr=>∃k:Nat,k<=ms.length/\i=.i k/\zbZ w.heap.size wr w.heap.size ms k/\Bw w wr) (fun i _=>ms.length-(intOf i).toNat)
 case atStart=>exact⟨0,Nat.zero_le _,rfl,⟨Nat.le_refl _,zpT ms.length,(MapKept.heap_alloc w _).1,size_madeCells _ _,fun i _ h=>absurd h (by omega)⟩,bAl _ _⟩
 case round=>
  obtain⟨k,hk,rfl,hown,hB⟩:=hrel
  by_cases hlt:k<ms.length
  ·obtain⟨b,off,rfl,hb,c0,c1,c2⟩:=hw.load hB k hlt
   have hltI:(k:Int)<(ms.length:Int):=by omega
   clear hw;go_wp2_with fail
   refine(zjR ms[k] _).mono ?_;rintro e w1⟨rfl,hb1⟩;have hB1:=hB.trans (hb1.mono hB.size);have hown1:=hown.later hb1
   have hbo:w.heap.size<wr.heap.size:=by
    obtain⟨C',hC',_⟩:=hown.rows;exact(gES hC').1
   obtain⟨C,hC,hsz,_⟩:=hown1.rows;have hfz:∀o,w1.frozen? (aD w.heap.size o)=false:=fun o=>zl hC
   have hex:∀o,o<ms.length*3->∃v,w1.cell? (aD w.heap.size o)=some v:=fun o ho=>⟨C[o]'(by omega),by rw[cell_of_block hC];exact Array.getElem?_eq_getElem (by omega)⟩
   obtain⟨v0,hv0⟩:=hex (k*3) (by omega);obtain⟨v1,hv1⟩:=hex (k*3+1) (by omega);obtain⟨v2,hv2⟩:=hex (k*3+2) (by omega);have HP:Hid (zbZ w.heap.size w1 w.heap.size ms k):=hown1;clear hex hC hsz c0 c1 c2 hown hown1;unfold Wt.cells;go_wp2_with fail
   exact⟨⟨k+1,by omega,by go_num,HP.o.put hlt,zne hB1 (Nat.le_refl _) _ _ _ _⟩,by simp[intOf];omega⟩
  ·have HF:Hid (zbZ w.heap.size wr w.heap.size ms ms.length):=by
    have e:k=ms.length:=by omega
    subst e;exact hown
   clear hw hown;go_wp2_with fail
   go_ret;exact⟨rfl,HF.o,hB⟩
structure Ak where
 who:BA
 vb:Int
 kd:BA
 nm:BA
 tm:BA
 vs:List BA
 hs:List BA
 sn:Int
 hd:BA
 to:BA
 r:Rl
 no:Int
def Ak.cells (x:Ak)(a0 a1 a2:OA)(c0 c1 c2:Nat):AV:=#[.s x.who,.i x.vb,.s x.kd,.s x.nm,.s x.tm,.l a0 x.vs.length c0,.l a1 x.hs.length c1,.i x.sn,.s x.hd,.s x.to,.l a2 x.r.vs.length c2,.s x.r.kd,.s x.r.tm,.s x.r.px,.i x.no]
structure Ak.Small (x:Ak):Prop where
 who:x.who.size<=maxLen
 kd:x.kd.size<=maxLen
 nm:x.nm.size<=maxLen
 tm:x.tm.size<=maxLen
 hd:x.hd.size<=maxLen
 to:x.to.size<=maxLen
 r:x.r.Small
structure jq (w:World)(x:Ak)(a0 a1 a2:OA):Prop where
 small:x.Small
 vs:zJ w a0 x.vs
 hs:zJ w a1 x.hs
 r:yJ w a2 x.r.vs
theorem jq.mono {w w':World}{x:Ak}{a0 a1 a2:OA}(h:jq w x a0 a1 a2)(hb:Bw w w'):jq w' x a0 a1 a2:=⟨h.small,h.vs.mono hb,h.hs.mono hb,h.r.mono hb⟩
def Ak.sz (x:Ak):Nat:=x.who.size+x.kd.size+x.nm.size+x.tm.size+yQ x.vs+yQ x.hs+x.hd.size+x.to.size+x.r.sz
structure Ak.Few (x:Ak):Prop where
 vs:x.vs.length<=1048576
 hs:x.hs.length<=1048576
 r:x.r.vs.length<=1048576
theorem Ak.few {x:Ak}(h:(x.sz:Int)<=1048576):x.Few:=by
 unfold Ak.sz Rl.sz yQ at h;exact⟨by omega,by omega,by omega⟩
theorem zci (w:World)(X Y:AV)(s t:TypeId):(∀j,((w.alloc (.cells X s)).alloc (.cells Y t)).cell? (aD w.heap.size j)=X[j]?)/\∀j,((w.alloc (.cells X s)).alloc (.cells Y t)).cell? (aD (w.heap.size+1) j)=Y[j]?:=by
 refine⟨za (zn w X s) (by simp) (bAl _ _),fun j=>?_⟩;have h:=zn (w.alloc (.cells X s)) Y t j;rw[World.size_alloc]at h;exact h
theorem zlg (x:Ak)(a0 a1 a2:OA)(c0 c1 c2:Nat)(left:Int)(w:World)(ho:jq w x a0 a1 a2)(h0:0<=left)(h1:left<=1048576) :
 Calls Tryz.prog 186 #[.agg (x.cells a0 a1 a2 c0 c1 c2),.i left] w fun e w'=>e=.returned (.i (zD x.sz left))/\Bw w w':=by
 have k1:=ho.small.who;have k2:=ho.small.kd;have k3:=ho.small.nm;have k4:=ho.small.tm;have k5:=ho.small.hd;have k6:=ho.small.to;have hv:=ho.vs;have hh:=ho.hs;have HM:Hid (x.r.Small/\x.r.vs.length<=maxLen):=⟨ho.small.r,ho.r.len⟩
 clear ho;unfold maxLen at k1 k2 k3 k4 k5 k6;unfold Ak.cells;have hB:∀ob,Bw w (w.alloc ob):=fun ob=>bAl _ _
 by_cases c1:(x.who.size:Int)<=left
 rotate_left
 ·have HF:Hid (zD x.sz left=-1):=zq (by unfold Ak.sz;omega)
  go_enter Tryz.func186,Tryz.ntmps186;go_wp2_with fail
  go_ret;exact⟨zk HF.o.symm,hB _⟩
 by_cases c2:(x.kd.size:Int)<=left-x.who.size
 rotate_left
 ·have HF:Hid (zD x.sz left=-1):=zq (by unfold Ak.sz;omega)
  go_enter Tryz.func186,Tryz.ntmps186;go_wp2_with fail
  go_ret;exact⟨zk HF.o.symm,hB _⟩
 by_cases c3:(x.nm.size:Int)<=left-x.who.size-x.kd.size
 rotate_left
 ·have HF:Hid (zD x.sz left=-1):=zq (by unfold Ak.sz;omega)
  go_enter Tryz.func186,Tryz.ntmps186;go_wp2_with fail
  go_ret;exact⟨zk HF.o.symm,hB _⟩
 by_cases c4:(x.tm.size:Int)<=left-x.who.size-x.kd.size-x.nm.size
 rotate_left
 ·have HF:Hid (zD x.sz left=-1):=zq (by unfold Ak.sz;omega)
  go_enter Tryz.func186,Tryz.ntmps186;go_wp2_with fail
  go_ret;exact⟨zk HF.o.symm,hB _⟩
 by_cases c5:(yQ x.vs:Int)<=left-x.who.size-x.kd.size-x.nm.size-x.tm.size
 rotate_left
 ·have HF:Hid (zD x.sz left=-1):=zq (by unfold Ak.sz;omega)
  go_enter Tryz.func186,Tryz.ntmps186;go_wp2_with fail
  refine(zb6 _ _ _ _ _ (hv.mono (hB _)) (by omega) (by omega) (by omega)).mono ?_;rintro e w1⟨rfl,rfl⟩;go_wp2_with fail
  go_ret;exact⟨zk HF.o.symm,hB _⟩
 by_cases c6:(yQ x.hs:Int)<=left-x.who.size-x.kd.size-x.nm.size-x.tm.size-yQ x.vs
 rotate_left
 ·have HF:Hid (zD x.sz left=-1):=zq (by unfold Ak.sz;omega)
  go_enter Tryz.func186,Tryz.ntmps186;go_wp2_with fail
  refine(yO _ _ _ _ _ (hv.mono (hB _)) (by omega) (by omega) (by omega)).mono ?_;rintro e w1⟨rfl,rfl⟩;go_wp2_with fail
  refine(zb6 _ _ _ _ _ (hh.mono (hB _)) (by omega) (by omega) (by omega)).mono ?_;rintro e w1⟨rfl,rfl⟩;go_wp2_with fail
  go_ret;exact⟨zk HF.o.symm,hB _⟩
 by_cases c7:(x.hd.size:Int)<=left-x.who.size-x.kd.size-x.nm.size-x.tm.size-yQ x.vs-yQ x.hs
 rotate_left
 ·have HF:Hid (zD x.sz left=-1):=zq (by unfold Ak.sz;omega)
  go_enter Tryz.func186,Tryz.ntmps186;go_wp2_with fail
  refine(yO _ _ _ _ _ (hv.mono (hB _)) (by omega) (by omega) (by omega)).mono ?_;rintro e w1⟨rfl,rfl⟩;go_wp2_with fail
  refine(yO _ _ _ _ _ (hh.mono (hB _)) (by omega) (by omega) (by omega)).mono ?_;rintro e w1⟨rfl,rfl⟩;go_wp2_with fail
  go_ret;exact⟨zk HF.o.symm,hB _⟩
 by_cases c8:(x.to.size:Int)<=left-x.who.size-x.kd.size-x.nm.size-x.tm.size-yQ x.vs-yQ x.hs-x.hd.size
 rotate_left
 ·have HF:Hid (zD x.sz left=-1):=zq (by unfold Ak.sz;omega)
  go_enter Tryz.func186,Tryz.ntmps186;go_wp2_with fail
  refine(yO _ _ _ _ _ (hv.mono (hB _)) (by omega) (by omega) (by omega)).mono ?_;rintro e w1⟨rfl,rfl⟩;go_wp2_with fail
  refine(yO _ _ _ _ _ (hh.mono (hB _)) (by omega) (by omega) (by omega)).mono ?_;rintro e w1⟨rfl,rfl⟩;go_wp2_with fail
  go_ret;exact⟨zk HF.o.symm,hB _⟩
 by_cases c9:(x.r.sz:Int)<=left-x.who.size-x.kd.size-x.nm.size-x.tm.size-yQ x.vs-yQ x.hs-x.hd.size-x.to.size
 rotate_left
 ·have HF:Hid (zD x.sz left=-1):=zq (by unfold Ak.sz;omega)
  have HC:Hid (¬(x.r.sz:Int)<=left-x.who.size-x.kd.size-x.nm.size-x.tm.size-yQ x.vs-yQ x.hs-x.hd.size-x.to.size):=c9;clear c9;go_enter Tryz.func186,Tryz.ntmps186;go_wp2_with fail
  refine(yO _ _ _ _ _ (hv.mono (hB _)) (by omega) (by omega) (by omega)).mono ?_;rintro e w1⟨rfl,rfl⟩;go_wp2_with fail
  refine(yO _ _ _ _ _ (hh.mono (hB _)) (by omega) (by omega) (by omega)).mono ?_;rintro e w1⟨rfl,rfl⟩;go_wp2_with fail
  refine(zb5 x.r _ _ _ _ HM.o.1 HM.o.2 (by omega) (by omega)).mono ?_;rintro e w1⟨rfl,hb⟩;rw[zq (by have:=HC.o;omega)];have hB1:=(hB _).trans (hb.mono (by simp));clear hb;go_wp2_with fail
  go_ret;exact⟨zk HF.o.symm,hB1⟩
 ·have HF:Hid (zD x.sz left=left-x.who.size-x.kd.size-x.nm.size-x.tm.size-yQ x.vs-yQ x.hs-x.hd.size-x.to.size-x.r.sz):=by
   unfold Hid;rw[zF (by unfold Ak.sz;omega)];unfold Ak.sz;omega
  go_enter Tryz.func186,Tryz.ntmps186;go_wp2_with fail
  refine(yO _ _ _ _ _ (hv.mono (hB _)) (by omega) (by omega) (by omega)).mono ?_;rintro e w1⟨rfl,rfl⟩;go_wp2_with fail
  refine(yO _ _ _ _ _ (hh.mono (hB _)) (by omega) (by omega) (by omega)).mono ?_;rintro e w1⟨rfl,rfl⟩;go_wp2_with fail
  refine(zb5 x.r _ _ _ _ HM.o.1 HM.o.2 (by omega) (by omega)).mono ?_;rintro e w1⟨rfl,hb⟩;rw[zF c9];have hB1:=(hB _).trans (hb.mono (by simp));clear hb;go_wp2_with fail
  go_ret;exact⟨zk HF.o.symm,hB1⟩
theorem zlq (x:Ak)(a0 a1 a2:OA)(c0 c1 c2:Nat)(b0 b1 b2:OA)(d0 d1 d2:Nat)(w:World)(ho:jq w x a0 a1 a2)(ho':jq w x b0 b1 b2) :
 Calls Tryz.prog 232 #[.agg (x.cells a0 a1 a2 c0 c1 c2),.agg (x.cells b0 b1 b2 d0 d1 d2)] w fun e w'=>e=.returned (.bool true)/\Bw w w':=by
 have HA:Hid (jq w x a0 a1 a2/\jq w x b0 b1 b2):=⟨ho,ho'⟩
 have hn1:(x.vb != x.vb)=false:=by simp
 have hn2:(x.sn != x.sn)=false:=by simp
 have hn3:(x.no != x.no)=false:=by simp
 clear ho ho';unfold Ak.cells;go_enter Tryz.func232,Tryz.ntmps232;go_wp2_with fail
 obtain⟨hX0,hY0⟩:=zci w #[.s x.who,.i x.vb,.s x.kd,.s x.nm,.s x.tm,.l a0 x.vs.length c0,.l a1 x.hs.length c1,.i x.sn,.s x.hd,.s x.to,.l a2 x.r.vs.length c2,.s x.r.kd,.s x.r.tm,.s x.r.px,.i x.no] #[.s x.who,.i x.vb,.s x.kd,.s x.nm,.s x.tm,.l b0 x.vs.length d0,.l b1 x.hs.length d1,.i x.sn,.s x.hd,.s x.to,.l b2 x.r.vs.length d2,.s x.r.kd,.s x.r.tm,.s x.r.px,.i x.no] 189 189;have hB0:=zx w (.cells #[.s x.who,.i x.vb,.s x.kd,.s x.nm,.s x.tm,.l a0 x.vs.length c0,.l a1 x.hs.length c1,.i x.sn,.s x.hd,.s x.to,.l a2 x.r.vs.length c2,.s x.r.kd,.s x.r.tm,.s x.r.px,.i x.no] 189) (.cells #[.s x.who,.i x.vb,.s x.kd,.s x.nm,.s x.tm,.l b0 x.vs.length d0,.l b1 x.hs.length d1,.i x.sn,.s x.hd,.s x.to,.l b2 x.r.vs.length d2,.s x.r.kd,.s x.r.tm,.s x.r.px,.i x.no] 189);obtain⟨W0,hW0⟩:=xN ((w.alloc (.cells #[.s x.who,.i x.vb,.s x.kd,.s x.nm,.s x.tm,.l a0 x.vs.length c0,.l a1 x.hs.length c1,.i x.sn,.s x.hd,.s x.to,.l a2 x.r.vs.length c2,.s x.r.kd,.s x.r.tm,.s x.r.px,.i x.no] 189)).alloc (.cells #[.s x.who,.i x.vb,.s x.kd,.s x.nm,.s x.tm,.l b0 x.vs.length d0,.l b1 x.hs.length d1,.i x.sn,.s x.hd,.s x.to,.l b2 x.r.vs.length d2,.s x.r.kd,.s x.r.tm,.s x.r.px,.i x.no] 189));have hz0:w.heap.size+1<W0.heap.size:=by rw[hW0];simp
 rw[<- hW0]at hB0 hX0 hY0 ⊢;clear hW0;refine(zbl _ _ _ _ _ _ (HA.o.1.vs.mono hB0) (HA.o.2.vs.mono hB0)).mono ?_;rintro e w1⟨rfl,hb⟩;have hX1:=za hX0 (nSl hz0) hb;have hY1:=za hY0 hz0 hb;have hz1:=nLt hz0 hb.size;have hB1:=hB0.trans (hb.mono hB0.size);clear hb hX0 hY0 hz0 hB0;go_wp2_with fail
 refine(zbl _ _ _ _ _ _ (HA.o.1.hs.mono hB1) (HA.o.2.hs.mono hB1)).mono ?_;rintro e w2⟨rfl,hb⟩;have hX2:=za hX1 (nSl hz1) hb;have hY2:=za hY1 hz1 hb;have hz2:=nLt hz1 hb.size;have hB2:=hB1.trans (hb.mono hB1.size);clear hb hX1 hY1 hz1 hB1;go_wp2_with fail
 refine(ze0 x.r _ _ _ _ _ (HA.o.1.r.mono hB2) (HA.o.2.r.mono hB2)).mono ?_;rintro e w3⟨rfl,hb⟩;have hX3:=za hX2 (nSl hz2) hb;have hY3:=za hY2 hz2 hb;have hz3:=nLt hz2 hb.size;have hB3:=hB2.trans (hb.mono hB2.size);clear hb hX2 hY2 hz2 hB2;go_wp2_with fail
 go_ret;exact⟨rfl,hB3⟩
def Ob.row (o:Ob)(a0 a1:OA)(c0 c1:Nat):AV:=#[.s o.kd,.s o.nm,.s o.tm,.l a0 o.vs.length c0,.bool o.en,.l a1 o.hs.length c1,.i o.vr]
def Ob.sz (o:Ob):Nat:=zef o
theorem Ob.zoV {o:Ob}(h:(o.sz:Int)<=1048576):o.vs.length<=1048576/\o.hs.length<=1048576:=zsq h (Int.le_refl _)
theorem zdW (o:Ob)(a0 a1:OA)(c0 c1:Nat)(left:Int)(w:World)(hm:o.Small)(h0':zJ w a0 o.vs)(h1':zJ w a1 o.hs)(h0:0<=left)(h1:left<=1048576) :
 Calls Tryz.prog 51 #[.agg (o.row a0 a1 c0 c1),.i left] w fun e w'=>e=.returned (.i (zD o.sz left))/\Bw w w':=zhy o a0 a1 c0 c1 left w ⟨hm,h0',h1'⟩ h0 h1
theorem zh6 (o:Ob)(a0 a1:OA)(c0 c1:Nat)(a0' a1':OA)(c0' c1':Nat)(w:World)(hm:o.Small)(h0:zJ w a0 o.vs)(h1:zJ w a1 o.hs)(h0':zJ w a0' o.vs)(h1':zJ w a1' o.hs) :
 Calls Tryz.prog 82 #[.agg (o.row a0 a1 c0 c1),.agg (o.row a0' a1' c0' c1')] w fun e w'=>e=.returned (.bool true)/\Bw w w':=zh8 o a0 a1 a0' a1' c0 c1 c0' c1' w ⟨hm,h0,h1⟩ ⟨hm,h0',h1'⟩
theorem zhX (o:Ob)(a0 a1:OA)(c0 c1:Nat)(w:World)(hm:o.Small)(h0:zJ w a0 o.vs)(h1:zJ w a1 o.hs)(hl:o.vs.length<=1048576/\o.hs.length<=1048576) :
 Calls Tryz.prog 68 #[.agg (o.row a0 a1 c0 c1)] w fun e w'=>∃g0 g1,e=.returned (.agg (o.row (some (aD g0 0)) (some (aD g1 0)) o.vs.length o.hs.length))/\w.heap.size<=g0/\w'.heap[g0]?=some (.cells (jO o.vs) 9)/\w.heap.size<=g1/\w'.heap[g1]?=some (.cells (jO o.hs) 9)/\Bw w w':=by
 refine(zh2 o a0 a1 c0 c1 w ⟨hm,h0,h1⟩ hl.1 hl.2).mono ?_;rintro e w'⟨bv,bh,he,hv,hh,_,hbv,hbh,hb⟩;exact⟨bv,bh,he,hv,hbv,hh,hbh,hb⟩
structure zqN (w:World)(b off:Nat)(x:Ob)(a0 a1:OA)(c0 c1:Nat):Prop where
 small:x.Small
 l0:zJ w a0 x.vs
 l1:zJ w a1 x.hs
 cell:∀j,j<7->w.cell? (aD b (off+j))=(Ob.row x a0 a1 c0 c1)[j]?
structure zcx (w:World)(a:OA)(ms:List Ob):Prop where
 len:ms.length<=maxLen
 rows:ms≠[]->∃b off,a=some (aD b off)/\b<w.heap.size/\∀i (h:i<ms.length),∃a0 a1 c0 c1,zqN w b (off+i*7) ms[i] a0 a1 c0 c1
theorem zqN.mono {w w':World}{b off:Nat}{x:Ob}{a0 a1:OA}{c0 c1:Nat}(h:zqN w b off x a0 a1 c0 c1)(hb:b<w.heap.size)(hl:Bw w w'):zqN w' b off x a0 a1 c0 c1:=
 ⟨h.small,h.l0.mono hl,h.l1.mono hl,fun j hj=>(hl.cell (p:=(aD b (off+j))) hb).trans (h.cell j hj)⟩
theorem zcx.mono {w w':World}{a:OA}{ms:List Ob}(h:zcx w a ms)(hl:Bw w w'):zcx w' a ms:=
 ⟨h.len,fun hne=>by
  obtain⟨b,off,ha,hb,hr⟩:=h.rows hne;refine⟨b,off,ha,nLt hb hl.size,fun i hi=>?_⟩;obtain⟨a0,a1,c0,c1,hf⟩:=hr i hi;exact⟨a0,a1,c0,c1,hf.mono hb hl⟩⟩
theorem zcx.load {w w':World}{a:OA}{ms:List Ob}(h:zcx w a ms)(hl:Bw w w')(i:Nat)(hi:i<ms.length):∃b off a0 a1 c0 c1,a=some (aD b off)/\b<w.heap.size/\ms[i].Small/\zJ w' a0 ms[i].vs/\zJ w' a1 ms[i].hs /\
 w'.cell? (aD b (off+i*7))=some (.s ms[i].kd)/\w'.cell? (aD b (off+i*7+1))=some (.s ms[i].nm)/\w'.cell? (aD b (off+i*7+2))=some (.s ms[i].tm)/\w'.cell? (aD b (off+i*7+3))=some (.l a0 ms[i].vs.length c0)/\w'.cell? (aD b (off+i*7+4))=some (.bool ms[i].en)/\w'.cell? (aD b (off+i*7+5))=some (.l a1 ms[i].hs.length c1)/\w'.cell? (aD b (off+i*7+6))=some (.i ms[i].vr):=by
 obtain⟨b,off,ha,hb,hr⟩:=h.rows (by rintro rfl;simp at hi);obtain⟨a0,a1,c0,c1,hf0⟩:=hr i hi;have hf:=hf0.mono hb hl;exact⟨b,off,a0,a1,c0,c1,ha,hb,hf.small,hf.l0,hf.l1,hf.cell 0 (by omega),hf.cell 1 (by omega),hf.cell 2 (by omega),hf.cell 3 (by omega),hf.cell 4 (by omega),hf.cell 5 (by omega),hf.cell 6 (by omega)⟩
def zbm (ms:List Ob):Nat:=(ms.map Ob.sz).sum
def qR (ms:List Ob):Nat:=ms.length+zbm ms
structure zgB (ms:List Ob):Prop where
 small:∀i (h:i<ms.length),ms[i].Small/\(ms[i].vs.length<=maxLen/\∀s∈ms[i].vs,s.size<=maxLen)/\(ms[i].hs.length<=maxLen/\∀s∈ms[i].hs,s.size<=maxLen)
theorem zcx.smalls {w:World}{a:OA}{ms:List Ob}(h:zcx w a ms):zgB ms:=
 ⟨fun i hi=>by
  obtain⟨b,off,_,_,hr⟩:=h.rows (by rintro rfl;simp at hi);obtain⟨a0,a1,c0,c1,hf⟩:=hr i hi;exact⟨hf.small,⟨hf.l0.len,hf.l0.small⟩,⟨hf.l1.len,hf.l1.small⟩⟩⟩
theorem zmy {ms:List Ob}{left:Int}(h:(qR ms:Int)<=left)(hl:left<=1048576):ms.length<=1048576/\∀i (h:i<ms.length),ms[i].vs.length<=1048576/\ms[i].hs.length<=1048576:=by
 unfold qR at h;refine⟨by omega,fun i hi=>?_⟩;have h1:ms[i].sz<=zbm ms:=zfB Ob.sz ms i hi;exact Ob.zoV (by omega)
theorem zgL (a:OA)(cap:Nat)(ms:List Ob)(left:Int)(w:World)(hw:zcx w a ms)(h0:0<=left)(h1:left<=1048576) :
 Calls Tryz.prog 18 #[.l a ms.length cap,.i left] w fun e w'=>e=.returned (.i (zD (qR ms) left))/\Bw w w':=by
 have hl:=hw.len;unfold maxLen at hl
 by_cases hfit:(ms.length:Int)<=left
 ·go_enter Tryz.func18,Tryz.ntmps18
  go_wp2_with fail
  go_loopw [1,5] (fun l i wr=>∃k:Nat,k<=ms.length/\i=.i k/\0<=left-ms.length-zbm (ms.take k)/\l=.i (left-ms.length-zbm (ms.take k))/\Bw w wr) (fun _ i _=>ms.length-(intOf i).toNat)
  case atStart=>exact⟨0,Nat.zero_le _,rfl,by simp[zbm];omega,by simp[zbm],bRf _ _⟩
  case round=>
   obtain⟨k,hk,rfl,hpos,rfl,hB⟩:=hrel
   by_cases hlt:k<ms.length
   ·obtain⟨b,off,a0,a1,c0,c1,rfl,hb,hsm,hl0,hl1,d0,d1,d2,d3,d4,d5,d6⟩:=hw.load hB k hlt
    have hbr:=nLt hb hB.size;have HS:Hid (zbm (ms.take (k+1))=zbm (ms.take k)+ms[k].sz):=zas Ob.sz ms k hlt;have hle:zbm (ms.take (k+1))<=zbm ms:=zbO Ob.sz ms (k+1);have HI:Hid (zJ wr a0 ms[k].vs/\zJ wr a1 ms[k].hs):=⟨hl0,hl1⟩
    clear hw hl0 hl1
    by_cases hneg:(ms[k].sz:Int)<=left-ms.length-zbm (ms.take k)
    ·have HNG:Hid ((ms[k].sz:Int)<=left-ms.length-zbm (ms.take k)):=hneg
     clear hle;go_wp2_with fail
     refine(zdW ms[k] a0 a1 c0 c1 _ _ hsm HI.o.1 HI.o.2 hpos (by omega)).mono ?_;rintro e w1⟨rfl,hb1⟩;rw[zF HNG.o];have hB1:=hB.trans (hb1.mono hB.size);clear hb1;go_wp2_with fail
     exact⟨⟨k+1,by omega,by go_num,by rw[HS.o];omega,by rw[HS.o];congr 1;omega,hB1⟩,by simp[intOf];omega⟩
    ·have HF:Hid (zD (qR ms) left=-1):=zq (by have:=HS.o;unfold qR;omega)
     have HNG:=hid hneg;clear hneg hle;go_wp2_with fail
     refine(zdW ms[k] a0 a1 c0 c1 _ _ hsm HI.o.1 HI.o.2 hpos (by omega)).mono ?_;rintro e w1⟨rfl,hb1⟩;rw[zq (by have:=HNG.o;omega)];have hB1:=hB.trans (hb1.mono hB.size);clear hb1;go_wp2_with fail
     go_ret;exact⟨zk HF.o.symm,hB1⟩
   ·have HF:Hid (zD (qR ms) left=left-ms.length-zbm (ms.take k)):=by
     rw[tOl (by omega)]at hpos ⊢;have e:zD (qR ms) left=left-qR ms:=zF (by unfold qR;omega);unfold Hid;rw[e];unfold qR;omega
    clear hw
    go_wp2
    go_ret;exact⟨zk HF.o.symm,hB⟩
 ·have HF:Hid (zD (qR ms) left=-1):=zq (by unfold qR;omega)
  clear hw;go_enter Tryz.func18,Tryz.ntmps18
  go_wp2
  go_ret;exact⟨zk HF.o.symm,bRf _ _⟩
theorem zgT (a a':OA)(cap cap':Nat)(ms:List Ob)(w:World)(hw:zcx w a ms)(hw':zcx w a' ms) :
 Calls Tryz.prog 43 #[.l a ms.length cap,.l a' ms.length cap'] w fun e w'=>e=.returned (.bool true)/\Bw w w':=by
 have hl:=hw.len;unfold maxLen at hl;have hnn:((ms.length:Int) != ms.length)=false:=by simp
 go_enter Tryz.func43,Tryz.ntmps43;go_wp2_with fail
 go_loopw [5] (fun i wr=>∃k:Nat,k<=ms.length/\i=.i k/\Bw w wr) (fun i _=>ms.length-(intOf i).toNat)
 case atStart=>exact⟨0,Nat.zero_le _,rfl,bRf _ _⟩
 case round=>
  obtain⟨k,hk,rfl,hB⟩:=hrel
  by_cases hlt:k<ms.length
  ·obtain⟨b,off,a0,a1,c0,c1,rfl,hb,hsm,hl0,hl1,d0,d1,d2,d3,d4,d5,d6⟩:=hw.load hB k hlt
   obtain⟨b',off',a0',a1',c0',c1',rfl,hb',_,hl0',hl1',f0,f1,f2,f3,f4,f5,f6⟩:=hw'.load hB k hlt;have hltI:(k:Int)<(ms.length:Int):=by omega
   clear hw hw';go_wp2_with fail
   go_region_with (go_at_call 82;refine(zh6 ms[k] a0 a1 c0 c1 a0' a1' c0' c1' _ hsm (by exact hl0.mono ((bRf _ _).drew)) (by exact hl1.mono ((bRf _ _).drew)) (by exact hl0'.mono ((bRf _ _).drew)) (by exact hl1'.mono ((bRf _ _).drew))).mono ?_;rintro e w1⟨rfl,hb1'⟩;have hb1:=(bRf wr.heap.size wr).drew.trans hb1';clear hb1')
   all_goals go_wp2_with fail
   all_goals exact⟨⟨k+1,by omega,by go_num,hB.trans (hb1.mono hB.size)⟩,by simp[intOf];omega⟩
  ·clear hw hw'
   go_wp2_with fail
   go_ret;exact⟨rfl,hB⟩
structure zaM (lo:Nat)(w:World)(bo:Nat)(ms:List Ob)(k:Nat):Prop where
 low:lo<=bo
 rows:∃C,w.heap[bo]?=some (.cells C 145)/\C.size=ms.length*7 /\
  ∀i (h:i<ms.length),i<k->∃g0 g1,lo<=g0/\g0≠bo/\w.heap[g0]?=some (.cells (jO ms[i].vs) 9)/\lo<=g1/\g1≠bo/\w.heap[g1]?=some (.cells (jO ms[i].hs) 9)/\∀j,j<7->C[i*7+j]?=(Ob.row ms[i] (some (aD g0 0)) (some (aD g1 0)) ms[i].vs.length ms[i].hs.length)[j]?
theorem zaM.at {lo:Nat}{w:World}{bo:Nat}{ms:List Ob}(h:zaM lo w bo ms ms.length)(hs:zgB ms)(hl:ms.length<=maxLen):zcx w (some (aD bo 0)) ms:=by
 obtain⟨C,hC,hsz,hr⟩:=h.rows;refine⟨hl,fun _=>⟨bo,0,rfl,(gES hC).1,fun i hi=>?_⟩⟩;obtain⟨g0,g1,_,_,hk0,_,_,hk1,hc⟩:=hr i hi hi;obtain⟨s0,s1,s2⟩:=hs.small i hi;refine⟨some (aD g0 0),some (aD g1 0),ms[i].vs.length,ms[i].hs.length,s0,zca hk0 s1.1 s1.2,zca hk1 s2.1 s2.2,fun j hj=>?_⟩;rw[cell_of_block hC,Nat.zero_add];exact hc j hj
theorem zaM.above {lo:Nat}{w w':World}{bo:Nat}{ms:List Ob}{k:Nat}(h:zaM lo w bo ms k)(ha:yw lo w w'):zaM lo w' bo ms k:=by
 obtain⟨C,hC,hsz,hr⟩:=h.rows;refine⟨h.low,C,(ha.same _ h.low (gES hC).1).trans hC,hsz,fun i hi hk=>?_⟩;obtain⟨g0,g1,p0,q0,r0,p1,q1,r1,hc⟩:=hr i hi hk;exact⟨g0,g1,p0,q0,(ha.same _ p0 (gES r0).1).trans r0,p1,q1,(ha.same _ p1 (gES r1).1).trans r1,hc⟩
theorem zaM.later {lo:Nat}{w w':World}{bo:Nat}{ms:List Ob}{k:Nat}(h:zaM lo w bo ms k)(hb:Bw w w'):zaM lo w' bo ms k:=h.above (yw.below hb)
def znK (w:World)(b o:Nat)(v0 v1 v2 v3 v4 v5 v6:Value):World:=(((((((w.setCell (aD b o) v0).setCell (aD b (o+1)) v1).setCell (aD b (o+2)) v2).setCell (aD b (o+3)) v3).setCell (aD b (o+4)) v4).setCell (aD b (o+5)) v5).setCell (aD b (o+6)) v6)
def zjI (C:AV)(o:Nat)(v0 v1 v2 v3 v4 v5 v6:Value):AV:=(((((((C.setIfInBounds (o) v0).setIfInBounds (o+1) v1).setIfInBounds (o+2) v2).setIfInBounds (o+3) v3).setIfInBounds (o+4) v4).setIfInBounds (o+5) v5).setIfInBounds (o+6) v6)
theorem znS {w:World}{b o:Nat}{C:AV}{t:TypeId}(h:w.heap[b]?=some (.cells C t))(v0 v1 v2 v3 v4 v5 v6:Value):(znK w b o v0 v1 v2 v3 v4 v5 v6).heap[b]?=some (.cells (zjI C o v0 v1 v2 v3 v4 v5 v6) t):=
 zh (zh (zh (zh (zh (zh (zh h v0) v1) v2) v3) v4) v5) v6
theorem zoi {B:Nat}{a w:World}(h:Below B a w){b:Nat}(hb:B<=b)(o:Nat)(v0 v1 v2 v3 v4 v5 v6:Value):Below B a (znK w b o v0 v1 v2 v3 v4 v5 v6):=
 ((((((h.setCell hb v0).setCell hb v1).setCell hb v2).setCell hb v3).setCell hb v4).setCell hb v5).setCell hb v6
theorem zdB (w:World)(b o:Nat)(v0 v1 v2 v3 v4 v5 v6:Value){b':Nat}(h:b'≠b):(znK w b o v0 v1 v2 v3 v4 v5 v6).heap[b']?=w.heap[b']?:=by
 unfold znK
 iterate 7 rw[zG h]
theorem zpN (C:AV)(o:Nat)(v0 v1 v2 v3 v4 v5 v6:Value):(zjI C o v0 v1 v2 v3 v4 v5 v6).size=C.size:=by simp[zjI]
theorem zqb (C:AV)(o i:Nat)(v0 v1 v2 v3 v4 v5 v6:Value)(h:i<o \/ o+7<=i):(zjI C o v0 v1 v2 v3 v4 v5 v6)[i]?=C[i]?:=by
 unfold zjI
 iterate 7 rw[Array.getElem?_setIfInBounds,if_neg (by omega)]
theorem zrl (C:AV)(o j:Nat)(v0 v1 v2 v3 v4 v5 v6:Value)(hj:j<7)(ho:o+7<=C.size):(zjI C o v0 v1 v2 v3 v4 v5 v6)[o+j]?=(#[v0,v1,v2,v3,v4,v5,v6]:AV)[j]?:=by
 have hc:j=0 \/ j=1 \/ j=2 \/ j=3 \/ j=4 \/ j=5 \/ j=6:=by omega
 unfold zjI
 rcases hc with h|h|h|h|h|h|h <;> subst h <;> simp[Array.getElem?_setIfInBounds] <;> omega
theorem zaM.put {lo:Nat}{w:World}{bo:Nat}{ms:List Ob}{k:Nat}(h:zaM lo w bo ms k)(hk:k<ms.length)(g0 g1:Nat)(p0:lo<=g0)(q0:g0≠bo)(r0:w.heap[g0]?=some (.cells (jO ms[k].vs) 9))(p1:lo<=g1)(q1:g1≠bo)(r1:w.heap[g1]?=some (.cells (jO ms[k].hs) 9)) :
 zaM lo (znK w bo (k*7) (.s ms[k].kd) (.s ms[k].nm) (.s ms[k].tm) (.l (some (aD g0 0)) ms[k].vs.length ms[k].vs.length) (.bool ms[k].en) (.l (some (aD g1 0)) ms[k].hs.length ms[k].hs.length) (.i ms[k].vr)) bo ms (k+1):=by
 obtain⟨C,hC,hsz,hr⟩:=h.rows;refine⟨h.low,_,znS hC _ _ _ _ _ _ _,by rw[zpN];exact hsz,fun i hi hik=>?_⟩
 rcases Nat.lt_or_ge i k with hlt|hge
 ·obtain⟨g0',g1',x0,y0,z0,x1,y1,z1,hc⟩:=hr i hi hlt
  refine⟨g0',g1',x0,y0,(by rw[zdB _ _ _ _ _ _ _ _ _ _ y0];exact z0),x1,y1,(by rw[zdB _ _ _ _ _ _ _ _ _ _ y1];exact z1),fun j hj=>?_⟩;rw[zqb _ _ _ _ _ _ _ _ _ _ (by omega)];exact hc j hj
 ·have e:i=k:=by omega
  subst e;refine⟨g0,g1,p0,q0,(by rw[zdB _ _ _ _ _ _ _ _ _ _ q0];exact r0),p1,q1,(by rw[zdB _ _ _ _ _ _ _ _ _ _ q1];exact r1),fun j hj=>?_⟩;rw[zrl _ _ _ _ _ _ _ _ _ _ hj (by omega)]
  rfl
def zrr:AV:=#[.s ByteArray.empty,.s ByteArray.empty,.s ByteArray.empty,.l none 0 0,.bool false,.l none 0 0,.i 0]
def zpU (n:Nat):AV:=madeCells zrr (n*7)
theorem zgV (a:OA)(cap:Nat)(ms:List Ob)(w:World)(hw:zcx w a ms)(hl:ms.length<=1048576)(hls:∀i (h:i<ms.length),ms[i].vs.length<=1048576/\ms[i].hs.length<=1048576) :
 Calls Tryz.prog 29 #[.l a ms.length cap] w fun e w'=>e=.returned (.l (some (aD w.heap.size 0)) ms.length ms.length)/\zaM w.heap.size w' w.heap.size ms ms.length/\Bw w w':=by
 have hmk:∀w:World,(Instr.makeSlice 46 (.i ms.length) (.i ms.length)).run Tryz.prog w=.ok (.l (some (aD w.heap.size 0)) ms.length ms.length) (w.alloc (.cells (zpU ms.length) 145)):=
  fun w=>qN (P:=Tryz.prog) 46 145 (.agg zrr) 7 112 Tryz.underlying46 (by kernel_rfl) ms.length (by omega) (by omega) w
 go_enter Tryz.func29,Tryz.ntmps29;go_wp2_with fail
 clear hmk
 go_loopw [4] (fun i wr=>∃k:Nat,k<=ms.length/\i=.i k/\Hid (zaM w.heap.size wr w.heap.size ms k)/\Bw w wr) (fun i _=>ms.length-(intOf i).toNat)
 case atStart=>exact⟨0,Nat.zero_le _,rfl,⟨Nat.le_refl _,zpU ms.length,(MapKept.heap_alloc w _).1,size_madeCells _ _,fun i _ h=>absurd h (by omega)⟩,bAl _ _⟩
 case round=>
  obtain⟨k,hk,rfl,HOW,hB⟩:=hrel
  by_cases hlt:k<ms.length
  ·obtain⟨b,off,a0,a1,c0,c1,rfl,hb,hsm,hl0,hl1,d0,d1,d2,d3,d4,d5,d6⟩:=hw.load hB k hlt
   have HLS:=hid (hls k hlt);have hltI:(k:Int)<(ms.length:Int):=by omega
   clear hw;go_wp2_with fail
   refine(zhX ms[k] a0 a1 c0 c1 _ hsm hl0 hl1 HLS.o).mono ?_;rintro e w1⟨g0,g1,rfl,p0,r0,p1,r1,hb1⟩;have hB1:=hB.trans (hb1.mono hB.size)
   have hbo:w.heap.size<wr.heap.size:=by
    obtain⟨C',hC',_⟩:=HOW.o.rows;exact(gES hC').1
   have HP:=hid (HOW.o.later hb1);obtain⟨C,hC,hsz,_⟩:=HP.o.rows;have hfz:∀o,w1.frozen? (aD w.heap.size o)=false:=fun o=>zl hC
   have hex:∀o,o<ms.length*7->∃v,w1.cell? (aD w.heap.size o)=some v:=fun o ho=>⟨C[o]'(by omega),by rw[cell_of_block hC];exact Array.getElem?_eq_getElem (by omega)⟩
   obtain⟨v0,hv0⟩:=hex (k*7) (by omega);obtain⟨v1,hv1⟩:=hex (k*7+1) (by omega);obtain⟨v2,hv2⟩:=hex (k*7+2) (by omega);obtain⟨v3,hv3⟩:=hex (k*7+3) (by omega);obtain⟨v4,hv4⟩:=hex (k*7+4) (by omega);obtain⟨v5,hv5⟩:=hex (k*7+5) (by omega);obtain⟨v6,hv6⟩:=hex (k*7+6) (by omega);have HR:=zk2 p0 r0 p1 r1;clear hex hC hsz d0 d1 d2 d3 d4 d5 d6 p0 r0 p1 r1 hl0 hl1;unfold Ob.row;go_wp2_with fail
   obtain⟨p0,r0,p1,r1⟩:=HR.o;exact⟨⟨k+1,by omega,by go_num,HP.o.put hlt g0 g1 (by omega) (by omega) r0 (by omega) (by omega) r1,zoi hB1 (Nat.le_refl _) _ _ _ _ _ _ _ _⟩,by simp[intOf];omega⟩
  ·have HF:Hid (zaM w.heap.size wr w.heap.size ms ms.length):=by
    have e:k=ms.length:=by omega
    subst e;exact HOW.o
   clear hw HOW;go_wp2_with fail
   go_ret;exact⟨rfl,HF.o,hB⟩
structure Lg where
 tm:BA
 rs:BA
 mo:Int
 fr:Int
def Lg.cells (m:Lg):AV:=#[.s m.tm,.s m.rs,.i m.mo,.i m.fr]
structure Lg.Small (m:Lg):Prop where
 tm:m.tm.size<=maxLen
 rs:m.rs.size<=maxLen
structure zc5 (w:World)(a:OA)(ms:List Lg):Prop where
 len:ms.length<=maxLen
 small:∀i (h:i<ms.length),ms[i].Small
 rows:ms≠[]->∃b off,a=some (aD b off)/\b<w.heap.size/\∀i (h:i<ms.length),∀j,j<4->w.cell? (aD b (off+i*4+j))=ms[i].cells[j]?
theorem zc5.mono {w w':World}{a:OA}{ms:List Lg}(h:zc5 w a ms)(hl:Bw w w'):zc5 w' a ms:=
 ⟨h.len,h.small,fun hne=>by
  obtain⟨b,off,ha,hb,hr⟩:=h.rows hne;exact⟨b,off,ha,nLt hb hl.size,fun i hi j hj=>(hl.cell (p:=(aD b (off+i*4+j))) hb).trans (hr i hi j hj)⟩⟩
theorem zc5.load {w w':World}{a:OA}{ms:List Lg}(h:zc5 w a ms)(hl:Bw w w')(i:Nat)(hi:i<ms.length):∃b off,a=some (aD b off)/\b<w.heap.size /\
 w'.cell? (aD b (off+i*4))=some (.s ms[i].tm)/\w'.cell? (aD b (off+i*4+1))=some (.s ms[i].rs)/\w'.cell? (aD b (off+i*4+2))=some (.i ms[i].mo)/\w'.cell? (aD b (off+i*4+3))=some (.i ms[i].fr):=by
 obtain⟨b,off,ha,hb,hr⟩:=h.rows (by rintro rfl;simp at hi);have hc:∀j,j<4->w'.cell? (aD b (off+i*4+j))=ms[i].cells[j]?:=fun j hj=>(hl.cell (p:=(aD b (off+i*4+j))) hb).trans (hr i hi j hj)
 exact⟨b,off,ha,hb,hc 0 (by omega),hc 1 (by omega),hc 2 (by omega),hc 3 (by omega)⟩
def Lg.sz (m:Lg):Nat:=m.tm.size+m.rs.size
def zeJ (ms:List Lg):Nat:=(ms.map Lg.sz).sum
def zdm (ms:List Lg):Nat:=ms.length+zeJ ms
theorem zdY (m:Lg)(left:Int)(w:World)(hm:m.Small)(h0:0<=left)(h1:left<=1048576) :
 Calls Tryz.prog 53 #[.agg m.cells,.i left] w fun e w'=>e=.returned (.i (zD m.sz left))/\Bw w w':=by
 have k0:=hm.tm;have k1:=hm.rs;unfold maxLen at k0 k1;unfold Lg.cells;have hB:∀ob,Bw w (w.alloc ob):=fun ob=>bAl _ _
 by_cases hf:(m.sz:Int)<=left
 ·have HF:Hid (zD m.sz left=left-m.tm.size-m.rs.size):=by
   unfold Hid;rw[zF hf];unfold Lg.sz;omega
  unfold Lg.sz at hf;go_enter Tryz.func53,Tryz.ntmps53;go_wp2_with fail
  go_ret;exact⟨zk HF.o.symm,hB _⟩
 ·have HF:Hid (zD m.sz left=-1):=zq hf
  have HN:Hid (¬((m.tm.size+m.rs.size:Nat):Int)<=left):=hf;clear hf;go_enter Tryz.func53,Tryz.ntmps53;go_wp2_with fail
  all_goals go_ret
  all_goals first|exact⟨zk HF.o.symm,hB _⟩|(exfalso;have:=HN.o;simp at *;omega)
theorem zhQ (m:Lg)(left:Int)(w:World)(hm:m.Small)(h0:0<=left)(h1:left<=1048576)(h:(m.sz:Int)<=left) :
 Calls Tryz.prog 53 #[.agg m.cells,.i left] w fun e w'=>e=.returned (.i (left-m.sz))/\Bw w w':=by
 refine(zdY m left w hm h0 h1).mono ?_;rintro e w'⟨rfl,hb⟩;exact⟨zk (zF h),hb⟩
theorem zju (m:Lg)(left:Int)(w:World)(hm:m.Small)(h0:0<=left)(h1:left<=1048576)(h:¬(m.sz:Int)<=left) :
 Calls Tryz.prog 53 #[.agg m.cells,.i left] w fun e w'=>e=.returned (.i (-1))/\Bw w w':=by
 refine(zdY m left w hm h0 h1).mono ?_;rintro e w'⟨rfl,hb⟩;exact⟨zk (zq h),hb⟩
theorem zgD (a:OA)(cap:Nat)(ms:List Lg)(left:Int)(w:World)(hw:zc5 w a ms)(h0:0<=left)(h1:left<=1048576) :
 Calls Tryz.prog 20 #[.l a ms.length cap,.i left] w fun e w'=>e=.returned (.i (zD (zdm ms) left))/\Bw w w':=by
 have hl:=hw.len;unfold maxLen at hl
 by_cases hfit:(ms.length:Int)<=left
 ·go_enter Tryz.func20,Tryz.ntmps20
  go_wp2_with fail
  go_loopw [1,5] (fun l i wr=>∃k:Nat,k<=ms.length/\i=.i k/\0<=left-ms.length-zeJ (ms.take k)/\l=.i (left-ms.length-zeJ (ms.take k))/\Bw w wr) (fun _ i _=>ms.length-(intOf i).toNat)
  case atStart=>exact⟨0,Nat.zero_le _,rfl,by simp[zeJ];omega,by simp[zeJ],bRf _ _⟩
  case round=>
   obtain⟨k,hk,rfl,hpos,rfl,hB⟩:=hrel
   by_cases hlt:k<ms.length
   ·obtain⟨b,off,rfl,hb,c0,c1,c2,c3⟩:=hw.load hB k hlt
    have hsm:=hw.small k hlt;have HS:Hid (zeJ (ms.take (k+1))=zeJ (ms.take k)+ms[k].sz):=zas Lg.sz ms k hlt;have hle:zeJ (ms.take (k+1))<=zeJ ms:=zbO Lg.sz ms (k+1);clear hw
    by_cases hneg:(ms[k].sz:Int)<=left-ms.length-zeJ (ms.take k)
    ·have HNG:Hid ((ms[k].sz:Int)<=left-ms.length-zeJ (ms.take k)):=hneg
     clear hle;go_wp2_with fail
     refine(zhQ _ _ _ hsm hpos (by omega) HNG.o).mono ?_;rintro e w1⟨rfl,hb1⟩;have hB1:=hB.trans (hb1.mono hB.size);clear hb1;go_wp2_with fail
     exact⟨⟨k+1,by omega,by go_num,by rw[HS.o];omega,by rw[HS.o];congr 1;omega,hB1⟩,by simp[intOf];omega⟩
    ·have HF:Hid (zD (zdm ms) left=-1):=zq (by have:=HS.o;unfold zdm;omega)
     have HNG:=hid hneg;clear hneg hle;go_wp2_with fail
     refine(zju _ _ _ hsm hpos (by omega) (by have:=HNG.o;omega)).mono ?_;rintro e w1⟨rfl,hb1⟩;have hB1:=hB.trans (hb1.mono hB.size);clear hb1;go_wp2_with fail
     go_ret;exact⟨zk HF.o.symm,hB1⟩
   ·have HF:Hid (zD (zdm ms) left=left-ms.length-zeJ (ms.take k)):=by
     rw[tOl (by omega)]at hpos ⊢;have e:zD (zdm ms) left=left-zdm ms:=zF (by unfold zdm;omega);unfold Hid;rw[e];unfold zdm;omega
    clear hw
    go_wp2
    go_ret;exact⟨zk HF.o.symm,hB⟩
 ·have HF:Hid (zD (zdm ms) left=-1):=zq (by unfold zdm;omega)
  clear hw;go_enter Tryz.func20,Tryz.ntmps20
  go_wp2
  go_ret;exact⟨zk HF.o.symm,bRf _ _⟩
theorem zhu (m:Lg)(w:World):Calls Tryz.prog 84 #[.agg m.cells,.agg m.cells] w fun e w'=>e=.returned (.bool true)/\Bw w w':=by
 unfold Lg.cells;have hn2:(m.mo != m.mo)=false:=by simp
 have hn3:(m.fr != m.fr)=false:=by simp
 go_enter Tryz.func84,Tryz.ntmps84;go_wp2_with fail
 go_ret;exact⟨rfl,zx _ _ _⟩
theorem zgy (a a':OA)(cap cap':Nat)(ms:List Lg)(w:World)(hw:zc5 w a ms)(hw':zc5 w a' ms) :
 Calls Tryz.prog 45 #[.l a ms.length cap,.l a' ms.length cap'] w fun e w'=>e=.returned (.bool true)/\Bw w w':=by
 have hl:=hw.len;unfold maxLen at hl;have hnn:((ms.length:Int) != ms.length)=false:=by simp
 go_enter Tryz.func45,Tryz.ntmps45;go_wp2_with fail
 go_loopw [5] (fun i wr=>∃k:Nat,k<=ms.length/\i=.i k/\Bw w wr) (fun i _=>ms.length-(intOf i).toNat)
 case atStart=>exact⟨0,Nat.zero_le _,rfl,bRf _ _⟩
 case round=>
  obtain⟨k,hk,rfl,hB⟩:=hrel
  by_cases hlt:k<ms.length
  ·obtain⟨b,off,rfl,hb,c0,c1,c2,c3⟩:=hw.load hB k hlt
   obtain⟨b',off',rfl,hb',d0,d1,d2,d3⟩:=hw'.load hB k hlt;have hltI:(k:Int)<(ms.length:Int):=by omega
   clear hw hw';go_wp2_with fail
   go_region_with (go_at_call 84;refine(zhu ms[k] _).mono ?_;rintro e w1⟨rfl,hb1'⟩;have hb1:=(bRf wr.heap.size wr).drew.trans hb1';clear hb1')
   all_goals go_wp2_with fail
   all_goals exact⟨⟨k+1,by omega,by go_num,hB.trans (hb1.mono hB.size)⟩,by simp[intOf];omega⟩
  ·clear hw hw'
   go_wp2_with fail
   go_ret;exact⟨rfl,hB⟩
structure zau (lo:Nat)(w:World)(bo:Nat)(ms:List Lg)(k:Nat):Prop where
 low:lo<=bo
 rows:∃C,w.heap[bo]?=some (.cells C 148)/\C.size=ms.length*4/\∀i (h:i<ms.length),i<k->∀j,j<4->C[i*4+j]?=ms[i].cells[j]?
theorem zau.at {lo:Nat}{w:World}{bo:Nat}{ms:List Lg}(h:zau lo w bo ms ms.length)(hs:∀i (h:i<ms.length),ms[i].Small)(hl:ms.length<=maxLen):zc5 w (some (aD bo 0)) ms:=by
 obtain⟨C,hC,hsz,hr⟩:=h.rows;refine⟨hl,hs,fun _=>⟨bo,0,rfl,(gES hC).1,fun i hi j hj=>?_⟩⟩;rw[cell_of_block hC,Nat.zero_add];exact hr i hi hi j hj
theorem zau.later {lo:Nat}{w w':World}{bo:Nat}{ms:List Lg}{k:Nat}(h:zau lo w bo ms k)(hb:Bw w w'):zau lo w' bo ms k:=by
 obtain⟨C,hC,hsz,hr⟩:=h.rows;exact⟨h.low,C,(hb.block bo (gES hC).1).trans hC,hsz,hr⟩
theorem zau.above {lo:Nat}{w w':World}{bo:Nat}{ms:List Lg}{k:Nat}(h:zau lo w bo ms k)(ha:yw lo w w'):zau lo w' bo ms k:=by
 obtain⟨C,hC,hr⟩:=h.rows;exact⟨h.low,C,(ha.same _ h.low (gES hC).1).trans hC,hr⟩
theorem zau.weaken {lo lo':Nat}{w:World}{bo:Nat}{ms:List Lg}{k:Nat}(h:zau lo w bo ms k)(hl:lo'<=lo):zau lo' w bo ms k:=⟨Nat.le_trans hl h.low,h.rows⟩
def zrE (w:World)(b o:Nat)(v0 v1 v2 v3:Value):World:=((((w.setCell (aD b o) v0).setCell (aD b (o+1)) v1).setCell (aD b (o+2)) v2).setCell (aD b (o+3)) v3)
def zjG (C:AV)(o:Nat)(v0 v1 v2 v3:Value):AV:=((((C.setIfInBounds (o) v0).setIfInBounds (o+1) v1).setIfInBounds (o+2) v2).setIfInBounds (o+3) v3)
theorem zn7 {w:World}{b o:Nat}{C:AV}{t:TypeId}(h:w.heap[b]?=some (.cells C t))(v0 v1 v2 v3:Value):(zrE w b o v0 v1 v2 v3).heap[b]?=some (.cells (zjG C o v0 v1 v2 v3) t):=
 zh (zh (zh (zh h v0) v1) v2) v3
theorem zns {B:Nat}{a w:World}(h:Below B a w){b:Nat}(hb:B<=b)(o:Nat)(v0 v1 v2 v3:Value):Below B a (zrE w b o v0 v1 v2 v3):=
 (((h.setCell hb v0).setCell hb v1).setCell hb v2).setCell hb v3
theorem zoC (C:AV)(o:Nat)(v0 v1 v2 v3:Value):(zjG C o v0 v1 v2 v3).size=C.size:=by simp[zjG]
theorem zqA (C:AV)(o i:Nat)(v0 v1 v2 v3:Value)(h:i<o \/ o+4<=i):(zjG C o v0 v1 v2 v3)[i]?=C[i]?:=by
 unfold zjG
 iterate 4 rw[Array.getElem?_setIfInBounds,if_neg (by omega)]
theorem zrN (C:AV)(o j:Nat)(v0 v1 v2 v3:Value)(hj:j<4)(ho:o+4<=C.size):(zjG C o v0 v1 v2 v3)[o+j]?=(#[v0,v1,v2,v3]:AV)[j]?:=by
 have hc:j=0 \/ j=1 \/ j=2 \/ j=3:=by omega
 unfold zjG
 rcases hc with h|h|h|h <;> subst h <;> simp[Array.getElem?_setIfInBounds] <;> omega
theorem zau.put {lo:Nat}{w:World}{bo:Nat}{ms:List Lg}{k:Nat}(h:zau lo w bo ms k)(hk:k<ms.length) :
 zau lo (zrE w bo (k*4) (.s ms[k].tm) (.s ms[k].rs) (.i ms[k].mo) (.i ms[k].fr)) bo ms (k+1):=by
 obtain⟨C,hC,hsz,hr⟩:=h.rows;refine⟨h.low,_,zn7 hC _ _ _ _,by rw[zoC];exact hsz,fun i hi hik j hj=>?_⟩
 rcases Nat.lt_or_ge i k with hlt|hge
 ·rw[zqA _ _ _ _ _ _ _ (by omega)]
  exact hr i hi hlt j hj
 ·have e:i=k:=by omega
  subst e;rw[zrN _ _ _ _ _ _ _ hj (by omega)]
  rfl
theorem zht (m:Lg)(w:World) :
 Calls Tryz.prog 70 #[.agg m.cells] w fun e w'=>e=.returned (.agg m.cells)/\Bw w w':=by
 unfold Lg.cells;go_enter Tryz.func70,Tryz.ntmps70;go_wp2_with fail
 refine bodyPost_ret (v:=.agg #[.s m.tm,.s m.rs,.i m.mo,.i m.fr]) (by simp[results,Tryz.results70,go_sem]) rfl ⟨rfl,?_⟩;exact(((bAl _ _).alloc (by simp) _).alloc (by simp;omega) _)
def zrD:AV:=#[.s ByteArray.empty,.s ByteArray.empty,.i 0,.i 0]
def zp6 (n:Nat):AV:=madeCells zrD (n*4)
theorem zgK (a:OA)(cap:Nat)(ms:List Lg)(w:World)(hw:zc5 w a ms)(hl:ms.length<=1048576) :
 Calls Tryz.prog 31 #[.l a ms.length cap] w fun e w'=>e=.returned (.l (some (aD w.heap.size 0)) ms.length ms.length)/\zau w.heap.size w' w.heap.size ms ms.length/\Bw w w':=by
 have hmk:∀w:World,(Instr.makeSlice 48 (.i ms.length) (.i ms.length)).run Tryz.prog w=.ok (.l (some (aD w.heap.size 0)) ms.length ms.length) (w.alloc (.cells (zp6 ms.length) 148)):=
  fun w=>qN (P:=Tryz.prog) 48 148 (.agg zrD) 4 48 Tryz.underlying48 (by kernel_rfl) ms.length (by omega) (by omega) w
 go_enter Tryz.func31,Tryz.ntmps31;go_wp2_with fail
 clear hmk
 go_loopw [4] (fun i wr=>∃k:Nat,k<=ms.length/\i=.i k/\zau w.heap.size wr w.heap.size ms k/\Bw w wr) (fun i _=>ms.length-(intOf i).toNat)
 case atStart=>exact⟨0,Nat.zero_le _,rfl,⟨Nat.le_refl _,zp6 ms.length,(MapKept.heap_alloc w _).1,size_madeCells _ _,fun i _ h=>absurd h (by omega)⟩,bAl _ _⟩
 case round=>
  obtain⟨k,hk,rfl,hown,hB⟩:=hrel
  by_cases hlt:k<ms.length
  ·obtain⟨b,off,rfl,hb,c0,c1,c2,c3⟩:=hw.load hB k hlt
   have hltI:(k:Int)<(ms.length:Int):=by omega
   clear hw;go_wp2_with fail
   refine(zht ms[k] _).mono ?_;rintro e w1⟨rfl,hb1⟩;have hB1:=hB.trans (hb1.mono hB.size);have hown1:=hown.later hb1
   have hbo:w.heap.size<wr.heap.size:=by
    obtain⟨C',hC',_⟩:=hown.rows;exact(gES hC').1
   obtain⟨C,hC,hsz,_⟩:=hown1.rows;have hfz:∀o,w1.frozen? (aD w.heap.size o)=false:=fun o=>zl hC
   have hex:∀o,o<ms.length*4->∃v,w1.cell? (aD w.heap.size o)=some v:=fun o ho=>⟨C[o]'(by omega),by rw[cell_of_block hC];exact Array.getElem?_eq_getElem (by omega)⟩
   obtain⟨v0,hv0⟩:=hex (k*4) (by omega);obtain⟨v1,hv1⟩:=hex (k*4+1) (by omega);obtain⟨v2,hv2⟩:=hex (k*4+2) (by omega);obtain⟨v3,hv3⟩:=hex (k*4+3) (by omega);have HP:=hid hown1;clear hex hC hsz c0 c1 c2 c3 hown hown1;unfold Lg.cells;go_wp2_with fail
   exact⟨⟨k+1,by omega,by go_num,HP.o.put hlt,zns hB1 (Nat.le_refl _) _ _ _ _ _⟩,by simp[intOf];omega⟩
  ·have HF:Hid (zau w.heap.size wr w.heap.size ms ms.length):=by
    have e:k=ms.length:=by omega
    subst e;exact hown
   clear hw hown;go_wp2_with fail
   go_ret;exact⟨rfl,HF.o,hB⟩
structure Pu where
 dr:BA
 tm:BA
 rs:BA
 am:Int
 un:Int
def Pu.cells (m:Pu):AV:=#[.s m.dr,.s m.tm,.s m.rs,.i m.am,.i m.un]
structure Pu.Small (m:Pu):Prop where
 dr:m.dr.size<=maxLen
 tm:m.tm.size<=maxLen
 rs:m.rs.size<=maxLen
structure zdV (w:World)(a:OA)(ms:List Pu):Prop where
 len:ms.length<=maxLen
 small:∀i (h:i<ms.length),ms[i].Small
 rows:ms≠[]->∃b off,a=some (aD b off)/\b<w.heap.size/\∀i (h:i<ms.length),∀j,j<5->w.cell? (aD b (off+i*5+j))=ms[i].cells[j]?
theorem zdV.mono {w w':World}{a:OA}{ms:List Pu}(h:zdV w a ms)(hl:Bw w w'):zdV w' a ms:=
 ⟨h.len,h.small,fun hne=>by
  obtain⟨b,off,ha,hb,hr⟩:=h.rows hne;exact⟨b,off,ha,nLt hb hl.size,fun i hi j hj=>(hl.cell (p:=(aD b (off+i*5+j))) hb).trans (hr i hi j hj)⟩⟩
theorem zdV.load {w w':World}{a:OA}{ms:List Pu}(h:zdV w a ms)(hl:Bw w w')(i:Nat)(hi:i<ms.length):∃b off,a=some (aD b off)/\b<w.heap.size /\
 w'.cell? (aD b (off+i*5))=some (.s ms[i].dr)/\w'.cell? (aD b (off+i*5+1))=some (.s ms[i].tm)/\w'.cell? (aD b (off+i*5+2))=some (.s ms[i].rs)/\w'.cell? (aD b (off+i*5+3))=some (.i ms[i].am)/\w'.cell? (aD b (off+i*5+4))=some (.i ms[i].un):=by
 obtain⟨b,off,ha,hb,hr⟩:=h.rows (by rintro rfl;simp at hi);have hc:∀j,j<5->w'.cell? (aD b (off+i*5+j))=ms[i].cells[j]?:=fun j hj=>(hl.cell (p:=(aD b (off+i*5+j))) hb).trans (hr i hi j hj)
 exact⟨b,off,ha,hb,hc 0 (by omega),hc 1 (by omega),hc 2 (by omega),hc 3 (by omega),hc 4 (by omega)⟩
def Pu.sz (m:Pu):Nat:=m.dr.size+m.tm.size+m.rs.size
def zeM (ms:List Pu):Nat:=(ms.map Pu.sz).sum
def zdF (ms:List Pu):Nat:=ms.length+zeM ms
theorem zeK (m:Pu)(left:Int)(w:World)(hm:m.Small)(h0:0<=left)(h1:left<=1048576) :
 Calls Tryz.prog 54 #[.agg m.cells,.i left] w fun e w'=>e=.returned (.i (zD m.sz left))/\Bw w w':=by
 have k0:=hm.dr;have k1:=hm.tm;have k2:=hm.rs;unfold maxLen at k0 k1 k2;unfold Pu.cells;have hB:∀ob,Bw w (w.alloc ob):=fun ob=>bAl _ _
 by_cases hf:(m.sz:Int)<=left
 ·have HF:Hid (zD m.sz left=left-m.dr.size-m.tm.size-m.rs.size):=by
   unfold Hid;rw[zF hf];unfold Pu.sz;omega
  unfold Pu.sz at hf;go_enter Tryz.func54,Tryz.ntmps54;go_wp2_with fail
  go_ret;exact⟨zk HF.o.symm,hB _⟩
 ·have HF:Hid (zD m.sz left=-1):=zq hf
  have HN:Hid (¬((m.dr.size+m.tm.size+m.rs.size:Nat):Int)<=left):=hf;clear hf;go_enter Tryz.func54,Tryz.ntmps54;go_wp2_with fail
  all_goals go_ret
  all_goals first|exact⟨zk HF.o.symm,hB _⟩|(exfalso;have:=HN.o;simp at *;omega)
theorem ziS (m:Pu)(left:Int)(w:World)(hm:m.Small)(h0:0<=left)(h1:left<=1048576)(h:(m.sz:Int)<=left) :
 Calls Tryz.prog 54 #[.agg m.cells,.i left] w fun e w'=>e=.returned (.i (left-m.sz))/\Bw w w':=by
 refine(zeK m left w hm h0 h1).mono ?_;rintro e w'⟨rfl,hb⟩;exact⟨zk (zF h),hb⟩
theorem zkO (m:Pu)(left:Int)(w:World)(hm:m.Small)(h0:0<=left)(h1:left<=1048576)(h:¬(m.sz:Int)<=left) :
 Calls Tryz.prog 54 #[.agg m.cells,.i left] w fun e w'=>e=.returned (.i (-1))/\Bw w w':=by
 refine(zeK m left w hm h0 h1).mono ?_;rintro e w'⟨rfl,hb⟩;exact⟨zk (zq h),hb⟩
theorem zhD (a:OA)(cap:Nat)(ms:List Pu)(left:Int)(w:World)(hw:zdV w a ms)(h0:0<=left)(h1:left<=1048576) :
 Calls Tryz.prog 21 #[.l a ms.length cap,.i left] w fun e w'=>e=.returned (.i (zD (zdF ms) left))/\Bw w w':=by
 have hl:=hw.len;unfold maxLen at hl
 by_cases hfit:(ms.length:Int)<=left
 ·go_enter Tryz.func21,Tryz.ntmps21
  go_wp2_with fail
  go_loopw [1,5] (fun l i wr=>∃k:Nat,k<=ms.length/\i=.i k/\0<=left-ms.length-zeM (ms.take k)/\l=.i (left-ms.length-zeM (ms.take k))/\Bw w wr) (fun _ i _=>ms.length-(intOf i).toNat)
  case atStart=>exact⟨0,Nat.zero_le _,rfl,by simp[zeM];omega,by simp[zeM],bRf _ _⟩
  case round=>
   obtain⟨k,hk,rfl,hpos,rfl,hB⟩:=hrel
   by_cases hlt:k<ms.length
   ·obtain⟨b,off,rfl,hb,c0,c1,c2,c3,c4⟩:=hw.load hB k hlt
    have hsm:=hw.small k hlt;have HS:Hid (zeM (ms.take (k+1))=zeM (ms.take k)+ms[k].sz):=zas Pu.sz ms k hlt;have hle:zeM (ms.take (k+1))<=zeM ms:=zbO Pu.sz ms (k+1);clear hw
    by_cases hneg:(ms[k].sz:Int)<=left-ms.length-zeM (ms.take k)
    ·have HNG:Hid ((ms[k].sz:Int)<=left-ms.length-zeM (ms.take k)):=hneg
     clear hle;go_wp2_with fail
     refine(ziS _ _ _ hsm hpos (by omega) HNG.o).mono ?_;rintro e w1⟨rfl,hb1⟩;have hB1:=hB.trans (hb1.mono hB.size);clear hb1;go_wp2_with fail
     exact⟨⟨k+1,by omega,by go_num,by rw[HS.o];omega,by rw[HS.o];congr 1;omega,hB1⟩,by simp[intOf];omega⟩
    ·have HF:Hid (zD (zdF ms) left=-1):=zq (by have:=HS.o;unfold zdF;omega)
     have HNG:=hid hneg;clear hneg hle;go_wp2_with fail
     refine(zkO _ _ _ hsm hpos (by omega) (by have:=HNG.o;omega)).mono ?_;rintro e w1⟨rfl,hb1⟩;have hB1:=hB.trans (hb1.mono hB.size);clear hb1;go_wp2_with fail
     go_ret;exact⟨zk HF.o.symm,hB1⟩
   ·have HF:Hid (zD (zdF ms) left=left-ms.length-zeM (ms.take k)):=by
     rw[tOl (by omega)]at hpos ⊢;have e:zD (zdF ms) left=left-zdF ms:=zF (by unfold zdF;omega);unfold Hid;rw[e];unfold zdF;omega
    clear hw
    go_wp2
    go_ret;exact⟨zk HF.o.symm,hB⟩
 ·have HF:Hid (zD (zdF ms) left=-1):=zq (by unfold zdF;omega)
  clear hw;go_enter Tryz.func21,Tryz.ntmps21
  go_wp2
  go_ret;exact⟨zk HF.o.symm,bRf _ _⟩
theorem zjc (m:Pu)(w:World):Calls Tryz.prog 85 #[.agg m.cells,.agg m.cells] w fun e w'=>e=.returned (.bool true)/\Bw w w':=by
 unfold Pu.cells;have hn3:(m.am != m.am)=false:=by simp
 have hn4:(m.un != m.un)=false:=by simp
 go_enter Tryz.func85,Tryz.ntmps85;go_wp2_with fail
 go_ret;exact⟨rfl,zx _ _ _⟩
theorem zhL (a a':OA)(cap cap':Nat)(ms:List Pu)(w:World)(hw:zdV w a ms)(hw':zdV w a' ms) :
 Calls Tryz.prog 46 #[.l a ms.length cap,.l a' ms.length cap'] w fun e w'=>e=.returned (.bool true)/\Bw w w':=by
 have hl:=hw.len;unfold maxLen at hl;have hnn:((ms.length:Int) != ms.length)=false:=by simp
 go_enter Tryz.func46,Tryz.ntmps46;go_wp2_with fail
 go_loopw [5] (fun i wr=>∃k:Nat,k<=ms.length/\i=.i k/\Bw w wr) (fun i _=>ms.length-(intOf i).toNat)
 case atStart=>exact⟨0,Nat.zero_le _,rfl,bRf _ _⟩
 case round=>
  obtain⟨k,hk,rfl,hB⟩:=hrel
  by_cases hlt:k<ms.length
  ·obtain⟨b,off,rfl,hb,c0,c1,c2,c3,c4⟩:=hw.load hB k hlt
   obtain⟨b',off',rfl,hb',d0,d1,d2,d3,d4⟩:=hw'.load hB k hlt;have hltI:(k:Int)<(ms.length:Int):=by omega
   clear hw hw';go_wp2_with fail
   go_region_with (go_at_call 85;refine(zjc ms[k] _).mono ?_;rintro e w1⟨rfl,hb1'⟩;have hb1:=(bRf wr.heap.size wr).drew.trans hb1';clear hb1')
   all_goals go_wp2_with fail
   all_goals exact⟨⟨k+1,by omega,by go_num,hB.trans (hb1.mono hB.size)⟩,by simp[intOf];omega⟩
  ·clear hw hw'
   go_wp2_with fail
   go_ret;exact⟨rfl,hB⟩
structure zaB (lo:Nat)(w:World)(bo:Nat)(ms:List Pu)(k:Nat):Prop where
 low:lo<=bo
 rows:∃C,w.heap[bo]?=some (.cells C 150)/\C.size=ms.length*5/\∀i (h:i<ms.length),i<k->∀j,j<5->C[i*5+j]?=ms[i].cells[j]?
theorem zaB.at {lo:Nat}{w:World}{bo:Nat}{ms:List Pu}(h:zaB lo w bo ms ms.length)(hs:∀i (h:i<ms.length),ms[i].Small)(hl:ms.length<=maxLen):zdV w (some (aD bo 0)) ms:=by
 obtain⟨C,hC,hsz,hr⟩:=h.rows;refine⟨hl,hs,fun _=>⟨bo,0,rfl,(gES hC).1,fun i hi j hj=>?_⟩⟩;rw[cell_of_block hC,Nat.zero_add];exact hr i hi hi j hj
theorem zaB.later {lo:Nat}{w w':World}{bo:Nat}{ms:List Pu}{k:Nat}(h:zaB lo w bo ms k)(hb:Bw w w'):zaB lo w' bo ms k:=by
 obtain⟨C,hC,hsz,hr⟩:=h.rows;exact⟨h.low,C,(hb.block bo (gES hC).1).trans hC,hsz,hr⟩
theorem zaB.above {lo:Nat}{w w':World}{bo:Nat}{ms:List Pu}{k:Nat}(h:zaB lo w bo ms k)(ha:yw lo w w'):zaB lo w' bo ms k:=by
 obtain⟨C,hC,hr⟩:=h.rows;exact⟨h.low,C,(ha.same _ h.low (gES hC).1).trans hC,hr⟩
theorem zaB.weaken {lo lo':Nat}{w:World}{bo:Nat}{ms:List Pu}{k:Nat}(h:zaB lo w bo ms k)(hl:lo'<=lo):zaB lo' w bo ms k:=⟨Nat.le_trans hl h.low,h.rows⟩
def zrI (w:World)(b o:Nat)(v0 v1 v2 v3 v4:Value):World:=(((((w.setCell (aD b o) v0).setCell (aD b (o+1)) v1).setCell (aD b (o+2)) v2).setCell (aD b (o+3)) v3).setCell (aD b (o+4)) v4)
def zj6 (C:AV)(o:Nat)(v0 v1 v2 v3 v4:Value):AV:=(((((C.setIfInBounds (o) v0).setIfInBounds (o+1) v1).setIfInBounds (o+2) v2).setIfInBounds (o+3) v3).setIfInBounds (o+4) v4)
theorem zn1 {w:World}{b o:Nat}{C:AV}{t:TypeId}(h:w.heap[b]?=some (.cells C t))(v0 v1 v2 v3 v4:Value):(zrI w b o v0 v1 v2 v3 v4).heap[b]?=some (.cells (zj6 C o v0 v1 v2 v3 v4) t):=
 zh (zh (zh (zh (zh h v0) v1) v2) v3) v4
theorem zna {B:Nat}{a w:World}(h:Below B a w){b:Nat}(hb:B<=b)(o:Nat)(v0 v1 v2 v3 v4:Value):Below B a (zrI w b o v0 v1 v2 v3 v4):=
 ((((h.setCell hb v0).setCell hb v1).setCell hb v2).setCell hb v3).setCell hb v4
theorem zpF (C:AV)(o:Nat)(v0 v1 v2 v3 v4:Value):(zj6 C o v0 v1 v2 v3 v4).size=C.size:=by simp[zj6]
theorem zqP (C:AV)(o i:Nat)(v0 v1 v2 v3 v4:Value)(h:i<o \/ o+5<=i):(zj6 C o v0 v1 v2 v3 v4)[i]?=C[i]?:=by
 unfold zj6
 iterate 5 rw[Array.getElem?_setIfInBounds,if_neg (by omega)]
theorem zq8 (C:AV)(o j:Nat)(v0 v1 v2 v3 v4:Value)(hj:j<5)(ho:o+5<=C.size):(zj6 C o v0 v1 v2 v3 v4)[o+j]?=(#[v0,v1,v2,v3,v4]:AV)[j]?:=by
 have hc:j=0 \/ j=1 \/ j=2 \/ j=3 \/ j=4:=by omega
 unfold zj6
 rcases hc with h|h|h|h|h <;> subst h <;> simp[Array.getElem?_setIfInBounds] <;> omega
theorem zaB.put {lo:Nat}{w:World}{bo:Nat}{ms:List Pu}{k:Nat}(h:zaB lo w bo ms k)(hk:k<ms.length) :
 zaB lo (zrI w bo (k*5) (.s ms[k].dr) (.s ms[k].tm) (.s ms[k].rs) (.i ms[k].am) (.i ms[k].un)) bo ms (k+1):=by
 obtain⟨C,hC,hsz,hr⟩:=h.rows;refine⟨h.low,_,zn1 hC _ _ _ _ _,by rw[zpF];exact hsz,fun i hi hik j hj=>?_⟩
 rcases Nat.lt_or_ge i k with hlt|hge
 ·rw[zqP _ _ _ _ _ _ _ _ (by omega)]
  exact hr i hi hlt j hj
 ·have e:i=k:=by omega
  subst e;rw[zq8 _ _ _ _ _ _ _ _ hj (by omega)]
  rfl
theorem ziM (m:Pu)(w:World) :
 Calls Tryz.prog 71 #[.agg m.cells] w fun e w'=>e=.returned (.agg m.cells)/\Bw w w':=by
 unfold Pu.cells;go_enter Tryz.func71,Tryz.ntmps71;go_wp2_with fail
 refine bodyPost_ret (v:=.agg #[.s m.dr,.s m.tm,.s m.rs,.i m.am,.i m.un]) (by simp[results,Tryz.results71,go_sem]) rfl ⟨rfl,?_⟩;exact(((bAl _ _).alloc (by simp) _).alloc (by simp;omega) _)
def zrx:AV:=#[.s ByteArray.empty,.s ByteArray.empty,.s ByteArray.empty,.i 0,.i 0]
def zpS (n:Nat):AV:=madeCells zrx (n*5)
theorem zhq (a:OA)(cap:Nat)(ms:List Pu)(w:World)(hw:zdV w a ms)(hl:ms.length<=1048576) :
 Calls Tryz.prog 32 #[.l a ms.length cap] w fun e w'=>e=.returned (.l (some (aD w.heap.size 0)) ms.length ms.length)/\zaB w.heap.size w' w.heap.size ms ms.length/\Bw w w':=by
 have hmk:∀w:World,(Instr.makeSlice 49 (.i ms.length) (.i ms.length)).run Tryz.prog w=.ok (.l (some (aD w.heap.size 0)) ms.length ms.length) (w.alloc (.cells (zpS ms.length) 150)):=
  fun w=>qN (P:=Tryz.prog) 49 150 (.agg zrx) 5 64 Tryz.underlying49 (by kernel_rfl) ms.length (by omega) (by omega) w
 go_enter Tryz.func32,Tryz.ntmps32;go_wp2_with fail
 clear hmk
 go_loopw [4] (fun i wr=>∃k:Nat,k<=ms.length/\i=.i k/\zaB w.heap.size wr w.heap.size ms k/\Bw w wr) (fun i _=>ms.length-(intOf i).toNat)
 case atStart=>exact⟨0,Nat.zero_le _,rfl,⟨Nat.le_refl _,zpS ms.length,(MapKept.heap_alloc w _).1,size_madeCells _ _,fun i _ h=>absurd h (by omega)⟩,bAl _ _⟩
 case round=>
  obtain⟨k,hk,rfl,hown,hB⟩:=hrel
  by_cases hlt:k<ms.length
  ·obtain⟨b,off,rfl,hb,c0,c1,c2,c3,c4⟩:=hw.load hB k hlt
   have hltI:(k:Int)<(ms.length:Int):=by omega
   clear hw;go_wp2_with fail
   refine(ziM ms[k] _).mono ?_;rintro e w1⟨rfl,hb1⟩;have hB1:=hB.trans (hb1.mono hB.size);have hown1:=hown.later hb1
   have hbo:w.heap.size<wr.heap.size:=by
    obtain⟨C',hC',_⟩:=hown.rows;exact(gES hC').1
   obtain⟨C,hC,hsz,_⟩:=hown1.rows;have hfz:∀o,w1.frozen? (aD w.heap.size o)=false:=fun o=>zl hC
   have hex:∀o,o<ms.length*5->∃v,w1.cell? (aD w.heap.size o)=some v:=fun o ho=>⟨C[o]'(by omega),by rw[cell_of_block hC];exact Array.getElem?_eq_getElem (by omega)⟩
   obtain⟨v0,hv0⟩:=hex (k*5) (by omega);obtain⟨v1,hv1⟩:=hex (k*5+1) (by omega);obtain⟨v2,hv2⟩:=hex (k*5+2) (by omega);obtain⟨v3,hv3⟩:=hex (k*5+3) (by omega);obtain⟨v4,hv4⟩:=hex (k*5+4) (by omega);have HP:=hid hown1;clear hex hC hsz c0 c1 c2 c3 c4 hown hown1;unfold Pu.cells;go_wp2_with fail
   exact⟨⟨k+1,by omega,by go_num,HP.o.put hlt,zna hB1 (Nat.le_refl _) _ _ _ _ _ _⟩,by simp[intOf];omega⟩
  ·have HF:Hid (zaB w.heap.size wr w.heap.size ms ms.length):=by
    have e:k=ms.length:=by omega
    subst e;exact hown
   clear hw hown;go_wp2_with fail
   go_ret;exact⟨rfl,HF.o,hB⟩
end Go.Proofs.YthdfpinbnncghaaGreat
