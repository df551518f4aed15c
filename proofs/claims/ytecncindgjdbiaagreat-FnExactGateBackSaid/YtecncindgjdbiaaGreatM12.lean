import Derived.Test.YtecncindgjdbiaaGreatM10
set_option maxHeartbeats 2000000
namespace Go.Proofs.YtecncindgjdbiaaGreat
open Go.RowKit
def zrd (w:World)(b o:Nat)(v0 v1 v2 v3 v4 v5:Value):World:=(((((w.setCell (aD b o) v0).setCell (aD b (o+1)) v1).setCell (aD b (o+2)) v2).setCell (aD b (o+3)) v3).setCell (aD b (o+4)) v4).setCell (aD b (o+5)) v5
def zoJ (C:AV)(o:Nat)(v0 v1 v2 v3 v4 v5:Value):AV:=(((((C.setIfInBounds o v0).setIfInBounds (o+1) v1).setIfInBounds (o+2) v2).setIfInBounds (o+3) v3).setIfInBounds (o+4) v4).setIfInBounds (o+5) v5
theorem zoU {w:World}{b o:Nat}{C:AV}{t:TypeId}(h:w.heap[b]?=some (.cells C t))(v0 v1 v2 v3 v4 v5:Value):(zrd w b o v0 v1 v2 v3 v4 v5).heap[b]?=some (.cells (zoJ C o v0 v1 v2 v3 v4 v5) t):=
 zi (zi (zi (zi (zi (zi h v0) v1) v2) v3) v4) v5
theorem zoL {B:Nat}{a w:World}(h:Below B a w){b:Nat}(hb:B<=b)(o:Nat)(v0 v1 v2 v3 v4 v5:Value):Below B a (zrd w b o v0 v1 v2 v3 v4 v5):=
 (((((h.setCell hb v0).setCell hb v1).setCell hb v2).setCell hb v3).setCell hb v4).setCell hb v5
theorem zpH (C:AV)(o:Nat)(v0 v1 v2 v3 v4 v5:Value):(zoJ C o v0 v1 v2 v3 v4 v5).size=C.size:=by simp[zoJ]
theorem zqu (C:AV)(o i:Nat)(v0 v1 v2 v3 v4 v5:Value)(h:i<o \/ o+6<=i):(zoJ C o v0 v1 v2 v3 v4 v5)[i]?=C[i]?:=by
 unfold zoJ
 iterate 6 rw[Array.getElem?_setIfInBounds,if_neg (by omega)]
theorem zq0 (C:AV)(o j:Nat)(v0 v1 v2 v3 v4 v5:Value)(hj:j<6)(ho:o+6<=C.size):(zoJ C o v0 v1 v2 v3 v4 v5)[o+j]?=(#[v0,v1,v2,v3,v4,v5]:AV)[j]?:=by
 have hc:j=0 \/ j=1 \/ j=2 \/ j=3 \/ j=4 \/ j=5:=by omega
 unfold zoJ
 rcases hc with h|h|h|h|h|h <;> subst h <;> simp[Array.getElem?_setIfInBounds] <;> omega
theorem je.put {lo:Nat}{w:World}{bo:Nat}{ms:List Mnd}{k:Nat}(h:je lo w bo ms k)(hk:k<ms.length) :
 je lo (zrd w bo (k*6) (.s ms[k].kd) (.s ms[k].fd) (.s ms[k].wh) (.s ms[k].wi) (.s ms[k].pt) (.s ms[k].fr)) bo ms (k+1):=by
 obtain⟨C,hC,hsz,hr⟩:=h.rows;refine⟨h.low,_,zoU hC _ _ _ _ _ _,by rw[zpH];exact hsz,fun i hi hik j hj=>?_⟩
 rcases Nat.lt_or_ge i k with hlt|hge
 ·rw[zqu _ _ _ _ _ _ _ _ _ (by omega)]
  exact hr i hi hlt j hj
 ·have e:i=k:=by omega
  subst e;rw[zq0 _ _ _ _ _ _ _ _ _ hj (by omega)]
  rfl
theorem zke (m:Mnd)(w:World) :
 Calls Tryz.prog 73 #[.agg m.cells] w fun e w'=>e=.returned (.agg m.cells)/\Bw w w':=by
 unfold Mnd.cells;go_enter Tryz.func73,Tryz.ntmps73;go_wp2_with fail
 refine bodyPost_ret (v:=.agg #[.s m.kd,.s m.fd,.s m.wh,.s m.wi,.s m.pt,.s m.fr]) (by simp[results,Tryz.results73,go_sem]) rfl ⟨rfl,?_⟩;exact(((bAl _ _).alloc (by simp) _).alloc (by simp;omega) _)
def zpb:AV:=#[.s ByteArray.empty,.s ByteArray.empty,.s ByteArray.empty,.s ByteArray.empty,.s ByteArray.empty,.s ByteArray.empty]
def znA (n:Nat):AV:=madeCells zpb (n*6)
theorem ziv (a:OA)(cap:Nat)(ms:List Mnd)(w:World)(hw:qL w a ms)(hl:ms.length<=1048576) :
 Calls Tryz.prog 27 #[.l a ms.length cap] w fun e w'=>e=.returned (.l (some (aD w.heap.size 0)) ms.length ms.length)/\je w.heap.size w' w.heap.size ms ms.length/\Bw w w':=by
 have hmk:∀w:World,(Instr.makeSlice 44 (.i ms.length) (.i ms.length)).run Tryz.prog w=.ok (.l (some (aD w.heap.size 0)) ms.length ms.length) (w.alloc (.cells (znA ms.length) 136)):=
  fun w=>jy (P:=Tryz.prog) 44 136 (.agg zpb) 6 96 Tryz.underlying44 (by kernel_rfl) ms.length (by omega) (by omega) w
 go_enter Tryz.func27,Tryz.ntmps27;go_wp2_with fail
 clear hmk
 go_loopw [4] (fun i wr=>∃k:Nat,k<=ms.length/\i=.i k/\je w.heap.size wr w.heap.size ms k/\Bw w wr) (fun i _=>ms.length-(intOf i).toNat)
 case atStart=>exact⟨0,Nat.zero_le _,rfl,⟨Nat.le_refl _,znA ms.length,(MapKept.heap_alloc w _).1,size_madeCells _ _,fun i _ h=>absurd h (by omega)⟩,bAl _ _⟩
 case round=>
  obtain⟨k,hk,rfl,hown,hB⟩:=hrel
  by_cases hlt:k<ms.length
  ·obtain⟨b,off,rfl,hb,c0,c1,c2,c3,c4,c5⟩:=hw.load hB k hlt
   have hltI:(k:Int)<(ms.length:Int):=by omega
   clear hw;go_wp2_with fail
   refine(zke ms[k] _).mono ?_;rintro e w1⟨rfl,hb1⟩;have hB1:=hB.trans (hb1.mono hB.size);have hown1:=hown.later hb1
   have hbo:w.heap.size<wr.heap.size:=by
    obtain⟨C',hC',_⟩:=hown.rows;exact(gES hC').1
   obtain⟨C,hC,hsz,_⟩:=hown1.rows;have hfz:∀o,w1.frozen? (aD w.heap.size o)=false:=fun o=>zh hC
   have hex:∀o,o<ms.length*6->∃v,w1.cell? (aD w.heap.size o)=some v:=fun o ho=>⟨C[o]'(by omega),by rw[cell_of_block hC];exact Array.getElem?_eq_getElem (by omega)⟩
   obtain⟨v0,hv0⟩:=hex (k*6) (by omega);obtain⟨v1,hv1⟩:=hex (k*6+1) (by omega);obtain⟨v2,hv2⟩:=hex (k*6+2) (by omega);obtain⟨v3,hv3⟩:=hex (k*6+3) (by omega);obtain⟨v4,hv4⟩:=hex (k*6+4) (by omega);obtain⟨v5,hv5⟩:=hex (k*6+5) (by omega);have HP:Hid (je w.heap.size w1 w.heap.size ms k):=hown1;clear hex hC hsz c0 c1 c2 c3 c4 c5 hown hown1;unfold Mnd.cells;go_wp2_with fail
   exact⟨⟨k+1,by omega,by go_num,HP.o.put hlt,zoL hB1 (Nat.le_refl _) _ _ _ _ _ _ _⟩,by simp[intOf];omega⟩
  ·have HF:Hid (je w.heap.size wr w.heap.size ms ms.length):=by
    have e:k=ms.length:=by omega
    subst e;exact hown
   clear hw hown;go_wp2_with fail
   go_ret;exact⟨rfl,HF.o,hB⟩
theorem zfJ (a:OA)(cap:Nat)(vs:List Int)(left:Int)(w:World)(hl:vs.length<=maxLen)(h0:0<=left)(h1:left<=1048576) :
 Calls Tryz.prog 140 #[.l a vs.length cap,.i left] w fun e w'=>e=.returned (.i (zL vs.length left))/\w'=w:=by
 unfold maxLen at hl
 by_cases hf:(vs.length:Int)<=left
 ·have HF:=hid (zM hf)
  go_enter Tryz.func140,Tryz.ntmps140;go_wp2_with fail
  go_ret;exact⟨zo HF.o.symm,rfl⟩
 ·have HF:=hid (zC hf)
  go_enter Tryz.func140,Tryz.ntmps140;go_wp2_with fail
  go_ret;exact⟨zo HF.o.symm,rfl⟩
theorem zfc (r:Rl)(a:OA)(cap:Nat)(left:Int)(w:World)(hm:r.Small)(hl:r.vs.length<=maxLen)(h0:0<=left)(h1:left<=1048576) :
 Calls Tryz.prog 104 #[.agg (r.cells a cap),.i left] w fun e w'=>e=.returned (.i (zL r.sz left))/\Bw w w':=by
 have k1:=hm.kd;have k2:=hm.tm;have k3:=hm.px;have k4:=hl;unfold maxLen at k1 k2 k3 k4;unfold Rl.cells;have hB:∀ob,Bw w (w.alloc ob):=fun ob=>bAl _ _
 by_cases hv:(r.vs.length:Int)<=left
 rotate_left
 ·have HF:Hid (zL r.sz left=-1):=zC (by unfold Rl.sz;omega)
  go_enter Tryz.func104,Tryz.ntmps104;go_wp2_with fail
  refine(zfJ _ _ _ _ _ hl h0 h1).mono ?_;rintro e w1⟨rfl,rfl⟩;rw[zC (by omega)];go_wp2_with fail
  go_ret;exact⟨zo HF.o.symm,hB _⟩
 by_cases hf:(r.sz:Int)<=left
 ·have HF:Hid (zL r.sz left=left-r.vs.length-r.kd.size-r.tm.size-r.px.size):=by
   unfold Hid;rw[zM hf];unfold Rl.sz;omega
  unfold Rl.sz at hf;go_enter Tryz.func104,Tryz.ntmps104;go_wp2_with fail
  refine(zfJ _ _ _ _ _ hl h0 h1).mono ?_;rintro e w1⟨rfl,rfl⟩;rw[zM hv];go_wp2_with fail
  go_ret;exact⟨zo HF.o.symm,hB _⟩
 ·have HF:Hid (zL r.sz left=-1):=zC hf
  have HN:Hid (¬((r.vs.length+r.kd.size+r.tm.size+r.px.size:Nat):Int)<=left):=hf;clear hf;go_enter Tryz.func104,Tryz.ntmps104;go_wp2_with fail
  refine(zfJ _ _ _ _ _ hl h0 h1).mono ?_;rintro e w1⟨rfl,rfl⟩;rw[zM hv];go_wp2_with fail
  all_goals go_ret
  all_goals first|exact⟨zo HF.o.symm,hB _⟩|(exfalso;have:=HN.o;simp at *;omega)
theorem zn0 (a:OA)(cap:Nat)(vs:List Int)(w:World)(hw:y9 w a vs)(hl:vs.length<=1048576) :
 Calls Tryz.prog 155 #[.l a vs.length cap] w fun e w'=>e=.returned (.l (some (aD w.heap.size 0)) vs.length vs.length)/\w'=w.alloc (.cells (zbQ vs) 3):=by
 have hmk:∀w:World,(Instr.makeSlice 110 (.i vs.length) (.i vs.length)).run Tryz.prog w=.ok (.l (some (aD w.heap.size 0)) vs.length vs.length) (w.alloc (.cells (intCells vs 0) 3)):=by
  intro w;have h:=run_make_row' (P:=Tryz.prog) 110 3 (.i 0) 8 Tryz.underlying110 (by kernel_rfl) rfl .i64 .i64 vs.length (by omega) (by omega) w;rw[zkI]at h;exact h
 go_enter Tryz.func155,Tryz.ntmps155;go_wp2_with fail
 clear hmk
 go_loopw [4] (fun i wr=>∃k:Nat,k<=vs.length/\i=.i k/\wr=w.alloc (.cells (intCells vs k) 3)) (fun i _=>vs.length-(intOf i).toNat)
 case atStart=>exact⟨0,Nat.zero_le _,rfl,rfl⟩
 case round=>
  obtain⟨k,hk,rfl,rfl⟩:=hrel
  by_cases hlt:k<vs.length
  ·obtain⟨b,off,rfl,hb,hck⟩:=hw.load (bRf _ _) k hlt
   clear hw;have hold:=zm3 vs k hlt;have HS:=hid (zl7 vs k hlt);have hltI:(k:Int)<(vs.length:Int):=by omega
   go_wp2
   go_roundw
   case rel=>exact⟨k+1,by omega,by go_num,by rw[HS.o]⟩
   case measure=>simp[intOf];omega
  ·have HA:Hid (intCells vs k=zbQ vs):=zl8 vs k (by omega)
   clear hw
   go_wp2
   go_ret;exact⟨rfl,by rw[HA.o]⟩
theorem znY (a a':OA)(cap cap':Nat)(vs:List Int)(w:World)(hw:y9 w a vs)(hw':y9 w a' vs) :
 Calls Tryz.prog 181 #[.l a vs.length cap,.l a' vs.length cap'] w fun e w'=>e=.returned (.bool true)/\Bw w w':=by
 have hl:=hw.len;unfold maxLen at hl;have hnn:((vs.length:Int) != vs.length)=false:=by simp
 go_enter Tryz.func181,Tryz.ntmps181;go_wp2_with fail
 go_loopw [5] (fun i wr=>∃k:Nat,k<=vs.length/\i=.i k/\Bw w wr) (fun i _=>vs.length-(intOf i).toNat)
 case atStart=>exact⟨0,Nat.zero_le _,rfl,bRf _ _⟩
 case round=>
  obtain⟨k,hk,rfl,hB⟩:=hrel
  by_cases hlt:k<vs.length
  ·obtain⟨b,off,rfl,hb,c0⟩:=hw.load hB k hlt
   obtain⟨b',off',rfl,hb',d0⟩:=hw'.load hB k hlt;have hltI:(k:Int)<(vs.length:Int):=by omega
   have hne:(vs[k] != vs[k])=false:=by simp
   clear hw hw';go_wp2_with fail
   first
    | exact⟨⟨k+1,by omega,by go_num,hB⟩,by simp[intOf];omega⟩
    | (go_quiet (fail);go_wp2_with fail;exact⟨⟨k+1,by omega,by go_num,below_drewN hB _⟩,by simp[intOf];omega⟩)
  ·clear hw hw'
   go_wp2_with fail
   go_ret;exact⟨rfl,hB⟩
theorem zrq (w:World)(o1 o2 o3 o4:Obj):((((w.alloc o1).alloc o2).alloc o3).alloc o4).heap[w.heap.size+1+1+1]?=some o4:=by
 have h:=MapKept.heap_alloc (((w.alloc o1).alloc o2).alloc o3) o4
 simpa using h.1
theorem zqY (w:World)(o1 o2 o3 o4:Obj):Bw w ((((w.alloc o1).alloc o2).alloc o3).alloc o4):=
 (((bAl _ _).alloc (by simp) _).alloc (by simp;omega) _).alloc (by simp;omega) _
theorem zjs (r:Rl)(a:OA)(cap:Nat)(w:World)(hw:y9 w a r.vs)(hl:r.vs.length<=1048576) :
 Calls Tryz.prog 121 #[.agg (r.cells a cap)] w
  fun e w'=>∃bk,e=.returned (.agg (r.cells (some (aD bk 0)) r.vs.length))/\w.heap.size<=bk/\bk<w'.heap.size/\w'.heap[bk]?=some (.cells (zbQ r.vs) 3)/\Bw w w':=by
 unfold Rl.cells;go_enter Tryz.func121,Tryz.ntmps121
 go_wp2_with (go_at_call 155;refine(zn0 _ _ _ _ (by exact hw.mono (((bAl _ _).alloc (by simp) _).alloc (by simp;omega) _)) hl).mono ?_;rintro e w'⟨rfl,rfl⟩)
 refine bodyPost_ret (v:=.agg #[.l (some (aD (w.heap.size+1+1+1) 0)) r.vs.length r.vs.length,.s r.kd,.s r.tm,.s r.px]) (by simp[results,Tryz.results121,go_sem]) rfl ⟨w.heap.size+1+1+1,rfl,by omega,by simp,zrq _ _ _ _ _,zqY _ _ _ _ _⟩
theorem zkj (r:Rl)(a a':OA)(cap cap':Nat)(w:World)(hw:y9 w a r.vs)(hw':y9 w a' r.vs) :
 Calls Tryz.prog 137 #[.agg (r.cells a cap),.agg (r.cells a' cap')] w fun e w'=>e=.returned (.bool true)/\Bw w w':=by
 unfold Rl.cells;go_enter Tryz.func137,Tryz.ntmps137;go_wp2_with fail
 refine(znY _ _ _ _ _ _ (hw.mono (zw _ _ _)) (hw'.mono (zw _ _ _))).mono ?_;rintro e w1⟨rfl,hb1⟩;have hX1:=za (za (zl w _ _) (by simp) (bAl _ _)) (by simp;omega) hb1;have hY1:=za (zp9 w _ _ _) (by simp) hb1;have hz:w.heap.size+1<w1.heap.size:=by have:=hb1.size;simp at this;omega
 have hB1:=(zw w _ _).trans (hb1.mono (by simp;omega));clear hb1;go_wp2_with fail
 go_ret;exact⟨rfl,hB1⟩
theorem zrb {o:Ob}{l:Int}(h:(zdI o:Int)<=l)(hl:l<=1048576):o.vs.length<=1048576/\o.hs.length<=1048576:=by
 unfold zdI qX at h;omega
theorem zda (v:Int)(w:World) :
 Calls Tryz.prog 230 #[.i v] w fun e w'=>e=.returned (.bool (zaZ v))/\w'=w:=by
 go_enter Tryz.func230,Tryz.ntmps230
 go_wp2
 all_goals
  go_ret;refine⟨ze ?_,rfl⟩;rw[Bool.eq_iff_iff];simp[zaZ];try omega
theorem zdA {vs:List Int}{k:Nat}(h:k<vs.length)(hn:zaZ vs[k]=false):qm vs k=false:=by
 unfold qm;rw[getD_at vs k _ h,hn];rfl
theorem zbB {vs:List Int}(h:0<vs.length)(hn:zaZ vs[0]=true):qm vs 0=true:=by
 unfold qm;rw[getD_at vs 0 _ h,hn];rfl
theorem zib {vs:List Int}{k:Nat}(h:k+1<vs.length)(hn:zaZ vs[k+1]=true):qm vs (k+1)=decide (vs[k]<vs[k+1]):=by
 unfold qm;rw[getD_at vs (k+1) _ h,Nat.add_sub_cancel,getD_at vs k _ (by omega),hn];simp
theorem qG (a:OA)(cap:Nat)(vs:List Int)(w:World)(hw:y9 w a vs) :
 Calls Tryz.prog 212 #[.l a vs.length cap] w fun e w'=>e=.returned (.bool (jh vs))/\w'=w:=by
 have hl:=hw.len;unfold maxLen at hl;have HG:Hid (up (qm vs) vs.length=false->jh vs=false):=fun h=>by unfold jh;rw[h,Bool.and_false]
 go_enter Tryz.func212,Tryz.ntmps212;go_wp2_with fail
 go_loop [7] (fun i=>∃k:Nat,k<=vs.length/\i=.i k/\up (qm vs) k=true) (fun i=>vs.length-(intOf i).toNat)
 case atStart=>exact⟨0,Nat.zero_le _,rfl,rfl⟩
 case round=>
  obtain⟨k,hk,rfl,hup⟩:=hrel
  by_cases hlt:k<vs.length
  ·obtain⟨b,off,rfl,hb,hck⟩:=hw.load (bRf _ _) k hlt
   have hltI:(k:Int)<(vs.length:Int):=by omega
   by_cases hn:zaZ vs[k]=true
   ·by_cases hk0:k=0
    ·have HF:Hid (up (qm vs) (k+1)=true):=by subst hk0;unfold Hid;rw[q8,zbB hlt hn];rfl
     have hg:decide (0<k)=false:=by simp;omega
     have HN:=hid hn;clear hn hup hk0 hw
     go_wp2_with (go_at_call 230;refine(zf HN.o (zda _ _)).mono ?_;rintro e w'⟨rfl,rfl⟩)
     go_round
     case rel=>exact⟨k+1,by omega,by go_num,HF.o⟩
     case measure=>simp[intOf];omega
    ·obtain⟨m,rfl⟩:∃m,k=m+1:=⟨k-1,by omega⟩
     obtain⟨b',off',e',hb',hcm⟩:=hw.load (bRf _ _) m (by omega);simp only[Option.some.injEq,Addr.mk.injEq]at e';obtain⟨rfl,rfl,_⟩:=e';have HU:Hid (up (qm vs) (m+1+1)=decide (vs[m]<vs[m+1])):=by unfold Hid;rw[q8,hup,zib hlt hn];rfl
     have HNN:Hid (¬vs[m]<vs[m+1]->jh vs=false):=fun h=>HG.o (zaH hlt (by rw[zib hlt hn];simpa using h))
     have HN:=hid hn;clear hn hup hk0 hw
     by_cases hls:vs[m]<vs[m+1]
     ·have hls':decide (vs[m+1]<=vs[m])=false:=by simp;omega
      have HLS:=hid hls;clear hls
      go_wp2_with (go_at_call 230;refine(zf HN.o (zda _ _)).mono ?_;rintro e w'⟨rfl,rfl⟩)
      go_round
      case rel=>exact⟨m+1+1,by omega,by go_num,by rw[HU.o];simpa using HLS.o⟩
      case measure=>simp[intOf];omega
     ·have hls':vs[m+1]<=vs[m]:=by omega
      have HLS:=hid hls;clear hls
      go_wp2_with (go_at_call 230;refine(zf HN.o (zda _ _)).mono ?_;rintro e w'⟨rfl,rfl⟩)
      go_ret;exact⟨ze (HNN.o HLS.o).symm,rfl⟩
   ·have hn':zaZ vs[k]=false:=by simpa using hn
    have HF:=hid (HG.o (zaH hlt (zdA hlt hn')));have HN:=hid hn';clear hn hn' hup hw
    go_wp2_with (go_at_call 230;refine(zf HN.o (zda _ _)).mono ?_;rintro e w'⟨rfl,rfl⟩)
    go_ret;exact⟨ze HF.o.symm,rfl⟩
  ·have HF:Hid (jh vs=decide (0<vs.length)):=by
    have e:k=vs.length:=by omega
    subst e;unfold Hid jh;rw[hup,Bool.and_true]
   clear hw hup;go_wp2_with fail
   go_ret;exact⟨ze (by rw[HF.o]),rfl⟩
theorem zfB {α:Type}(p:α->Bool)(l:List α)(k:Nat)(h:k<l.length):(l.take (k+1)).any p=((l.take k).any p||p l[k]):=by
 rw[tSe h,List.any_append];simp
theorem zqj {α:Type}(p:α->Bool)(l:List α)(k:Nat)(h:k<l.length)(hp:p l[k]=true):l.any p=true:=by
 rw[List.any_eq_true];exact⟨l[k],List.getElem_mem h,hp⟩
def zhk (P:Program)(fid:Nat)(q:Value)(ts:List Tm)(w:World)(p:Tm->Bool):Prop:=
 ∀w1,Bw w w1->∀i (h:i<ts.length),Calls P fid #[.agg ts[i].cells,q] w1 fun e w'=>e=.returned (.bool (p ts[i]))/\Bw w1 w'
theorem zju (a:OA)(cap:Nat)(ts:List Tm)(q:Value)(p:Tm->Bool)(w:World)(hw:jQ w a ts)(hf:zhk Tryz.prog 203 q ts w p) :
 Calls Tryz.prog 204 #[.l a ts.length cap,.func (.func 203) #[] #[q]] w fun e w'=>∃r:Int,e=.returned (.i r)/\decide (0<=r)=ts.any p/\Bw w w':=by
 have hl:=hw.len;unfold maxLen at hl;go_enter Tryz.func204,Tryz.ntmps204;go_wp2_with fail
 go_loopw [8] (fun i wr=>∃k:Nat,k<=ts.length/\i=.i k/\(ts.take k).any p=false/\Bw w wr) (fun i _=>ts.length-(intOf i).toNat)
 case atStart=>exact⟨0,Nat.zero_le _,rfl,rfl,bRf _ _⟩
 case round=>
  obtain⟨k,hk,rfl,hno,hB⟩:=hrel
  by_cases hlt:k<ts.length
  ·obtain⟨b,off,rfl,hb,c0,c1⟩:=hw.load hB k hlt
   have hltI:(k:Int)<(ts.length:Int):=by omega
   have hc:=hf wr hB k hlt;clear hw hf
   by_cases he:p ts[k]=true
   ·have HA:Hid (ts.any p=true):=zqj p ts k hlt he
    have HE:Hid (p ts[k]=true):=he;clear he hno;go_wp2_with fail
    refine(zf HE.o hc).mono ?_;rintro e w2⟨rfl,hb2⟩;go_wp2_with fail
    go_ret;exact⟨_,rfl,by rw[HA.o];simp,hB.trans (hb2.mono hB.size)⟩
   ·have he':p ts[k]=false:=by simpa using he
    have HS:Hid ((ts.take (k+1)).any p=false):=by unfold Hid;rw[zfB p ts k hlt,hno,he'];rfl
    have HE:Hid (p ts[k]=false):=he';clear he he' hno;go_wp2_with fail
    refine(zf HE.o hc).mono ?_;rintro e w2⟨rfl,hb2⟩;go_wp2_with fail
    exact⟨⟨k+1,by omega,by go_num,HS.o,hB.trans (hb2.mono hB.size)⟩,by simp[intOf];omega⟩
  ·have HA:Hid (ts.any p=false):=by unfold Hid;rw[<- hno,tOl (by omega)]
   clear hno hw hf;go_wp2_with fail
   go_ret;exact⟨_,rfl,by rw[HA.o];rfl,hB⟩
theorem zgT (a:OA)(cap:Nat)(ts:List Tm)(q:Value)(p:Tm->Bool)(w:World)(hw:jQ w a ts)(hf:zhk Tryz.prog 203 q ts w p) :
 Calls Tryz.prog 163 #[.l a ts.length cap,.func (.func 203) #[] #[q]] w fun e w'=>e=.returned (.bool (ts.any p))/\Bw w w':=by
 go_enter Tryz.func163,Tryz.ntmps163;go_wp2_with fail
 refine(zju _ _ _ _ _ _ hw hf).mono ?_;rintro e w2⟨r,rfl,hr,hb2⟩;go_wp2_with fail
 go_ret;exact⟨rfl,hb2⟩
theorem zkr (a:OA)(cap:Nat)(ts:List Tm)(q:Value)(p:Tm->Bool)(w:World)(hw:jQ w a ts)(hf:zhk Tryz.prog 164 q ts w p) :
 Calls Tryz.prog 204 #[.l a ts.length cap,.func (.func 164) #[] #[q]] w fun e w'=>∃r:Int,e=.returned (.i r)/\decide (0<=r)=ts.any p/\Bw w w':=by
 have hl:=hw.len;unfold maxLen at hl;go_enter Tryz.func204,Tryz.ntmps204;go_wp2_with fail
 go_loopw [8] (fun i wr=>∃k:Nat,k<=ts.length/\i=.i k/\(ts.take k).any p=false/\Bw w wr) (fun i _=>ts.length-(intOf i).toNat)
 case atStart=>exact⟨0,Nat.zero_le _,rfl,rfl,bRf _ _⟩
 case round=>
  obtain⟨k,hk,rfl,hno,hB⟩:=hrel
  by_cases hlt:k<ts.length
  ·obtain⟨b,off,rfl,hb,c0,c1⟩:=hw.load hB k hlt
   have hltI:(k:Int)<(ts.length:Int):=by omega
   have hc:=hf wr hB k hlt;clear hw hf
   by_cases he:p ts[k]=true
   ·have HA:Hid (ts.any p=true):=zqj p ts k hlt he
    have HE:Hid (p ts[k]=true):=he;clear he hno;go_wp2_with fail
    refine(zf HE.o hc).mono ?_;rintro e w2⟨rfl,hb2⟩;go_wp2_with fail
    go_ret;exact⟨_,rfl,by rw[HA.o];simp,hB.trans (hb2.mono hB.size)⟩
   ·have he':p ts[k]=false:=by simpa using he
    have HS:Hid ((ts.take (k+1)).any p=false):=by unfold Hid;rw[zfB p ts k hlt,hno,he'];rfl
    have HE:Hid (p ts[k]=false):=he';clear he he' hno;go_wp2_with fail
    refine(zf HE.o hc).mono ?_;rintro e w2⟨rfl,hb2⟩;go_wp2_with fail
    exact⟨⟨k+1,by omega,by go_num,HS.o,hB.trans (hb2.mono hB.size)⟩,by simp[intOf];omega⟩
  ·have HA:Hid (ts.any p=false):=by unfold Hid;rw[<- hno,tOl (by omega)]
   clear hno hw hf;go_wp2_with fail
   go_ret;exact⟨_,rfl,by rw[HA.o];rfl,hB⟩
theorem zgl (a:OA)(cap:Nat)(ts:List Tm)(q:Value)(p:Tm->Bool)(w:World)(hw:jQ w a ts)(hf:zhk Tryz.prog 164 q ts w p) :
 Calls Tryz.prog 163 #[.l a ts.length cap,.func (.func 164) #[] #[q]] w fun e w'=>e=.returned (.bool (ts.any p))/\Bw w w':=by
 go_enter Tryz.func163,Tryz.ntmps163;go_wp2_with fail
 refine(zkr _ _ _ _ _ _ hw hf).mono ?_;rintro e w2⟨r,rfl,hr,hb2⟩;go_wp2_with fail
 go_ret;exact⟨rfl,hb2⟩
theorem zlK (t:Tm)(v:BA)(bn:Nat)(w:World)(hb:bn<w.heap.size)(hn:w.cell? (aD bn 0)=some (.s v)) :
 Calls Tryz.prog 203 #[.agg t.cells,.pointer (some (aD bn 0))] w fun e w'=>e=.returned (.bool (t.nm.toList == v.toList))/\Bw w w':=by
 unfold Tm.cells;go_enter Tryz.func203,Tryz.ntmps203;go_wp2_with fail
 go_ret;exact⟨rfl,bAl _ _⟩
theorem znz (ts:List Tm)(v:BA)(bn:Nat)(w:World)(hb:bn<w.heap.size)(hn:w.cell? (aD bn 0)=some (.s v)) :
 zhk Tryz.prog 203 (.pointer (some (aD bn 0))) ts w (fun t=>decide (t.nm=v)):=fun w1 hB i hi=>by
 refine(zlK ts[i] v bn w1 (nLt hb hB.size) ((hB.cell (p:=(aD bn 0)) hb).trans hn)).mono ?_;rintro e w'⟨rfl,hb'⟩;exact⟨ze (beq_toList _ _),hb'⟩
theorem zcY (a:OA)(cap:Nat)(ts:List Tm)(v:BA)(w:World)(hw:jQ w a ts) :
 Calls Tryz.prog 162 #[.l a ts.length cap,.s v] w fun e w'=>e=.returned (.bool (yB ts v))/\Bw w w':=by
 go_enter Tryz.func162,Tryz.ntmps162;go_wp2_with fail
 refine(zgT _ _ _ _ _ _ (hw.mono (bAl _ _)) (znz ts v _ _ (by simp) (by rw[World.cell?_alloc_at _ _ _ _ rfl];rfl))).mono ?_;rintro e w2⟨rfl,hb2⟩;go_wp2_with fail
 go_ret;exact⟨rfl,(bAl _ _).trans (hb2.mono (by simp))⟩
theorem zkF (a:OA)(cap:Nat)(ts:List Tm)(t:Tm)(w:World)(hw:jQ w a ts) :
 Calls Tryz.prog 165 #[.l a ts.length cap,.agg t.cells] w fun e w'=>e=.returned (.bool (!zee ts t))/\Bw w w':=by
 unfold Tm.cells;go_enter Tryz.func165,Tryz.ntmps165;go_wp2_with fail
 go_loopw [5,8] (fun p i wr=>∃(k:Nat) (z:BA),k<=4/\p=.s z/\i=.i k/\zeZ ts 4 t.ov=zeZ ts (4-k) z/\Bw w wr) (fun _ i _=>4-(intOf i).toNat)
 case atStart=>exact⟨0,t.ov,Nat.zero_le _,rfl,rfl,rfl,bAl _ _⟩
 case round=>
  obtain⟨k,z,hk,rfl,rfl,hz,hB⟩:=hrel
  by_cases hlt:k<4
  ·have hltI:(k:Int)<4:=by omega
   have HZ:Hid (zeZ ts 4 t.ov=zeZ ts (4-(k+1)) (over ts z)):=by
    obtain⟨m,hm⟩:∃m,4-k=m+1:=⟨3-k,by omega⟩
    rw[Hid,hz,hm,show 4-(k+1)=m by omega];rfl
   clear hz;go_wp2_with fail
   refine(zd1 _ _ _ _ _ (hw.mono hB)).mono ?_;rintro e w1⟨rfl,hb1⟩;have hB1:=hB.trans (hb1.mono hB.size);clear hb1;go_wp2_with fail
   exact⟨⟨k+1,over ts z,by omega,rfl,by go_num,HZ.o,hB1⟩,by simp[intOf];omega⟩
  ·have HF:Hid (zee ts t=z.toList.isEmpty):=by
    have e:4-k=0:=by omega
    rw[e]at hz;unfold Hid zee;rw[hz,zx];rfl
   clear hz;go_wp2_with fail
   go_ret;exact⟨ze (by rw[HF.o]),hB⟩
theorem zor (a:OA)(cap:Nat)(ts:List Tm)(t:Tm)(bn:Nat)(w:World)(hw:jQ w a ts)(hb:bn<w.heap.size)(hn:w.cell? (aD bn 0)=some (.l a ts.length cap)) :
 Calls Tryz.prog 164 #[.agg t.cells,.pointer (some (aD bn 0))] w fun e w'=>e=.returned (.bool (!zee ts t))/\Bw w w':=by
 unfold Tm.cells;go_enter Tryz.func164,Tryz.ntmps164;go_wp2_with fail
 refine(zkF _ _ _ t _ (hw.mono (bAl _ _))).mono ?_;rintro e w2⟨rfl,hb2⟩;go_wp2_with fail
 go_ret;exact⟨rfl,(bAl _ _).trans (hb2.mono (by simp))⟩
theorem zp2 (a:OA)(cap:Nat)(ts:List Tm)(bn:Nat)(w:World)(hw:jQ w a ts)(hb:bn<w.heap.size)(hn:w.cell? (aD bn 0)=some (.l a ts.length cap)) :
 zhk Tryz.prog 164 (.pointer (some (aD bn 0))) ts w (fun t=>!zee ts t):=fun w1 hB i _=>
 zor a cap ts ts[i] bn w1 (hw.mono hB) (nLt hb hB.size) ((hB.cell (p:=(aD bn 0)) hb).trans hn)
end Go.Proofs.YtecncindgjdbiaaGreat
