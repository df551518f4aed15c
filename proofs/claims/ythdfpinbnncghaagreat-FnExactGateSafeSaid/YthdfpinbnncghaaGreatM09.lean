import Derived.Test.YthdfpinbnncghaaGreatM07
import Derived.Test.YthdfpinbnncghaaGreatM08
set_option maxHeartbeats 2000000
namespace Go.Proofs.YthdfpinbnncghaaGreat
open Go.RowKit
def zsm (w:World)(b o:Nat)(v0 v1 v2 v3 v4 v5:Value):World:=(((((w.setCell (aD b o) v0).setCell (aD b (o+1)) v1).setCell (aD b (o+2)) v2).setCell (aD b (o+3)) v3).setCell (aD b (o+4)) v4).setCell (aD b (o+5)) v5
def zpx (C:AV)(o:Nat)(v0 v1 v2 v3 v4 v5:Value):AV:=(((((C.setIfInBounds o v0).setIfInBounds (o+1) v1).setIfInBounds (o+2) v2).setIfInBounds (o+3) v3).setIfInBounds (o+4) v4).setIfInBounds (o+5) v5
theorem zo8 {w:World}{b o:Nat}{C:AV}{t:TypeId}(h:w.heap[b]?=some (.cells C t))(v0 v1 v2 v3 v4 v5:Value):(zsm w b o v0 v1 v2 v3 v4 v5).heap[b]?=some (.cells (zpx C o v0 v1 v2 v3 v4 v5) t):=
 zh (zh (zh (zh (zh (zh h v0) v1) v2) v3) v4) v5
theorem zpj {B:Nat}{a w:World}(h:Below B a w){b:Nat}(hb:B<=b)(o:Nat)(v0 v1 v2 v3 v4 v5:Value):Below B a (zsm w b o v0 v1 v2 v3 v4 v5):=
 (((((h.setCell hb v0).setCell hb v1).setCell hb v2).setCell hb v3).setCell hb v4).setCell hb v5
theorem zqQ (C:AV)(o:Nat)(v0 v1 v2 v3 v4 v5:Value):(zpx C o v0 v1 v2 v3 v4 v5).size=C.size:=by simp[zpx]
theorem zrO (C:AV)(o i:Nat)(v0 v1 v2 v3 v4 v5:Value)(h:i<o \/ o+6<=i):(zpx C o v0 v1 v2 v3 v4 v5)[i]?=C[i]?:=by
 unfold zpx
 iterate 6 rw[Array.getElem?_setIfInBounds,if_neg (by omega)]
theorem zrW (C:AV)(o j:Nat)(v0 v1 v2 v3 v4 v5:Value)(hj:j<6)(ho:o+6<=C.size):(zpx C o v0 v1 v2 v3 v4 v5)[o+j]?=(#[v0,v1,v2,v3,v4,v5]:AV)[j]?:=by
 have hc:j=0 \/ j=1 \/ j=2 \/ j=3 \/ j=4 \/ j=5:=by omega
 unfold zpx
 rcases hc with h|h|h|h|h|h <;> subst h <;> simp[Array.getElem?_setIfInBounds] <;> omega
theorem jM.put {lo:Nat}{w:World}{bo:Nat}{ms:List Mnd}{k:Nat}(h:jM lo w bo ms k)(hk:k<ms.length) :
 jM lo (zsm w bo (k*6) (.s ms[k].kd) (.s ms[k].fd) (.s ms[k].wh) (.s ms[k].wi) (.s ms[k].pt) (.s ms[k].fr)) bo ms (k+1):=by
 obtain⟨C,hC,hsz,hr⟩:=h.rows;refine⟨h.low,_,zo8 hC _ _ _ _ _ _,by rw[zqQ];exact hsz,fun i hi hik j hj=>?_⟩
 rcases Nat.lt_or_ge i k with hlt|hge
 ·rw[zrO _ _ _ _ _ _ _ _ _ (by omega)]
  exact hr i hi hlt j hj
 ·have e:i=k:=by omega
  subst e;rw[zrW _ _ _ _ _ _ _ _ _ hj (by omega)]
  rfl
theorem zjN (m:Mnd)(w:World) :
 Calls Tryz.prog 66 #[.agg m.cells] w fun e w'=>e=.returned (.agg m.cells)/\Bw w w':=by
 unfold Mnd.cells;go_enter Tryz.func66,Tryz.ntmps66;go_wp2_with fail
 refine bodyPost_ret (v:=.agg #[.s m.kd,.s m.fd,.s m.wh,.s m.wi,.s m.pt,.s m.fr]) (by simp[results,Tryz.results66,go_sem]) rfl ⟨rfl,?_⟩;exact(((bAl _ _).alloc (by simp) _).alloc (by simp;omega) _)
def zp1:AV:=#[.s ByteArray.empty,.s ByteArray.empty,.s ByteArray.empty,.s ByteArray.empty,.s ByteArray.empty,.s ByteArray.empty]
def zor (n:Nat):AV:=madeCells zp1 (n*6)
theorem ziK (a:OA)(cap:Nat)(ms:List Mnd)(w:World)(hw:qZ w a ms)(hl:ms.length<=1048576) :
 Calls Tryz.prog 27 #[.l a ms.length cap] w fun e w'=>e=.returned (.l (some (aD w.heap.size 0)) ms.length ms.length)/\jM w.heap.size w' w.heap.size ms ms.length/\Bw w w':=by
 have hmk:∀w:World,(Instr.makeSlice 41 (.i ms.length) (.i ms.length)).run Tryz.prog w=.ok (.l (some (aD w.heap.size 0)) ms.length ms.length) (w.alloc (.cells (zor ms.length) 141)):=
  fun w=>qN (P:=Tryz.prog) 41 141 (.agg zp1) 6 96 Tryz.underlying41 (by kernel_rfl) ms.length (by omega) (by omega) w
 go_enter Tryz.func27,Tryz.ntmps27;go_wp2_with fail
 clear hmk
 go_loopw [4] (fun i wr=>∃k:Nat,k<=ms.length/\i=.i k/\jM w.heap.size wr w.heap.size ms k/\Bw w wr) (fun i _=>ms.length-(intOf i).toNat)
 case atStart=>exact⟨0,Nat.zero_le _,rfl,⟨Nat.le_refl _,zor ms.length,(MapKept.heap_alloc w _).1,size_madeCells _ _,fun i _ h=>absurd h (by omega)⟩,bAl _ _⟩
 case round=>
  obtain⟨k,hk,rfl,hown,hB⟩:=hrel
  by_cases hlt:k<ms.length
  ·obtain⟨b,off,rfl,hb,c0,c1,c2,c3,c4,c5⟩:=hw.load hB k hlt
   have hltI:(k:Int)<(ms.length:Int):=by omega
   clear hw;go_wp2_with fail
   refine(zjN ms[k] _).mono ?_;rintro e w1⟨rfl,hb1⟩;have hB1:=hB.trans (hb1.mono hB.size);have hown1:=hown.later hb1
   have hbo:w.heap.size<wr.heap.size:=by
    obtain⟨C',hC',_⟩:=hown.rows;exact(gES hC').1
   obtain⟨C,hC,hsz,_⟩:=hown1.rows;have hfz:∀o,w1.frozen? (aD w.heap.size o)=false:=fun o=>zl hC
   have hex:∀o,o<ms.length*6->∃v,w1.cell? (aD w.heap.size o)=some v:=fun o ho=>⟨C[o]'(by omega),by rw[cell_of_block hC];exact Array.getElem?_eq_getElem (by omega)⟩
   obtain⟨v0,hv0⟩:=hex (k*6) (by omega);obtain⟨v1,hv1⟩:=hex (k*6+1) (by omega);obtain⟨v2,hv2⟩:=hex (k*6+2) (by omega);obtain⟨v3,hv3⟩:=hex (k*6+3) (by omega);obtain⟨v4,hv4⟩:=hex (k*6+4) (by omega);obtain⟨v5,hv5⟩:=hex (k*6+5) (by omega);have HP:Hid (jM w.heap.size w1 w.heap.size ms k):=hown1;clear hex hC hsz c0 c1 c2 c3 c4 c5 hown hown1;unfold Mnd.cells;go_wp2_with fail
   exact⟨⟨k+1,by omega,by go_num,HP.o.put hlt,zpj hB1 (Nat.le_refl _) _ _ _ _ _ _ _⟩,by simp[intOf];omega⟩
  ·have HF:Hid (jM w.heap.size wr w.heap.size ms ms.length):=by
    have e:k=ms.length:=by omega
    subst e;exact hown
   clear hw hown;go_wp2_with fail
   go_ret;exact⟨rfl,HF.o,hB⟩
theorem zge (a:OA)(cap:Nat)(vs:List Int)(left:Int)(w:World)(hl:vs.length<=maxLen)(h0:0<=left)(h1:left<=1048576) :
 Calls Tryz.prog 131 #[.l a vs.length cap,.i left] w fun e w'=>e=.returned (.i (zD vs.length left))/\w'=w:=by
 unfold maxLen at hl
 by_cases hf:(vs.length:Int)<=left
 ·have HF:=hid (zF hf)
  go_enter Tryz.func131,Tryz.ntmps131;go_wp2_with fail
  go_ret;exact⟨zk HF.o.symm,rfl⟩
 ·have HF:=hid (zq hf)
  go_enter Tryz.func131,Tryz.ntmps131;go_wp2_with fail
  go_ret;exact⟨zk HF.o.symm,rfl⟩
theorem zb5 (r:Rl)(a:OA)(cap:Nat)(left:Int)(w:World)(hm:r.Small)(hl:r.vs.length<=maxLen)(h0:0<=left)(h1:left<=1048576) :
 Calls Tryz.prog 89 #[.agg (r.cells a cap),.i left] w fun e w'=>e=.returned (.i (zD r.sz left))/\Bw w w':=by
 have k1:=hm.kd;have k2:=hm.tm;have k3:=hm.px;have k4:=hl;unfold maxLen at k1 k2 k3 k4;unfold Rl.cells;have hB:∀ob,Bw w (w.alloc ob):=fun ob=>bAl _ _
 by_cases hv:(r.vs.length:Int)<=left
 rotate_left
 ·have HF:Hid (zD r.sz left=-1):=zq (by unfold Rl.sz;omega)
  go_enter Tryz.func89,Tryz.ntmps89;go_wp2_with fail
  refine(zge _ _ _ _ _ hl h0 h1).mono ?_;rintro e w1⟨rfl,rfl⟩;rw[zq (by omega)];go_wp2_with fail
  go_ret;exact⟨zk HF.o.symm,hB _⟩
 by_cases hf:(r.sz:Int)<=left
 ·have HF:Hid (zD r.sz left=left-r.vs.length-r.kd.size-r.tm.size-r.px.size):=by
   unfold Hid;rw[zF hf];unfold Rl.sz;omega
  unfold Rl.sz at hf;go_enter Tryz.func89,Tryz.ntmps89;go_wp2_with fail
  refine(zge _ _ _ _ _ hl h0 h1).mono ?_;rintro e w1⟨rfl,rfl⟩;rw[zF hv];go_wp2_with fail
  go_ret;exact⟨zk HF.o.symm,hB _⟩
 ·have HF:Hid (zD r.sz left=-1):=zq hf
  have HN:Hid (¬((r.vs.length+r.kd.size+r.tm.size+r.px.size:Nat):Int)<=left):=hf;clear hf;go_enter Tryz.func89,Tryz.ntmps89;go_wp2_with fail
  refine(zge _ _ _ _ _ hl h0 h1).mono ?_;rintro e w1⟨rfl,rfl⟩;rw[zF hv];go_wp2_with fail
  all_goals go_ret
  all_goals first|exact⟨zk HF.o.symm,hB _⟩|(exfalso;have:=HN.o;simp at *;omega)
theorem zo9 (a:OA)(cap:Nat)(vs:List Int)(w:World)(hw:yJ w a vs)(hl:vs.length<=1048576) :
 Calls Tryz.prog 146 #[.l a vs.length cap] w fun e w'=>e=.returned (.l (some (aD w.heap.size 0)) vs.length vs.length)/\w'=w.alloc (.cells (zbx vs) 3):=by
 have hmk:∀w:World,(Instr.makeSlice 72 (.i vs.length) (.i vs.length)).run Tryz.prog w=.ok (.l (some (aD w.heap.size 0)) vs.length vs.length) (w.alloc (.cells (intCells vs 0) 3)):=by
  intro w;have h:=run_make_row' (P:=Tryz.prog) 72 3 (.i 0) 8 Tryz.underlying72 (by kernel_rfl) rfl .i64 .i64 vs.length (by omega) (by omega) w;rw[zlz]at h;exact h
 go_enter Tryz.func146,Tryz.ntmps146;go_wp2_with fail
 clear hmk
 go_loopw [4] (fun i wr=>∃k:Nat,k<=vs.length/\i=.i k/\wr=w.alloc (.cells (intCells vs k) 3)) (fun i _=>vs.length-(intOf i).toNat)
 case atStart=>exact⟨0,Nat.zero_le _,rfl,rfl⟩
 case round=>
  obtain⟨k,hk,rfl,rfl⟩:=hrel
  by_cases hlt:k<vs.length
  ·obtain⟨b,off,rfl,hb,hck⟩:=hw.load (bRf _ _) k hlt
   clear hw;have hold:=znf vs k hlt;have HS:=hid (zmf vs k hlt);have hltI:(k:Int)<(vs.length:Int):=by omega
   go_wp2
   go_roundw
   case rel=>exact⟨k+1,by omega,by go_num,by rw[HS.o]⟩
   case measure=>simp[intOf];omega
  ·have HA:Hid (intCells vs k=zbx vs):=zmL vs k (by omega)
   clear hw
   go_wp2
   go_ret;exact⟨rfl,by rw[HA.o]⟩
theorem zpK (a a':OA)(cap cap':Nat)(vs:List Int)(w:World)(hw:yJ w a vs)(hw':yJ w a' vs) :
 Calls Tryz.prog 184 #[.l a vs.length cap,.l a' vs.length cap'] w fun e w'=>e=.returned (.bool true)/\Bw w w':=by
 have hl:=hw.len;unfold maxLen at hl;have hnn:((vs.length:Int) != vs.length)=false:=by simp
 go_enter Tryz.func184,Tryz.ntmps184;go_wp2_with fail
 go_loopw [5] (fun i wr=>∃k:Nat,k<=vs.length/\i=.i k/\Bw w wr) (fun i _=>vs.length-(intOf i).toNat)
 case atStart=>exact⟨0,Nat.zero_le _,rfl,bRf _ _⟩
 case round=>
  obtain⟨k,hk,rfl,hB⟩:=hrel
  by_cases hlt:k<vs.length
  ·obtain⟨b,off,rfl,hb,c0⟩:=hw.load hB k hlt
   obtain⟨b',off',rfl,hb',d0⟩:=hw'.load hB k hlt;have hltI:(k:Int)<(vs.length:Int):=by omega
   have hne:(vs[k] != vs[k])=false:=by simp
   clear hw hw';go_wp2_with fail
   first
    | exact⟨⟨k+1,by omega,by go_num,hB⟩,by simp[intOf];omega⟩
    | (go_quiet (fail);go_wp2_with fail;exact⟨⟨k+1,by omega,by go_num,below_drewN hB _⟩,by simp[intOf];omega⟩)
  ·clear hw hw'
   go_wp2_with fail
   go_ret;exact⟨rfl,hB⟩
theorem zsD (w:World)(o1 o2 o3 o4:Obj):((((w.alloc o1).alloc o2).alloc o3).alloc o4).heap[w.heap.size+1+1+1]?=some o4:=by
 have h:=MapKept.heap_alloc (((w.alloc o1).alloc o2).alloc o3) o4
 simpa using h.1
theorem zrU (w:World)(o1 o2 o3 o4:Obj):Bw w ((((w.alloc o1).alloc o2).alloc o3).alloc o4):=
 (((bAl _ _).alloc (by simp) _).alloc (by simp;omega) _).alloc (by simp;omega) _
theorem ze7 (r:Rl)(a:OA)(cap:Nat)(w:World)(hw:yJ w a r.vs)(hl:r.vs.length<=1048576) :
 Calls Tryz.prog 110 #[.agg (r.cells a cap)] w
  fun e w'=>∃bk,e=.returned (.agg (r.cells (some (aD bk 0)) r.vs.length))/\w.heap.size<=bk/\bk<w'.heap.size/\w'.heap[bk]?=some (.cells (zbx r.vs) 3)/\Bw w w':=by
 unfold Rl.cells;go_enter Tryz.func110,Tryz.ntmps110
 go_wp2_with (go_at_call 146;refine(zo9 _ _ _ _ (by exact hw.mono (((bAl _ _).alloc (by simp) _).alloc (by simp;omega) _)) hl).mono ?_;rintro e w'⟨rfl,rfl⟩)
 refine bodyPost_ret (v:=.agg #[.l (some (aD (w.heap.size+1+1+1) 0)) r.vs.length r.vs.length,.s r.kd,.s r.tm,.s r.px]) (by simp[results,Tryz.results110,go_sem]) rfl ⟨w.heap.size+1+1+1,rfl,by omega,by simp,zsD _ _ _ _ _,zrU _ _ _ _ _⟩
theorem ze0 (r:Rl)(a a':OA)(cap cap':Nat)(w:World)(hw:yJ w a r.vs)(hw':yJ w a' r.vs) :
 Calls Tryz.prog 128 #[.agg (r.cells a cap),.agg (r.cells a' cap')] w fun e w'=>e=.returned (.bool true)/\Bw w w':=by
 unfold Rl.cells;go_enter Tryz.func128,Tryz.ntmps128;go_wp2_with fail
 refine(zpK _ _ _ _ _ _ (hw.mono (zx _ _ _)) (hw'.mono (zx _ _ _))).mono ?_;rintro e w1⟨rfl,hb1⟩;have hX1:=za (za (zn w _ _) (by simp) (bAl _ _)) (by simp;omega) hb1;have hY1:=za (zre w _ _ _) (by simp) hb1;have hz:w.heap.size+1<w1.heap.size:=by have:=hb1.size;simp at this;omega
 have hB1:=(zx w _ _).trans (hb1.mono (by simp;omega));clear hb1;go_wp2_with fail
 go_ret;exact⟨rfl,hB1⟩
theorem zsq {o:Ob}{l:Int}(h:(zef o:Int)<=l)(hl:l<=1048576):o.vs.length<=1048576/\o.hs.length<=1048576:=by
 unfold zef yQ at h;omega
theorem zdu (v:Int)(w:World) :
 Calls Tryz.prog 251 #[.i v] w fun e w'=>e=.returned (.bool (zaZ v))/\w'=w:=by
 go_enter Tryz.func251,Tryz.ntmps251
 go_wp2
 all_goals
  go_ret;refine⟨ze ?_,rfl⟩;rw[Bool.eq_iff_iff];simp[zaZ];try omega
theorem zd8 {vs:List Int}{k:Nat}(h:k<vs.length)(hn:zaZ vs[k]=false):qC vs k=false:=by
 unfold qC;rw[getD_at vs k _ h,hn];rfl
theorem zb3 {vs:List Int}(h:0<vs.length)(hn:zaZ vs[0]=true):qC vs 0=true:=by
 unfold qC;rw[getD_at vs 0 _ h,hn];rfl
theorem zij {vs:List Int}{k:Nat}(h:k+1<vs.length)(hn:zaZ vs[k+1]=true):qC vs (k+1)=decide (vs[k]<vs[k+1]):=by
 unfold qC;rw[getD_at vs (k+1) _ h,Nat.add_sub_cancel,getD_at vs k _ (by omega),hn];simp
theorem qQ (a:OA)(cap:Nat)(vs:List Int)(w:World)(hw:yJ w a vs) :
 Calls Tryz.prog 223 #[.l a vs.length cap] w fun e w'=>e=.returned (.bool (yZ vs))/\w'=w:=by
 have hl:=hw.len;unfold maxLen at hl;have HG:Hid (up (qC vs) vs.length=false->yZ vs=false):=fun h=>by unfold yZ;rw[h,Bool.and_false]
 go_enter Tryz.func223,Tryz.ntmps223;go_wp2_with fail
 go_loop [7] (fun i=>∃k:Nat,k<=vs.length/\i=.i k/\up (qC vs) k=true) (fun i=>vs.length-(intOf i).toNat)
 case atStart=>exact⟨0,Nat.zero_le _,rfl,rfl⟩
 case round=>
  obtain⟨k,hk,rfl,hup⟩:=hrel
  by_cases hlt:k<vs.length
  ·obtain⟨b,off,rfl,hb,hck⟩:=hw.load (bRf _ _) k hlt
   have hltI:(k:Int)<(vs.length:Int):=by omega
   by_cases hn:zaZ vs[k]=true
   ·by_cases hk0:k=0
    ·have HF:Hid (up (qC vs) (k+1)=true):=by subst hk0;unfold Hid;rw[jA,zb3 hlt hn];rfl
     have hg:decide (0<k)=false:=by simp;omega
     have HN:=hid hn;clear hn hup hk0 hw
     go_wp2_with (go_at_call 251;refine(zf HN.o (zdu _ _)).mono ?_;rintro e w'⟨rfl,rfl⟩)
     go_round
     case rel=>exact⟨k+1,by omega,by go_num,HF.o⟩
     case measure=>simp[intOf];omega
    ·obtain⟨m,rfl⟩:∃m,k=m+1:=⟨k-1,by omega⟩
     obtain⟨b',off',e',hb',hcm⟩:=hw.load (bRf _ _) m (by omega);simp only[Option.some.injEq,Addr.mk.injEq]at e';obtain⟨rfl,rfl,_⟩:=e';have HU:Hid (up (qC vs) (m+1+1)=decide (vs[m]<vs[m+1])):=by unfold Hid;rw[jA,hup,zij hlt hn];rfl
     have HNN:Hid (¬vs[m]<vs[m+1]->yZ vs=false):=fun h=>HG.o (za2 hlt (by rw[zij hlt hn];simpa using h))
     have HN:=hid hn;clear hn hup hk0 hw
     by_cases hls:vs[m]<vs[m+1]
     ·have hls':decide (vs[m+1]<=vs[m])=false:=by simp;omega
      have HLS:=hid hls;clear hls
      go_wp2_with (go_at_call 251;refine(zf HN.o (zdu _ _)).mono ?_;rintro e w'⟨rfl,rfl⟩)
      go_round
      case rel=>exact⟨m+1+1,by omega,by go_num,by rw[HU.o];simpa using HLS.o⟩
      case measure=>simp[intOf];omega
     ·have hls':vs[m+1]<=vs[m]:=by omega
      have HLS:=hid hls;clear hls
      go_wp2_with (go_at_call 251;refine(zf HN.o (zdu _ _)).mono ?_;rintro e w'⟨rfl,rfl⟩)
      go_ret;exact⟨ze (HNN.o HLS.o).symm,rfl⟩
   ·have hn':zaZ vs[k]=false:=by simpa using hn
    have HF:=hid (HG.o (za2 hlt (zd8 hlt hn')));have HN:=hid hn';clear hn hn' hup hw
    go_wp2_with (go_at_call 251;refine(zf HN.o (zdu _ _)).mono ?_;rintro e w'⟨rfl,rfl⟩)
    go_ret;exact⟨ze HF.o.symm,rfl⟩
  ·have HF:Hid (yZ vs=decide (0<vs.length)):=by
    have e:k=vs.length:=by omega
    subst e;unfold Hid yZ;rw[hup,Bool.and_true]
   clear hw hup;go_wp2_with fail
   go_ret;exact⟨ze (by rw[HF.o]),rfl⟩
theorem qO {α:Type}(p:α->Bool)(l:List α)(k:Nat)(h:k<l.length):(l.take (k+1)).any p=((l.take k).any p||p l[k]):=by
 rw[tSe h,List.any_append];simp
theorem zcd {α:Type}(p:α->Bool)(l:List α)(k:Nat)(h:k<l.length)(hp:p l[k]=true):l.any p=true:=by
 rw[List.any_eq_true];exact⟨l[k],List.getElem_mem h,hp⟩
def zhJ (P:Program)(fid:Nat)(q:Value)(ts:List Tm)(w:World)(p:Tm->Bool):Prop:=
 ∀w1,Bw w w1->∀i (h:i<ts.length),Calls P fid #[.agg ts[i].cells,q] w1 fun e w'=>e=.returned (.bool (p ts[i]))/\Bw w1 w'
theorem zks (a:OA)(cap:Nat)(ts:List Tm)(q:Value)(p:Tm->Bool)(w:World)(hw:jB w a ts)(hf:zhJ Tryz.prog 213 q ts w p) :
 Calls Tryz.prog 214 #[.l a ts.length cap,.func (.func 213) #[] #[q]] w fun e w'=>∃r:Int,e=.returned (.i r)/\decide (0<=r)=ts.any p/\Bw w w':=by
 have hl:=hw.len;unfold maxLen at hl;go_enter Tryz.func214,Tryz.ntmps214;go_wp2_with fail
 go_loopw [8] (fun i wr=>∃k:Nat,k<=ts.length/\i=.i k/\(ts.take k).any p=false/\Bw w wr) (fun i _=>ts.length-(intOf i).toNat)
 case atStart=>exact⟨0,Nat.zero_le _,rfl,rfl,bRf _ _⟩
 case round=>
  obtain⟨k,hk,rfl,hno,hB⟩:=hrel
  by_cases hlt:k<ts.length
  ·obtain⟨b,off,rfl,hb,c0,c1⟩:=hw.load hB k hlt
   have hltI:(k:Int)<(ts.length:Int):=by omega
   have hc:=hf wr hB k hlt;clear hw hf
   by_cases he:p ts[k]=true
   ·have HA:Hid (ts.any p=true):=zcd p ts k hlt he
    have HE:Hid (p ts[k]=true):=he;clear he hno;go_wp2_with fail
    refine(zf HE.o hc).mono ?_;rintro e w2⟨rfl,hb2⟩;go_wp2_with fail
    go_ret;exact⟨_,rfl,by rw[HA.o];simp,hB.trans (hb2.mono hB.size)⟩
   ·have he':p ts[k]=false:=by simpa using he
    have HS:Hid ((ts.take (k+1)).any p=false):=by unfold Hid;rw[qO p ts k hlt,hno,he'];rfl
    have HE:Hid (p ts[k]=false):=he';clear he he' hno;go_wp2_with fail
    refine(zf HE.o hc).mono ?_;rintro e w2⟨rfl,hb2⟩;go_wp2_with fail
    exact⟨⟨k+1,by omega,by go_num,HS.o,hB.trans (hb2.mono hB.size)⟩,by simp[intOf];omega⟩
  ·have HA:Hid (ts.any p=false):=by unfold Hid;rw[<- hno,tOl (by omega)]
   clear hno hw hf;go_wp2_with fail
   go_ret;exact⟨_,rfl,by rw[HA.o];rfl,hB⟩
theorem zgm (a:OA)(cap:Nat)(ts:List Tm)(q:Value)(p:Tm->Bool)(w:World)(hw:jB w a ts)(hf:zhJ Tryz.prog 213 q ts w p) :
 Calls Tryz.prog 155 #[.l a ts.length cap,.func (.func 213) #[] #[q]] w fun e w'=>e=.returned (.bool (ts.any p))/\Bw w w':=by
 go_enter Tryz.func155,Tryz.ntmps155;go_wp2_with fail
 refine(zks _ _ _ _ _ _ hw hf).mono ?_;rintro e w2⟨r,rfl,hr,hb2⟩;go_wp2_with fail
 go_ret;exact⟨rfl,hb2⟩
theorem zku (a:OA)(cap:Nat)(ts:List Tm)(q:Value)(p:Tm->Bool)(w:World)(hw:jB w a ts)(hf:zhJ Tryz.prog 156 q ts w p) :
 Calls Tryz.prog 214 #[.l a ts.length cap,.func (.func 156) #[] #[q]] w fun e w'=>∃r:Int,e=.returned (.i r)/\decide (0<=r)=ts.any p/\Bw w w':=by
 have hl:=hw.len;unfold maxLen at hl;go_enter Tryz.func214,Tryz.ntmps214;go_wp2_with fail
 go_loopw [8] (fun i wr=>∃k:Nat,k<=ts.length/\i=.i k/\(ts.take k).any p=false/\Bw w wr) (fun i _=>ts.length-(intOf i).toNat)
 case atStart=>exact⟨0,Nat.zero_le _,rfl,rfl,bRf _ _⟩
 case round=>
  obtain⟨k,hk,rfl,hno,hB⟩:=hrel
  by_cases hlt:k<ts.length
  ·obtain⟨b,off,rfl,hb,c0,c1⟩:=hw.load hB k hlt
   have hltI:(k:Int)<(ts.length:Int):=by omega
   have hc:=hf wr hB k hlt;clear hw hf
   by_cases he:p ts[k]=true
   ·have HA:Hid (ts.any p=true):=zcd p ts k hlt he
    have HE:Hid (p ts[k]=true):=he;clear he hno;go_wp2_with fail
    refine(zf HE.o hc).mono ?_;rintro e w2⟨rfl,hb2⟩;go_wp2_with fail
    go_ret;exact⟨_,rfl,by rw[HA.o];simp,hB.trans (hb2.mono hB.size)⟩
   ·have he':p ts[k]=false:=by simpa using he
    have HS:Hid ((ts.take (k+1)).any p=false):=by unfold Hid;rw[qO p ts k hlt,hno,he'];rfl
    have HE:Hid (p ts[k]=false):=he';clear he he' hno;go_wp2_with fail
    refine(zf HE.o hc).mono ?_;rintro e w2⟨rfl,hb2⟩;go_wp2_with fail
    exact⟨⟨k+1,by omega,by go_num,HS.o,hB.trans (hb2.mono hB.size)⟩,by simp[intOf];omega⟩
  ·have HA:Hid (ts.any p=false):=by unfold Hid;rw[<- hno,tOl (by omega)]
   clear hno hw hf;go_wp2_with fail
   go_ret;exact⟨_,rfl,by rw[HA.o];rfl,hB⟩
theorem zhd (a:OA)(cap:Nat)(ts:List Tm)(q:Value)(p:Tm->Bool)(w:World)(hw:jB w a ts)(hf:zhJ Tryz.prog 156 q ts w p) :
 Calls Tryz.prog 155 #[.l a ts.length cap,.func (.func 156) #[] #[q]] w fun e w'=>e=.returned (.bool (ts.any p))/\Bw w w':=by
 go_enter Tryz.func155,Tryz.ntmps155;go_wp2_with fail
 refine(zku _ _ _ _ _ _ hw hf).mono ?_;rintro e w2⟨r,rfl,hr,hb2⟩;go_wp2_with fail
 go_ret;exact⟨rfl,hb2⟩
theorem zmC (t:Tm)(v:BA)(bn:Nat)(w:World)(hb:bn<w.heap.size)(hn:w.cell? (aD bn 0)=some (.s v)) :
 Calls Tryz.prog 213 #[.agg t.cells,.pointer (some (aD bn 0))] w fun e w'=>e=.returned (.bool (t.nm.toList == v.toList))/\Bw w w':=by
 unfold Tm.cells;go_enter Tryz.func213,Tryz.ntmps213;go_wp2_with fail
 go_ret;exact⟨rfl,bAl _ _⟩
theorem zoj (ts:List Tm)(v:BA)(bn:Nat)(w:World)(hb:bn<w.heap.size)(hn:w.cell? (aD bn 0)=some (.s v)) :
 zhJ Tryz.prog 213 (.pointer (some (aD bn 0))) ts w (fun t=>decide (t.nm=v)):=fun w1 hB i hi=>by
 refine(zmC ts[i] v bn w1 (nLt hb hB.size) ((hB.cell (p:=(aD bn 0)) hb).trans hn)).mono ?_;rintro e w'⟨rfl,hb'⟩;exact⟨ze (beq_toList _ _),hb'⟩
theorem zcc (a:OA)(cap:Nat)(ts:List Tm)(v:BA)(w:World)(hw:jB w a ts) :
 Calls Tryz.prog 154 #[.l a ts.length cap,.s v] w fun e w'=>e=.returned (.bool (yD ts v))/\Bw w w':=by
 go_enter Tryz.func154,Tryz.ntmps154;go_wp2_with fail
 refine(zgm _ _ _ _ _ _ (hw.mono (bAl _ _)) (zoj ts v _ _ (by simp) (by rw[World.cell?_alloc_at _ _ _ _ rfl];rfl))).mono ?_;rintro e w2⟨rfl,hb2⟩;go_wp2_with fail
 go_ret;exact⟨rfl,(bAl _ _).trans (hb2.mono (by simp))⟩
theorem zle (a:OA)(cap:Nat)(ts:List Tm)(t:Tm)(w:World)(hw:jB w a ts) :
 Calls Tryz.prog 157 #[.l a ts.length cap,.agg t.cells] w fun e w'=>e=.returned (.bool (!zeE ts t))/\Bw w w':=by
 unfold Tm.cells;go_enter Tryz.func157,Tryz.ntmps157;go_wp2_with fail
 go_loopw [5,8] (fun p i wr=>∃(k:Nat) (z:BA),k<=4/\p=.s z/\i=.i k/\zfh ts 4 t.ov=zfh ts (4-k) z/\Bw w wr) (fun _ i _=>4-(intOf i).toNat)
 case atStart=>exact⟨0,t.ov,Nat.zero_le _,rfl,rfl,rfl,bAl _ _⟩
 case round=>
  obtain⟨k,z,hk,rfl,rfl,hz,hB⟩:=hrel
  by_cases hlt:k<4
  ·have hltI:(k:Int)<4:=by omega
   have HZ:Hid (zfh ts 4 t.ov=zfh ts (4-(k+1)) (over ts z)):=by
    obtain⟨m,hm⟩:∃m,4-k=m+1:=⟨3-k,by omega⟩
    rw[Hid,hz,hm,show 4-(k+1)=m by omega];rfl
   clear hz;go_wp2_with fail
   refine(zew _ _ _ _ _ (hw.mono hB)).mono ?_;rintro e w1⟨rfl,hb1⟩;have hB1:=hB.trans (hb1.mono hB.size);clear hb1;go_wp2_with fail
   exact⟨⟨k+1,over ts z,by omega,rfl,by go_num,HZ.o,hB1⟩,by simp[intOf];omega⟩
  ·have HF:Hid (zeE ts t=z.toList.isEmpty):=by
    have e:4-k=0:=by omega
    rw[e]at hz;unfold Hid zeE;rw[hz,zy];rfl
   clear hz;go_wp2_with fail
   go_ret;exact⟨ze (by rw[HF.o]),hB⟩
theorem zoR (a:OA)(cap:Nat)(ts:List Tm)(t:Tm)(bn:Nat)(w:World)(hw:jB w a ts)(hb:bn<w.heap.size)(hn:w.cell? (aD bn 0)=some (.l a ts.length cap)) :
 Calls Tryz.prog 156 #[.agg t.cells,.pointer (some (aD bn 0))] w fun e w'=>e=.returned (.bool (!zeE ts t))/\Bw w w':=by
 unfold Tm.cells;go_enter Tryz.func156,Tryz.ntmps156;go_wp2_with fail
 refine(zle _ _ _ t _ (hw.mono (bAl _ _))).mono ?_;rintro e w2⟨rfl,hb2⟩;go_wp2_with fail
 go_ret;exact⟨rfl,(bAl _ _).trans (hb2.mono (by simp))⟩
theorem zqv (a:OA)(cap:Nat)(ts:List Tm)(bn:Nat)(w:World)(hw:jB w a ts)(hb:bn<w.heap.size)(hn:w.cell? (aD bn 0)=some (.l a ts.length cap)) :
 zhJ Tryz.prog 156 (.pointer (some (aD bn 0))) ts w (fun t=>!zeE ts t):=fun w1 hB i _=>
 zoR a cap ts ts[i] bn w1 (hw.mono hB) (nLt hb hB.size) ((hB.cell (p:=(aD bn 0)) hb).trans hn)
theorem zbD (ls ms lo hi:Int)(w:World) :
 Calls Tryz.prog 169 #[.i ls,.i ms,.i lo,.i hi] w fun e w'=>e=.returned (.bool (jN ls ms lo hi))/\w'=w:=by
 go_enter Tryz.func169,Tryz.ntmps169
 go_wp2
 all_goals
  go_ret;refine⟨ze ?_,rfl⟩;rw[Bool.eq_iff_iff];simp[jN];try omega
theorem zbL (nm:BA)(kd ls ms:Int)(a:OA)(n cap:Nat)(to:BA)(rl:Int)(mu fx:Bool)(df wg:BA)(w:World) :
 Calls Tryz.prog 283 #[.agg #[.s nm,.i kd,.i ls,.i ms,.l a n cap,.s to,.i rl,.bool mu,.bool fx,.s df,.s wg]] w fun e w'=>e=.returned (.bool (yV 1 ls ms n to rl wg))/\Bw w w':=by
 go_enter Tryz.func283,Tryz.ntmps283
 go_wp2
 all_goals
  go_ret;refine⟨ze ?_,bAl _ _⟩
  simp_all [yV]
  try (rw[Bool.eq_iff_iff];simp)
theorem zcM (nm:BA)(kd ls ms:Int)(a:OA)(n cap:Nat)(to:BA)(rl:Int)(mu fx:Bool)(df wg:BA)(w:World) :
 Calls Tryz.prog 286 #[.agg #[.s nm,.i kd,.i ls,.i ms,.l a n cap,.s to,.i rl,.bool mu,.bool fx,.s df,.s wg]] w fun e w'=>e=.returned (.bool (yV 2 ls ms n to rl wg))/\Bw w w':=by
 go_enter Tryz.func286,Tryz.ntmps286
 go_wp2
 all_goals
  go_ret;refine⟨ze ?_,bAl _ _⟩
  simp_all [yV]
  try (rw[Bool.eq_iff_iff];simp)
theorem zcP (nm:BA)(kd ls ms:Int)(a:OA)(n cap:Nat)(to:BA)(rl:Int)(mu fx:Bool)(df wg:BA)(w:World) :
 Calls Tryz.prog 291 #[.agg #[.s nm,.i kd,.i ls,.i ms,.l a n cap,.s to,.i rl,.bool mu,.bool fx,.s df,.s wg]] w fun e w'=>e=.returned (.bool (yV 3 ls ms n to rl wg))/\Bw w w':=by
 go_enter Tryz.func291,Tryz.ntmps291
 go_wp2
 all_goals
  go_ret;refine⟨ze ?_,bAl _ _⟩
  simp_all [yV]
  try (rw[Bool.eq_iff_iff];simp)
theorem zcO (nm:BA)(kd ls ms:Int)(a:OA)(n cap:Nat)(to:BA)(rl:Int)(mu fx:Bool)(df wg:BA)(w:World) :
 Calls Tryz.prog 294 #[.agg #[.s nm,.i kd,.i ls,.i ms,.l a n cap,.s to,.i rl,.bool mu,.bool fx,.s df,.s wg]] w fun e w'=>e=.returned (.bool (yV 4 ls ms n to rl wg))/\Bw w w':=by
 go_enter Tryz.func294,Tryz.ntmps294
 go_wp2
 all_goals
  go_ret;refine⟨ze ?_,bAl _ _⟩
  simp_all [yV]
  try (rw[Bool.eq_iff_iff];simp)
theorem zcI (nm:BA)(ls ms:Int)(a:OA)(cap:Nat)(ws:List BA)(to:BA)(rl:Int)(mu fx:Bool)(df wg:BA)(a0:OA)(cap0:Nat)(ss:List Shp)(w:World)(hwg:wg.size<=maxLen) :
 Calls Tryz.prog 285 #[.agg #[.s nm,.i 1,.i ls,.i ms,.l a ws.length cap,.s to,.i rl,.bool mu,.bool fx,.s df,.s wg],.l a0 ss.length cap0] w fun e w'=>e=.returned (.bool (zZ ss ⟨nm,1,ls,ms,ws,to,rl,mu,fx,df,wg⟩))/\Bw w w':=by
 have HF:Hid (zZ ss ⟨nm,1,ls,ms,ws,to,rl,mu,fx,df,wg⟩=(jN ls ms 0 1000000&&(wg.toList.isEmpty||zm wg))):=by simp[zZ,Hid]
 by_cases hr:jN ls ms 0 1000000=true
 ·by_cases he:wg.toList.isEmpty=true
  ·go_enter Tryz.func285,Tryz.ntmps285
   go_wp2_with (go_at_call 169;refine(zbD _ _ _ _ _).mono ?_;rintro e w'⟨rfl,rfl⟩)
   go_ret;exact⟨ze (by rw[HF.o,hr,he];rfl),bAl _ _⟩
  ·have he':wg.toList.isEmpty=false:=by simpa using he
   clear he;go_enter Tryz.func285,Tryz.ntmps285
   go_wp2_with (first|(go_at_call 169;refine(zbD _ _ _ _ _).mono ?_;rintro e w'⟨rfl,rfl⟩)|(go_at_call 153;refine(zB _ _ hwg).mono ?_;rintro e w'⟨rfl,rfl⟩))
   go_ret;exact⟨ze (by rw[HF.o,hr,he'];rfl),bAl _ _⟩
 ·have hr':jN ls ms 0 1000000=false:=by simpa using hr
  clear hr;go_enter Tryz.func285,Tryz.ntmps285
  go_wp2_with (go_at_call 169;refine(zbD _ _ _ _ _).mono ?_;rintro e w'⟨rfl,rfl⟩)
  go_ret;exact⟨ze (by rw[HF.o,hr'];rfl),bAl _ _⟩
theorem zdN (nm:BA)(ls ms:Int)(a:OA)(cap:Nat)(ws:List BA)(to:BA)(rl:Int)(mu fx:Bool)(df wg:BA)(a0:OA)(cap0:Nat)(ss:List Shp)(w:World) :
 Calls Tryz.prog 293 #[.agg #[.s nm,.i 3,.i ls,.i ms,.l a ws.length cap,.s to,.i rl,.bool mu,.bool fx,.s df,.s wg],.l a0 ss.length cap0] w fun e w'=>e=.returned (.bool (zZ ss ⟨nm,3,ls,ms,ws,to,rl,mu,fx,df,wg⟩))/\Bw w w':=by
 have HF:Hid (zZ ss ⟨nm,3,ls,ms,ws,to,rl,mu,fx,df,wg⟩=jN ls ms 1 40):=by simp[zZ,Hid]
 go_enter Tryz.func293,Tryz.ntmps293
 go_wp2_with (go_at_call 169;refine(zbD _ _ _ _ _).mono ?_;rintro e w'⟨rfl,rfl⟩)
 go_ret;exact⟨ze HF.o.symm,bAl _ _⟩
theorem zdO (nm:BA)(ls ms:Int)(a:OA)(cap:Nat)(ws:List BA)(to:BA)(rl:Int)(mu fx:Bool)(df wg:BA)(a0:OA)(cap0:Nat)(ss:List Shp)(w:World)(hw:zJ w a ws) :
 Calls Tryz.prog 288 #[.agg #[.s nm,.i 2,.i ls,.i ms,.l a ws.length cap,.s to,.i rl,.bool mu,.bool fx,.s df,.s wg],.l a0 ss.length cap0] w fun e w'=>e=.returned (.bool (zZ ss ⟨nm,2,ls,ms,ws,to,rl,mu,fx,df,wg⟩))/\Bw w w':=by
 have HF:Hid (zZ ss ⟨nm,2,ls,ms,ws,to,rl,mu,fx,df,wg⟩=(decide (1<=ws.length)&&decide (ws.length<=6)&&asc ws)):=by simp[zZ,Hid]
 have hl:=hw.len;unfold maxLen at hl
 by_cases h1:0<ws.length
 ·by_cases h6:ws.length<=6
  ·go_enter Tryz.func288,Tryz.ntmps288
   go_wp2_with (go_at_call 259;refine(zf7 _ _ _ _ (by exact hw.mono (bAl _ _))).mono ?_;rintro e w'⟨rfl,rfl⟩)
   go_ret;exact⟨ze (by rw[HF.o,decide_eq_true (show 1<=ws.length by omega),decide_eq_true h6];rfl),bAl _ _⟩
  ·go_enter Tryz.func288,Tryz.ntmps288
   go_wp2_with fail
   go_ret;exact⟨ze (by rw[HF.o,decide_eq_true (show 1<=ws.length by omega),decide_eq_false (show ¬ws.length<=6 by omega)];rfl),bAl _ _⟩
 ·go_enter Tryz.func288,Tryz.ntmps288
  go_wp2_with fail
  go_ret;exact⟨ze (by rw[HF.o,decide_eq_false (show ¬1<=ws.length by omega)];rfl),bAl _ _⟩
theorem zfk (nm:BA)(kd ls ms:Int)(sl:Value)(to:BA)(rl:Int)(mu fx:Bool)(df wg:BA)(s:BA)(w:World)(hs:s.size<=maxLen) :
 Calls Tryz.prog 284 #[.agg #[.s nm,.i kd,.i ls,.i ms,sl,.s to,.i rl,.bool mu,.bool fx,.s df,.s wg],.s s] w
  fun e w'=>e=.returned (.bool (zaP ls ms s))/\Bw w w':=by
 by_cases hd:zat s=true
 ·have HE:Hid (zaJ s=zg7 s):=by unfold zaJ Hid;rw[hd];rfl
  have HF:Hid (zaP ls ms s=(decide (ls<=zg7 s)&&decide (zg7 s<=ms))):=by unfold zaP Hid;rw[hd];rfl
  go_enter Tryz.func284,Tryz.ntmps284
  go_wp2_with (go_at_call 262;refine(zdL _ _ hs).mono ?_;rintro e w'⟨rfl,rfl⟩)
  all_goals
   go_ret;refine⟨ze ?_,bAl _ _⟩;rw[HF.o];have:=HE.o;rw[Bool.eq_iff_iff];simp;omega
 ·have hd':zat s=false:=by simpa using hd
  have HF:Hid (zaP ls ms s=false):=by unfold zaP Hid;rw[hd'];rfl
  go_enter Tryz.func284,Tryz.ntmps284
  go_wp2_with (go_at_call 262;refine(zdL _ _ hs).mono ?_;rintro e w'⟨rfl,rfl⟩)
  go_ret;exact⟨ze HF.o.symm,bAl _ _⟩
def zA (lo:Nat)(w:World)(a:OA)(ws:List BA):Prop:=
 (a=none/\ws=[]) \/ ∃g C,a=some (aD g 0)/\lo<=g/\w.heap[g]?=some (.cells C 9)/\∀i (h:i<ws.length),C[i]?=some (.s ws[i])
theorem zA.zgk {lo:Nat}{w:World}{v:Value}{ws:List BA}(h:w.ownsRow lo 9 1 v ws.length (ws.map Value.string)):∃a cap,v=.l a ws.length cap/\zA lo w a ws:=by
 obtain⟨_,⟨rfl,h0⟩|⟨g,cap,cur,rfl,hg,hh,_,_,_,ht⟩⟩:=h
 ·exact⟨none,0,by rw[h0],Or.inl ⟨rfl,List.length_eq_zero_iff.1 h0⟩⟩
 ·refine⟨some (aD g 0),cap,rfl,Or.inr ⟨g,cur,rfl,hg,hh,fun i hi=>?_⟩⟩
  have h1:(cur.toList.take (ws.length*1))[i]?=(ws.map Value.string)[i]?:=by rw[ht]
  rw[List.getElem?_take_of_lt (by omega),List.getElem?_map,List.getElem?_eq_getElem hi]at h1
  simpa using h1
theorem zA.mono {lo:Nat}{w w':World}{a:OA}{ws:List BA}(h:zA lo w a ws)(hb:Bw w w'):zA lo w' a ws:=by
 rcases h with⟨rfl,rfl⟩|⟨g,C,rfl,hg,hh,hc⟩
 ·exact Or.inl ⟨rfl,rfl⟩
 ·exact Or.inr ⟨g,C,rfl,hg,(hb.block g (gES hh).1).trans hh,hc⟩
theorem zA.at {lo:Nat}{w:World}{a:OA}{ws:List BA}(h:zA lo w a ws)(hl:ws.length<=maxLen)(hs:∀s∈ws,s.size<=maxLen):zJ w a ws:=by
 refine⟨hl,hs,fun hne=>?_⟩
 rcases h with⟨_,rfl⟩|⟨g,C,rfl,_,hh,hc⟩
 ·exact absurd rfl hne
 ·refine⟨g,0,rfl,(gES hh).1,fun i hi=>?_⟩
  simp only[World.cell?,hh,Nat.zero_add]
  simpa using hc i hi
theorem zbg (a:OA)(cap:Nat)(ts:List Tm)(x y:BA)(w:World)(hw:jB w a ts) :
 Calls Tryz.prog 63 #[.l a ts.length cap,.s x,.s y] w fun e w'=>e=.returned (.bool (under ts 4 x y))/\w'=w:=by
 by_cases hxy:x=y
 ·have HF:=hid (zeD ts 4 x y hxy)
  have hbe:(x.toList == y.toList)=true:=by rw[beq_toList];simpa using hxy
  clear hxy;go_enter Tryz.func63,Tryz.ntmps63;go_wp2_with fail
  go_ret;exact⟨ze HF.o.symm,rfl⟩
 have hbe:(x.toList == y.toList)=false:=by rw[beq_toList];simpa using hxy
 have HXY:=hid hxy;clear hxy;go_enter Tryz.func63,Tryz.ntmps63;go_wp2_with fail
 go_loop [1,7] (fun p i=>∃(k:Nat) (z:BA),k<=4/\p=.s z/\i=.i k/\¬z=y/\under ts 4 x y=under ts (4-k) z y) (fun _ i=>4-(intOf i).toNat)
 case atStart=>exact⟨0,x,Nat.zero_le _,rfl,rfl,HXY.o,rfl⟩
 case round=>
  obtain⟨k,z,hk,rfl,rfl,hz,hu⟩:=hrel;have HZ:=ji hz hu;clear hz hu hbe
  by_cases hlt:k<4
  ·have hltI:(k:Int)<4:=by omega
   obtain⟨m,hm⟩:∃m,4-k=m+1:=⟨3-k,by omega⟩
   by_cases h0:(over ts z).size=0
   ·have HF:Hid (under ts 4 x y=false):=by rw[HZ.o.2,hm];exact zf5 ts m HZ.o.1 h0
    have h0':(over ts z).toList.isEmpty=true:=by rw[zy];simpa using h0
    clear h0 hm
    go_wp2_with (go_at_call 107;refine(zdg _ _ _ _ _ hw).mono ?_;rintro e w'⟨rfl,rfl⟩)
    go_ret;exact⟨ze HF.o.symm,rfl⟩
   ·have HO:Hid (under ts 4 x y=under ts m (over ts z) y):=by rw[Hid,HZ.o.2,hm];exact zm2 ts m HZ.o.1 h0
    have h0':(over ts z).toList.isEmpty=false:=by rw[zy];simpa using h0
    clear h0
    by_cases hy:over ts z=y
    ·have HF:Hid (under ts 4 x y=true):=by rw[Hid,HO.o];exact zeD ts m _ _ hy
     have hy':((over ts z).toList == y.toList)=true:=by rw[beq_toList];simpa using hy
     clear hy
     go_wp2_with (go_at_call 107;refine(zdg _ _ _ _ _ hw).mono ?_;rintro e w'⟨rfl,rfl⟩)
     go_ret;exact⟨ze HF.o.symm,rfl⟩
    ·have hy':((over ts z).toList == y.toList)=false:=by rw[beq_toList];simpa using hy
     have HY:=hid hy;clear hy
     go_wp2_with (go_at_call 107;refine(zdg _ _ _ _ _ hw).mono ?_;rintro e w'⟨rfl,rfl⟩)
     go_round
     case rel=>exact⟨k+1,over ts z,by omega,rfl,by go_num,HY.o,by rw[HO.o,show 4-(k+1)=m by omega]⟩
     case measure=>simp[intOf];omega
  ·have HF:Hid (under ts 4 x y=false):=by
    have e:4-k=0:=by omega
    rw[Hid,HZ.o.2,e];exact zh1 ts HZ.o.1
   go_wp2_with fail
   go_ret;exact⟨ze HF.o.symm,rfl⟩
theorem zan (a:OA)(cap:Nat)(ts:List Tm)(x y:BA)(w:World)(hw:jB w a ts) :
 Calls Tryz.prog 181 #[.l a ts.length cap,.s x,.s y] w fun e w'=>e=.returned (.bool (under ts 4 x y))/\Bw w w':=by
 by_cases hxy:x=y
 ·have HF:=hid (zeD ts 4 x y hxy)
  have hbe:(x.toList == y.toList)=true:=by rw[beq_toList];simpa using hxy
  clear hxy;go_enter Tryz.func181,Tryz.ntmps181;go_wp2_with fail
  go_ret;exact⟨ze HF.o.symm,bRf _ _⟩
 have hbe:(x.toList == y.toList)=false:=by rw[beq_toList];simpa using hxy
 have HXY:=hid hxy;clear hxy;go_enter Tryz.func181,Tryz.ntmps181;go_wp2_with fail
 go_loopw [1,10] (fun p i wr=>∃(k:Nat) (z:BA),k<=4/\p=.s z/\i=.i k/\¬z=y/\under ts 4 x y=under ts (4-k) z y/\Bw w wr) (fun _ i _=>4-(intOf i).toNat)
 case atStart=>exact⟨0,x,Nat.zero_le _,rfl,rfl,HXY.o,rfl,bRf _ _⟩
 case round=>
  obtain⟨k,z,hk,rfl,rfl,hz,hu,hB⟩:=hrel;have HZ:=ji hz hu;clear hz hu hbe
  by_cases hlt:k<4
  ·have hltI:(k:Int)<4:=by omega
   obtain⟨m,hm⟩:∃m,4-k=m+1:=⟨3-k,by omega⟩
   by_cases h0:(over ts z).size=0
   ·have HF:Hid (under ts 4 x y=false):=by rw[HZ.o.2,hm];exact zf5 ts m HZ.o.1 h0
    have h0':(over ts z).toList.isEmpty=true:=by rw[zy];simpa using h0
    clear h0 hm;go_wp2_with fail
    refine(zew _ _ _ _ _ (hw.mono hB)).mono ?_;rintro e w1⟨rfl,hb1⟩;have hB1:=hB.trans (hb1.mono hB.size);clear hb1;go_wp2_with fail
    go_ret;exact⟨ze HF.o.symm,hB1⟩
   ·have HO:Hid (under ts 4 x y=under ts m (over ts z) y):=by rw[Hid,HZ.o.2,hm];exact zm2 ts m HZ.o.1 h0
    have h0':(over ts z).toList.isEmpty=false:=by rw[zy];simpa using h0
    clear h0
    by_cases hy:over ts z=y
    ·have HF:Hid (under ts 4 x y=true):=by rw[Hid,HO.o];exact zeD ts m _ _ hy
     have hy':((over ts z).toList == y.toList)=true:=by rw[beq_toList];simpa using hy
     clear hy;go_wp2_with fail
     refine(zew _ _ _ _ _ (hw.mono hB)).mono ?_;rintro e w1⟨rfl,hb1⟩;have hB1:=hB.trans (hb1.mono hB.size);clear hb1;go_wp2_with fail
     go_ret;exact⟨ze HF.o.symm,hB1⟩
    ·have hy':((over ts z).toList == y.toList)=false:=by rw[beq_toList];simpa using hy
     have HY:=hid hy;clear hy;go_wp2_with fail
     refine(zew _ _ _ _ _ (hw.mono hB)).mono ?_;rintro e w1⟨rfl,hb1⟩;have hB1:=hB.trans (hb1.mono hB.size);clear hb1;go_wp2_with fail
     exact⟨⟨k+1,over ts z,by omega,rfl,by go_num,HY.o,by rw[HO.o,show 4-(k+1)=m by omega],hB1⟩,by simp[intOf];omega⟩
  ·have HF:Hid (under ts 4 x y=false):=by
    have e:4-k=0:=by omega
    rw[Hid,HZ.o.2,e];exact zh1 ts HZ.o.1
   go_wp2_with fail
   go_ret;exact⟨ze HF.o.symm,hB⟩
end Go.Proofs.YthdfpinbnncghaaGreat
namespace Go.Proofs.YthdfpinbnncghaaGreat
open Go.ChangeShapes Go.WideShapes Go.ChangeAt Go.RowKit
theorem Tryz.zqt:Tryz.prog.cellsOf 72=1:=by kernel_rfl
theorem Tryz.zhR:Tryz.prog.cellsOf 114=4:=by kernel_rfl
section
variable {H:Type} {enc:TypeId × Value->H} {w:World} {base:Nat} {spare:Nat->Bool} {held:Bool}
theorem zqr {fuel:Nat}{cs:List Value}{x:DataW H × List MemPlace}(h:DataW.trod enc Tryz.prog w base spare held fuel 72 cs=some x) :
 ∃a cap vs,cs=[.l a (List.length vs) cap]/\yJ w a vs:=by
 obtain⟨a,len,cap,rfl,hm,hr⟩:=zad Tryz.underlying72 Tryz.jd (by omega) h
 rcases Nat.eq_zero_or_pos len with h0|hp
 ·subst h0
  exact⟨a,cap,[],rfl,⟨by simp[maxLen],fun h=>absurd rfl h⟩⟩
 ·obtain⟨b,off,rfl,hb,hrow⟩:=hr hp
  have hf:∀i,i<len->∃v:Int,w.cell? (aD b (off+i))=some (.i v):=by
   intro i hi;obtain⟨es,n,y,hel,hcell,hy⟩:=hrow i hi;obtain⟨v,e0,_,_⟩:=DataW.trod_int Tryz.underlying3 hy;subst e0;exact⟨v,by simpa using hcell 0 (by omega)⟩
  obtain⟨vs,hl,hvs⟩:=za9 len hf;exact⟨_,cap,vs,by rw[hl],⟨by omega,fun _=>⟨b,off,rfl,hb,hvs⟩⟩⟩
theorem zlS {fuel:Nat}{cs:List Value}{x:DataW H × List MemPlace}(h:DataW.trod enc Tryz.prog w base spare held fuel 114 cs=some x) :
 ∃(r:Rl) (a:OA) (cap:Nat),cs=(r.cells a cap).toList/\r.Small/\yJ w a r.vs:=by
 have hlen:cs.length=4:=by
  obtain⟨_,_,_,_,hl,_,_⟩:=DataW.trod_struct Tryz.underlying114 h;rw[hl];exact Tryz.zhR
 match cs,hlen with
 | [c0,c1,c2,c3],_=>
  have hf:=jo Tryz.underlying114 h;obtain⟨_,_,f0⟩:=hf 0 72 0 c0 rfl Tryz.zqt rfl;obtain⟨_,_,f1⟩:=hf 1 9 1 c1 rfl Tryz.zK rfl;obtain⟨_,_,f2⟩:=hf 2 9 2 c2 rfl Tryz.zK rfl;obtain⟨_,_,f3⟩:=hf 3 9 3 c3 rfl Tryz.zK rfl;obtain⟨a,cap,vs,e0,hI⟩:=zqr f0;obtain⟨x1,e1,_,s1⟩:=DataW.trod_string Tryz.underlying9 f1;obtain⟨x2,e2,_,s2⟩:=DataW.trod_string Tryz.underlying9 f2;obtain⟨x3,e3,_,s3⟩:=DataW.trod_string Tryz.underlying9 f3;simp only[List.cons.injEq,and_true]at e0 e1 e2 e3;subst e0 e1 e2 e3;exact⟨⟨vs,x1,x2,x3⟩,a,cap,rfl,⟨s1,s2,s3⟩,hI⟩
end
end Go.Proofs.YthdfpinbnncghaaGreat
