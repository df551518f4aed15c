import Derived.Test.YtkficnallnpjnaaGreatM08
set_option maxHeartbeats 2000000
namespace Go.Proofs.YtkficnallnpjnaaGreat
open Go.RowKit
theorem zfy (b off cap:Nat)(ws:List ByteArray)(w:World)(hw:zF w (some ⟨b,off,none⟩) ws)(hl:ws.length<=1048576) :
 Calls Tryz.prog 125 #[.slice (some ⟨b,off,none⟩) ws.length cap] w
  fun e w'=>∃v,e=.returned v/\w'.ownsRow w.heap.size 9 1 v ws.length (ws.map Value.string)/\Below w.heap.size w w':=by
 obtain⟨i0,hi,hz0,hz1,hz2⟩:=info_parts Tryz.zcH
 have hnews:∀j u,(ws.map Value.string)[j]?=some u->w.cell? ((⟨b,off,none⟩:Addr).add j)=some u:=by
  intro j u hj
  have hlt:j<ws.length:=by
   have:=(List.getElem?_eq_some_iff.1 hj).1;simpa using this
  obtain⟨b',off',he,hb,hc⟩:=hw.cells (by rintro rfl;simp at hlt);simp only[Option.some.injEq,Addr.mk.injEq]at he;obtain⟨rfl,rfl,_⟩:=he;have h1:=hc j hlt
  have e1:(⟨b,off,none⟩:Addr).add j=⟨b,off+j,none⟩:=by
   unfold Addr.add;split
   ·rename_i h;subst h;simp
   ·rfl
  rw[e1,h1];rw[List.getElem?_map,List.getElem?_eq_getElem hlt]at hj
  simpa using hj
 have hone:∀u∈ws.map Value.string,u.oneCell'=true:=by
  intro u hu;simp only[List.mem_map]at hu;obtain⟨s,_,rfl⟩:=hu;rfl
 go_enter Tryz.func125,Tryz.ntmps125
 go_wp2_with (at_builtin;refine wpList_append_own _ rfl _ _ 100 rfl w.heap.size 9 i0 (.string ByteArray.empty) 1 16 Tryz.underlying100 hi hz0 hz1 hz2 rfl (by decide) (.slice none 0 0) 0 [] rfl ⟨rfl,.inl ⟨rfl,rfl⟩⟩ ⟨b,off,none⟩ ws.length cap (ws.map Value.string) rfl (by simp) hnews hone (by unfold maxLen;omega) (by omega) (Nat.le_refl _) ?_;intro v' w1 hown hgr _)
 simp only[Nat.zero_add,List.nil_append]at hown;go_ret;exact⟨v',rfl,hown,(bRf _ _).grown hgr (Nat.le_refl _) (by simp[Value.ownBlock])⟩
structure ql (w:World)(a:Option Addr)(vs:List Int):Prop where
 len:vs.length<=maxLen
 cells:vs≠[]->∃b off,a=some ⟨b,off,none⟩/\b<w.heap.size/\∀i (h:i<vs.length),w.cell? ⟨b,off+i,none⟩=some (.int .i64 vs[i])
theorem ql.mono {w w':World}{a:Option Addr}{vs:List Int}(h:ql w a vs)(hb:Below w.heap.size w w'):ql w' a vs:=
 ⟨h.len,fun hne=>by
  obtain⟨b,off,ha,hbs,hc⟩:=h.cells hne;exact⟨b,off,ha,nLt hbs hb.size,fun i hi=>(hb.cell (p:=⟨b,off+i,none⟩) hbs).trans (hc i hi)⟩⟩
theorem ql.load {w w':World}{a:Option Addr}{vs:List Int}(h:ql w a vs)(hl:Below w.heap.size w w')(i:Nat)(hi:i<vs.length):∃b off,a=some ⟨b,off,none⟩/\b<w.heap.size/\w'.cell? ⟨b,off+i,none⟩=some (.int .i64 vs[i]):=by
 obtain⟨b,off,ha,hb,hc⟩:=h.cells (by rintro rfl;simp at hi);exact⟨b,off,ha,hb,(hl.cell (p:=⟨b,off+i,none⟩) hb).trans (hc i hi)⟩
def zbN (vs:List Int):Array Value:=(vs.map (Value.int .i64)).toArray
def intCells (vs:List Int)(k:Nat):Array Value:=((vs.take k).map (Value.int .i64)++List.replicate (vs.length-k) (Value.int .i64 0)).toArray
theorem znB (vs:List Int)(k:Nat)(h:k<vs.length):(intCells vs k)[k]?=some (.int .i64 0):=by
 unfold intCells;have hl:((vs.take k).map (Value.int .i64)).length=k:=by simp;omega
 rw[List.getElem?_toArray,List.getElem?_append_right (by omega),hl,Nat.sub_self];obtain⟨m,hm⟩:∃m,vs.length-k=m+1:=⟨vs.length-k-1,by omega⟩
 rw[hm,List.replicate_succ];rfl
theorem zl1 (vs:List Int)(k:Nat)(h:k<vs.length):(intCells vs k).setIfInBounds k (.int .i64 vs[k])=intCells vs (k+1):=by
 unfold intCells;rw[List.setIfInBounds_toArray,List.set_append_right _ _ (by simp;omega)]
 congr 1
 rw[tSe h,List.map_append,List.append_assoc]
 congr 1
 obtain⟨m,hm⟩:∃m,vs.length-k=m+1:=⟨vs.length-k-1,by omega⟩
 rw[hm,show vs.length-(k+1)=m by omega]
 have:k-((vs.take k).map (Value.int .i64)).length=0:=by simp;omega
 rw[this,List.replicate_succ]
 rfl
theorem zma (vs:List Int)(k:Nat)(h:vs.length<=k):intCells vs k=zbN vs:=by
 unfold intCells zbN;rw[tOl h,show vs.length-k=0 by omega];simp
theorem zkQ (vs:List Int):madeCells #[Value.int .i64 0] vs.length=intCells vs 0:=by
 apply Array.toList_inj.1
 rw[toList_madeCells_one]
 simp[intCells]
theorem zhI {w:World}{bk:Nat}{vs:List Int}{t:TypeId}(h:w.heap[bk]?=some (.cells (zbN vs) t))(hl:vs.length<=maxLen):ql w (some ⟨bk,0,none⟩) vs:=
 ⟨hl,fun _=>⟨bk,0,rfl,(gES h).1,fun i hi=>by
  simp[World.cell?,h,zbN,hi]⟩⟩
def Rl.cells (r:Rl)(a:Option Addr)(cap:Nat):Array Value:=#[.slice a r.vs.length cap,.string r.kd,.string r.tm,.string r.px]
structure Rl.Small (r:Rl):Prop where
 kd:r.kd.size<=maxLen
 tm:r.tm.size<=maxLen
 px:r.px.size<=maxLen
def Rl.sz (r:Rl):Nat:=r.vs.length+r.kd.size+r.tm.size+r.px.size
theorem zG {w:World}{b o:Nat}{v:Value}{b':Nat}(h:b'≠b):(w.setCell ⟨b,o,none⟩ v).heap[b']?=w.heap[b']?:=by
 simp only[World.setCell,Array.getElem?_modify];rw[if_neg (fun e=>h (Eq.symm e))]
theorem zqy (w:World)(o1:Obj)(X:Array Value)(t:TypeId):∀o,((w.alloc o1).alloc (.cells X t)).cell? ⟨w.heap.size+1,o,none⟩=X[o]?:=by
 intro o;have h:=zl (w.alloc o1) X t o;have e:(w.alloc o1).heap.size=w.heap.size+1:=by simp
 rw[e]at h;exact h
theorem zjc (a:Option Addr)(cap:Nat)(ws:List ByteArray)(w:World)(hw:zF w a ws) :
 Calls Tryz.prog 230 #[.slice a ws.length cap] w fun e w'=>e=.returned (.bool (asc ws))/\w'=w:=by
 have hl:=hw.len;unfold maxLen at hl;go_enter Tryz.func230,Tryz.ntmps230
 go_wp2
 go_loop [7] (fun i=>∃k:Nat,k<=ws.length/\i=.int .i64 k/\up (zdN ws) k=true) (fun i=>ws.length-(intOf i).toNat)
 case atStart=>exact⟨0,Nat.zero_le _,rfl,rfl⟩
 case round=>
  obtain⟨k,hk,rfl,hup⟩:=hrel
  by_cases hlt:k<ws.length
  ·obtain⟨b,off,rfl,hb,hc⟩:=hw.cells (by rintro rfl;simp at hlt)
   have hsm:=hw.small _ (List.getElem_mem hlt);clear hw;have hck:=hc k hlt
   by_cases hn:zA ws[k]=true
   ·by_cases hk0:k=0
    ·have HF:Hid (up (zdN ws) (k+1)=true):=by subst hk0;unfold Hid;rw[qZ,zhP hlt hn];rfl
     have hg:decide (0<k)=false:=by simp;omega
     have HN:Hid (zA ws[k]=true):=hn;clear hn hc hup hk0
     go_wp2_with (go_at_call 154;refine(zf HN.out (zH _ _ hsm)).mono ?_;rintro e w'⟨rfl,rfl⟩)
     go_round
     case rel=>exact⟨k+1,by omega,by go_num,HF.out⟩
     case measure=>simp[intOf];omega
    ·obtain⟨m,rfl⟩:∃m,k=m+1:=⟨k-1,by omega⟩
     have hcm:=hc m (by omega);have HU:Hid (up (zdN ws) (m+1+1)=less ws[m] ws[m+1]):=by unfold Hid;rw[qZ,hup,zeg hlt hn];rfl
     have HNN:Hid (less ws[m] ws[m+1]=false->asc ws=false):=fun h=>zaG hlt (by rw[zeg hlt hn];exact h)
     have HN:Hid (zA ws[m+1]=true):=hn;clear hn hc hup hk0
     by_cases hls:less ws[m] ws[m+1]=true
     ·have hls':Op.bytesLess ws[m].toList ws[m+1].toList=true:=hls
      have HLS:Hid (less ws[m] ws[m+1]=true):=hls;clear hls
      go_wp2_with (go_at_call 154;refine(zf HN.out (zH _ _ hsm)).mono ?_;rintro e w'⟨rfl,rfl⟩)
      go_round
      case rel=>exact⟨m+1+1,by omega,by go_num,by rw[HU.out,HLS.out]⟩
      case measure=>simp[intOf];omega
     ·have hls':Op.bytesLess ws[m].toList ws[m+1].toList=false:=by simpa[less] using hls
      have HLS:Hid (less ws[m] ws[m+1]=false):=hls';clear hls
      go_wp2_with (go_at_call 154;refine(zf HN.out (zH _ _ hsm)).mono ?_;rintro e w'⟨rfl,rfl⟩)
      go_ret;exact⟨ze (HNN.out HLS.out).symm,rfl⟩
   ·have hn':zA ws[k]=false:=by simpa using hn
    have HF:Hid (asc ws=false):=zaG hlt (zjx hlt hn');have HN:Hid (zA ws[k]=false):=hn';clear hn hn' hc hup
    go_wp2_with (go_at_call 154;refine(zf HN.out (zH _ _ hsm)).mono ?_;rintro e w'⟨rfl,rfl⟩)
    go_ret;exact⟨ze HF.out.symm,rfl⟩
  ·have HF:Hid (asc ws=true):=by
    have e:k=ws.length:=by omega
    subst e;exact hup
   clear hw hup
   go_wp2
   go_ret;exact⟨ze HF.out.symm,rfl⟩
theorem zeV (m:Tm)(left:Int)(w:World)(hm:m.Small)(h0:0<=left)(h1:left<=1048576) :
 Calls Tryz.prog 55 #[.agg m.cells,.int .i64 left] w fun e w'=>e=.returned (.int .i64 (zL m.sz left))/\Below w.heap.size w w':=by
 have k1:=hm.nm;have k2:=hm.ov;unfold maxLen at k1 k2;unfold Tm.cells;have hB:∀ob,Below w.heap.size w (w.alloc ob):=fun ob=>bAl _ _
 by_cases hf:(m.sz:Int)<=left
 ·have HF:Hid (zL m.sz left=left-m.nm.size-m.ov.size):=by
   unfold Hid;rw[zM hf];unfold Tm.sz;omega
  unfold Tm.sz at hf;go_enter Tryz.func55,Tryz.ntmps55;go_wp2_with fail
  go_ret;exact⟨zo HF.out.symm,hB _⟩
 ·have HF:Hid (zL m.sz left=-1):=zC hf
  have HN:Hid (¬((m.nm.size+m.ov.size:Nat):Int)<=left):=hf;clear hf;go_enter Tryz.func55,Tryz.ntmps55;go_wp2_with fail
  all_goals go_ret
  all_goals first|exact⟨zo HF.out.symm,hB _⟩|(exfalso;have:=HN.out;simp at *;omega)
theorem zj2 (m:Tm)(left:Int)(w:World)(hm:m.Small)(h0:0<=left)(h1:left<=1048576)(h:(m.sz:Int)<=left) :
 Calls Tryz.prog 55 #[.agg m.cells,.int .i64 left] w fun e w'=>e=.returned (.int .i64 (left-m.sz))/\Below w.heap.size w w':=by
 refine(zeV m left w hm h0 h1).mono ?_;rintro e w'⟨rfl,hb⟩;exact⟨zo (zM h),hb⟩
theorem zkz (m:Tm)(left:Int)(w:World)(hm:m.Small)(h0:0<=left)(h1:left<=1048576)(h:¬(m.sz:Int)<=left) :
 Calls Tryz.prog 55 #[.agg m.cells,.int .i64 left] w fun e w'=>e=.returned (.int .i64 (-1))/\Below w.heap.size w w':=by
 refine(zeV m left w hm h0 h1).mono ?_;rintro e w'⟨rfl,hb⟩;exact⟨zo (zC h),hb⟩
theorem ziX (a:Option Addr)(cap:Nat)(ts:List Tm)(left:Int)(w:World)(hw:jO w a ts)(h0:0<=left)(h1:left<=1048576) :
 Calls Tryz.prog 17 #[.slice a ts.length cap,.int .i64 left] w fun e w'=>e=.returned (.int .i64 (zL (zc9 ts) left))/\Below w.heap.size w w':=by
 have hl:=hw.len;unfold maxLen at hl
 by_cases hfit:(ts.length:Int)<=left
 ·go_enter Tryz.func17,Tryz.ntmps17
  go_wp2_with fail
  go_loopw [1,5] (fun l i wr=>∃k:Nat,k<=ts.length/\i=.int .i64 k/\0<=left-ts.length-zil (ts.take k)/\l=.int .i64 (left-ts.length-zil (ts.take k))/\Below w.heap.size w wr) (fun _ i _=>ts.length-(intOf i).toNat)
  case atStart=>exact⟨0,Nat.zero_le _,rfl,by simp[zil];omega,by simp[zil],bRf _ _⟩
  case round=>
   obtain⟨k,hk,rfl,hpos,rfl,hB⟩:=hrel
   by_cases hlt:k<ts.length
   ·obtain⟨b,off,rfl,hb,c0,c1⟩:=hw.load hB k hlt
    have hsm:=hw.small k hlt;have HS:Hid (zil (ts.take (k+1))=zil (ts.take k)+ts[k].sz):=za8 Tm.sz ts k hlt;have hle:zil (ts.take (k+1))<=zil ts:=zcW Tm.sz ts (k+1);clear hw
    by_cases hneg:(ts[k].sz:Int)<=left-ts.length-zil (ts.take k)
    ·have HNG:Hid ((ts[k].sz:Int)<=left-ts.length-zil (ts.take k)):=hneg
     clear hle;go_wp2_with fail
     refine(zj2 _ _ _ hsm hpos (by omega) HNG.out).mono ?_;rintro e w1⟨rfl,hb1⟩;have hB1:=hB.trans (hb1.mono hB.size);clear hb1;go_wp2_with fail
     exact⟨⟨k+1,by omega,by go_num,by rw[HS.out];omega,by rw[HS.out];congr 1;omega,hB1⟩,by simp[intOf];omega⟩
    ·have HF:Hid (zL (zc9 ts) left=-1):=zC (by have:=HS.out;unfold zc9;omega)
     have HNG:=hid hneg;clear hneg hle;go_wp2_with fail
     refine(zkz _ _ _ hsm hpos (by omega) (by have:=HNG.out;omega)).mono ?_;rintro e w1⟨rfl,hb1⟩;have hB1:=hB.trans (hb1.mono hB.size);clear hb1;go_wp2_with fail
     go_ret;exact⟨zo HF.out.symm,hB1⟩
   ·have HF:Hid (zL (zc9 ts) left=left-ts.length-zil (ts.take k)):=by
     rw[tOl (by omega)]at hpos ⊢;have e:zL (zc9 ts) left=left-zc9 ts:=zM (by unfold zc9;omega);unfold Hid;rw[e];unfold zc9;omega
    clear hw
    go_wp2
    go_ret;exact⟨zo HF.out.symm,hB⟩
 ·have HF:Hid (zL (zc9 ts) left=-1):=zC (by unfold zc9;omega)
  clear hw;go_enter Tryz.func17,Tryz.ntmps17
  go_wp2
  go_ret;exact⟨zo HF.out.symm,bRf _ _⟩
theorem zjY (m:Tm)(w:World):Calls Tryz.prog 90 #[.agg m.cells,.agg m.cells] w fun e w'=>e=.returned (.bool true)/\Below w.heap.size w w':=by
 unfold Tm.cells;go_enter Tryz.func90,Tryz.ntmps90;go_wp2_with fail
 go_ret;exact⟨rfl,zw _ _ _⟩
theorem ziD (a a':Option Addr)(cap cap':Nat)(ts:List Tm)(w:World)(hw:jO w a ts)(hw':jO w a' ts) :
 Calls Tryz.prog 41 #[.slice a ts.length cap,.slice a' ts.length cap'] w fun e w'=>e=.returned (.bool true)/\Below w.heap.size w w':=by
 have hl:=hw.len;unfold maxLen at hl;have hnn:((ts.length:Int) != ts.length)=false:=by simp
 go_enter Tryz.func41,Tryz.ntmps41;go_wp2_with fail
 go_loopw [5] (fun i wr=>∃k:Nat,k<=ts.length/\i=.int .i64 k/\Below w.heap.size w wr) (fun i _=>ts.length-(intOf i).toNat)
 case atStart=>exact⟨0,Nat.zero_le _,rfl,bRf _ _⟩
 case round=>
  obtain⟨k,hk,rfl,hB⟩:=hrel
  by_cases hlt:k<ts.length
  ·obtain⟨b,off,rfl,hb,c0,c1⟩:=hw.load hB k hlt
   obtain⟨b',off',rfl,hb',d0,d1⟩:=hw'.load hB k hlt;have hltI:(k:Int)<(ts.length:Int):=by omega
   clear hw hw';go_wp2_with fail
   go_region_with (go_at_call 90;refine(zjY ts[k] _).mono ?_;rintro e w1⟨rfl,hb1'⟩;have hb1:=(bRf wr.heap.size wr).drew.trans hb1';clear hb1')
   all_goals go_wp2_with fail
   all_goals exact⟨⟨k+1,by omega,by go_num,hB.trans (hb1.mono hB.size)⟩,by simp[intOf];omega⟩
  ·clear hw hw'
   go_wp2_with fail
   go_ret;exact⟨rfl,hB⟩
theorem zke (m:Tm)(w:World) :
 Calls Tryz.prog 71 #[.agg m.cells] w fun e w'=>e=.returned (.agg m.cells)/\Below w.heap.size w w':=by
 unfold Tm.cells;go_enter Tryz.func71,Tryz.ntmps71;go_wp2_with fail
 refine bodyPost_ret (v:=.agg #[.string m.nm,.string m.ov]) (by simp[results,Tryz.results71,go_sem]) rfl ⟨rfl,?_⟩;exact(((bAl _ _).alloc (by simp) _).alloc (by simp;omega) _)
theorem ziR (a:Option Addr)(cap:Nat)(ts:List Tm)(w:World)(hw:jO w a ts)(hl:ts.length<=1048576) :
 Calls Tryz.prog 27 #[.slice a ts.length cap] w fun e w'=>e=.returned (.slice (some ⟨w.heap.size,0,none⟩) ts.length ts.length)/\zaf 132 w.heap.size w' w.heap.size ts ts.length/\Below w.heap.size w w':=by
 have hmk:∀w:World,(Instr.makeSlice 45 (.int .i64 ts.length) (.int .i64 ts.length)).run Tryz.prog w=.ok (.slice (some ⟨w.heap.size,0,none⟩) ts.length ts.length) (w.alloc (.cells (zpd ts.length) 132)):=
  fun w=>jA (P:=Tryz.prog) 45 132 (.agg zqt) 2 32 Tryz.underlying45 (by kernel_rfl) ts.length (by omega) (by omega) w
 go_enter Tryz.func27,Tryz.ntmps27;go_wp2_with fail
 clear hmk
 go_loopw [4] (fun i wr=>∃k:Nat,k<=ts.length/\i=.int .i64 k/\zaf 132 w.heap.size wr w.heap.size ts k/\Below w.heap.size w wr) (fun i _=>ts.length-(intOf i).toNat)
 case atStart=>exact⟨0,Nat.zero_le _,rfl,⟨Nat.le_refl _,zpd ts.length,(MapKept.heap_alloc w _).1,size_madeCells _ _,fun i _ h=>absurd h (by omega)⟩,bAl _ _⟩
 case round=>
  obtain⟨k,hk,rfl,hown,hB⟩:=hrel
  by_cases hlt:k<ts.length
  ·obtain⟨b,off,rfl,hb,c0,c1⟩:=hw.load hB k hlt
   have hltI:(k:Int)<(ts.length:Int):=by omega
   clear hw;go_wp2_with fail
   refine(zke ts[k] _).mono ?_;rintro e w1⟨rfl,hb1⟩;have hB1:=hB.trans (hb1.mono hB.size);have hown1:=hown.later hb1
   have hbo:w.heap.size<wr.heap.size:=by
    obtain⟨C',hC',_⟩:=hown.rows;exact(gES hC').1
   obtain⟨C,hC,hsz,_⟩:=hown1.rows;have hfz:∀o,w1.frozen? ⟨w.heap.size,o,none⟩=false:=fun o=>zh hC
   have hex:∀o,o<ts.length*2->∃v,w1.cell? ⟨w.heap.size,o,none⟩=some v:=fun o ho=>⟨C[o]'(by omega),by rw[cell_of_block hC];exact Array.getElem?_eq_getElem (by omega)⟩
   obtain⟨v0,hv0⟩:=hex (k*2) (by omega);obtain⟨v1,hv1⟩:=hex (k*2+1) (by omega);have HP:=hid hown1;clear hex hC hsz c0 c1 hown hown1;unfold Tm.cells;go_wp2_with fail
   exact⟨⟨k+1,by omega,by go_num,HP.out.put hlt,znW hB1 (Nat.le_refl _) _ _ _⟩,by simp[intOf];omega⟩
  ·have HF:Hid (zaf 132 w.heap.size wr w.heap.size ts ts.length):=by
    have e:k=ts.length:=by omega
    subst e;exact hown
   clear hw hown;go_wp2_with fail
   go_ret;exact⟨rfl,HF.out,hB⟩
def Mnd.sz (m:Mnd):Nat:=m.kd.size+m.fd.size+m.wh.size+m.wi.size+m.pt.size+m.fr.size
def zih (ms:List Mnd):Nat:=(ms.map Mnd.sz).sum
def zbk (ms:List Mnd):Nat:=ms.length+zih ms
theorem zeQ (m:Mnd)(left:Int)(w:World)(hm:m.Small)(h0:0<=left)(h1:left<=1048576) :
 Calls Tryz.prog 54 #[.agg m.cells,.int .i64 left] w fun e w'=>e=.returned (.int .i64 (zL m.sz left))/\Below w.heap.size w w':=by
 have k1:=hm.kd;have k2:=hm.fd;have k3:=hm.wh;have k4:=hm.wi;have k5:=hm.pt;have k6:=hm.fr;unfold maxLen at k1 k2 k3 k4 k5 k6;unfold Mnd.cells;have hB:∀ob,Below w.heap.size w (w.alloc ob):=fun ob=>bAl _ _
 by_cases hf:(m.sz:Int)<=left
 ·have HF:Hid (zL m.sz left=left-m.kd.size-m.fd.size-m.wh.size-m.wi.size-m.pt.size-m.fr.size):=by
   unfold Hid;rw[zM hf];unfold Mnd.sz;omega
  unfold Mnd.sz at hf;go_enter Tryz.func54,Tryz.ntmps54;go_wp2_with fail
  go_ret;exact⟨zo HF.out.symm,hB _⟩
 ·have HF:Hid (zL m.sz left=-1):=zC hf
  have HN:Hid (¬((m.kd.size+m.fd.size+m.wh.size+m.wi.size+m.pt.size+m.fr.size:Nat):Int)<=left):=hf;clear hf;go_enter Tryz.func54,Tryz.ntmps54;go_wp2_with fail
  all_goals go_ret
  all_goals first|exact⟨zo HF.out.symm,hB _⟩|(exfalso;have:=HN.out;simp at *;omega)
theorem zje (m:Mnd)(left:Int)(w:World)(hm:m.Small)(h0:0<=left)(h1:left<=1048576)(h:(m.sz:Int)<=left) :
 Calls Tryz.prog 54 #[.agg m.cells,.int .i64 left] w fun e w'=>e=.returned (.int .i64 (left-m.sz))/\Below w.heap.size w w':=by
 refine(zeQ m left w hm h0 h1).mono ?_;rintro e w'⟨rfl,hb⟩;exact⟨zo (zM h),hb⟩
theorem zkt (m:Mnd)(left:Int)(w:World)(hm:m.Small)(h0:0<=left)(h1:left<=1048576)(h:¬(m.sz:Int)<=left) :
 Calls Tryz.prog 54 #[.agg m.cells,.int .i64 left] w fun e w'=>e=.returned (.int .i64 (-1))/\Below w.heap.size w w':=by
 refine(zeQ m left w hm h0 h1).mono ?_;rintro e w'⟨rfl,hb⟩;exact⟨zo (zC h),hb⟩
theorem zik (a:Option Addr)(cap:Nat)(ms:List Mnd)(left:Int)(w:World)(hw:qK w a ms)(h0:0<=left)(h1:left<=1048576) :
 Calls Tryz.prog 16 #[.slice a ms.length cap,.int .i64 left] w fun e w'=>e=.returned (.int .i64 (zL (zbk ms) left))/\Below w.heap.size w w':=by
 have hl:=hw.len;unfold maxLen at hl
 by_cases hfit:(ms.length:Int)<=left
 ·go_enter Tryz.func16,Tryz.ntmps16
  go_wp2_with fail
  go_loopw [1,5] (fun l i wr=>∃k:Nat,k<=ms.length/\i=.int .i64 k/\0<=left-ms.length-zih (ms.take k)/\l=.int .i64 (left-ms.length-zih (ms.take k))/\Below w.heap.size w wr) (fun _ i _=>ms.length-(intOf i).toNat)
  case atStart=>exact⟨0,Nat.zero_le _,rfl,by simp[zih];omega,by simp[zih],bRf _ _⟩
  case round=>
   obtain⟨k,hk,rfl,hpos,rfl,hB⟩:=hrel
   by_cases hlt:k<ms.length
   ·obtain⟨b,off,rfl,hb,c0,c1,c2,c3,c4,c5⟩:=hw.load hB k hlt
    have hsm:=hw.small k hlt;have HS:Hid (zih (ms.take (k+1))=zih (ms.take k)+ms[k].sz):=za8 Mnd.sz ms k hlt;have hle:zih (ms.take (k+1))<=zih ms:=zcW Mnd.sz ms (k+1);clear hw
    by_cases hneg:(ms[k].sz:Int)<=left-ms.length-zih (ms.take k)
    ·have HNG:Hid ((ms[k].sz:Int)<=left-ms.length-zih (ms.take k)):=hneg
     clear hle;go_wp2_with fail
     refine(zje _ _ _ hsm hpos (by omega) HNG.out).mono ?_;rintro e w1⟨rfl,hb1⟩;have hB1:=hB.trans (hb1.mono hB.size);clear hb1;go_wp2_with fail
     exact⟨⟨k+1,by omega,by go_num,by rw[HS.out];omega,by rw[HS.out];congr 1;omega,hB1⟩,by simp[intOf];omega⟩
    ·have HF:Hid (zL (zbk ms) left=-1):=zC (by have:=HS.out;unfold zbk;omega)
     have HNG:=hid hneg;clear hneg hle;go_wp2_with fail
     refine(zkt _ _ _ hsm hpos (by omega) (by have:=HNG.out;omega)).mono ?_;rintro e w1⟨rfl,hb1⟩;have hB1:=hB.trans (hb1.mono hB.size);clear hb1;go_wp2_with fail
     go_ret;exact⟨zo HF.out.symm,hB1⟩
   ·have HF:Hid (zL (zbk ms) left=left-ms.length-zih (ms.take k)):=by
     rw[tOl (by omega)]at hpos ⊢;have e:zL (zbk ms) left=left-zbk ms:=zM (by unfold zbk;omega);unfold Hid;rw[e];unfold zbk;omega
    clear hw
    go_wp2
    go_ret;exact⟨zo HF.out.symm,hB⟩
 ·have HF:Hid (zL (zbk ms) left=-1):=zC (by unfold zbk;omega)
  clear hw;go_enter Tryz.func16,Tryz.ntmps16
  go_wp2
  go_ret;exact⟨zo HF.out.symm,bRf _ _⟩
theorem zkh (m:Mnd)(w:World):Calls Tryz.prog 89 #[.agg m.cells,.agg m.cells] w fun e w'=>e=.returned (.bool true)/\Below w.heap.size w w':=by
 unfold Mnd.cells;go_enter Tryz.func89,Tryz.ntmps89;go_wp2_with fail
 go_ret;exact⟨rfl,zw _ _ _⟩
theorem zij (a a':Option Addr)(cap cap':Nat)(ms:List Mnd)(w:World)(hw:qK w a ms)(hw':qK w a' ms) :
 Calls Tryz.prog 40 #[.slice a ms.length cap,.slice a' ms.length cap'] w fun e w'=>e=.returned (.bool true)/\Below w.heap.size w w':=by
 have hl:=hw.len;unfold maxLen at hl;have hnn:((ms.length:Int) != ms.length)=false:=by simp
 go_enter Tryz.func40,Tryz.ntmps40;go_wp2_with fail
 go_loopw [5] (fun i wr=>∃k:Nat,k<=ms.length/\i=.int .i64 k/\Below w.heap.size w wr) (fun i _=>ms.length-(intOf i).toNat)
 case atStart=>exact⟨0,Nat.zero_le _,rfl,bRf _ _⟩
 case round=>
  obtain⟨k,hk,rfl,hB⟩:=hrel
  by_cases hlt:k<ms.length
  ·obtain⟨b,off,rfl,hb,c0,c1,c2,c3,c4,c5⟩:=hw.load hB k hlt
   obtain⟨b',off',rfl,hb',d0,d1,d2,d3,d4,d5⟩:=hw'.load hB k hlt;have hltI:(k:Int)<(ms.length:Int):=by omega
   clear hw hw';go_wp2_with fail
   go_region_with (go_at_call 89;refine(zkh ms[k] _).mono ?_;rintro e w1⟨rfl,hb1'⟩;have hb1:=(bRf wr.heap.size wr).drew.trans hb1';clear hb1')
   all_goals go_wp2_with fail
   all_goals exact⟨⟨k+1,by omega,by go_num,hB.trans (hb1.mono hB.size)⟩,by simp[intOf];omega⟩
  ·clear hw hw'
   go_wp2_with fail
   go_ret;exact⟨rfl,hB⟩
structure jg (lo:Nat)(w:World)(bo:Nat)(ms:List Mnd)(k:Nat):Prop where
 low:lo<=bo
 rows:∃C,w.heap[bo]?=some (.cells C 130)/\C.size=ms.length*6/\∀i (h:i<ms.length),i<k->∀j,j<6->C[i*6+j]?=ms[i].cells[j]?
theorem jg.at {lo:Nat}{w:World}{bo:Nat}{ms:List Mnd}(h:jg lo w bo ms ms.length)(hs:∀i (h:i<ms.length),ms[i].Small)(hl:ms.length<=maxLen):qK w (some ⟨bo,0,none⟩) ms:=by
 obtain⟨C,hC,hsz,hr⟩:=h.rows;refine⟨hl,hs,fun _=>⟨bo,0,rfl,(gES hC).1,fun i hi j hj=>?_⟩⟩;rw[cell_of_block hC,Nat.zero_add];exact hr i hi hi j hj
theorem jg.later {lo:Nat}{w w':World}{bo:Nat}{ms:List Mnd}{k:Nat}(h:jg lo w bo ms k)(hb:Below w.heap.size w w'):jg lo w' bo ms k:=by
 obtain⟨C,hC,hsz,hr⟩:=h.rows;exact⟨h.low,C,(hb.block bo (gES hC).1).trans hC,hsz,hr⟩
end Go.Proofs.YtkficnallnpjnaaGreat
