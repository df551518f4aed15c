import Derived.Test.YtghnakljnhnenaaGreatM05
set_option maxHeartbeats 2000000
namespace Go.Proofs.YtghnakljnhnenaaGreat
structure Rl where
 vs:List Int
 kd:ByteArray
 tm:ByteArray
 px:ByteArray
namespace Gate
def zav (v:Int):Bool:=decide (1<=v) && decide (v<=5)
def qm (vs:List Int) (i:Nat):Bool:=zav (vs.getD i 0) && (decide (i=0) || decide (vs.getD (i - 1) 0 < vs.getD i 0))
def q8 (vs:List Int):Bool:=decide (0 < vs.length) && up (qm vs) vs.length
def qO (r:Rl):Bool:=(r.kd.toList.isEmpty || zy r.kd) && (r.tm.toList.isEmpty || zy r.tm)
def z8 (r:Rl):Bool:=qO r && (q8 r.vs && (decide (r.px.size<=16) && yZ r.px))
end Gate
end Go.Proofs.YtghnakljnhnenaaGreat
namespace Go.Proofs.YtghnakljnhnenaaGreat
open Go.RowKit
structure qp (w:World) (a:Option Addr) (vs:List Int):Prop where
 len:vs.length<=maxLen
 cells:vs ≠ []->∃ b off,a=some ⟨b,off,none⟩/\b < w.heap.size/\∀ i (h:i < vs.length),w.cell? ⟨b,off+i,none⟩=some (.int .i64 vs[i])
theorem qp.mono {w w':World} {a:Option Addr} {vs:List Int} (h:qp w a vs) (hb:Below w.heap.size w w'):qp w' a vs :=
 ⟨h.len,fun hne=>by
  obtain ⟨b,off,ha,hbs,hc⟩:=h.cells hne;exact ⟨b,off,ha,nLt hbs hb.size,fun i hi=>(hb.cell (p:=⟨b,off+i,none⟩) hbs).trans (hc i hi)⟩⟩
theorem qp.load {w w':World} {a:Option Addr} {vs:List Int} (h:qp w a vs) (hl:Below w.heap.size w w') (i:Nat) (hi:i < vs.length):∃ b off,a=some ⟨b,off,none⟩/\b < w.heap.size/\w'.cell? ⟨b,off+i,none⟩=some (.int .i64 vs[i]):=by
 obtain ⟨b,off,ha,hb,hc⟩:=h.cells (by rintro rfl;simp at hi);exact ⟨b,off,ha,hb,(hl.cell (p:=⟨b,off+i,none⟩) hb).trans (hc i hi)⟩
def zbo (vs:List Int):Array Value:=(vs.map (Value.int .i64)).toArray
def intCells (vs:List Int) (k:Nat):Array Value:=((vs.take k).map (Value.int .i64) ++ List.replicate (vs.length - k) (Value.int .i64 0)).toArray
theorem zmq (vs:List Int) (k:Nat) (h:k < vs.length):(intCells vs k)[k]?=some (.int .i64 0):=by
 unfold intCells;have hl:((vs.take k).map (Value.int .i64)).length=k:=by simp;omega
 rw [List.getElem?_toArray,List.getElem?_append_right (by omega),hl,Nat.sub_self];obtain ⟨m,hm⟩:∃ m,vs.length - k=m+1:=⟨vs.length - k - 1,by omega⟩
 rw [hm,List.replicate_succ];rfl
theorem zlr (vs:List Int) (k:Nat) (h:k < vs.length):(intCells vs k).setIfInBounds k (.int .i64 vs[k])=intCells vs (k+1):=by
 unfold intCells;rw [List.setIfInBounds_toArray,List.set_append_right _ _ (by simp;omega)]
 congr 1
 rw [tSe h,List.map_append,List.append_assoc]
 congr 1
 obtain ⟨m,hm⟩:∃ m,vs.length - k=m+1:=⟨vs.length - k - 1,by omega⟩
 rw [hm,show vs.length - (k+1)=m by omega]
 have:k - ((vs.take k).map (Value.int .i64)).length=0:=by simp;omega
 rw [this,List.replicate_succ]
 rfl
theorem zlA (vs:List Int) (k:Nat) (h:vs.length<=k):intCells vs k=zbo vs:=by
 unfold intCells zbo;rw [tOl h,show vs.length - k=0 by omega];simp
theorem zkn (vs:List Int):madeCells #[Value.int .i64 0] vs.length=intCells vs 0:=by
 apply Array.toList_inj.1
 rw [toList_madeCells_one]
 simp [intCells]
theorem zg7 {w:World} {bk:Nat} {vs:List Int} {t:TypeId} (h:w.heap[bk]?=some (.cells (zbo vs) t)) (hl:vs.length<=maxLen):qp w (some ⟨bk,0,none⟩) vs :=
 ⟨hl,fun _=>⟨bk,0,rfl,(gES h).1,fun i hi=>by
  simp [World.cell?,h,zbo,hi]⟩⟩
def Rl.cells (r:Rl) (a:Option Addr) (cap:Nat):Array Value:=#[.slice a r.vs.length cap,.string r.kd,.string r.tm,.string r.px]
structure Rl.Small (r:Rl):Prop where
 kd:r.kd.size<=maxLen
 tm:r.tm.size<=maxLen
 px:r.px.size<=maxLen
def Rl.sz (r:Rl):Nat:=r.vs.length+r.kd.size+r.tm.size+r.px.size
theorem zM {w:World} {b o:Nat} {v:Value} {b':Nat} (h:b' ≠ b):(w.setCell ⟨b,o,none⟩ v).heap[b']?=w.heap[b']?:=by
 simp only [World.setCell,Array.getElem?_modify];rw [if_neg (fun e=>h (Eq.symm e))]
structure Lw where
 ss:List Shp
 ms:List Mnd
 ts:List Tm
def Lw.cells (l:Lw) (a b c:Option Addr) (ca cb cc:Nat):Array Value:=#[.slice a l.ss.length ca,.slice b l.ms.length cb,.slice c l.ts.length cc]
structure y9 (w:World) (l:Lw) (a b c:Option Addr):Prop where
 ss:yI w a l.ss
 ms:yY w b l.ms
 ts:jk w c l.ts
theorem y9.mono {w w':World} {l:Lw} {a b c:Option Addr} (h:y9 w l a b c) (hb:Below w.heap.size w w'):y9 w' l a b c:=⟨h.ss.mono hb,h.ms.mono hb,h.ts.mono hb⟩
def Lw.sz (l:Lw):Nat:=zaT l.ss+zbr l.ms+zc3 l.ts
structure Lw.Few (l:Lw):Prop where
 ss:l.ss.length<=1048576/\∀ i (h:i < l.ss.length),l.ss[i].fs.length<=1048576/\∀ j (h':j < l.ss[i].fs.length),l.ss[i].fs[j].ws.length<=1048576
 ms:l.ms.length<=1048576
 ts:l.ts.length<=1048576
theorem Lw.few {l:Lw} (h:(l.sz:Int)<=1048576):l.Few:=by
 unfold Lw.sz at h;refine ⟨zpB (by omega),?_,?_⟩
 ·unfold zbr at h;omega
 ·unfold zc3 at h;omega
theorem zki (l:Lw) (a b c:Option Addr) (ca cb cc:Nat) (left:Int) (w:World) (hl:y9 w l a b c) (h0:0<=left) (h1:left<=1048576) :
 Calls Tryz.prog 4 #[.agg (l.cells a b c ca cb cc),.int .i64 left] w fun e w'=>e = .returned (.int .i64 (zL l.sz left))/\Below w.heap.size w w':=by
 have HL:Hid (y9 w l a b c):=hl;clear hl;unfold Lw.cells;go_enter Tryz.func4,Tryz.ntmps4;go_wp2_with fail
 refine (zg3 _ _ l.ss _ _ (HL.out.ss.mono (bAl _ _)) h0 h1).mono ?_;rintro e w1 ⟨rfl,hb⟩;have hX1:=za (zm w #[.slice a l.ss.length ca,.slice b l.ms.length cb,.slice c l.ts.length cc] 26) (by simp) hb;have hz1:w.heap.size < w1.heap.size:=by have:=hb.size;simp at this;omega
 have hB1:Below w.heap.size w w1:=(bAl _ _).trans (hb.mono (by simp));clear hb
 by_cases c1:(zaT l.ss:Int)<=left
 rotate_left
 ·have HF:Hid (zL l.sz left=-1):=zC (by unfold Lw.sz;omega)
  rw [zC c1];go_wp2_with fail
  go_ret;exact ⟨zq HF.out.symm,hB1⟩
 rw [zN c1];go_wp2_with fail
 refine (zhR _ _ l.ms _ _ (HL.out.ms.mono hB1) (by omega) (by omega)).mono ?_;rintro e w2 ⟨rfl,hb⟩;have hX2:=za hX1 hz1 hb;have hz2:=nLt hz1 hb.size;have hB2:=hB1.trans (hb.mono hB1.size);clear hb hX1 hz1 hB1
 by_cases c2:(zbr l.ms:Int)<=left - zaT l.ss
 rotate_left
 ·have HF:Hid (zL l.sz left=-1):=zC (by unfold Lw.sz;omega)
  rw [zC c2];go_wp2_with fail
  go_ret;exact ⟨zq HF.out.symm,hB2⟩
 rw [zN c2];go_wp2_with fail
 refine (zhU _ _ l.ts _ _ (HL.out.ts.mono hB2) (by omega) (by omega)).mono ?_;rintro e w3 ⟨rfl,hb⟩;have hB3:=hB2.trans (hb.mono hB2.size);clear hb hX2 hz2 hB2
 by_cases c3:(zc3 l.ts:Int)<=left - zaT l.ss - zbr l.ms
 rotate_left
 ·have HF:Hid (zL l.sz left=-1):=zC (by unfold Lw.sz;omega)
  rw [zC c3];go_wp2_with fail
  go_ret;exact ⟨zq HF.out.symm,hB3⟩
 have HF:Hid (zL l.sz left=left - zaT l.ss - zbr l.ms - zc3 l.ts):=by
  unfold Hid;rw [zN (by unfold Lw.sz;omega)];unfold Lw.sz;omega
 rw [zN c3];go_wp2_with fail
 go_ret;exact ⟨zq HF.out.symm,hB3⟩
theorem zke (l:Lw) (a b c a' b' c':Option Addr) (ca cb cc ca' cb' cc':Nat) (w:World) (hl:y9 w l a b c) (hl':y9 w l a' b' c') :
 Calls Tryz.prog 11 #[.agg (l.cells a b c ca cb cc),.agg (l.cells a' b' c' ca' cb' cc')] w fun e w'=>e = .returned (.bool true)/\Below w.heap.size w w':=by
 unfold Lw.cells;go_enter Tryz.func11,Tryz.ntmps11;go_wp2_with fail
 refine (zgV _ _ _ _ l.ss _ (hl.ss.mono (zA _ _ _)) (hl'.ss.mono (zA _ _ _))).mono ?_;rintro e w1 ⟨rfl,hb⟩;have hX1:=za (za (zm w _ _) (by simp) (bAl _ _)) (by simp;omega) hb;have hY1:=za (zm (w.alloc (.cells #[.slice a l.ss.length ca,.slice b l.ms.length cb,.slice c l.ts.length cc] 41)) #[.slice a' l.ss.length ca',.slice b' l.ms.length cb',.slice c' l.ts.length cc'] 41) (by simp) hb;have hz1:w.heap.size+1 < w1.heap.size:=by have:=hb.size;simp at this;omega
 have hB1:=(zA w _ _).trans (hb.mono (by simp;omega));rw [World.size_alloc] at hY1;clear hb;go_wp2_with fail
 refine (zij _ _ _ _ l.ms _ (hl.ms.mono hB1) (hl'.ms.mono hB1)).mono ?_;rintro e w2 ⟨rfl,hb⟩;have hX2:=za hX1 (nSl hz1) hb;have hY2:=za hY1 hz1 hb;have hz2:=nLt hz1 hb.size;have hB2:=hB1.trans (hb.mono hB1.size);clear hb hX1 hY1 hz1 hB1;go_wp2_with fail
 refine (zhX _ _ _ _ l.ts _ (hl.ts.mono hB2) (hl'.ts.mono hB2)).mono ?_;rintro e w3 ⟨rfl,hb⟩;have hB3:=hB2.trans (hb.mono hB2.size);clear hb hX2 hY2 hz2 hB2;go_wp2_with fail
 go_ret;exact ⟨rfl,hB3⟩
theorem below3' (w:World) (o o' o'':Obj):Below w.heap.size w (((w.alloc o).alloc o').alloc o''):=((bAl _ _).alloc (by simp) _).alloc (by simp;omega) _
theorem zo9 (w:World) (o1 o2 o3:Obj):(((w.alloc o1).alloc o2).alloc o3).heap[w.heap.size]?=some o1/\(((w.alloc o1).alloc o2).alloc o3).heap[w.heap.size+1]?=some o2/\(((w.alloc o1).alloc o2).alloc o3).heap[w.heap.size+1+1]?=some o3:=by
 have h1:=(MapKept.heap_alloc w o1).1;have h2:=(MapKept.heap_alloc (w.alloc o1) o2).1;have h3:=(MapKept.heap_alloc ((w.alloc o1).alloc o2) o3).1;simp only [World.size_alloc] at h2 h3;exact ⟨(Below.heap_alloc _ _ _ (by simp;omega)).trans ((Below.heap_alloc _ _ _ (by simp)).trans h1),(Below.heap_alloc _ _ _ (by simp)).trans h2,h3⟩
structure yQ (lo:Nat) (w w':World):Prop where
 size:w.heap.size<=w'.heap.size
 same:∀ b,lo<=b->b < w.heap.size->w'.heap[b]?=w.heap[b]?
theorem yQ.trans {lo:Nat} {w w1 w2:World} (h:yQ lo w w1) (h':yQ lo w1 w2):yQ lo w w2 :=
 ⟨Nat.le_trans h.size h'.size,fun b h1 h2=>(h'.same b h1 (nLt h2 h.size)).trans (h.same b h1 h2)⟩
theorem yQ.mono {lo lo':Nat} {w w':World} (h:yQ lo w w') (hl:lo<=lo'):yQ lo' w w':=⟨h.size,fun b h1 h2=>h.same b (Nat.le_trans hl h1) h2⟩
theorem yQ.below {lo:Nat} {w w':World} (h:Below w.heap.size w w'):yQ lo w w':=⟨h.size,fun b _ h2=>h.block b h2⟩
theorem yQ.setCell {lo:Nat} {w:World} {p:Addr} (hp:p.block < lo) (v:Value):yQ lo w (w.setCell p v) :=
 ⟨by rw [World.size_setCell];exact Nat.le_refl _,fun b h1 _=>Below.heap_setCell _ _ _ _ (by omega)⟩
theorem qL.above {lo:Nat} {w w':World} {bf:Nat} {fs:List Fld} {k:Nat} (h:qL lo w bf fs k) (ha:yQ lo w w'):qL lo w' bf fs k:=by
 obtain ⟨C,hC,hsz,hr⟩:=h.rows;refine ⟨h.low,C,(ha.same _ h.low (gES hC).1).trans hC,hsz,fun i hi hk=>?_⟩;obtain ⟨bk,h1,h2,h3,h4⟩:=hr i hi hk;exact ⟨bk,h1,h2,(ha.same _ h1 (gES h3).1).trans h3,h4⟩
theorem jU.above {lo:Nat} {w w':World} {bo:Nat} {ss:List Shp} {k:Nat} (h:jU lo w bo ss k) (ha:yQ lo w w'):jU lo w' bo ss k:=by
 obtain ⟨C,hC,hsz,hr⟩:=h.rows;refine ⟨h.low,C,(ha.same _ h.low (gES hC).1).trans hC,hsz,fun i hi hk=>?_⟩;obtain ⟨bf,h1,h2,h3,h4⟩:=hr i hi hk;exact ⟨bf,h1,h2,h3.above (ha.mono (Nat.le_succ_of_le h.low)),h4⟩
theorem jg.above {lo:Nat} {w w':World} {bo:Nat} {ms:List Mnd} {k:Nat} (h:jg lo w bo ms k) (ha:yQ lo w w'):jg lo w' bo ms k:=by
 obtain ⟨C,hC,hr⟩:=h.rows;exact ⟨h.low,C,(ha.same _ h.low (gES hC).1).trans hC,hr⟩
theorem zab.above {ty:TypeId} {lo:Nat} {w w':World} {bo:Nat} {ts:List Tm} {k:Nat} (h:zab ty lo w bo ts k) (ha:yQ lo w w'):zab ty lo w' bo ts k:=by
 obtain ⟨C,hC,hr⟩:=h.rows;exact ⟨h.low,C,(ha.same _ h.low (gES hC).1).trans hC,hr⟩
structure zlS (lo:Nat) (w:World) (l:Lw) (a b c:Nat):Prop where
 ss:jU lo w a l.ss l.ss.length
 ms:jg lo w b l.ms l.ms.length
 ts:zab 127 lo w c l.ts l.ts.length
structure Lw.Small (l:Lw):Prop where
 ss:zdr l.ss
 ls:l.ss.length<=maxLen
 ms:∀ i (h:i < l.ms.length),l.ms[i].Small
 lm:l.ms.length<=maxLen
 ts:∀ i (h:i < l.ts.length),l.ts[i].Small
 lt:l.ts.length<=maxLen
theorem y9.small {w:World} {l:Lw} {a b c:Option Addr} (h:y9 w l a b c):l.Small:=⟨h.ss.smalls,h.ss.len,h.ms.small,h.ms.len,h.ts.small,h.ts.len⟩
theorem zlS.at {lo:Nat} {w:World} {l:Lw} {a b c:Nat} (h:zlS lo w l a b c) (hs:l.Small):y9 w l (some ⟨a,0,none⟩) (some ⟨b,0,none⟩) (some ⟨c,0,none⟩):=⟨h.ss.at hs.ss hs.ls,h.ms.at hs.ms hs.lm,h.ts.at hs.ts hs.lt⟩
end Go.Proofs.YtghnakljnhnenaaGreat
namespace Go.Proofs.YtghnakljnhnenaaGreat
structure Ob where
 kd:ByteArray
 nm:ByteArray
 tm:ByteArray
 vs:List ByteArray
 en:Bool
 hs:List ByteArray
 vr:Int
structure Ob.Small (o:Ob):Prop where
 kd:o.kd.size<=maxLen
 nm:o.nm.size<=maxLen
 tm:o.tm.size<=maxLen
namespace Gate
def zaf (f:Fld) (v:ByteArray):Int:=if v.size=0 then (if f.mu then 2 else 0) else if zeK f v then 0 else 3
def zdJ (fs:List Fld) (vs:List ByteArray) (i:Nat):Int:=zaf (fs.getD i zbC) (vs.getD i ByteArray.empty)
def zbe (fs:List Fld) (vs:List ByteArray) (i:Nat):Bool:=decide (zdJ fs vs i=0)
def jS (fs:List Fld) (vs:List ByteArray):Int × Int:=match (List.range fs.length).find? (fun i=>!zbe fs vs i) with | some i=>(zdJ fs vs i,i) | none=>(0,0)
theorem find_range {P:Nat->Bool} {n k:Nat} (hk:k < n) (hu:up P k=true) (hp:P k=false):(List.range n).find? (fun i=>!P i)=some k:=by
 rw [List.find?_eq_some_iff_getElem];refine ⟨by simp [hp],k,by simpa using hk,by simp,fun j hj=>?_⟩
 have:=ze6 hj hu
 simp [this]
theorem zh7 {P:Nat->Bool} {n:Nat} (hu:up P n=true):(List.range n).find? (fun i=>!P i)=none:=by
 rw [List.find?_eq_none];intro x hx
 have:=ze6 (List.mem_range.1 hx) hu
 simp [this]
theorem zkv {fs:List Fld} {vs:List ByteArray} {k:Nat} (hk:k < fs.length) (hu:up (zbe fs vs) k=true) (hp:zbe fs vs k=false):jS fs vs=(zdJ fs vs k,(k:Int)):=by
 unfold jS;rw [find_range hk hu hp]
theorem zhz {fs:List Fld} {vs:List ByteArray} (hu:up (zbe fs vs) fs.length=true):jS fs vs=(0,0):=by
 unfold jS;rw [zh7 hu]
theorem zjr {fs:List Fld} {vs:List ByteArray} {k:Nat} (h1:k < fs.length) (h2:k < vs.length):zdJ fs vs k=zaf fs[k] vs[k]:=by
 unfold zdJ;rw [getD_at fs k _ h1,getD_at vs k _ h2]
def qM (o:Ob):Bool:=zy o.nm && zy o.tm
def qZ (o:Ob):Bool:=decide (o.hs.length<=3) && asc o.hs
def qA (o:Ob):Bool:=decide (0<=o.vr) && decide (o.vr<=1000000)
def zx (ss:List Shp) (o:Ob):Bool:=zF ss o.kd && decide (o.vs.length=(shapeOf ss o.kd).fs.length)
def whole (ss:List Shp) (o:Ob):Bool:=qM o && qZ o && qA o && zx ss o
def yH (ss:List Shp) (o:Ob):Int × Int:=if whole ss o=true then jS (shapeOf ss o.kd).fs o.vs else (1,0)
end Gate
end Go.Proofs.YtghnakljnhnenaaGreat
