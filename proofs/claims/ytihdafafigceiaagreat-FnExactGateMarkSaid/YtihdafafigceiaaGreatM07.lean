import Derived.Test.YtihdafafigceiaaGreatM06
import Derived.Test.YtihdafafigceiaaGreatM03
import Derived.Test.YtihdafafigceiaaGreatM04
import Derived.Test.YtihdafafigceiaaGreatM05
import Derived.Deep.RegionHeld3
import Derived.Test.YtihdafafigceiaaGreatM01
set_option maxHeartbeats 2000000
namespace Go.Proofs.YtihdafafigceiaaGreat
open Go.RowKit
structure y8 (w:World) (a:Option Addr) (vs:List Int):Prop where
 len:vs.length<=maxLen
 cells:vs ≠ []->∃ b off,a=some ⟨b,off,none⟩/\b < w.heap.size/\∀ i (h:i < vs.length),w.cell? ⟨b,off+i,none⟩=some (.int .i64 vs[i])
theorem y8.mono {w w':World} {a:Option Addr} {vs:List Int} (h:y8 w a vs) (hb:Below w.heap.size w w'):y8 w' a vs :=
 ⟨h.len,fun hne=>by
  obtain ⟨b,off,ha,hbs,hc⟩:=h.cells hne
  exact ⟨b,off,ha,Nat.lt_of_lt_of_le hbs hb.size,fun i hi=>(hb.cell (p:=⟨b,off+i,none⟩) hbs).trans (hc i hi)⟩⟩
theorem y8.load {w w':World} {a:Option Addr} {vs:List Int} (h:y8 w a vs) (hl:Below w.heap.size w w') (i:Nat) (hi:i < vs.length):∃ b off,a=some ⟨b,off,none⟩/\b < w.heap.size/\w'.cell? ⟨b,off+i,none⟩=some (.int .i64 vs[i]):=by
 obtain ⟨b,off,ha,hb,hc⟩:=h.cells (by rintro rfl;simp at hi)
 exact ⟨b,off,ha,hb,(hl.cell (p:=⟨b,off+i,none⟩) hb).trans (hc i hi)⟩
def zbd (vs:List Int):Array Value:=(vs.map (Value.int .i64)).toArray
def intCells (vs:List Int) (k:Nat):Array Value:=((vs.take k).map (Value.int .i64) ++ List.replicate (vs.length - k) (Value.int .i64 0)).toArray
theorem zlG (vs:List Int) (k:Nat) (h:k < vs.length):(intCells vs k)[k]?=some (.int .i64 0):=by
 unfold intCells
 have hl:((vs.take k).map (Value.int .i64)).length=k:=by simp;omega
 rw [List.getElem?_toArray,List.getElem?_append_right (by omega),hl,Nat.sub_self]
 obtain ⟨m,hm⟩:∃ m,vs.length - k=m+1:=⟨vs.length - k - 1,by omega⟩
 rw [hm,List.replicate_succ];rfl
theorem zkS (vs:List Int) (k:Nat) (h:k < vs.length):(intCells vs k).setIfInBounds k (.int .i64 vs[k])=intCells vs (k+1):=by
 unfold intCells
 rw [List.setIfInBounds_toArray,List.set_append_right _ _ (by simp;omega)]
 congr 1
 rw [List.take_succ_eq_append_getElem h,List.map_append,List.append_assoc]
 congr 1
 obtain ⟨m,hm⟩:∃ m,vs.length - k=m+1:=⟨vs.length - k - 1,by omega⟩
 rw [hm,show vs.length - (k+1)=m by omega]
 have:k - ((vs.take k).map (Value.int .i64)).length=0:=by simp;omega
 rw [this,List.replicate_succ]
 rfl
theorem zkV (vs:List Int) (k:Nat) (h:vs.length<=k):intCells vs k=zbd vs:=by
 unfold intCells zbd
 rw [List.take_of_length_le h,show vs.length - k=0 by omega];simp
theorem zju (vs:List Int):madeCells #[Value.int .i64 0] vs.length=intCells vs 0:=by
 apply Array.toList_inj.1
 rw [toList_madeCells_one]
 simp [intCells]
theorem zgN {w:World} {bk:Nat} {vs:List Int} {t:TypeId} (h:w.heap[bk]?=some (.cells (zbd vs) t)) (hl:vs.length<=maxLen):y8 w (some ⟨bk,0,none⟩) vs :=
 ⟨hl,fun _=>⟨bk,0,rfl,(Array.getElem?_eq_some_iff.1 h).1,fun i hi=>by
  simp [World.cell?,h,zbd,hi]⟩⟩
def Rl.cells (r:Rl) (a:Option Addr) (cap:Nat):Array Value:=#[.slice a r.vs.length cap,.string r.kd,.string r.tm,.string r.px]
structure Rl.Small (r:Rl):Prop where
 kd:r.kd.size<=maxLen
 tm:r.tm.size<=maxLen
 px:r.px.size<=maxLen
def Rl.sz (r:Rl):Nat:=r.vs.length+r.kd.size+r.tm.size+r.px.size
theorem zM {w:World} {b o:Nat} {v:Value} {b':Nat} (h:b' ≠ b):(w.setCell ⟨b,o,none⟩ v).heap[b']?=w.heap[b']?:=by
 simp only [World.setCell,Array.getElem?_modify]
 rw [if_neg (fun e=>h (Eq.symm e))]
structure Lw where
 ss:List Shp
 ms:List Mnd
 ts:List Tm
def Lw.cells (l:Lw) (a b c:Option Addr) (ca cb cc:Nat):Array Value:=#[.slice a l.ss.length ca,.slice b l.ms.length cb,.slice c l.ts.length cc]
structure y9 (w:World) (l:Lw) (a b c:Option Addr):Prop where
 ss:yI w a l.ss
 ms:yU w b l.ms
 ts:jl w c l.ts
theorem y9.mono {w w':World} {l:Lw} {a b c:Option Addr} (h:y9 w l a b c) (hb:Below w.heap.size w w'):y9 w' l a b c:=⟨h.ss.mono hb,h.ms.mono hb,h.ts.mono hb⟩
def Lw.sz (l:Lw):Nat:=zaN l.ss+zba l.ms+zcE l.ts
structure Lw.Few (l:Lw):Prop where
 ss:l.ss.length<=1048576/\∀ i (h:i < l.ss.length),l.ss[i].fs.length<=1048576/\∀ j (h':j < l.ss[i].fs.length),l.ss[i].fs[j].ws.length<=1048576
 ms:l.ms.length<=1048576
 ts:l.ts.length<=1048576
theorem Lw.few {l:Lw} (h:(l.sz:Int)<=1048576):l.Few:=by
 unfold Lw.sz at h
 refine ⟨zoI (by omega),?_,?_⟩
 ·unfold zba at h;omega
 ·unfold zcE at h;omega
theorem zjJ (l:Lw) (a b c:Option Addr) (ca cb cc:Nat) (left:Int) (w:World) (hl:y9 w l a b c) (h0:0<=left) (h1:left<=1048576) :
 Calls Tryz.prog 4 #[.agg (l.cells a b c ca cb cc),.int .i64 left] w fun e w'=>e = .returned (.int .i64 (zK l.sz left))/\Below w.heap.size w w':=by
 have HL:Hid (y9 w l a b c):=hl
 clear hl
 unfold Lw.cells
 go_enter Tryz.func4,Tryz.ntmps4
 go_wp2_with fail
 refine (zgJ _ _ l.ss _ _ (HL.out.ss.mono ((Below.refl _ _).alloc (Nat.le_refl _) _)) h0 h1).mono ?_
 rintro e w1 ⟨rfl,hb⟩
 have hX1:=za (zm w #[.slice a l.ss.length ca,.slice b l.ms.length cb,.slice c l.ts.length cc] 26) (by simp) hb
 have hz1:w.heap.size < w1.heap.size:=by have:=hb.size;simp at this;omega
 have hB1:Below w.heap.size w w1:=((Below.refl _ _).alloc (Nat.le_refl _) _).trans (hb.mono (by simp))
 clear hb
 by_cases c1:(zaN l.ss:Int)<=left
 rotate_left
 ·have HF:Hid (zK l.sz left=-1):=zC (by unfold Lw.sz;omega)
  rw [zC c1]
  go_wp2_with fail
  go_ret
  exact ⟨zq HF.out.symm,hB1⟩
 rw [zL c1]
 go_wp2_with fail
 refine (zhs _ _ l.ms _ _ (HL.out.ms.mono hB1) (by omega) (by omega)).mono ?_
 rintro e w2 ⟨rfl,hb⟩
 have hX2:=za hX1 hz1 hb
 have hz2:=Nat.lt_of_lt_of_le hz1 hb.size
 have hB2:=hB1.trans (hb.mono hB1.size)
 clear hb hX1 hz1 hB1
 by_cases c2:(zba l.ms:Int)<=left - zaN l.ss
 rotate_left
 ·have HF:Hid (zK l.sz left=-1):=zC (by unfold Lw.sz;omega)
  rw [zC c2]
  go_wp2_with fail
  go_ret
  exact ⟨zq HF.out.symm,hB2⟩
 rw [zL c2]
 go_wp2_with fail
 refine (zhM _ _ l.ts _ _ (HL.out.ts.mono hB2) (by omega) (by omega)).mono ?_
 rintro e w3 ⟨rfl,hb⟩
 have hB3:=hB2.trans (hb.mono hB2.size)
 clear hb hX2 hz2 hB2
 by_cases c3:(zcE l.ts:Int)<=left - zaN l.ss - zba l.ms
 rotate_left
 ·have HF:Hid (zK l.sz left=-1):=zC (by unfold Lw.sz;omega)
  rw [zC c3]
  go_wp2_with fail
  go_ret
  exact ⟨zq HF.out.symm,hB3⟩
 have HF:Hid (zK l.sz left=left - zaN l.ss - zba l.ms - zcE l.ts):=by
  unfold Hid;rw [zL (by unfold Lw.sz;omega)];unfold Lw.sz;omega
 rw [zL c3]
 go_wp2_with fail
 go_ret
 exact ⟨zq HF.out.symm,hB3⟩
theorem zjA (l:Lw) (a b c a' b' c':Option Addr) (ca cb cc ca' cb' cc':Nat) (w:World) (hl:y9 w l a b c) (hl':y9 w l a' b' c') :
 Calls Tryz.prog 11 #[.agg (l.cells a b c ca cb cc),.agg (l.cells a' b' c' ca' cb' cc')] w fun e w'=>e = .returned (.bool true)/\Below w.heap.size w w':=by
 unfold Lw.cells
 go_enter Tryz.func11,Tryz.ntmps11
 go_wp2_with fail
 refine (zgx _ _ _ _ l.ss _ (hl.ss.mono (zA _ _ _)) (hl'.ss.mono (zA _ _ _))).mono ?_
 rintro e w1 ⟨rfl,hb⟩
 have hX1:=za (za (zm w _ _) (by simp) ((Below.refl _ _).alloc (Nat.le_refl _) _)) (by simp;omega) hb
 have hY1:=za (zm (w.alloc (.cells #[.slice a l.ss.length ca,.slice b l.ms.length cb,.slice c l.ts.length cc] 41)) #[.slice a' l.ss.length ca',.slice b' l.ms.length cb',.slice c' l.ts.length cc'] 41) (by simp) hb
 have hz1:w.heap.size+1 < w1.heap.size:=by have:=hb.size;simp at this;omega
 have hB1:=(zA w _ _).trans (hb.mono (by simp;omega))
 rw [World.size_alloc] at hY1
 clear hb
 go_wp2_with fail
 refine (zhk _ _ _ _ l.ms _ (hl.ms.mono hB1) (hl'.ms.mono hB1)).mono ?_
 rintro e w2 ⟨rfl,hb⟩
 have hX2:=za hX1 (Nat.lt_of_succ_lt hz1) hb
 have hY2:=za hY1 hz1 hb
 have hz2:=Nat.lt_of_lt_of_le hz1 hb.size
 have hB2:=hB1.trans (hb.mono hB1.size)
 clear hb hX1 hY1 hz1 hB1
 go_wp2_with fail
 refine (zhl _ _ _ _ l.ts _ (hl.ts.mono hB2) (hl'.ts.mono hB2)).mono ?_
 rintro e w3 ⟨rfl,hb⟩
 have hB3:=hB2.trans (hb.mono hB2.size)
 clear hb hX2 hY2 hz2 hB2
 go_wp2_with fail
 go_ret
 exact ⟨rfl,hB3⟩
theorem below3' (w:World) (o o' o'':Obj):Below w.heap.size w (((w.alloc o).alloc o').alloc o''):=(((Below.refl _ _).alloc (Nat.le_refl _) _).alloc (by simp) _).alloc (by simp;omega) _
theorem zon (w:World) (o1 o2 o3:Obj):(((w.alloc o1).alloc o2).alloc o3).heap[w.heap.size]?=some o1/\(((w.alloc o1).alloc o2).alloc o3).heap[w.heap.size+1]?=some o2/\(((w.alloc o1).alloc o2).alloc o3).heap[w.heap.size+1+1]?=some o3:=by
 have h1:=(MapKept.heap_alloc w o1).1
 have h2:=(MapKept.heap_alloc (w.alloc o1) o2).1
 have h3:=(MapKept.heap_alloc ((w.alloc o1).alloc o2) o3).1
 simp only [World.size_alloc] at h2 h3
 exact ⟨(Below.heap_alloc _ _ _ (by simp;omega)).trans ((Below.heap_alloc _ _ _ (by simp)).trans h1),(Below.heap_alloc _ _ _ (by simp)).trans h2,h3⟩
structure yO (lo:Nat) (w w':World):Prop where
 size:w.heap.size<=w'.heap.size
 same:∀ b,lo<=b->b < w.heap.size->w'.heap[b]?=w.heap[b]?
theorem yO.trans {lo:Nat} {w w1 w2:World} (h:yO lo w w1) (h':yO lo w1 w2):yO lo w w2 :=
 ⟨Nat.le_trans h.size h'.size,fun b h1 h2=>(h'.same b h1 (Nat.lt_of_lt_of_le h2 h.size)).trans (h.same b h1 h2)⟩
theorem yO.mono {lo lo':Nat} {w w':World} (h:yO lo w w') (hl:lo<=lo'):yO lo' w w':=⟨h.size,fun b h1 h2=>h.same b (Nat.le_trans hl h1) h2⟩
theorem yO.below {lo:Nat} {w w':World} (h:Below w.heap.size w w'):yO lo w w':=⟨h.size,fun b _ h2=>h.block b h2⟩
theorem yO.setCell {lo:Nat} {w:World} {p:Addr} (hp:p.block < lo) (v:Value):yO lo w (w.setCell p v) :=
 ⟨by rw [World.size_setCell];exact Nat.le_refl _,fun b h1 _=>Below.heap_setCell _ _ _ _ (by omega)⟩
theorem qH.above {lo:Nat} {w w':World} {bf:Nat} {fs:List Fld} {k:Nat} (h:qH lo w bf fs k) (ha:yO lo w w'):qH lo w' bf fs k:=by
 obtain ⟨C,hC,hsz,hr⟩:=h.rows
 refine ⟨h.low,C,(ha.same _ h.low (Array.getElem?_eq_some_iff.1 hC).1).trans hC,hsz,fun i hi hk=>?_⟩
 obtain ⟨bk,h1,h2,h3,h4⟩:=hr i hi hk
 exact ⟨bk,h1,h2,(ha.same _ h1 (Array.getElem?_eq_some_iff.1 h3).1).trans h3,h4⟩
theorem jQ.above {lo:Nat} {w w':World} {bo:Nat} {ss:List Shp} {k:Nat} (h:jQ lo w bo ss k) (ha:yO lo w w'):jQ lo w' bo ss k:=by
 obtain ⟨C,hC,hsz,hr⟩:=h.rows
 refine ⟨h.low,C,(ha.same _ h.low (Array.getElem?_eq_some_iff.1 hC).1).trans hC,hsz,fun i hi hk=>?_⟩
 obtain ⟨bf,h1,h2,h3,h4⟩:=hr i hi hk
 exact ⟨bf,h1,h2,h3.above (ha.mono (Nat.le_succ_of_le h.low)),h4⟩
theorem jg.above {lo:Nat} {w w':World} {bo:Nat} {ms:List Mnd} {k:Nat} (h:jg lo w bo ms k) (ha:yO lo w w'):jg lo w' bo ms k:=by
 obtain ⟨C,hC,hr⟩:=h.rows
 exact ⟨h.low,C,(ha.same _ h.low (Array.getElem?_eq_some_iff.1 hC).1).trans hC,hr⟩
theorem j5.above {ty:TypeId} {lo:Nat} {w w':World} {bo:Nat} {ts:List Tm} {k:Nat} (h:j5 ty lo w bo ts k) (ha:yO lo w w'):j5 ty lo w' bo ts k:=by
 obtain ⟨C,hC,hr⟩:=h.rows
 exact ⟨h.low,C,(ha.same _ h.low (Array.getElem?_eq_some_iff.1 hC).1).trans hC,hr⟩
structure zlf (lo:Nat) (w:World) (l:Lw) (a b c:Nat):Prop where
 ss:jQ lo w a l.ss l.ss.length
 ms:jg lo w b l.ms l.ms.length
 ts:j5 123 lo w c l.ts l.ts.length
structure Lw.Small (l:Lw):Prop where
 ss:zdn l.ss
 ls:l.ss.length<=maxLen
 ms:∀ i (h:i < l.ms.length),l.ms[i].Small
 lm:l.ms.length<=maxLen
 ts:∀ i (h:i < l.ts.length),l.ts[i].Small
 lt:l.ts.length<=maxLen
theorem y9.small {w:World} {l:Lw} {a b c:Option Addr} (h:y9 w l a b c):l.Small:=⟨h.ss.smalls,h.ss.len,h.ms.small,h.ms.len,h.ts.small,h.ts.len⟩
theorem zlf.at {lo:Nat} {w:World} {l:Lw} {a b c:Nat} (h:zlf lo w l a b c) (hs:l.Small):y9 w l (some ⟨a,0,none⟩) (some ⟨b,0,none⟩) (some ⟨c,0,none⟩):=⟨h.ss.at hs.ss hs.ls,h.ms.at hs.ms hs.lm,h.ts.at hs.ts hs.lt⟩
def Ob.row (o:Ob) (a0 a1:Option Addr) (c0 c1:Nat):Array Value:=#[.string o.kd,.string o.nm,.string o.tm,.slice a0 o.vs.length c0,.bool o.en,.slice a1 o.hs.length c1,.int .i64 o.vr]
def Ob.sz (o:Ob):Nat:=zdg o
theorem Ob.zmy {o:Ob} (h:(o.sz:Int)<=1048576):o.vs.length<=1048576/\o.hs.length<=1048576:=zo6 h (Int.le_refl _)
theorem zc9 (o:Ob) (a0 a1:Option Addr) (c0 c1:Nat) (left:Int) (w:World) (hm:o.Small) (h0':zD w a0 o.vs) (h1':zD w a1 o.hs) (h0:0<=left) (h1:left<=1048576) :
 Calls Tryz.prog 52 #[.agg (o.row a0 a1 c0 c1),.int .i64 left] w fun e w'=>e = .returned (.int .i64 (zK o.sz left))/\Below w.heap.size w w':=zgD o a0 a1 c0 c1 left w ⟨hm,h0',h1'⟩ h0 h1
theorem zgr (o:Ob) (a0 a1:Option Addr) (c0 c1:Nat) (a0' a1':Option Addr) (c0' c1':Nat) (w:World) (hm:o.Small) (h0:zD w a0 o.vs) (h1:zD w a1 o.hs) (h0':zD w a0' o.vs) (h1':zD w a1' o.hs) :
 Calls Tryz.prog 76 #[.agg (o.row a0 a1 c0 c1),.agg (o.row a0' a1' c0' c1')] w fun e w'=>e = .returned (.bool true)/\Below w.heap.size w w':=zgC o a0 a1 a0' a1' c0 c1 c0' c1' w ⟨hm,h0,h1⟩ ⟨hm,h0',h1'⟩
theorem zgQ (o:Ob) (a0 a1:Option Addr) (c0 c1:Nat) (w:World) (hm:o.Small) (h0:zD w a0 o.vs) (h1:zD w a1 o.hs) (hl:o.vs.length<=1048576/\o.hs.length<=1048576) :
 Calls Tryz.prog 65 #[.agg (o.row a0 a1 c0 c1)] w fun e w'=>∃ g0 g1,e = .returned (.agg (o.row (some ⟨g0,0,none⟩) (some ⟨g1,0,none⟩) o.vs.length o.hs.length))/\w.heap.size<=g0/\w'.heap[g0]?=some (.cells (jA o.vs) 9)/\w.heap.size<=g1/\w'.heap[g1]?=some (.cells (jA o.hs) 9)/\Below w.heap.size w w':=by
 refine (zgz o a0 a1 c0 c1 w ⟨hm,h0,h1⟩ hl.1 hl.2).mono ?_
 rintro e w' ⟨bv,bh,he,hv,hh,_,hbv,hbh,hb⟩
 exact ⟨bv,bh,he,hv,hbv,hh,hbh,hb⟩
structure znX (w:World) (b off:Nat) (x:Ob) (a0 a1:Option Addr) (c0 c1:Nat):Prop where
 small:x.Small
 l0:zD w a0 x.vs
 l1:zD w a1 x.hs
 cell:∀ j,j < 7->w.cell? ⟨b,off+j,none⟩=(Ob.row x a0 a1 c0 c1)[j]?
structure zbq (w:World) (a:Option Addr) (ms:List Ob):Prop where
 len:ms.length<=maxLen
 rows:ms ≠ []->∃ b off,a=some ⟨b,off,none⟩/\b < w.heap.size/\∀ i (h:i < ms.length),∃ a0 a1 c0 c1,znX w b (off+i * 7) ms[i] a0 a1 c0 c1
theorem znX.mono {w w':World} {b off:Nat} {x:Ob} {a0 a1:Option Addr} {c0 c1:Nat} (h:znX w b off x a0 a1 c0 c1) (hb:b < w.heap.size) (hl:Below w.heap.size w w'):znX w' b off x a0 a1 c0 c1 :=
 ⟨h.small,h.l0.mono hl,h.l1.mono hl,fun j hj=>(hl.cell (p:=⟨b,off+j,none⟩) hb).trans (h.cell j hj)⟩
theorem zbq.mono {w w':World} {a:Option Addr} {ms:List Ob} (h:zbq w a ms) (hl:Below w.heap.size w w'):zbq w' a ms :=
 ⟨h.len,fun hne=>by
  obtain ⟨b,off,ha,hb,hr⟩:=h.rows hne
  refine ⟨b,off,ha,Nat.lt_of_lt_of_le hb hl.size,fun i hi=>?_⟩
  obtain ⟨a0,a1,c0,c1,hf⟩:=hr i hi
  exact ⟨a0,a1,c0,c1,hf.mono hb hl⟩⟩
theorem zbq.load {w w':World} {a:Option Addr} {ms:List Ob} (h:zbq w a ms) (hl:Below w.heap.size w w') (i:Nat) (hi:i < ms.length):∃ b off a0 a1 c0 c1,a=some ⟨b,off,none⟩/\b < w.heap.size/\ms[i].Small/\zD w' a0 ms[i].vs/\zD w' a1 ms[i].hs /\
 w'.cell? ⟨b,off+i * 7,none⟩=some (.string ms[i].kd)/\w'.cell? ⟨b,off+i * 7+1,none⟩=some (.string ms[i].nm)/\w'.cell? ⟨b,off+i * 7+2,none⟩=some (.string ms[i].tm)/\w'.cell? ⟨b,off+i * 7+3,none⟩=some (.slice a0 ms[i].vs.length c0)/\w'.cell? ⟨b,off+i * 7+4,none⟩=some (.bool ms[i].en)/\w'.cell? ⟨b,off+i * 7+5,none⟩=some (.slice a1 ms[i].hs.length c1)/\w'.cell? ⟨b,off+i * 7+6,none⟩=some (.int .i64 ms[i].vr):=by
 obtain ⟨b,off,ha,hb,hr⟩:=h.rows (by rintro rfl;simp at hi)
 obtain ⟨a0,a1,c0,c1,hf0⟩:=hr i hi
 have hf:=hf0.mono hb hl
 exact ⟨b,off,a0,a1,c0,c1,ha,hb,hf.small,hf.l0,hf.l1,hf.cell 0 (by omega),hf.cell 1 (by omega),hf.cell 2 (by omega),hf.cell 3 (by omega),hf.cell 4 (by omega),hf.cell 5 (by omega),hf.cell 6 (by omega)⟩
def zaR (ms:List Ob):Nat:=(ms.map Ob.sz).sum
def qD (ms:List Ob):Nat:=ms.length+zaR ms
structure zfj (ms:List Ob):Prop where
 small:∀ i (h:i < ms.length),ms[i].Small/\(ms[i].vs.length<=maxLen/\∀ s ∈ ms[i].vs,s.size<=maxLen)/\(ms[i].hs.length<=maxLen/\∀ s ∈ ms[i].hs,s.size<=maxLen)
theorem zbq.smalls {w:World} {a:Option Addr} {ms:List Ob} (h:zbq w a ms):zfj ms :=
 ⟨fun i hi=>by
  obtain ⟨b,off,_,_,hr⟩:=h.rows (by rintro rfl;simp at hi)
  obtain ⟨a0,a1,c0,c1,hf⟩:=hr i hi
  exact ⟨hf.small,⟨hf.l0.len,hf.l0.small⟩,⟨hf.l1.len,hf.l1.small⟩⟩⟩
theorem zkY {ms:List Ob} {left:Int} (h:(qD ms:Int)<=left) (hl:left<=1048576):ms.length<=1048576/\∀ i (h:i < ms.length),ms[i].vs.length<=1048576/\ms[i].hs.length<=1048576:=by
 unfold qD at h
 refine ⟨by omega,fun i hi=>?_⟩
 have h1:ms[i].sz<=zaR ms:=zh0 Ob.sz ms i hi
 exact Ob.zmy (by omega)
theorem zf2 (a:Option Addr) (cap:Nat) (ms:List Ob) (left:Int) (w:World) (hw:zbq w a ms) (h0:0<=left) (h1:left<=1048576) :
 Calls Tryz.prog 20 #[.slice a ms.length cap,.int .i64 left] w fun e w'=>e = .returned (.int .i64 (zK (qD ms) left))/\Below w.heap.size w w':=by
 have hl:=hw.len
 unfold maxLen at hl
 by_cases hfit:(ms.length:Int)<=left
 ·go_enter Tryz.func20,Tryz.ntmps20
  go_wp2_with fail
  go_loopw [1,5] (fun l i wr=>∃ k:Nat,k<=ms.length/\i = .int .i64 k/\0<=left - ms.length - zaR (ms.take k)/\l = .int .i64 (left - ms.length - zaR (ms.take k))/\Below w.heap.size w wr) (fun _ i _=>ms.length - (intOf i).toNat)
  case atStart=>exact ⟨0,Nat.zero_le _,rfl,by simp [zaR];omega,by simp [zaR],Below.refl _ _⟩
  case round =>
   obtain ⟨k,hk,rfl,hpos,rfl,hB⟩:=hrel
   by_cases hlt:k < ms.length
   ·obtain ⟨b,off,a0,a1,c0,c1,rfl,hb,hsm,hl0,hl1,d0,d1,d2,d3,d4,d5,d6⟩:=hw.load hB k hlt
    have hbr:b < wr.heap.size:=Nat.lt_of_lt_of_le hb hB.size
    have HS:Hid (zaR (ms.take (k+1))=zaR (ms.take k)+ms[k].sz):=za1 Ob.sz ms k hlt
    have hle:zaR (ms.take (k+1))<=zaR ms:=zcB Ob.sz ms (k+1)
    have HI:Hid (zD wr a0 ms[k].vs/\zD wr a1 ms[k].hs):=⟨hl0,hl1⟩
    clear hw hl0 hl1
    by_cases hneg:(ms[k].sz:Int)<=left - ms.length - zaR (ms.take k)
    ·have HNG:Hid ((ms[k].sz:Int)<=left - ms.length - zaR (ms.take k)):=hneg
     clear hle
     go_wp2_with fail
     refine (zc9 ms[k] a0 a1 c0 c1 _ _ hsm HI.out.1 HI.out.2 hpos (by omega)).mono ?_
     rintro e w1 ⟨rfl,hb1⟩
     rw [zL HNG.out]
     have hB1:=hB.trans (hb1.mono hB.size)
     clear hb1
     go_wp2_with fail
     exact ⟨⟨k+1,by omega,by go_num,by rw [HS.out];omega,by rw [HS.out];congr 1;omega,hB1⟩,by simp [intOf];omega⟩
    ·have HF:Hid (zK (qD ms) left=-1):=zC (by have:=HS.out;unfold qD;omega)
     have HNG:Hid (¬ (ms[k].sz:Int)<=left - ms.length - zaR (ms.take k)):=hneg
     clear hneg hle
     go_wp2_with fail
     refine (zc9 ms[k] a0 a1 c0 c1 _ _ hsm HI.out.1 HI.out.2 hpos (by omega)).mono ?_
     rintro e w1 ⟨rfl,hb1⟩
     rw [zC (by have:=HNG.out;omega)]
     have hB1:=hB.trans (hb1.mono hB.size)
     clear hb1
     go_wp2_with fail
     go_ret
     exact ⟨zq HF.out.symm,hB1⟩
   ·have HF:Hid (zK (qD ms) left=left - ms.length - zaR (ms.take k)):=by
     rw [List.take_of_length_le (by omega)] at hpos ⊢
     have e:zK (qD ms) left=left - qD ms:=zL (by unfold qD;omega)
     unfold Hid;rw [e];unfold qD;omega
    clear hw
    go_wp2
    go_ret
    exact ⟨zq HF.out.symm,hB⟩
 ·have HF:Hid (zK (qD ms) left=-1):=zC (by unfold qD;omega)
  clear hw
  go_enter Tryz.func20,Tryz.ntmps20
  go_wp2
  go_ret
  exact ⟨zq HF.out.symm,Below.refl _ _⟩
theorem zfB (a a':Option Addr) (cap cap':Nat) (ms:List Ob) (w:World) (hw:zbq w a ms) (hw':zbq w a' ms) :
 Calls Tryz.prog 38 #[.slice a ms.length cap,.slice a' ms.length cap'] w fun e w'=>e = .returned (.bool true)/\Below w.heap.size w w':=by
 have hl:=hw.len
 unfold maxLen at hl
 have hnn:((ms.length:Int) != ms.length)=false:=by simp
 go_enter Tryz.func38,Tryz.ntmps38
 go_wp2_with fail
 go_loopw [5] (fun i wr=>∃ k:Nat,k<=ms.length/\i = .int .i64 k/\Below w.heap.size w wr) (fun i _=>ms.length - (intOf i).toNat)
 case atStart=>exact ⟨0,Nat.zero_le _,rfl,Below.refl _ _⟩
 case round =>
  obtain ⟨k,hk,rfl,hB⟩:=hrel
  by_cases hlt:k < ms.length
  ·obtain ⟨b,off,a0,a1,c0,c1,rfl,hb,hsm,hl0,hl1,d0,d1,d2,d3,d4,d5,d6⟩:=hw.load hB k hlt
   obtain ⟨b',off',a0',a1',c0',c1',rfl,hb',_,hl0',hl1',f0,f1,f2,f3,f4,f5,f6⟩:=hw'.load hB k hlt
   have hltI:(k:Int) < (ms.length:Int):=by omega
   clear hw hw'
   go_wp2_with fail
   go_region_with (go_at_call 76;refine (zgr ms[k] a0 a1 c0 c1 a0' a1' c0' c1' _ hsm (by exact hl0.mono ((Below.refl _ _).drew)) (by exact hl1.mono ((Below.refl _ _).drew)) (by exact hl0'.mono ((Below.refl _ _).drew)) (by exact hl1'.mono ((Below.refl _ _).drew))).mono ?_;rintro e w1 ⟨rfl,hb1'⟩;have hb1:=(Below.refl wr.heap.size wr).drew.trans hb1';clear hb1')
   all_goals go_wp2_with fail
   all_goals exact ⟨⟨k+1,by omega,by go_num,hB.trans (hb1.mono hB.size)⟩,by simp [intOf];omega⟩
  ·clear hw hw'
   go_wp2_with fail
   go_ret
   exact ⟨rfl,hB⟩
structure jZ (lo:Nat) (w:World) (bo:Nat) (ms:List Ob) (k:Nat):Prop where
 low:lo<=bo
 rows:∃ C,w.heap[bo]?=some (.cells C 115)/\C.size=ms.length * 7 /\
  ∀ i (h:i < ms.length),i < k->∃ g0 g1,lo<=g0/\g0 ≠ bo/\w.heap[g0]?=some (.cells (jA ms[i].vs) 9)/\lo<=g1/\g1 ≠ bo/\w.heap[g1]?=some (.cells (jA ms[i].hs) 9)/\∀ j,j < 7->C[i * 7+j]?=(Ob.row ms[i] (some ⟨g0,0,none⟩) (some ⟨g1,0,none⟩) ms[i].vs.length ms[i].hs.length)[j]?
theorem jZ.at {lo:Nat} {w:World} {bo:Nat} {ms:List Ob} (h:jZ lo w bo ms ms.length) (hs:zfj ms) (hl:ms.length<=maxLen):zbq w (some ⟨bo,0,none⟩) ms:=by
 obtain ⟨C,hC,hsz,hr⟩:=h.rows
 refine ⟨hl,fun _=>⟨bo,0,rfl,(Array.getElem?_eq_some_iff.1 hC).1,fun i hi=>?_⟩⟩
 obtain ⟨g0,g1,_,_,hk0,_,_,hk1,hc⟩:=hr i hi hi
 obtain ⟨s0,s1,s2⟩:=hs.small i hi
 refine ⟨some ⟨g0,0,none⟩,some ⟨g1,0,none⟩,ms[i].vs.length,ms[i].hs.length,s0,zc5 hk0 s1.1 s1.2,zc5 hk1 s2.1 s2.2,fun j hj=>?_⟩
 rw [cell_of_block hC,Nat.zero_add]
 exact hc j hj
theorem jZ.above {lo:Nat} {w w':World} {bo:Nat} {ms:List Ob} {k:Nat} (h:jZ lo w bo ms k) (ha:yO lo w w'):jZ lo w' bo ms k:=by
 obtain ⟨C,hC,hsz,hr⟩:=h.rows
 refine ⟨h.low,C,(ha.same _ h.low (Array.getElem?_eq_some_iff.1 hC).1).trans hC,hsz,fun i hi hk=>?_⟩
 obtain ⟨g0,g1,p0,q0,r0,p1,q1,r1,hc⟩:=hr i hi hk
 exact ⟨g0,g1,p0,q0,(ha.same _ p0 (Array.getElem?_eq_some_iff.1 r0).1).trans r0,p1,q1,(ha.same _ p1 (Array.getElem?_eq_some_iff.1 r1).1).trans r1,hc⟩
theorem jZ.later {lo:Nat} {w w':World} {bo:Nat} {ms:List Ob} {k:Nat} (h:jZ lo w bo ms k) (hb:Below w.heap.size w w'):jZ lo w' bo ms k:=h.above (yO.below hb)
def zl8 (w:World) (b o:Nat) (v0 v1 v2 v3 v4 v5 v6:Value):World:=(((((((w.setCell ⟨b,o,none⟩ v0).setCell ⟨b,o+1,none⟩ v1).setCell ⟨b,o+2,none⟩ v2).setCell ⟨b,o+3,none⟩ v3).setCell ⟨b,o+4,none⟩ v4).setCell ⟨b,o+5,none⟩ v5).setCell ⟨b,o+6,none⟩ v6)
def zi3 (C:Array Value) (o:Nat) (v0 v1 v2 v3 v4 v5 v6:Value):Array Value:=(((((((C.setIfInBounds (o) v0).setIfInBounds (o+1) v1).setIfInBounds (o+2) v2).setIfInBounds (o+3) v3).setIfInBounds (o+4) v4).setIfInBounds (o+5) v5).setIfInBounds (o+6) v6)
theorem zlF {w:World} {b o:Nat} {C:Array Value} {t:TypeId} (h:w.heap[b]?=some (.cells C t)) (v0 v1 v2 v3 v4 v5 v6:Value):(zl8 w b o v0 v1 v2 v3 v4 v5 v6).heap[b]?=some (.cells (zi3 C o v0 v1 v2 v3 v4 v5 v6) t) :=
 zk (zk (zk (zk (zk (zk (zk h v0) v1) v2) v3) v4) v5) v6
theorem zmc {B:Nat} {a w:World} (h:Below B a w) {b:Nat} (hb:B<=b) (o:Nat) (v0 v1 v2 v3 v4 v5 v6:Value):Below B a (zl8 w b o v0 v1 v2 v3 v4 v5 v6) :=
 ((((((h.setCell hb v0).setCell hb v1).setCell hb v2).setCell hb v3).setCell hb v4).setCell hb v5).setCell hb v6
theorem zcI (w:World) (b o:Nat) (v0 v1 v2 v3 v4 v5 v6:Value) {b':Nat} (h:b' ≠ b):(zl8 w b o v0 v1 v2 v3 v4 v5 v6).heap[b']?=w.heap[b']?:=by
 unfold zl8
 iterate 7 rw [zM h]
theorem zna (C:Array Value) (o:Nat) (v0 v1 v2 v3 v4 v5 v6:Value):(zi3 C o v0 v1 v2 v3 v4 v5 v6).size=C.size:=by simp [zi3]
theorem znF (C:Array Value) (o i:Nat) (v0 v1 v2 v3 v4 v5 v6:Value) (h:i < o \/ o+7<=i):(zi3 C o v0 v1 v2 v3 v4 v5 v6)[i]?=C[i]?:=by
 unfold zi3
 iterate 7 rw [Array.getElem?_setIfInBounds,if_neg (by omega)]
theorem zot (C:Array Value) (o j:Nat) (v0 v1 v2 v3 v4 v5 v6:Value) (hj:j < 7) (ho:o+7<=C.size):(zi3 C o v0 v1 v2 v3 v4 v5 v6)[o+j]?=(#[v0,v1,v2,v3,v4,v5,v6]:Array Value)[j]?:=by
 have hc:j=0 \/ j=1 \/ j=2 \/ j=3 \/ j=4 \/ j=5 \/ j=6:=by omega
 unfold zi3
 rcases hc with h | h | h | h | h | h | h <;> subst h <;> simp [Array.getElem?_setIfInBounds] <;> omega
theorem jZ.put {lo:Nat} {w:World} {bo:Nat} {ms:List Ob} {k:Nat} (h:jZ lo w bo ms k) (hk:k < ms.length) (g0 g1:Nat) (p0:lo<=g0) (q0:g0 ≠ bo) (r0:w.heap[g0]?=some (.cells (jA ms[k].vs) 9)) (p1:lo<=g1) (q1:g1 ≠ bo) (r1:w.heap[g1]?=some (.cells (jA ms[k].hs) 9)) :
 jZ lo (zl8 w bo (k * 7) (.string ms[k].kd) (.string ms[k].nm) (.string ms[k].tm) (.slice (some ⟨g0,0,none⟩) ms[k].vs.length ms[k].vs.length) (.bool ms[k].en) (.slice (some ⟨g1,0,none⟩) ms[k].hs.length ms[k].hs.length) (.int .i64 ms[k].vr)) bo ms (k+1):=by
 obtain ⟨C,hC,hsz,hr⟩:=h.rows
 refine ⟨h.low,_,zlF hC _ _ _ _ _ _ _,by rw [zna];exact hsz,fun i hi hik=>?_⟩
 rcases Nat.lt_or_ge i k with hlt | hge
 ·obtain ⟨g0',g1',x0,y0,z0,x1,y1,z1,hc⟩:=hr i hi hlt
  refine ⟨g0',g1',x0,y0,(by rw [zcI _ _ _ _ _ _ _ _ _ _ y0];exact z0),x1,y1,(by rw [zcI _ _ _ _ _ _ _ _ _ _ y1];exact z1),fun j hj=>?_⟩
  rw [znF _ _ _ _ _ _ _ _ _ _ (by omega)]
  exact hc j hj
 ·have e:i=k:=by omega
  subst e
  refine ⟨g0,g1,p0,q0,(by rw [zcI _ _ _ _ _ _ _ _ _ _ q0];exact r0),p1,q1,(by rw [zcI _ _ _ _ _ _ _ _ _ _ q1];exact r1),fun j hj=>?_⟩
  rw [zot _ _ _ _ _ _ _ _ _ _ hj (by omega)]
  rfl
def zoi:Array Value:=#[.string ByteArray.empty,.string ByteArray.empty,.string ByteArray.empty,.slice none 0 0,.bool false,.slice none 0 0,.int .i64 0]
def znr (n:Nat):Array Value:=madeCells zoi (n * 7)
theorem zfu (a:Option Addr) (cap:Nat) (ms:List Ob) (w:World) (hw:zbq w a ms) (hl:ms.length<=1048576) (hls:∀ i (h:i < ms.length),ms[i].vs.length<=1048576/\ms[i].hs.length<=1048576) :
 Calls Tryz.prog 29 #[.slice a ms.length cap] w fun e w'=>e = .returned (.slice (some ⟨w.heap.size,0,none⟩) ms.length ms.length)/\jZ w.heap.size w' w.heap.size ms ms.length/\Below w.heap.size w w':=by
 have hmk:∀ w:World,(Instr.makeSlice 43 (.int .i64 ms.length) (.int .i64 ms.length)).run Tryz.prog w = .ok (.slice (some ⟨w.heap.size,0,none⟩) ms.length ms.length) (w.alloc (.cells (znr ms.length) 115)) :=
  fun w=>jI (P:=Tryz.prog) 43 115 (.agg zoi) 7 112 Tryz.underlying43 (by kernel_rfl) ms.length (by omega) (by omega) w
 go_enter Tryz.func29,Tryz.ntmps29
 go_wp2_with fail
 clear hmk
 go_loopw [4] (fun i wr=>∃ k:Nat,k<=ms.length/\i = .int .i64 k/\Hid (jZ w.heap.size wr w.heap.size ms k)/\Below w.heap.size w wr) (fun i _=>ms.length - (intOf i).toNat)
 case atStart=>exact ⟨0,Nat.zero_le _,rfl,⟨Nat.le_refl _,znr ms.length,(MapKept.heap_alloc w _).1,size_madeCells _ _,fun i _ h=>absurd h (by omega)⟩,(Below.refl _ _).alloc (Nat.le_refl _) _⟩
 case round =>
  obtain ⟨k,hk,rfl,HOW,hB⟩:=hrel
  by_cases hlt:k < ms.length
  ·obtain ⟨b,off,a0,a1,c0,c1,rfl,hb,hsm,hl0,hl1,d0,d1,d2,d3,d4,d5,d6⟩:=hw.load hB k hlt
   have HLS:Hid (ms[k].vs.length<=1048576/\ms[k].hs.length<=1048576):=hls k hlt
   have hltI:(k:Int) < (ms.length:Int):=by omega
   clear hw
   go_wp2_with fail
   refine (zgQ ms[k] a0 a1 c0 c1 _ hsm hl0 hl1 HLS.out).mono ?_
   rintro e w1 ⟨g0,g1,rfl,p0,r0,p1,r1,hb1⟩
   have hB1:=hB.trans (hb1.mono hB.size)
   have hbo:w.heap.size < wr.heap.size:=by
    obtain ⟨C',hC',_⟩:=HOW.out.rows
    exact (Array.getElem?_eq_some_iff.1 hC').1
   have HP:Hid (jZ w.heap.size w1 w.heap.size ms k):=HOW.out.later hb1
   obtain ⟨C,hC,hsz,_⟩:=HP.out.rows
   have hfz:∀ o,w1.frozen? ⟨w.heap.size,o,none⟩=false:=fun o=>zi hC
   have hex:∀ o,o < ms.length * 7->∃ v,w1.cell? ⟨w.heap.size,o,none⟩=some v:=fun o ho=>⟨C[o]'(by omega),by rw [cell_of_block hC];exact Array.getElem?_eq_getElem (by omega)⟩
   obtain ⟨v0,hv0⟩:=hex (k * 7) (by omega)
   obtain ⟨v1,hv1⟩:=hex (k * 7+1) (by omega)
   obtain ⟨v2,hv2⟩:=hex (k * 7+2) (by omega)
   obtain ⟨v3,hv3⟩:=hex (k * 7+3) (by omega)
   obtain ⟨v4,hv4⟩:=hex (k * 7+4) (by omega)
   obtain ⟨v5,hv5⟩:=hex (k * 7+5) (by omega)
   obtain ⟨v6,hv6⟩:=hex (k * 7+6) (by omega)
   have HR:Hid (wr.heap.size<=g0/\w1.heap[g0]?=some (.cells (jA ms[k].vs) 9)/\wr.heap.size<=g1/\w1.heap[g1]?=some (.cells (jA ms[k].hs) 9)):=⟨p0,r0,p1,r1⟩
   clear hex hC hsz d0 d1 d2 d3 d4 d5 d6 p0 r0 p1 r1 hl0 hl1
   unfold Ob.row
   go_wp2_with fail
   obtain ⟨p0,r0,p1,r1⟩:=HR.out
   exact ⟨⟨k+1,by omega,by go_num,HP.out.put hlt g0 g1 (by omega) (by omega) r0 (by omega) (by omega) r1,zmc hB1 (Nat.le_refl _) _ _ _ _ _ _ _ _⟩,by simp [intOf];omega⟩
  ·have HF:Hid (jZ w.heap.size wr w.heap.size ms ms.length):=by
    have e:k=ms.length:=by omega
    subst e;exact HOW.out
   clear hw HOW
   go_wp2_with fail
   go_ret
   exact ⟨rfl,HF.out,hB⟩
theorem znm {w w':World} {g:Nat} {ws:List ByteArray} (h:zD w (some ⟨g,0,none⟩) ws) (hl:Below w.heap.size w w') (i:Nat) (hi:i < ws.length):g < w.heap.size/\w'.cell? ⟨g,i,none⟩=some (.string ws[i]):=by
 obtain ⟨b,off,e,hb,hr⟩:=h.cells (by rintro rfl;simp at hi)
 simp only [Option.some.injEq,Addr.mk.injEq] at e
 obtain ⟨rfl,rfl,_⟩:=e
 refine ⟨hb,?_⟩
 have:=hr i hi
 rw [Nat.zero_add] at this
 exact (hl.cell (p:=⟨g,i,none⟩) hb).trans this
theorem zkv {w w':World} {a:Option Addr} {fs:List Fld} (h:zP w a fs) (hl:Below w.heap.size w w') (i:Nat) (hi:i < fs.length):∃ b off fw fc,a=some ⟨b,off,none⟩/\b < w.heap.size/\zd0 w' b (off+i * 11) fs[i] fw fc:=by
 obtain ⟨b,off,ha,hb,hr⟩:=(h.mono hl).rows (by rintro rfl;simp at hi)
 obtain ⟨b',off',ha',hb',_⟩:=h.rows (by rintro rfl;simp at hi)
 have e:=ha.symm.trans ha'
 simp only [Option.some.injEq,Addr.mk.injEq] at e
 obtain ⟨rfl,rfl,_⟩:=e
 obtain ⟨fw,fc,hf⟩:=hr i hi
 exact ⟨b,off,fw,fc,ha,hb',hf⟩
end Go.Proofs.YtihdafafigceiaaGreat
