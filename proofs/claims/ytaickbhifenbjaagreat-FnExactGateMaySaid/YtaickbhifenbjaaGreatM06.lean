import Derived.Test.YtaickbhifenbjaaGreatM05
import Derived.Test.YtaickbhifenbjaaGreatM03
import Derived.Test.YtaickbhifenbjaaGreatM04
import Derived.Deep.RegionHeld3
set_option maxHeartbeats 2000000
namespace Go.Proofs.YtaickbhifenbjaaGreat
structure Rl where
 vs:List Int
 kd:ByteArray
 tm:ByteArray
 px:ByteArray
structure Ac where
 vb:Int
 kd:ByteArray
 tm:ByteArray
 nm:ByteArray
namespace Gate
def q9 (v:Int):Bool:=decide (1<=v) && decide (v<=5)
def y9 (vs:List Int) (i:Nat):Bool:=q9 (vs.getD i 0) && (decide (i=0) || decide (vs.getD (i - 1) 0 < vs.getD i 0))
def yQ (vs:List Int):Bool:=decide (0 < vs.length) && up (y9 vs) vs.length
def qM (r:Rl):Bool:=(r.kd.toList.isEmpty || zx r.kd) && (r.tm.toList.isEmpty || zx r.tm)
def zW (r:Rl):Bool:=qM r && (yQ r.vs && (decide (r.px.size<=16) && y5 r.px))
def begins (s p:ByteArray):Bool:=decide (p.size<=s.size) && ((s.extract 0 p.size).toList == p.toList)
def meets (ts:List Tm) (r:Rl) (kd tm nm:ByteArray):Bool:=(r.kd.toList.isEmpty || decide (r.kd=kd)) && ((r.tm.toList.isEmpty || under ts 4 tm r.tm) && begins nm r.px)
def yR (vs:List Int) (v:Int):Bool:=vs.any fun x=>decide (x=v)
def qy (ts:List Tm) (r:Rl) (a:Ac):Bool:=yR r.vs a.vb && meets ts r a.kd a.tm a.nm
theorem zfS (vs:List Int) (v:Int) (k:Nat) (h:k < vs.length):yR (vs.take (k+1)) v=(yR (vs.take k) v || decide (vs[k]=v)):=by
 unfold yR;rw [List.take_succ_eq_append_getElem h,List.any_append];simp
theorem zl7 (vs:List Int) (v:Int) (k:Nat) (h:k < vs.length) (e:vs[k]=v):yR vs v=true:=by
 unfold yR;rw [List.any_eq_true];exact ⟨vs[k],List.getElem_mem h,by simpa using e⟩
theorem zkD (vs:List Int) (v:Int) (k:Nat) (h:vs.length<=k):yR (vs.take k) v=yR vs v:=by rw [List.take_of_length_le h]
theorem zin {vs:List Int} (h:yQ vs=true) (i:Nat) (hi:i < vs.length):1<=vs[i]/\vs[i]<=5:=by
 unfold yQ at h
 rw [Bool.and_eq_true] at h
 have h1:=zfF hi h.2
 unfold y9 at h1
 rw [getD_at vs i _ hi,Bool.and_eq_true] at h1
 have h2:=h1.1
 simpa [q9] using h2
theorem zi4 {vs:List Int} (h:yQ vs=true) (v:Int) (hv:yR vs v=true):1<=v/\v<=5:=by
 unfold yR at hv
 rw [List.any_eq_true] at hv
 obtain ⟨x,hx,he⟩:=hv
 obtain ⟨i,hi,rfl⟩:=List.mem_iff_getElem.1 hx
 have:=zin h i hi
 have e:vs[i]=v:=by simpa using he
 rw [e] at this;exact this
def zb0 (a b c d e:Bool):Int:=(cond a 2 0)+(cond b 4 0)+(cond c 8 0)+(cond d 16 0)+(cond e 32 0)
def bitsOf (f:Int->Bool):Int:=zb0 (f 1) (f 2) (f 3) (f 4) (f 5)
def orI (x y:Int):Int:=bits BinOp.or IntKind.u8 x y
def zlw (x y:Int):Int:=bits BinOp.and IntKind.u8 x y
def zbZ (v:Int):Int:=2 ^ v.toNat % 256
theorem five (P:Int->Prop) (h1:P 1) (h2:P 2) (h3:P 3) (h4:P 4) (h5:P 5) (v:Int) (hv:1<=v/\v<=5):P v:=by
 have hc:v=1 \/ v=2 \/ v=3 \/ v=4 \/ v=5:=by omega
 rcases hc with rfl | rfl | rfl | rfl | rfl <;> assumption
theorem zmC {f g:Int->Bool} (h:∀ v,1<=v/\v<=5->f v=g v):bitsOf f=bitsOf g:=by
 unfold bitsOf;rw [h 1 (by omega),h 2 (by omega),h 3 (by omega),h 4 (by omega),h 5 (by omega)]
theorem zoT:∀ a b c d e:Bool,orI (zb0 a b c d e) (zbZ 1)=zb0 (a || true) (b || false) (c || false) (d || false) (e || false)/\orI (zb0 a b c d e) (zbZ 2)=zb0 (a || false) (b || true) (c || false) (d || false) (e || false) /\
 orI (zb0 a b c d e) (zbZ 3)=zb0 (a || false) (b || false) (c || true) (d || false) (e || false)/\orI (zb0 a b c d e) (zbZ 4)=zb0 (a || false) (b || false) (c || false) (d || true) (e || false)/\orI (zb0 a b c d e) (zbZ 5)=zb0 (a || false) (b || false) (c || false) (d || false) (e || true):=by decide +kernel
theorem zoH:∀ a b c d e:Bool,(zlw (zb0 a b c d e) (zbZ 1) != 0)=a/\(zlw (zb0 a b c d e) (zbZ 2) != 0)=b/\(zlw (zb0 a b c d e) (zbZ 3) != 0)=c/\(zlw (zb0 a b c d e) (zbZ 4) != 0)=d/\(zlw (zb0 a b c d e) (zbZ 5) != 0)=e:=by decide +kernel
theorem zoO (f:Int->Bool) (v:Int) (hv:1<=v/\v<=5):orI (bitsOf f) (zbZ v)=bitsOf (fun u=>f u || decide (v=u)):=by
 obtain ⟨h1,h2,h3,h4,h5⟩:=zoT (f 1) (f 2) (f 3) (f 4) (f 5)
 exact five (fun v=>orI (bitsOf f) (zbZ v)=bitsOf (fun u=>f u || decide (v=u))) h1 h2 h3 h4 h5 v hv
theorem zoa (f:Int->Bool) (v:Int) (hv:1<=v/\v<=5):(zlw (bitsOf f) (zbZ v) != 0)=f v:=by
 obtain ⟨h1,h2,h3,h4,h5⟩:=zoH (f 1) (f 2) (f 3) (f 4) (f 5)
 exact five (fun v=>(zlw (bitsOf f) (zbZ v) != 0)=f v) h1 h2 h3 h4 h5 v hv
end Gate
end Go.Proofs.YtaickbhifenbjaaGreat
namespace Go.Proofs.YtaickbhifenbjaaGreat
open Go.RowKit
structure yJ (w:World) (a:Option Addr) (vs:List Int):Prop where
 len:vs.length<=maxLen
 cells:vs ≠ []->∃ b off,a=some ⟨b,off,none⟩/\b < w.heap.size/\∀ i (h:i < vs.length),w.cell? ⟨b,off+i,none⟩=some (.int .i64 vs[i])
theorem yJ.mono {w w':World} {a:Option Addr} {vs:List Int} (h:yJ w a vs) (hb:Below w.heap.size w w'):yJ w' a vs :=
 ⟨h.len,fun hne=>by
  obtain ⟨b,off,ha,hbs,hc⟩:=h.cells hne
  exact ⟨b,off,ha,Nat.lt_of_lt_of_le hbs hb.size,fun i hi=>(hb.cell (p:=⟨b,off+i,none⟩) hbs).trans (hc i hi)⟩⟩
theorem yJ.load {w w':World} {a:Option Addr} {vs:List Int} (h:yJ w a vs) (hl:Below w.heap.size w w') (i:Nat) (hi:i < vs.length):∃ b off,a=some ⟨b,off,none⟩/\b < w.heap.size/\w'.cell? ⟨b,off+i,none⟩=some (.int .i64 vs[i]):=by
 obtain ⟨b,off,ha,hb,hc⟩:=h.cells (by rintro rfl;simp at hi)
 exact ⟨b,off,ha,hb,(hl.cell (p:=⟨b,off+i,none⟩) hb).trans (hc i hi)⟩
def zbY (vs:List Int):Array Value:=(vs.map (Value.int .i64)).toArray
def intCells (vs:List Int) (k:Nat):Array Value:=((vs.take k).map (Value.int .i64) ++ List.replicate (vs.length - k) (Value.int .i64 0)).toArray
theorem zlx (vs:List Int) (k:Nat) (h:k < vs.length):(intCells vs k)[k]?=some (.int .i64 0):=by
 unfold intCells
 have hl:((vs.take k).map (Value.int .i64)).length=k:=by simp;omega
 rw [List.getElem?_toArray,List.getElem?_append_right (by omega),hl,Nat.sub_self]
 obtain ⟨m,hm⟩:∃ m,vs.length - k=m+1:=⟨vs.length - k - 1,by omega⟩
 rw [hm,List.replicate_succ];rfl
theorem zj9 (vs:List Int) (k:Nat) (h:k < vs.length):(intCells vs k).setIfInBounds k (.int .i64 vs[k])=intCells vs (k+1):=by
 unfold intCells
 rw [List.setIfInBounds_toArray,List.set_append_right _ _ (by simp;omega)]
 congr 1
 rw [List.take_succ_eq_append_getElem h,List.map_append,List.append_assoc]
 congr 1
 obtain ⟨m,hm⟩:∃ m,vs.length - k=m+1:=⟨vs.length - k - 1,by omega⟩
 rw [hm,show vs.length - (k+1)=m by omega]
 have:k - ((vs.take k).map (Value.int .i64)).length=0:=by simp;omega
 rw [this,List.replicate_succ]
 rfl
theorem zkx (vs:List Int) (k:Nat) (h:vs.length<=k):intCells vs k=zbY vs:=by
 unfold intCells zbY
 rw [List.take_of_length_le h,show vs.length - k=0 by omega];simp
theorem zi7 (vs:List Int):madeCells #[Value.int .i64 0] vs.length=intCells vs 0:=by
 apply Array.toList_inj.1
 rw [toList_madeCells_one]
 simp [intCells]
theorem zgt {w:World} {bk:Nat} {vs:List Int} {t:TypeId} (h:w.heap[bk]?=some (.cells (zbY vs) t)) (hl:vs.length<=maxLen):yJ w (some ⟨bk,0,none⟩) vs :=
 ⟨hl,fun _=>⟨bk,0,rfl,(Array.getElem?_eq_some_iff.1 h).1,fun i hi=>by
  simp [World.cell?,h,zbY,hi]⟩⟩
def Rl.cells (r:Rl) (a:Option Addr) (cap:Nat):Array Value:=#[.slice a r.vs.length cap,.string r.kd,.string r.tm,.string r.px]
def Ac.cells (x:Ac):Array Value:=#[.int .i64 x.vb,.string x.kd,.string x.tm,.string x.nm]
structure Rl.Small (r:Rl):Prop where
 kd:r.kd.size<=maxLen
 tm:r.tm.size<=maxLen
 px:r.px.size<=maxLen
structure Ac.Small (r:Ac):Prop where
 kd:r.kd.size<=maxLen
 tm:r.tm.size<=maxLen
 nm:r.nm.size<=maxLen
structure zoG (w:World) (b off:Nat) (r:Rl) (a:Option Addr) (cap:Nat):Prop where
 small:r.Small
 ints:yJ w a r.vs
 cell:∀ j,j < 4->w.cell? ⟨b,off+j,none⟩=(r.cells a cap)[j]?
structure zeJ (w:World) (a:Option Addr) (rs:List Rl):Prop where
 len:rs.length<=maxLen
 rows:rs ≠ []->∃ b off,a=some ⟨b,off,none⟩/\b < w.heap.size/\∀ i (h:i < rs.length),∃ va vcap,zoG w b (off+i * 4) rs[i] va vcap
theorem zoG.mono {w w':World} {b off:Nat} {r:Rl} {a:Option Addr} {cap:Nat} (h:zoG w b off r a cap) (hb:b < w.heap.size) (hl:Below w.heap.size w w'):zoG w' b off r a cap :=
 ⟨h.small,h.ints.mono hl,fun j hj=>(hl.cell (p:=⟨b,off+j,none⟩) hb).trans (h.cell j hj)⟩
theorem zeJ.load {w w':World} {a:Option Addr} {rs:List Rl} (h:zeJ w a rs) (hl:Below w.heap.size w w') (i:Nat) (hi:i < rs.length):∃ b off va vcap,a=some ⟨b,off,none⟩/\b < w.heap.size/\rs[i].Small/\yJ w' va rs[i].vs /\
 w'.cell? ⟨b,off+i * 4,none⟩=some (.slice va rs[i].vs.length vcap)/\w'.cell? ⟨b,off+i * 4+1,none⟩=some (.string rs[i].kd)/\w'.cell? ⟨b,off+i * 4+2,none⟩=some (.string rs[i].tm)/\w'.cell? ⟨b,off+i * 4+3,none⟩=some (.string rs[i].px):=by
 obtain ⟨b,off,ha,hb,hr⟩:=h.rows (by rintro rfl;simp at hi)
 obtain ⟨va,vcap,hf0⟩:=hr i hi
 have hf:=hf0.mono hb hl
 exact ⟨b,off,va,vcap,ha,hb,hf.small,hf.ints,hf.cell 0 (by omega),hf.cell 1 (by omega),hf.cell 2 (by omega),hf.cell 3 (by omega)⟩
def Rl.sz (r:Rl):Nat:=r.vs.length+r.kd.size+r.tm.size+r.px.size
def Ac.sz (r:Ac):Nat:=r.kd.size+r.tm.size+r.nm.size
theorem zN {w:World} {b o:Nat} {v:Value} {b':Nat} (h:b' ≠ b):(w.setCell ⟨b,o,none⟩ v).heap[b']?=w.heap[b']?:=by
 simp only [World.setCell,Array.getElem?_modify]
 rw [if_neg (fun e=>h (Eq.symm e))]
structure Lw where
 ss:List Shp
 ms:List Mnd
 ts:List Tm
def Lw.cells (l:Lw) (a b c:Option Addr) (ca cb cc:Nat):Array Value:=#[.slice a l.ss.length ca,.slice b l.ms.length cb,.slice c l.ts.length cc]
structure qp (w:World) (l:Lw) (a b c:Option Addr):Prop where
 ss:yL w a l.ss
 ms:y7 w b l.ms
 ts:qJ w c l.ts
theorem qp.mono {w w':World} {l:Lw} {a b c:Option Addr} (h:qp w l a b c) (hb:Below w.heap.size w w'):qp w' l a b c:=⟨h.ss.mono hb,h.ms.mono hb,h.ts.mono hb⟩
def Lw.sz (l:Lw):Nat:=zaA l.ss+za2 l.ms+zcH l.ts
structure Lw.Few (l:Lw):Prop where
 ss:l.ss.length<=1048576/\∀ i (h:i < l.ss.length),l.ss[i].fs.length<=1048576/\∀ j (h':j < l.ss[i].fs.length),l.ss[i].fs[j].ws.length<=1048576
 ms:l.ms.length<=1048576
 ts:l.ts.length<=1048576
theorem Lw.few {l:Lw} (h:(l.sz:Int)<=1048576):l.Few:=by
 unfold Lw.sz at h
 refine ⟨zoi (by omega),?_,?_⟩
 ·unfold za2 at h;omega
 ·unfold zcH at h;omega
theorem zi6 (l:Lw) (a b c:Option Addr) (ca cb cc:Nat) (left:Int) (w:World) (hl:qp w l a b c) (h0:0<=left) (h1:left<=1048576) :
 Calls Tryz.prog 4 #[.agg (l.cells a b c ca cb cc),.int .i64 left] w fun e w'=>e = .returned (.int .i64 (zL l.sz left))/\Below w.heap.size w w':=by
 have HL:Hid (qp w l a b c):=hl
 clear hl
 unfold Lw.cells
 go_enter Tryz.func4,Tryz.ntmps4
 go_wp2_with fail
 refine (zf5 _ _ l.ss _ _ (HL.out.ss.mono ((Below.refl _ _).alloc (Nat.le_refl _) _)) h0 h1).mono ?_
 rintro e w1 ⟨rfl,hb⟩
 have hX1:=za (zl w #[.slice a l.ss.length ca,.slice b l.ms.length cb,.slice c l.ts.length cc] 26) (by simp) hb
 have hz1:w.heap.size < w1.heap.size:=by have:=hb.size;simp at this;omega
 have hB1:Below w.heap.size w w1:=((Below.refl _ _).alloc (Nat.le_refl _) _).trans (hb.mono (by simp))
 clear hb
 by_cases c1:(zaA l.ss:Int)<=left
 rotate_left
 ·have HF:Hid (zL l.sz left=-1):=zD (by unfold Lw.sz;omega)
  rw [zD c1]
  go_wp2_with fail
  go_ret
  exact ⟨zm HF.out.symm,hB1⟩
 rw [zM c1]
 go_wp2_with fail
 refine (zhr _ _ l.ms _ _ (HL.out.ms.mono hB1) (by omega) (by omega)).mono ?_
 rintro e w2 ⟨rfl,hb⟩
 have hX2:=za hX1 hz1 hb
 have hz2:=Nat.lt_of_lt_of_le hz1 hb.size
 have hB2:=hB1.trans (hb.mono hB1.size)
 clear hb hX1 hz1 hB1
 by_cases c2:(za2 l.ms:Int)<=left - zaA l.ss
 rotate_left
 ·have HF:Hid (zL l.sz left=-1):=zD (by unfold Lw.sz;omega)
  rw [zD c2]
  go_wp2_with fail
  go_ret
  exact ⟨zm HF.out.symm,hB2⟩
 rw [zM c2]
 go_wp2_with fail
 refine (zhu _ _ l.ts _ _ (HL.out.ts.mono hB2) (by omega) (by omega)).mono ?_
 rintro e w3 ⟨rfl,hb⟩
 have hB3:=hB2.trans (hb.mono hB2.size)
 clear hb hX2 hz2 hB2
 by_cases c3:(zcH l.ts:Int)<=left - zaA l.ss - za2 l.ms
 rotate_left
 ·have HF:Hid (zL l.sz left=-1):=zD (by unfold Lw.sz;omega)
  rw [zD c3]
  go_wp2_with fail
  go_ret
  exact ⟨zm HF.out.symm,hB3⟩
 have HF:Hid (zL l.sz left=left - zaA l.ss - za2 l.ms - zcH l.ts):=by
  unfold Hid;rw [zM (by unfold Lw.sz;omega)];unfold Lw.sz;omega
 rw [zM c3]
 go_wp2_with fail
 go_ret
 exact ⟨zm HF.out.symm,hB3⟩
theorem zi0 (l:Lw) (a b c a' b' c':Option Addr) (ca cb cc ca' cb' cc':Nat) (w:World) (hl:qp w l a b c) (hl':qp w l a' b' c') :
 Calls Tryz.prog 12 #[.agg (l.cells a b c ca cb cc),.agg (l.cells a' b' c' ca' cb' cc')] w fun e w'=>e = .returned (.bool true)/\Below w.heap.size w w':=by
 unfold Lw.cells
 go_enter Tryz.func12,Tryz.ntmps12
 go_wp2_with fail
 refine (zgr _ _ _ _ l.ss _ (hl.ss.mono (zC _ _ _)) (hl'.ss.mono (zC _ _ _))).mono ?_
 rintro e w1 ⟨rfl,hb⟩
 have hX1:=za (za (zl w _ _) (by simp) ((Below.refl _ _).alloc (Nat.le_refl _) _)) (by simp;omega) hb
 have hY1:=za (zl (w.alloc (.cells #[.slice a l.ss.length ca,.slice b l.ms.length cb,.slice c l.ts.length cc] 43)) #[.slice a' l.ss.length ca',.slice b' l.ms.length cb',.slice c' l.ts.length cc'] 43) (by simp) hb
 have hz1:w.heap.size+1 < w1.heap.size:=by have:=hb.size;simp at this;omega
 have hB1:=(zC w _ _).trans (hb.mono (by simp;omega))
 rw [World.size_alloc] at hY1
 clear hb
 go_wp2_with fail
 refine (zhv _ _ _ _ l.ms _ (hl.ms.mono hB1) (hl'.ms.mono hB1)).mono ?_
 rintro e w2 ⟨rfl,hb⟩
 have hX2:=za hX1 (Nat.lt_of_succ_lt hz1) hb
 have hY2:=za hY1 hz1 hb
 have hz2:=Nat.lt_of_lt_of_le hz1 hb.size
 have hB2:=hB1.trans (hb.mono hB1.size)
 clear hb hX1 hY1 hz1 hB1
 go_wp2_with fail
 refine (zg6 _ _ _ _ l.ts _ (hl.ts.mono hB2) (hl'.ts.mono hB2)).mono ?_
 rintro e w3 ⟨rfl,hb⟩
 have hB3:=hB2.trans (hb.mono hB2.size)
 clear hb hX2 hY2 hz2 hB2
 go_wp2_with fail
 go_ret
 exact ⟨rfl,hB3⟩
theorem below3' (w:World) (o o' o'':Obj):Below w.heap.size w (((w.alloc o).alloc o').alloc o''):=(((Below.refl _ _).alloc (Nat.le_refl _) _).alloc (by simp) _).alloc (by simp;omega) _
theorem zoF (w:World) (o1 o2 o3:Obj):(((w.alloc o1).alloc o2).alloc o3).heap[w.heap.size]?=some o1/\(((w.alloc o1).alloc o2).alloc o3).heap[w.heap.size+1]?=some o2/\(((w.alloc o1).alloc o2).alloc o3).heap[w.heap.size+1+1]?=some o3:=by
 have h1:=(MapKept.heap_alloc w o1).1
 have h2:=(MapKept.heap_alloc (w.alloc o1) o2).1
 have h3:=(MapKept.heap_alloc ((w.alloc o1).alloc o2) o3).1
 simp only [World.size_alloc] at h2 h3
 exact ⟨(Below.heap_alloc _ _ _ (by simp;omega)).trans ((Below.heap_alloc _ _ _ (by simp)).trans h1),(Below.heap_alloc _ _ _ (by simp)).trans h2,h3⟩
structure yS (lo:Nat) (w w':World):Prop where
 size:w.heap.size<=w'.heap.size
 same:∀ b,lo<=b->b < w.heap.size->w'.heap[b]?=w.heap[b]?
theorem yS.trans {lo:Nat} {w w1 w2:World} (h:yS lo w w1) (h':yS lo w1 w2):yS lo w w2 :=
 ⟨Nat.le_trans h.size h'.size,fun b h1 h2=>(h'.same b h1 (Nat.lt_of_lt_of_le h2 h.size)).trans (h.same b h1 h2)⟩
theorem yS.mono {lo lo':Nat} {w w':World} (h:yS lo w w') (hl:lo<=lo'):yS lo' w w':=⟨h.size,fun b h1 h2=>h.same b (Nat.le_trans hl h1) h2⟩
theorem yS.below {lo:Nat} {w w':World} (h:Below w.heap.size w w'):yS lo w w':=⟨h.size,fun b _ h2=>h.block b h2⟩
theorem yS.setCell {lo:Nat} {w:World} {p:Addr} (hp:p.block < lo) (v:Value):yS lo w (w.setCell p v) :=
 ⟨by rw [World.size_setCell];exact Nat.le_refl _,fun b h1 _=>Below.heap_setCell _ _ _ _ (by omega)⟩
theorem qV.above {lo:Nat} {w w':World} {bf:Nat} {fs:List Fld} {k:Nat} (h:qV lo w bf fs k) (ha:yS lo w w'):qV lo w' bf fs k:=by
 obtain ⟨C,hC,hsz,hr⟩:=h.rows
 refine ⟨h.low,C,(ha.same _ h.low (Array.getElem?_eq_some_iff.1 hC).1).trans hC,hsz,fun i hi hk=>?_⟩
 obtain ⟨bk,h1,h2,h3,h4⟩:=hr i hi hk
 exact ⟨bk,h1,h2,(ha.same _ h1 (Array.getElem?_eq_some_iff.1 h3).1).trans h3,h4⟩
theorem jX.above {lo:Nat} {w w':World} {bo:Nat} {ss:List Shp} {k:Nat} (h:jX lo w bo ss k) (ha:yS lo w w'):jX lo w' bo ss k:=by
 obtain ⟨C,hC,hsz,hr⟩:=h.rows
 refine ⟨h.low,C,(ha.same _ h.low (Array.getElem?_eq_some_iff.1 hC).1).trans hC,hsz,fun i hi hk=>?_⟩
 obtain ⟨bf,h1,h2,h3,h4⟩:=hr i hi hk
 exact ⟨bf,h1,h2,h3.above (ha.mono (Nat.le_succ_of_le h.low)),h4⟩
theorem jy.above {lo:Nat} {w w':World} {bo:Nat} {ms:List Mnd} {k:Nat} (h:jy lo w bo ms k) (ha:yS lo w w'):jy lo w' bo ms k:=by
 obtain ⟨C,hC,hr⟩:=h.rows
 exact ⟨h.low,C,(ha.same _ h.low (Array.getElem?_eq_some_iff.1 hC).1).trans hC,hr⟩
theorem zai.above {ty:TypeId} {lo:Nat} {w w':World} {bo:Nat} {ts:List Tm} {k:Nat} (h:zai ty lo w bo ts k) (ha:yS lo w w'):zai ty lo w' bo ts k:=by
 obtain ⟨C,hC,hr⟩:=h.rows
 exact ⟨h.low,C,(ha.same _ h.low (Array.getElem?_eq_some_iff.1 hC).1).trans hC,hr⟩
structure zoq (lo:Nat) (w:World) (l:Lw) (a b c:Nat):Prop where
 ss:jX lo w a l.ss l.ss.length
 ms:jy lo w b l.ms l.ms.length
 ts:zai 119 lo w c l.ts l.ts.length
structure Lw.Small (l:Lw):Prop where
 ss:zcW l.ss
 ls:l.ss.length<=maxLen
 ms:∀ i (h:i < l.ms.length),l.ms[i].Small
 lm:l.ms.length<=maxLen
 ts:∀ i (h:i < l.ts.length),l.ts[i].Small
 lt:l.ts.length<=maxLen
theorem qp.small {w:World} {l:Lw} {a b c:Option Addr} (h:qp w l a b c):l.Small:=⟨h.ss.smalls,h.ss.len,h.ms.small,h.ms.len,h.ts.small,h.ts.len⟩
theorem zoq.at {lo:Nat} {w:World} {l:Lw} {a b c:Nat} (h:zoq lo w l a b c) (hs:l.Small):qp w l (some ⟨a,0,none⟩) (some ⟨b,0,none⟩) (some ⟨c,0,none⟩):=⟨h.ss.at hs.ss hs.ls,h.ms.at hs.ms hs.lm,h.ts.at hs.ts hs.lt⟩
structure Lg where
 tm:ByteArray
 rs:ByteArray
 mo:Int
 fr:Int
def Lg.cells (m:Lg):Array Value:=#[.string m.tm,.string m.rs,.int .i64 m.mo,.int .i64 m.fr]
structure Lg.Small (m:Lg):Prop where
 tm:m.tm.size<=maxLen
 rs:m.rs.size<=maxLen
structure zbL (w:World) (a:Option Addr) (ms:List Lg):Prop where
 len:ms.length<=maxLen
 small:∀ i (h:i < ms.length),ms[i].Small
 rows:ms ≠ []->∃ b off,a=some ⟨b,off,none⟩/\b < w.heap.size/\∀ i (h:i < ms.length),∀ j,j < 4->w.cell? ⟨b,off+i * 4+j,none⟩=ms[i].cells[j]?
theorem zbL.mono {w w':World} {a:Option Addr} {ms:List Lg} (h:zbL w a ms) (hl:Below w.heap.size w w'):zbL w' a ms :=
 ⟨h.len,h.small,fun hne=>by
  obtain ⟨b,off,ha,hb,hr⟩:=h.rows hne
  exact ⟨b,off,ha,Nat.lt_of_lt_of_le hb hl.size,fun i hi j hj=>(hl.cell (p:=⟨b,off+i * 4+j,none⟩) hb).trans (hr i hi j hj)⟩⟩
theorem zbL.load {w w':World} {a:Option Addr} {ms:List Lg} (h:zbL w a ms) (hl:Below w.heap.size w w') (i:Nat) (hi:i < ms.length):∃ b off,a=some ⟨b,off,none⟩/\b < w.heap.size /\
 w'.cell? ⟨b,off+i * 4,none⟩=some (.string ms[i].tm)/\w'.cell? ⟨b,off+i * 4+1,none⟩=some (.string ms[i].rs)/\w'.cell? ⟨b,off+i * 4+2,none⟩=some (.int .i64 ms[i].mo)/\w'.cell? ⟨b,off+i * 4+3,none⟩=some (.int .i64 ms[i].fr):=by
 obtain ⟨b,off,ha,hb,hr⟩:=h.rows (by rintro rfl;simp at hi)
 have hc:∀ j,j < 4->w'.cell? ⟨b,off+i * 4+j,none⟩=ms[i].cells[j]?:=fun j hj=>(hl.cell (p:=⟨b,off+i * 4+j,none⟩) hb).trans (hr i hi j hj)
 exact ⟨b,off,ha,hb,hc 0 (by omega),hc 1 (by omega),hc 2 (by omega),hc 3 (by omega)⟩
def Lg.sz (m:Lg):Nat:=m.tm.size+m.rs.size
def zdf (ms:List Lg):Nat:=(ms.map Lg.sz).sum
def zce (ms:List Lg):Nat:=ms.length+zdf ms
theorem zcX (m:Lg) (left:Int) (w:World) (hm:m.Small) (h0:0<=left) (h1:left<=1048576) :
 Calls Tryz.prog 44 #[.agg m.cells,.int .i64 left] w fun e w'=>e = .returned (.int .i64 (zL m.sz left))/\Below w.heap.size w w':=by
 have k0:=hm.tm
 have k1:=hm.rs
 unfold maxLen at k0 k1
 unfold Lg.cells
 have hB:∀ ob,Below w.heap.size w (w.alloc ob):=fun ob=>(Below.refl _ _).alloc (Nat.le_refl _) _
 by_cases hf:(m.sz:Int)<=left
 ·have HF:Hid (zL m.sz left=left - m.tm.size - m.rs.size):=by
   unfold Hid;rw [zM hf];unfold Lg.sz;omega
  unfold Lg.sz at hf
  go_enter Tryz.func44,Tryz.ntmps44
  go_wp2_with fail
  go_ret
  exact ⟨zm HF.out.symm,hB _⟩
 ·have HF:Hid (zL m.sz left=-1):=zD hf
  have HN:Hid (¬ ((m.tm.size+m.rs.size:Nat):Int)<=left):=hf
  clear hf
  go_enter Tryz.func44,Tryz.ntmps44
  go_wp2_with fail
  all_goals go_ret
  all_goals first | exact ⟨zm HF.out.symm,hB _⟩ | (exfalso;have:=HN.out;simp at *;omega)
theorem zgx (m:Lg) (left:Int) (w:World) (hm:m.Small) (h0:0<=left) (h1:left<=1048576) (h:(m.sz:Int)<=left) :
 Calls Tryz.prog 44 #[.agg m.cells,.int .i64 left] w fun e w'=>e = .returned (.int .i64 (left - m.sz))/\Below w.heap.size w w':=by
 refine (zcX m left w hm h0 h1).mono ?_
 rintro e w' ⟨rfl,hb⟩
 exact ⟨zm (zM h),hb⟩
theorem zhi (m:Lg) (left:Int) (w:World) (hm:m.Small) (h0:0<=left) (h1:left<=1048576) (h:¬ (m.sz:Int)<=left) :
 Calls Tryz.prog 44 #[.agg m.cells,.int .i64 left] w fun e w'=>e = .returned (.int .i64 (-1))/\Below w.heap.size w w':=by
 refine (zcX m left w hm h0 h1).mono ?_
 rintro e w' ⟨rfl,hb⟩
 exact ⟨zm (zD h),hb⟩
theorem zfl (a:Option Addr) (cap:Nat) (ms:List Lg) (left:Int) (w:World) (hw:zbL w a ms) (h0:0<=left) (h1:left<=1048576) :
 Calls Tryz.prog 19 #[.slice a ms.length cap,.int .i64 left] w fun e w'=>e = .returned (.int .i64 (zL (zce ms) left))/\Below w.heap.size w w':=by
 have hl:=hw.len
 unfold maxLen at hl
 by_cases hfit:(ms.length:Int)<=left
 ·go_enter Tryz.func19,Tryz.ntmps19
  go_wp2_with fail
  go_loopw [1,5] (fun l i wr=>∃ k:Nat,k<=ms.length/\i = .int .i64 k/\0<=left - ms.length - zdf (ms.take k)/\l = .int .i64 (left - ms.length - zdf (ms.take k))/\Below w.heap.size w wr) (fun _ i _=>ms.length - (intOf i).toNat)
  case atStart=>exact ⟨0,Nat.zero_le _,rfl,by simp [zdf];omega,by simp [zdf],Below.refl _ _⟩
  case round =>
   obtain ⟨k,hk,rfl,hpos,rfl,hB⟩:=hrel
   by_cases hlt:k < ms.length
   ·obtain ⟨b,off,rfl,hb,c0,c1,c2,c3⟩:=hw.load hB k hlt
    have hsm:=hw.small k hlt
    have HS:Hid (zdf (ms.take (k+1))=zdf (ms.take k)+ms[k].sz):=zaS Lg.sz ms k hlt
    have hle:zdf (ms.take (k+1))<=zdf ms:=zcm Lg.sz ms (k+1)
    clear hw
    by_cases hneg:(ms[k].sz:Int)<=left - ms.length - zdf (ms.take k)
    ·have HNG:Hid ((ms[k].sz:Int)<=left - ms.length - zdf (ms.take k)):=hneg
     clear hle
     go_wp2_with fail
     refine (zgx _ _ _ hsm hpos (by omega) HNG.out).mono ?_
     rintro e w1 ⟨rfl,hb1⟩
     have hB1:=hB.trans (hb1.mono hB.size)
     clear hb1
     go_wp2_with fail
     exact ⟨⟨k+1,by omega,by go_num,by rw [HS.out];omega,by rw [HS.out];congr 1;omega,hB1⟩,by simp [intOf];omega⟩
    ·have HF:Hid (zL (zce ms) left=-1):=zD (by have:=HS.out;unfold zce;omega)
     have HNG:Hid (¬ (ms[k].sz:Int)<=left - ms.length - zdf (ms.take k)):=hneg
     clear hneg hle
     go_wp2_with fail
     refine (zhi _ _ _ hsm hpos (by omega) (by have:=HNG.out;omega)).mono ?_
     rintro e w1 ⟨rfl,hb1⟩
     have hB1:=hB.trans (hb1.mono hB.size)
     clear hb1
     go_wp2_with fail
     go_ret
     exact ⟨zm HF.out.symm,hB1⟩
   ·have HF:Hid (zL (zce ms) left=left - ms.length - zdf (ms.take k)):=by
     rw [List.take_of_length_le (by omega)] at hpos ⊢
     have e:zL (zce ms) left=left - zce ms:=zM (by unfold zce;omega)
     unfold Hid;rw [e];unfold zce;omega
    clear hw
    go_wp2
    go_ret
    exact ⟨zm HF.out.symm,hB⟩
 ·have HF:Hid (zL (zce ms) left=-1):=zD (by unfold zce;omega)
  clear hw
  go_enter Tryz.func19,Tryz.ntmps19
  go_wp2
  go_ret
  exact ⟨zm HF.out.symm,Below.refl _ _⟩
theorem zga (m:Lg) (w:World):Calls Tryz.prog 72 #[.agg m.cells,.agg m.cells] w fun e w'=>e = .returned (.bool true)/\Below w.heap.size w w':=by
 unfold Lg.cells
 have hn2:(m.mo != m.mo)=false:=by simp
 have hn3:(m.fr != m.fr)=false:=by simp
 go_enter Tryz.func72,Tryz.ntmps72
 go_wp2_with fail
 go_ret
 exact ⟨rfl,zC _ _ _⟩
theorem zfo (a a':Option Addr) (cap cap':Nat) (ms:List Lg) (w:World) (hw:zbL w a ms) (hw':zbL w a' ms) :
 Calls Tryz.prog 37 #[.slice a ms.length cap,.slice a' ms.length cap'] w fun e w'=>e = .returned (.bool true)/\Below w.heap.size w w':=by
 have hl:=hw.len
 unfold maxLen at hl
 have hnn:((ms.length:Int) != ms.length)=false:=by simp
 go_enter Tryz.func37,Tryz.ntmps37
 go_wp2_with fail
 go_loopw [5] (fun i wr=>∃ k:Nat,k<=ms.length/\i = .int .i64 k/\Below w.heap.size w wr) (fun i _=>ms.length - (intOf i).toNat)
 case atStart=>exact ⟨0,Nat.zero_le _,rfl,Below.refl _ _⟩
 case round =>
  obtain ⟨k,hk,rfl,hB⟩:=hrel
  by_cases hlt:k < ms.length
  ·obtain ⟨b,off,rfl,hb,c0,c1,c2,c3⟩:=hw.load hB k hlt
   obtain ⟨b',off',rfl,hb',d0,d1,d2,d3⟩:=hw'.load hB k hlt
   have hltI:(k:Int) < (ms.length:Int):=by omega
   clear hw hw'
   go_wp2_with fail
   go_region_with (go_at_call 72;refine (zga ms[k] _).mono ?_;rintro e w1 ⟨rfl,hb1'⟩;have hb1:=(Below.refl wr.heap.size wr).drew.trans hb1';clear hb1')
   all_goals go_wp2_with fail
   all_goals exact ⟨⟨k+1,by omega,by go_num,hB.trans (hb1.mono hB.size)⟩,by simp [intOf];omega⟩
  ·clear hw hw'
   go_wp2_with fail
   go_ret
   exact ⟨rfl,hB⟩
structure j4 (lo:Nat) (w:World) (bo:Nat) (ms:List Lg) (k:Nat):Prop where
 low:lo<=bo
 rows:∃ C,w.heap[bo]?=some (.cells C 126)/\C.size=ms.length * 4/\∀ i (h:i < ms.length),i < k->∀ j,j < 4->C[i * 4+j]?=ms[i].cells[j]?
theorem j4.at {lo:Nat} {w:World} {bo:Nat} {ms:List Lg} (h:j4 lo w bo ms ms.length) (hs:∀ i (h:i < ms.length),ms[i].Small) (hl:ms.length<=maxLen):zbL w (some ⟨bo,0,none⟩) ms:=by
 obtain ⟨C,hC,hsz,hr⟩:=h.rows
 refine ⟨hl,hs,fun _=>⟨bo,0,rfl,(Array.getElem?_eq_some_iff.1 hC).1,fun i hi j hj=>?_⟩⟩
 rw [cell_of_block hC,Nat.zero_add]
 exact hr i hi hi j hj
theorem j4.later {lo:Nat} {w w':World} {bo:Nat} {ms:List Lg} {k:Nat} (h:j4 lo w bo ms k) (hb:Below w.heap.size w w'):j4 lo w' bo ms k:=by
 obtain ⟨C,hC,hsz,hr⟩:=h.rows
 exact ⟨h.low,C,(hb.block bo (Array.getElem?_eq_some_iff.1 hC).1).trans hC,hsz,hr⟩
theorem j4.above {lo:Nat} {w w':World} {bo:Nat} {ms:List Lg} {k:Nat} (h:j4 lo w bo ms k) (ha:yS lo w w'):j4 lo w' bo ms k:=by
 obtain ⟨C,hC,hr⟩:=h.rows
 exact ⟨h.low,C,(ha.same _ h.low (Array.getElem?_eq_some_iff.1 hC).1).trans hC,hr⟩
theorem j4.weaken {lo lo':Nat} {w:World} {bo:Nat} {ms:List Lg} {k:Nat} (h:j4 lo w bo ms k) (hl:lo'<=lo):j4 lo' w bo ms k:=⟨Nat.le_trans hl h.low,h.rows⟩
def zog (w:World) (b o:Nat) (v0 v1 v2 v3:Value):World:=((((w.setCell ⟨b,o,none⟩ v0).setCell ⟨b,o+1,none⟩ v1).setCell ⟨b,o+2,none⟩ v2).setCell ⟨b,o+3,none⟩ v3)
def zix (C:Array Value) (o:Nat) (v0 v1 v2 v3:Value):Array Value:=((((C.setIfInBounds (o) v0).setIfInBounds (o+1) v1).setIfInBounds (o+2) v2).setIfInBounds (o+3) v3)
theorem zlq {w:World} {b o:Nat} {C:Array Value} {t:TypeId} (h:w.heap[b]?=some (.cells C t)) (v0 v1 v2 v3:Value):(zog w b o v0 v1 v2 v3).heap[b]?=some (.cells (zix C o v0 v1 v2 v3) t) :=
 zi (zi (zi (zi h v0) v1) v2) v3
theorem zlt {B:Nat} {a w:World} (h:Below B a w) {b:Nat} (hb:B<=b) (o:Nat) (v0 v1 v2 v3:Value):Below B a (zog w b o v0 v1 v2 v3) :=
 (((h.setCell hb v0).setCell hb v1).setCell hb v2).setCell hb v3
theorem zmt (C:Array Value) (o:Nat) (v0 v1 v2 v3:Value):(zix C o v0 v1 v2 v3).size=C.size:=by simp [zix]
theorem znq (C:Array Value) (o i:Nat) (v0 v1 v2 v3:Value) (h:i < o \/ o+4<=i):(zix C o v0 v1 v2 v3)[i]?=C[i]?:=by
 unfold zix
 iterate 4 rw [Array.getElem?_setIfInBounds,if_neg (by omega)]
theorem zoj (C:Array Value) (o j:Nat) (v0 v1 v2 v3:Value) (hj:j < 4) (ho:o+4<=C.size):(zix C o v0 v1 v2 v3)[o+j]?=(#[v0,v1,v2,v3]:Array Value)[j]?:=by
 have hc:j=0 \/ j=1 \/ j=2 \/ j=3:=by omega
 unfold zix
 rcases hc with h | h | h | h <;> subst h <;> simp [Array.getElem?_setIfInBounds] <;> omega
theorem j4.put {lo:Nat} {w:World} {bo:Nat} {ms:List Lg} {k:Nat} (h:j4 lo w bo ms k) (hk:k < ms.length) :
 j4 lo (zog w bo (k * 4) (.string ms[k].tm) (.string ms[k].rs) (.int .i64 ms[k].mo) (.int .i64 ms[k].fr)) bo ms (k+1):=by
 obtain ⟨C,hC,hsz,hr⟩:=h.rows
 refine ⟨h.low,_,zlq hC _ _ _ _,by rw [zmt];exact hsz,fun i hi hik j hj=>?_⟩
 rcases Nat.lt_or_ge i k with hlt | hge
 ·rw [znq _ _ _ _ _ _ _ (by omega)]
  exact hr i hi hlt j hj
 ·have e:i=k:=by omega
  subst e
  rw [zoj _ _ _ _ _ _ _ hj (by omega)]
  rfl
theorem zgp (m:Lg) (w:World) :
 Calls Tryz.prog 58 #[.agg m.cells] w fun e w'=>e = .returned (.agg m.cells)/\Below w.heap.size w w':=by
 unfold Lg.cells
 go_enter Tryz.func58,Tryz.ntmps58
 go_wp2_with fail
 refine bodyPost_ret (v:=.agg #[.string m.tm,.string m.rs,.int .i64 m.mo,.int .i64 m.fr]) (by simp [results,Tryz.results58,go_sem]) rfl ⟨rfl,?_⟩
 exact ((((Below.refl _ _).alloc (Nat.le_refl _) _).alloc (by simp) _).alloc (by simp;omega) _)
def zoo:Array Value:=#[.string ByteArray.empty,.string ByteArray.empty,.int .i64 0,.int .i64 0]
def zm4 (n:Nat):Array Value:=madeCells zoo (n * 4)
theorem zeW (a:Option Addr) (cap:Nat) (ms:List Lg) (w:World) (hw:zbL w a ms) (hl:ms.length<=1048576) :
 Calls Tryz.prog 28 #[.slice a ms.length cap] w fun e w'=>e = .returned (.slice (some ⟨w.heap.size,0,none⟩) ms.length ms.length)/\j4 w.heap.size w' w.heap.size ms ms.length/\Below w.heap.size w w':=by
 have hmk:∀ w:World,(Instr.makeSlice 47 (.int .i64 ms.length) (.int .i64 ms.length)).run Tryz.prog w = .ok (.slice (some ⟨w.heap.size,0,none⟩) ms.length ms.length) (w.alloc (.cells (zm4 ms.length) 126)) :=
  fun w=>jF (P:=Tryz.prog) 47 126 (.agg zoo) 4 48 Tryz.underlying47 (by kernel_rfl) ms.length (by omega) (by omega) w
 go_enter Tryz.func28,Tryz.ntmps28
 go_wp2_with fail
 clear hmk
 go_loopw [4] (fun i wr=>∃ k:Nat,k<=ms.length/\i = .int .i64 k/\j4 w.heap.size wr w.heap.size ms k/\Below w.heap.size w wr) (fun i _=>ms.length - (intOf i).toNat)
 case atStart=>exact ⟨0,Nat.zero_le _,rfl,⟨Nat.le_refl _,zm4 ms.length,(MapKept.heap_alloc w _).1,size_madeCells _ _,fun i _ h=>absurd h (by omega)⟩,(Below.refl _ _).alloc (Nat.le_refl _) _⟩
 case round =>
  obtain ⟨k,hk,rfl,hown,hB⟩:=hrel
  by_cases hlt:k < ms.length
  ·obtain ⟨b,off,rfl,hb,c0,c1,c2,c3⟩:=hw.load hB k hlt
   have hltI:(k:Int) < (ms.length:Int):=by omega
   clear hw
   go_wp2_with fail
   refine (zgp ms[k] _).mono ?_
   rintro e w1 ⟨rfl,hb1⟩
   have hB1:=hB.trans (hb1.mono hB.size)
   have hown1:=hown.later hb1
   have hbo:w.heap.size < wr.heap.size:=by
    obtain ⟨C',hC',_⟩:=hown.rows
    exact (Array.getElem?_eq_some_iff.1 hC').1
   obtain ⟨C,hC,hsz,_⟩:=hown1.rows
   have hfz:∀ o,w1.frozen? ⟨w.heap.size,o,none⟩=false:=fun o=>zn hC
   have hex:∀ o,o < ms.length * 4->∃ v,w1.cell? ⟨w.heap.size,o,none⟩=some v:=fun o ho=>⟨C[o]'(by omega),by rw [cell_of_block hC];exact Array.getElem?_eq_getElem (by omega)⟩
   obtain ⟨v0,hv0⟩:=hex (k * 4) (by omega)
   obtain ⟨v1,hv1⟩:=hex (k * 4+1) (by omega)
   obtain ⟨v2,hv2⟩:=hex (k * 4+2) (by omega)
   obtain ⟨v3,hv3⟩:=hex (k * 4+3) (by omega)
   have HP:Hid (j4 w.heap.size w1 w.heap.size ms k):=hown1
   clear hex hC hsz c0 c1 c2 c3 hown hown1
   unfold Lg.cells
   go_wp2_with fail
   exact ⟨⟨k+1,by omega,by go_num,HP.out.put hlt,zlt hB1 (Nat.le_refl _) _ _ _ _ _⟩,by simp [intOf];omega⟩
  ·have HF:Hid (j4 w.heap.size wr w.heap.size ms ms.length):=by
    have e:k=ms.length:=by omega
    subst e;exact hown
   clear hw hown
   go_wp2_with fail
   go_ret
   exact ⟨rfl,HF.out,hB⟩
end Go.Proofs.YtaickbhifenbjaaGreat
