import Derived.Test.YtedangodjiolaaaGreatM11
import Derived.Test.YtedangodjiolaaaGreatM10
set_option maxHeartbeats 1000000
namespace Go.Proofs.YtedangodjiolaaaGreat
open Go.RowKit
theorem zfq {w:World}{b off:Nat}{ws:List BA}(hw:zK w (some (aD b off)) ws):∀j u,(ws.map Value.string)[j]?=some u->w.cell? (((aD b off):Addr).add j)=some u:=by
 intro j u hj
 have hlt:j<ws.length:=by
  have:=(List.getElem?_eq_some_iff.1 hj).1;simpa using this
 obtain⟨b',off',he,hb,hc⟩:=hw.cells (by rintro rfl;simp at hlt);simp only[Option.some.injEq,Addr.mk.injEq]at he;obtain⟨rfl,rfl,_⟩:=he;have h1:=hc j hlt
 have e1:((aD b off):Addr).add j=(aD b (off+j)):=by
  unfold Addr.add;split
  ·rename_i h;subst h;simp
  ·rfl
 rw[e1,h1];rw[List.getElem?_map,List.getElem?_eq_getElem hlt]at hj
 simpa using hj
theorem zgt {ws:List BA}:∀u∈ws.map Value.string,u.oneCell'=true:=by
 intro u hu;simp only[List.mem_map]at hu;obtain⟨s,_,rfl⟩:=hu;rfl
theorem jJ (w:World)(o1 o2 o3:Obj):Bw w (((w.alloc o1).alloc o2).alloc o3):=
 ((bAl _ _).alloc (by simp) _).alloc (by simp;omega) _
theorem zch (w:World)(o1 o2 o3:Obj):(((w.alloc o1).alloc o2).alloc o3).heap[w.heap.size+1+1]?=some o3:=by
 have h:=alloc_at ((w.alloc o1).alloc o2) o3
 simpa using h
theorem zci (w:World)(o1 o2 o3:Obj):(((w.alloc o1).alloc o2).alloc o3).heap[w.heap.size]?=some o1:=(Below.heap_alloc _ _ _ (by simp;omega)).trans (yj _ _ _).1
theorem zgF (w:World)(o1 o2 o3:Obj):(((w.alloc o1).alloc o2).alloc o3).heap[w.heap.size+1]?=some o2:=(Below.heap_alloc _ _ _ (by simp)).trans (yj _ _ _).2
theorem zhF {w w1:World}{o1 o2 o3:Obj}(hg:(((w.alloc o1).alloc o2).alloc o3).grownBy w1 (some (w.heap.size+1+1))) :
 w1.heap[w.heap.size]?=some o1/\w1.heap[w.heap.size+1]?=some o2/\Bw w w1/\w.heap.size+1+1<w1.heap.size:=by
 refine⟨(hg.block _ (by simp;omega) (by simp;try omega)).trans (zci _ _ _ _),(hg.block _ (by simp) (by simp)).trans (zgF _ _ _ _),(jJ _ _ _ _).grown hg (jJ _ _ _ _).size (by intro k hk;simp at hk;omega),?_⟩
 have:=hg.size;simp at this;omega
theorem zoX (w:World)(p:Addr)(v:Value)(o3:Obj):((w.setCell p v).alloc o3).heap[w.heap.size]?=some o3:=by
 have h:=alloc_at (w.setCell p v) o3
 simpa[World.setCell] using h
theorem zlq {w w1 w2:World}{a:Value}{C1 C2:AV}{t1 t2:TypeId}{o3:Obj}(hk:w1.heap[w.heap.size]?=some (.cells C1 t1))(hr:w1.heap[w.heap.size+1]?=some (.cells C2 t2))(hB:Bw w w1)(hz:w.heap.size+1+1<w1.heap.size)
 (hg:((w1.setCell (aD w.heap.size 3) a).alloc o3).grownBy w2 (some w1.heap.size)) :
 w2.heap[w.heap.size]?=some (.cells (C1.setIfInBounds 3 a) t1)/\w2.heap[w.heap.size+1]?=some (.cells C2 t2)/\Bw w w2/\w1.heap.size<w2.heap.size:=by
 have hs:(w1.setCell (aD w.heap.size 3) a).heap.size=w1.heap.size:=by simp[World.setCell]
 refine⟨(hg.block _ (by simp[World.setCell];omega) (by simp;omega)).trans ((Below.heap_alloc _ _ _ (by rw[hs];omega)).trans (zi hk _)),
  (hg.block _ (by simp[World.setCell];omega) (by simp;omega)).trans ((Below.heap_alloc _ _ _ (by rw[hs];omega)).trans ((Below.heap_setCell _ _ _ _ (by simp)).trans hr)),
  ((hB.setCell (Nat.le_refl _) _).alloc (by rw[hs];omega) _).grown hg (by simp[World.setCell];omega) (by intro k hk;simp at hk;omega),?_⟩
 have:=hg.size;simp[World.setCell]at this;omega
theorem zA.grown {lo:Nat}{w w2:World}{a:OA}{ws:List BA}{row:Nat}(h:zA lo w a ws)(hg:w.grownBy w2 (some row))(hr:∀g,a=some g->g.block≠row):zA lo w2 a ws:=by
 rcases h with⟨rfl,rfl⟩|⟨g,C,rfl,hl,hh,hc⟩
 ·exact Or.inl ⟨rfl,rfl⟩
 ·exact Or.inr ⟨g,C,rfl,hl,(hg.block g (gES hh).1 (by have:=hr _ rfl;simpa using this)).trans hh,hc⟩
theorem zA.lt {lo:Nat}{w:World}{a:OA}{ws:List BA}(h:zA lo w a ws):∀g,a=some g->g.block<w.heap.size:=by
 intro g hg
 rcases h with⟨rfl,_⟩|⟨g',C,rfl,_,hh,_⟩
 ·cases hg
 ·cases hg;exact(gES hh).1
set_option maxRecDepth 20000 in
theorem zjk (o:Ob)(b off b' off' cap cap':Nat)(w:World)(ho:j3 w o (some (aD b off)) (some (aD b' off')))(hl:o.vs.length<=1048576)(hl':o.hs.length<=1048576) :
 Calls Tryz.prog 185 #[.agg #[.s o.kd,.s o.nm,.s o.tm,.l (some (aD b off)) o.vs.length cap,.bool o.en,.l (some (aD b' off')) o.hs.length cap',.i o.vr]] w
  fun e w'=>∃a dap a' dap' m,e=.returned (.agg #[.s o.kd,.s o.nm,.s o.tm,.l a o.vs.length dap,.bool o.en,.l a' o.hs.length dap',.i o.vr])/\zA w.heap.size w' a o.vs/\(∀g,a=some g->g.block<m)/\w.heap.size<=m/\zA m w' a' o.hs/\Bw w w':=by
 obtain⟨i0,hi,hz0,hz1',hz2⟩:=info_parts Tryz.zcT;go_enter Tryz.func185,Tryz.ntmps185
 go_wp2_with (first
  | (at_builtin;refine wpList_append_own _ rfl (.tmp 3) (.tmp 5) 102 rfl (w.heap.size+1+1) 9 i0 (.s ByteArray.empty) 1 16 Tryz.underlying102 hi hz0 hz1' hz2 rfl (by decide) (.l (some (aD (w.heap.size+1+1) 0)) 0 0) 0 [] rfl ⟨rfl,.inr ⟨w.heap.size+1+1,0,#[],rfl,Nat.le_refl _,zch _ _ _ _,Nat.le_refl _,by simp[maxLen],rfl,rfl⟩⟩ (aD b off) o.vs.length cap (o.vs.map Value.string) rfl (by simp) (zfq (ho.vals.mono (jJ _ _ _ _))) zgt (by unfold maxLen;omega) (by omega) (by simp) ?_;intro v' w1 hown hgr _;simp only[Nat.zero_add,List.nil_append]at hown;obtain⟨a,dap,rfl,ht1⟩:=zA.zfV hown;obtain⟨hk1,hr1,hB1,hz1⟩:=zhF hgr;have hX1:∀j,w1.cell? (aD w.heap.size j)=(#[.s o.kd,.s o.nm,.s o.tm,.l (some (aD b off)) o.vs.length cap,.bool o.en,.l (some (aD b' off')) o.hs.length cap',.i o.vr]:AV)[j]?:=fun j=>cell_of_block hk1;have hF1:∀j,w1.frozen? (aD w.heap.size j)=false:=fun j=>zm hk1;have hzz1:w.heap.size<w1.heap.size:=(by omega);have hone:=hB1.setCell (p:=(aD w.heap.size 3)) (Nat.le_refl _) (.l a o.vs.length dap);have HT1:Hid (zA (w.heap.size+1+1) w1 a o.vs):=ht1;have HK1:Hid (w1.heap[w.heap.size]?=some (.cells #[.s o.kd,.s o.nm,.s o.tm,.l (some (aD b off)) o.vs.length cap,.bool o.en,.l (some (aD b' off')) o.hs.length cap',.i o.vr] 154)):=hk1;have HR1:Hid (w1.heap[w.heap.size+1]?=some (.cells #[.s ByteArray.empty,.s ByteArray.empty,.s ByteArray.empty,.l none 0 0,.bool false,.l none 0 0,.i 0] 154)):=hr1;clear ht1 hk1 hr1;clear hown hgr)
  | (at_builtin;refine wpList_append_own _ rfl (.tmp 8) (.tmp 10) 102 rfl w1.heap.size 9 i0 (.s ByteArray.empty) 1 16 Tryz.underlying102 hi hz0 hz1' hz2 rfl (by decide) (.l (some (aD w1.heap.size 0)) 0 0) 0 [] rfl ⟨rfl,.inr ⟨w1.heap.size,0,#[],rfl,Nat.le_refl _,zoX _ _ _ _,Nat.le_refl _,(by simp[maxLen]),rfl,rfl⟩⟩ (aD b' off') o.hs.length cap' (o.hs.map Value.string) rfl (by simp) (zfq (ho.holds.mono (hone.alloc hone.size _))) zgt (by unfold maxLen;omega) (by omega) (by simp[World.setCell]) ?_;intro v'' w2 hown hgr _;simp only[Nat.zero_add,List.nil_append]at hown;obtain⟨a',dap',rfl,ht2⟩:=zA.zfV hown;obtain⟨hk2,hr2,hB2,hz2'⟩:=zlq HK1.o HR1.o hB1 hz1 hgr;have HU2:Hid (zA w1.heap.size w2 a' o.hs):=ht2;have HT2:Hid (zA (w.heap.size+1+1) w2 a o.vs):=((HT1.o.setCell _ (by simp;omega) _).mono (bAl _ _)).grown hgr (fun g hg=>Nat.ne_of_lt (HT1.o.lt g hg));have hX2:∀j,w2.cell? (aD w.heap.size j)=(#[.s o.kd,.s o.nm,.s o.tm,.l a o.vs.length dap,.bool o.en,.l (some (aD b' off')) o.hs.length cap',.i o.vr]:AV)[j]?:=fun j=>cell_of_block hk2;have hF2:∀j,w2.frozen? (aD w.heap.size j)=false:=fun j=>zm hk2;have hY2:∀j,w2.cell? (aD (w.heap.size+1) j)=(#[.s ByteArray.empty,.s ByteArray.empty,.s ByteArray.empty,.l none 0 0,.bool false,.l none 0 0,.i 0]:AV)[j]?:=fun j=>cell_of_block hr2;have hG2:∀j,w2.frozen? (aD (w.heap.size+1) j)=false:=fun j=>zm hr2;have hzz2:w.heap.size+1<w2.heap.size:=(by omega);clear hown hgr ht2 hk2 hr2 hX1 hF1))
 refine bodyPost_ret (v:=(.agg #[.s o.kd,.s o.nm,.s o.tm,.l a o.vs.length dap,.bool o.en,.l a' o.hs.length dap',.i o.vr])) (by simp[results,Tryz.results185,go_sem,hY2]) rfl ⟨a,dap,a',dap',w1.heap.size,rfl,((((((((HT2.o.setCell _ (by simp;omega) _).setCell _ (by simp) _).setCell _ (by simp) _).setCell _ (by simp) _).setCell _ (by simp) _).setCell _ (by simp) _).setCell _ (by simp) _).setCell _ (by simp) _).low (by omega),HT1.o.lt,by omega,((((((((HU2.o.setCell _ (by simp;omega) _).setCell _ (by simp;omega) _).setCell _ (by simp;omega) _).setCell _ (by simp;omega) _).setCell _ (by simp;omega) _).setCell _ (by simp;omega) _).setCell _ (by simp;omega) _).setCell _ (by simp;omega) _),((((((((hB2.setCell (Nat.le_refl _) _).setCell (by simp) _).setCell (by simp) _).setCell (by simp) _).setCell (by simp) _).setCell (by simp) _).setCell (by simp) _).setCell (by simp) _)⟩
def yP (f:Fld)(v res:BA):Int:=if f.kd=1/\f.wg=res then zaG v else 0
def zeb (fs:List Fld)(vs:List BA)(res:BA):Nat->Int
 | 0=>0
 | k+1=>zeb fs vs res k+yP (fs.getD k zbS) (vs.getD k ByteArray.empty) res
def qV (ss:List Shp)(o:Ob)(res:BA):Int:=
 if zG ss o=true/\res.toList.isEmpty=false then (if res=o.kd then 1 else 0)+zeb (shapeOf ss o.kd).fs o.vs res (shapeOf ss o.kd).fs.length else 0
theorem zed (s:BA):0<=zaG s/\zaG s<=10000000:=by
 unfold zaG
 split
 ·rename_i h
  refine⟨zc7 s h,?_⟩;unfold zan at h;simp only[Bool.and_eq_true,decide_eq_true_eq]at h
  have:=(zft s.data.toList h.2 7 (by have:=h.1.1.2;simpa using this)).2
  unfold zfX;omega
 ·omega
theorem zgj (f:Fld)(v res:BA):0<=yP f v res/\yP f v res<=10000000:=by
 unfold yP
 split
 ·exact zed v
 ·omega
theorem zcX (fs:List Fld)(vs:List BA)(res:BA):∀k,0<=zeb fs vs res k/\zeb fs vs res k<=k*10000000
 | 0=>by simp[zeb]
 | k+1=>by
  have h1:=zcX fs vs res k;have h2:=zgj (fs.getD k zbS) (vs.getD k ByteArray.empty) res;simp only[zeb];omega
theorem zf0 (ss:List Shp)(o:Ob)(res:BA)(h:o.vs.length<=1048576):0<=qV ss o res/\qV ss o res<=20000000000000:=by
 unfold qV
 split
 ·rename_i hc
  have hc1:=hc.1;unfold zG at hc1;simp only[Bool.and_eq_true,decide_eq_true_eq]at hc1
  have:=zcX (shapeOf ss o.kd).fs o.vs res (shapeOf ss o.kd).fs.length
  have h3:=hc1.2
  split <;> omega
 ·omega
theorem zoV (fs:List Fld)(vs:List BA)(res:BA)(k:Nat)(h:k<fs.length)(h':k<vs.length):zeb fs vs res (k+1)=zeb fs vs res k+yP fs[k] vs[k] res:=by
 have e1:fs.getD k zbS=fs[k]:=by simp[List.getD,h]
 have e2:vs.getD k ByteArray.empty=vs[k]:=by simp[List.getD,h']
 simp only[zeb];rw[e1,e2]
end Go.Proofs.YtedangodjiolaaaGreat
namespace Go.Proofs.YtedangodjiolaaaGreat
open Go.ChangeShapes Go.WideShapes Go.ChangeAt Go.RowKit
theorem Tryz.zp2:Tryz.prog.cellsOf 26=3:=by kernel_rfl
theorem Tryz.zmT:Tryz.prog.cellsOf 22=1:=by kernel_rfl
theorem Tryz.zol:Tryz.prog.cellsOf 23=1:=by kernel_rfl
theorem Tryz.zog:Tryz.prog.cellsOf 24=1:=by kernel_rfl
theorem zqc {H:Type}{enc:TypeId × Value->H}{w:World}{base:Nat}{spare:Nat->Bool}{held:Bool}{fuel:Nat}{cs:List Value}{x:DataW H × List MemPlace}
 (h:DataW.trod enc Tryz.prog w base spare held fuel 26 cs=some x) :
 ∃(l:Lw) (a b c:OA) (ca cb cc:Nat),cs=(l.cells a b c ca cb cc).toList/\yF w l a b c:=by
 have hlen:cs.length=3:=by
  obtain⟨_,_,_,_,hl,_,_⟩:=DataW.trod_struct Tryz.underlying26 h;rw[hl];exact Tryz.zp2
 match cs,hlen with
 | [c0,c1,c2],_=>
  have hf:=jd Tryz.underlying26 h;obtain⟨_,_,f0⟩:=hf 0 22 0 c0 rfl Tryz.zmT rfl;obtain⟨_,_,f1⟩:=hf 1 23 1 c1 rfl Tryz.zol rfl;obtain⟨_,_,f2⟩:=hf 2 24 2 c2 rfl Tryz.zog rfl;obtain⟨a,ca,ss,e0,hS⟩:=znu f0;obtain⟨b,cb,ms,e1,hM⟩:=zoC f1;obtain⟨c,cc,ts,e2,hT⟩:=zou f2;simp only[List.cons.injEq,and_true]at e0 e1 e2;subst e0 e1 e2;exact⟨⟨ss,ms,ts⟩,a,b,c,ca,cb,cc,rfl,⟨hS,hM,hT⟩⟩
end Go.Proofs.YtedangodjiolaaaGreat
