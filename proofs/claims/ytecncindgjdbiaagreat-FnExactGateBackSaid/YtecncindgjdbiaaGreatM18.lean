import Derived.Test.YtecncindgjdbiaaGreatM14
import Derived.Test.YtecncindgjdbiaaGreatM15
set_option maxHeartbeats 1000000
namespace Go.Proofs.YtecncindgjdbiaaGreat
open Go.RowKit
def yI (f:Fld)(v res:BA):Int:=if f.kd=1/\f.wg=res then zaw v else 0
def zel (fs:List Fld)(vs:List BA)(res:BA):Nat->Int
 | 0=>0
 | k+1=>zel fs vs res k+yI (fs.getD k zbC) (vs.getD k ByteArray.empty) res
def qU (ss:List Shp)(o:Ob)(res:BA):Int:=
 if zB ss o=true/\res.toList.isEmpty=false then (if res=o.kd then 1 else 0)+zel (shapeOf ss o.kd).fs o.vs res (shapeOf ss o.kd).fs.length else 0
theorem zeq (s:BA):0<=zaw s/\zaw s<=10000000:=by
 unfold zaw
 split
 ·rename_i h
  refine⟨zdb s h,?_⟩;unfold zaj at h;simp only[Bool.and_eq_true,decide_eq_true_eq]at h
  have:=(zfg s.data.toList h.2 7 (by have:=h.1.1.2;simpa using this)).2
  unfold zgd;omega
 ·omega
theorem zgm (f:Fld)(v res:BA):0<=yI f v res/\yI f v res<=10000000:=by
 unfold yI
 split
 ·exact zeq v
 ·omega
theorem zcU (fs:List Fld)(vs:List BA)(res:BA):∀k,0<=zel fs vs res k/\zel fs vs res k<=k*10000000
 | 0=>by simp[zel]
 | k+1=>by
  have h1:=zcU fs vs res k;have h2:=zgm (fs.getD k zbC) (vs.getD k ByteArray.empty) res;simp only[zel];omega
theorem zgR (ss:List Shp)(o:Ob)(res:BA)(h:o.vs.length<=1048576):0<=qU ss o res/\qU ss o res<=20000000000000:=by
 unfold qU
 split
 ·rename_i hc
  have hc1:=hc.1;unfold zB at hc1;simp only[Bool.and_eq_true,decide_eq_true_eq]at hc1
  have:=zcU (shapeOf ss o.kd).fs o.vs res (shapeOf ss o.kd).fs.length
  have h3:=hc1.2
  split <;> omega
 ·omega
theorem zo3 (fs:List Fld)(vs:List BA)(res:BA)(k:Nat)(h:k<fs.length)(h':k<vs.length):zel fs vs res (k+1)=zel fs vs res k+yI fs[k] vs[k] res:=by
 have e1:fs.getD k zbC=fs[k]:=by simp[List.getD,h]
 have e2:vs.getD k ByteArray.empty=vs[k]:=by simp[List.getD,h']
 simp only[zel];rw[e1,e2]
theorem zj8 (nm:BA)(kd ls ms:Int)(sl:Value)(to:BA)(rl:Int)(mu fx:Bool)(df wg:BA)(v:BA)(bn:Nat)(w:World)(hb:bn<w.heap.size)(hn:w.cell? (aD bn 0)=some (.s v)) :
 Calls Tryz.prog 218 #[.agg #[.s nm,.i kd,.i ls,.i ms,sl,.s to,.i rl,.bool mu,.bool fx,.s df,.s wg],.pointer (some (aD bn 0))] w fun e w'=>e=.returned (.bool (nm.toList == v.toList))/\Bw w w':=by
 go_enter Tryz.func218,Tryz.ntmps218
 go_wp2
 go_ret;exact⟨rfl,bAl _ _⟩
theorem zk7 (a:OA)(cap:Nat)(fs:List Fld)(v:BA)(bn:Nat)(w:World)(hw:yc w a fs)(hbn:bn<w.heap.size)(hn:w.cell? (aD bn 0)=some (.s v)) :
 Calls Tryz.prog 217 #[.l a fs.length cap,.func (.func 218) #[] #[.pointer (some (aD bn 0))]] w fun e w'=>e=.returned (.i (zR fs v))/\Bw w w':=by
 have hl:=hw.len;unfold maxLen at hl;go_enter Tryz.func217,Tryz.ntmps217
 go_wp2
 go_loopw [8] (fun i wr=>∃k:Nat,k<=fs.length/\i=.i k/\hasName (fs.take k) v=false/\Bw w wr) (fun i _=>fs.length-(intOf i).toNat)
 case atStart=>exact⟨0,Nat.zero_le _,rfl,rfl,bRf _ _⟩
 case round=>
  obtain⟨k,hk,rfl,hno,hB⟩:=hrel
  by_cases hlt:k<fs.length
  ·obtain⟨b,off,rfl,hb,hr⟩:=hw.rows (by rintro rfl;simp at hlt)
   obtain⟨wa,wcap,hf⟩:=hr k hlt;obtain⟨c0,c1,c2,c3,c4,c5,c6,c7,c8,c9,c10⟩:=(hf.mono hb hB).load;have hn1:=(hB.cell (p:=(aD bn 0)) hbn).trans hn;have hbn1:bn<wr.heap.size:=nLt hbn hB.size;clear hw hr hf hn
   by_cases he:fs[k].nm=v
   ·have HA:Hid (zR fs v=k):=zef fs v k hlt hno he
    have HE:Hid ((fs[k].nm.toList == v.toList)=true):=by unfold Hid;rw[beq_toList];simpa using he
    clear he hno;go_wp2_with fail
    refine(zf HE.o (zj8 _ _ _ _ _ _ _ _ _ _ _ _ _ _ hbn1 hn1)).mono ?_;rintro e w2⟨rfl,hb2⟩;go_wp2_with fail
    go_ret;exact⟨zo HA.o.symm,hB.trans (hb2.mono hB.size)⟩
   ·have HS:Hid (hasName (fs.take (k+1)) v=false):=by unfold Hid;rw[zd3 fs v k hlt,hno,decide_eq_false he];rfl
    have HE:Hid ((fs[k].nm.toList == v.toList)=false):=by unfold Hid;rw[beq_toList];simpa using he
    clear he hno;go_wp2_with fail
    refine(zf HE.o (zj8 _ _ _ _ _ _ _ _ _ _ _ _ _ _ hbn1 hn1)).mono ?_;rintro e w2⟨rfl,hb2⟩;go_wp2_with fail
    exact⟨⟨k+1,by omega,by go_num,HS.o,hB.trans (hb2.mono hB.size)⟩,by simp[intOf];omega⟩
  ·have HA:Hid (zR fs v=-1):=zgY fs v (by rw[<- zie fs v k (by omega)];exact hno)
   clear hno hw
   go_wp2
   go_ret;exact⟨zo HA.o.symm,hB⟩
theorem jk (a:OA)(cap:Nat)(fs:List Fld)(v:BA)(w:World)(hw:yc w a fs) :
 Calls Tryz.prog 198 #[.l a fs.length cap,.s v] w fun e w'=>e=.returned (.i (zR fs v))/\Bw w w':=by
 go_enter Tryz.func198,Tryz.ntmps198;go_wp2_with fail
 refine(zk7 _ _ _ v _ _ (hw.mono (bAl _ _)) (by simp) (by rw[World.cell?_alloc_at _ _ _ _ rfl];rfl)).mono ?_;rintro e w2⟨rfl,hb2⟩;go_wp2_with fail
 go_ret;exact⟨rfl,(bAl _ _).trans (hb2.mono (by simp))⟩
theorem zdW (nm:BA)(ls ms:Int)(a:OA)(n cap:Nat)(to:BA)(rl:Int)(mu fx:Bool)(df wg:BA)(w:World) :
 Calls Tryz.prog 215 #[.agg #[.s nm,.i 1,.i ls,.i ms,.l a n cap,.s to,.i rl,.bool mu,.bool fx,.s df,.s wg]] w fun e w'=>e=.returned (.bool (yK 1 ls ms n to rl wg))/\Bw w w':=by
 go_enter Tryz.func215,Tryz.ntmps215
 go_wp2
 all_goals
  go_ret;refine⟨ze ?_,bAl _ _⟩
  simp_all [yK]
  try first|omega|(intros;omega)|(rw[Bool.eq_iff_iff];simp)
theorem zbM (nm:BA)(ls ms:Int)(a:OA)(n cap:Nat)(to:BA)(rl:Int)(mu fx:Bool)(df wg:BA)(w:World) :
 Calls Tryz.prog 215 #[.agg #[.s nm,.i 2,.i ls,.i ms,.l a n cap,.s to,.i rl,.bool mu,.bool fx,.s df,.s wg]] w fun e w'=>e=.returned (.bool (yK 2 ls ms n to rl wg))/\Bw w w':=by
 go_enter Tryz.func215,Tryz.ntmps215
 go_wp2
 all_goals
  go_ret;refine⟨ze ?_,bAl _ _⟩
  simp_all [yK]
  try first|omega|(intros;omega)|(rw[Bool.eq_iff_iff];simp)
theorem zei (nm:BA)(ls ms:Int)(a:OA)(n cap:Nat)(to:BA)(rl:Int)(mu fx:Bool)(df wg:BA)(w:World) :
 Calls Tryz.prog 215 #[.agg #[.s nm,.i 3,.i ls,.i ms,.l a n cap,.s to,.i rl,.bool mu,.bool fx,.s df,.s wg]] w fun e w'=>e=.returned (.bool (yK 3 ls ms n to rl wg))/\Bw w w':=by
 go_enter Tryz.func215,Tryz.ntmps215
 go_wp2
 all_goals
  go_ret;refine⟨ze ?_,bAl _ _⟩
  simp_all [yK]
  try first|omega|(intros;omega)|(rw[Bool.eq_iff_iff];simp)
theorem zaE (nm:BA)(ls ms:Int)(a:OA)(n cap:Nat)(to:BA)(rl:Int)(mu fx:Bool)(df wg:BA)(w:World) :
 Calls Tryz.prog 215 #[.agg #[.s nm,.i 4,.i ls,.i ms,.l a n cap,.s to,.i rl,.bool mu,.bool fx,.s df,.s wg]] w fun e w'=>e=.returned (.bool (yK 4 ls ms n to rl wg))/\Bw w w':=by
 go_enter Tryz.func215,Tryz.ntmps215
 go_wp2
 all_goals
  go_ret;refine⟨ze ?_,bAl _ _⟩
  simp_all [yK]
  try first|omega|(intros;omega)|(rw[Bool.eq_iff_iff];simp)
theorem zjB (nm:BA)(kd ls ms:Int)(a:OA)(n cap:Nat)(to:BA)(rl:Int)(mu fx:Bool)(df wg:BA)(w:World)(h1:kd≠1)(h2:kd≠2)(h3:kd≠3)(h4:kd≠4) :
 Calls Tryz.prog 215 #[.agg #[.s nm,.i kd,.i ls,.i ms,.l a n cap,.s to,.i rl,.bool mu,.bool fx,.s df,.s wg]] w fun e w'=>∃b,e=.returned (.bool b)/\Bw w w':=by
 have e1:(kd == 1)=false:=by simpa using h1
 have e2:(kd == 2)=false:=by simpa using h2
 have e3:(kd == 3)=false:=by simpa using h3
 have e4:(kd == 4)=false:=by simpa using h4
 have n1:(kd != 1)=true:=by simpa using h1
 have n2:(kd != 2)=true:=by simpa using h2
 clear h1 h2 h3 h4;go_enter Tryz.func215,Tryz.ntmps215
 go_wp2
 all_goals
  go_ret;exact⟨_,rfl,bAl _ _⟩
theorem zfi {w:World}{b off:Nat}{ws:List BA}(hw:zF w (some (aD b off)) ws):∀j u,(ws.map Value.string)[j]?=some u->w.cell? (((aD b off):Addr).add j)=some u:=by
 intro j u hj
 have hlt:j<ws.length:=by
  have:=(List.getElem?_eq_some_iff.1 hj).1;simpa using this
 obtain⟨b',off',he,hb,hc⟩:=hw.cells (by rintro rfl;simp at hlt);simp only[Option.some.injEq,Addr.mk.injEq]at he;obtain⟨rfl,rfl,_⟩:=he;have h1:=hc j hlt
 have e1:((aD b off):Addr).add j=(aD b (off+j)):=by
  unfold Addr.add;split
  ·rename_i h;subst h;simp
  ·rfl
 rw[e1,h1];rw[List.getElem?_map,List.getElem?_eq_getElem hlt]at hj
 simpa using hj
theorem zgD {ws:List BA}:∀u∈ws.map Value.string,u.oneCell'=true:=by
 intro u hu;simp only[List.mem_map]at hu;obtain⟨s,_,rfl⟩:=hu;rfl
theorem jB (w:World)(o1 o2 o3:Obj):Bw w (((w.alloc o1).alloc o2).alloc o3):=
 ((bAl _ _).alloc (by simp) _).alloc (by simp;omega) _
theorem zck (w:World)(o1 o2 o3:Obj):(((w.alloc o1).alloc o2).alloc o3).heap[w.heap.size+1+1]?=some o3:=by
 have h:=alloc_at ((w.alloc o1).alloc o2) o3
 simpa using h
theorem zcd (w:World)(o1 o2 o3:Obj):(((w.alloc o1).alloc o2).alloc o3).heap[w.heap.size]?=some o1:=(Below.heap_alloc _ _ _ (by simp;omega)).trans (zT _ _ _).1
theorem zf2 (w:World)(o1 o2 o3:Obj):(((w.alloc o1).alloc o2).alloc o3).heap[w.heap.size+1]?=some o2:=(Below.heap_alloc _ _ _ (by simp)).trans (zT _ _ _).2
theorem zh5 {w w1:World}{o1 o2 o3:Obj}(hg:(((w.alloc o1).alloc o2).alloc o3).grownBy w1 (some (w.heap.size+1+1))) :
 w1.heap[w.heap.size]?=some o1/\w1.heap[w.heap.size+1]?=some o2/\Bw w w1/\w.heap.size+1+1<w1.heap.size:=by
 refine⟨(hg.block _ (by simp;omega) (by simp;try omega)).trans (zcd _ _ _ _),(hg.block _ (by simp) (by simp)).trans (zf2 _ _ _ _),(jB _ _ _ _).grown hg (jB _ _ _ _).size (by intro k hk;simp at hk;omega),?_⟩
 have:=hg.size;simp at this;omega
theorem zoW (w:World)(p:Addr)(v:Value)(o3:Obj):((w.setCell p v).alloc o3).heap[w.heap.size]?=some o3:=by
 have h:=alloc_at (w.setCell p v) o3
 simpa[World.setCell] using h
theorem zlq {w w1 w2:World}{a:Value}{C1 C2:AV}{t1 t2:TypeId}{o3:Obj}(hk:w1.heap[w.heap.size]?=some (.cells C1 t1))(hr:w1.heap[w.heap.size+1]?=some (.cells C2 t2))(hB:Bw w w1)(hz:w.heap.size+1+1<w1.heap.size)
 (hg:((w1.setCell (aD w.heap.size 3) a).alloc o3).grownBy w2 (some w1.heap.size)) :
 w2.heap[w.heap.size]?=some (.cells (C1.setIfInBounds 3 a) t1)/\w2.heap[w.heap.size+1]?=some (.cells C2 t2)/\Bw w w2/\w1.heap.size<w2.heap.size:=by
 have hs:(w1.setCell (aD w.heap.size 3) a).heap.size=w1.heap.size:=by simp[World.setCell]
 refine⟨(hg.block _ (by simp[World.setCell];omega) (by simp;omega)).trans ((Below.heap_alloc _ _ _ (by rw[hs];omega)).trans (zi hk _)),
  (hg.block _ (by simp[World.setCell];omega) (by simp;omega)).trans ((Below.heap_alloc _ _ _ (by rw[hs];omega)).trans ((Below.heap_setCell _ _ _ _ (by simp)).trans hr)),
  ((hB.setCell (Nat.le_refl _) _).alloc (by rw[hs];omega) _).grown hg (by simp[World.setCell];omega) (by intro k hk;simp at hk;omega),?_⟩
 have:=hg.size;simp[World.setCell]at this;omega
theorem zn.grown {lo:Nat}{w w2:World}{a:OA}{ws:List BA}{row:Nat}(h:zn lo w a ws)(hg:w.grownBy w2 (some row))(hr:∀g,a=some g->g.block≠row):zn lo w2 a ws:=by
 rcases h with⟨rfl,rfl⟩|⟨g,C,rfl,hl,hh,hc⟩
 ·exact Or.inl ⟨rfl,rfl⟩
 ·exact Or.inr ⟨g,C,rfl,hl,(hg.block g (gES hh).1 (by have:=hr _ rfl;simpa using this)).trans hh,hc⟩
theorem zn.lt {lo:Nat}{w:World}{a:OA}{ws:List BA}(h:zn lo w a ws):∀g,a=some g->g.block<w.heap.size:=by
 intro g hg
 rcases h with⟨rfl,_⟩|⟨g',C,rfl,_,hh,_⟩
 ·cases hg
 ·cases hg;exact(gES hh).1
set_option maxRecDepth 20000 in
theorem zem (o:Ob)(b off b' off' cap cap':Nat)(w:World)(ho:jT w o (some (aD b off)) (some (aD b' off')))(hl:o.vs.length<=1048576)(hl':o.hs.length<=1048576) :
 Calls Tryz.prog 68 #[.agg #[.s o.kd,.s o.nm,.s o.tm,.l (some (aD b off)) o.vs.length cap,.bool o.en,.l (some (aD b' off')) o.hs.length cap',.i o.vr]] w
  fun e w'=>∃a dap a' dap' m,e=.returned (.agg #[.s o.kd,.s o.nm,.s o.tm,.l a o.vs.length dap,.bool o.en,.l a' o.hs.length dap',.i o.vr])/\zn w.heap.size w' a o.vs/\(∀g,a=some g->g.block<m)/\w.heap.size<=m/\zn m w' a' o.hs/\Bw w w':=by
 obtain⟨i0,hi,hz0,hz1',hz2⟩:=info_parts Tryz.zc2;go_enter Tryz.func68,Tryz.ntmps68
 go_wp2_with (first
  | (at_builtin;refine wpList_append_own _ rfl (.tmp 3) (.tmp 5) 106 rfl (w.heap.size+1+1) 9 i0 (.s ByteArray.empty) 1 16 Tryz.underlying106 hi hz0 hz1' hz2 rfl (by decide) (.l (some (aD (w.heap.size+1+1) 0)) 0 0) 0 [] rfl ⟨rfl,.inr ⟨w.heap.size+1+1,0,#[],rfl,Nat.le_refl _,zck _ _ _ _,Nat.le_refl _,by simp[maxLen],rfl,rfl⟩⟩ (aD b off) o.vs.length cap (o.vs.map Value.string) rfl (by simp) (zfi (ho.vals.mono (jB _ _ _ _))) zgD (by unfold maxLen;omega) (by omega) (by simp) ?_;intro v' w1 hown hgr _;simp only[Nat.zero_add,List.nil_append]at hown;obtain⟨a,dap,rfl,ht1⟩:=zn.zdl hown;obtain⟨hk1,hr1,hB1,hz1⟩:=zh5 hgr;have hX1:∀j,w1.cell? (aD w.heap.size j)=(#[.s o.kd,.s o.nm,.s o.tm,.l (some (aD b off)) o.vs.length cap,.bool o.en,.l (some (aD b' off')) o.hs.length cap',.i o.vr]:AV)[j]?:=fun j=>cell_of_block hk1;have hF1:∀j,w1.frozen? (aD w.heap.size j)=false:=fun j=>zh hk1;have hzz1:w.heap.size<w1.heap.size:=(by omega);have hone:=hB1.setCell (p:=(aD w.heap.size 3)) (Nat.le_refl _) (.l a o.vs.length dap);have HT1:Hid (zn (w.heap.size+1+1) w1 a o.vs):=ht1;have HK1:Hid (w1.heap[w.heap.size]?=some (.cells #[.s o.kd,.s o.nm,.s o.tm,.l (some (aD b off)) o.vs.length cap,.bool o.en,.l (some (aD b' off')) o.hs.length cap',.i o.vr] 123)):=hk1;have HR1:Hid (w1.heap[w.heap.size+1]?=some (.cells #[.s ByteArray.empty,.s ByteArray.empty,.s ByteArray.empty,.l none 0 0,.bool false,.l none 0 0,.i 0] 123)):=hr1;clear ht1 hk1 hr1;clear hown hgr)
  | (at_builtin;refine wpList_append_own _ rfl (.tmp 8) (.tmp 10) 106 rfl w1.heap.size 9 i0 (.s ByteArray.empty) 1 16 Tryz.underlying106 hi hz0 hz1' hz2 rfl (by decide) (.l (some (aD w1.heap.size 0)) 0 0) 0 [] rfl ⟨rfl,.inr ⟨w1.heap.size,0,#[],rfl,Nat.le_refl _,zoW _ _ _ _,Nat.le_refl _,(by simp[maxLen]),rfl,rfl⟩⟩ (aD b' off') o.hs.length cap' (o.hs.map Value.string) rfl (by simp) (zfi (ho.holds.mono (hone.alloc hone.size _))) zgD (by unfold maxLen;omega) (by omega) (by simp[World.setCell]) ?_;intro v'' w2 hown hgr _;simp only[Nat.zero_add,List.nil_append]at hown;obtain⟨a',dap',rfl,ht2⟩:=zn.zdl hown;obtain⟨hk2,hr2,hB2,hz2'⟩:=zlq HK1.o HR1.o hB1 hz1 hgr;have HU2:Hid (zn w1.heap.size w2 a' o.hs):=ht2;have HT2:Hid (zn (w.heap.size+1+1) w2 a o.vs):=((HT1.o.setCell _ (by simp;omega) _).mono (bAl _ _)).grown hgr (fun g hg=>Nat.ne_of_lt (HT1.o.lt g hg));have hX2:∀j,w2.cell? (aD w.heap.size j)=(#[.s o.kd,.s o.nm,.s o.tm,.l a o.vs.length dap,.bool o.en,.l (some (aD b' off')) o.hs.length cap',.i o.vr]:AV)[j]?:=fun j=>cell_of_block hk2;have hF2:∀j,w2.frozen? (aD w.heap.size j)=false:=fun j=>zh hk2;have hY2:∀j,w2.cell? (aD (w.heap.size+1) j)=(#[.s ByteArray.empty,.s ByteArray.empty,.s ByteArray.empty,.l none 0 0,.bool false,.l none 0 0,.i 0]:AV)[j]?:=fun j=>cell_of_block hr2;have hG2:∀j,w2.frozen? (aD (w.heap.size+1) j)=false:=fun j=>zh hr2;have hzz2:w.heap.size+1<w2.heap.size:=(by omega);clear hown hgr ht2 hk2 hr2 hX1 hF1))
 refine bodyPost_ret (v:=(.agg #[.s o.kd,.s o.nm,.s o.tm,.l a o.vs.length dap,.bool o.en,.l a' o.hs.length dap',.i o.vr])) (by simp[results,Tryz.results68,go_sem,hY2]) rfl ⟨a,dap,a',dap',w1.heap.size,rfl,((((((((HT2.o.setCell _ (by simp;omega) _).setCell _ (by simp) _).setCell _ (by simp) _).setCell _ (by simp) _).setCell _ (by simp) _).setCell _ (by simp) _).setCell _ (by simp) _).setCell _ (by simp) _).low (by omega),HT1.o.lt,by omega,((((((((HU2.o.setCell _ (by simp;omega) _).setCell _ (by simp;omega) _).setCell _ (by simp;omega) _).setCell _ (by simp;omega) _).setCell _ (by simp;omega) _).setCell _ (by simp;omega) _).setCell _ (by simp;omega) _).setCell _ (by simp;omega) _),((((((((hB2.setCell (Nat.le_refl _) _).setCell (by simp) _).setCell (by simp) _).setCell (by simp) _).setCell (by simp) _).setCell (by simp) _).setCell (by simp) _).setCell (by simp) _)⟩
theorem zdX (a:OA)(cap:Nat)(ts:List Tm)(v:BA)(w:World)(hw:jQ w a ts) :
 Calls Tryz.prog 108 #[.l a ts.length cap,.s v] w fun e w'=>e=.returned (.bool (yB ts v))/\w'=w:=by
 have hl:=hw.len;unfold maxLen at hl;go_enter Tryz.func108,Tryz.ntmps108;go_wp2_with fail
 go_loop [5] (fun i=>∃k:Nat,k<=ts.length/\i=.i k/\yB (ts.take k) v=false) (fun i=>ts.length-(intOf i).toNat)
 case atStart=>exact⟨0,Nat.zero_le _,rfl,rfl⟩
 case round=>
  obtain⟨k,hk,rfl,hall⟩:=hrel
  by_cases hlt:k<ts.length
  ·obtain⟨b,off,rfl,hb,c0,c1⟩:=hw.load (bRf _ _) k hlt
   clear hw;have HS:Hid (yB (ts.take (k+1)) v=(false||decide (ts[k].nm=v))):=by rw[zea ts v k hlt,hall];rfl
   have hltI:(k:Int)<(ts.length:Int):=by omega
   by_cases he:ts[k].nm=v
   ·have hbe:(ts[k].nm.toList == v.toList)=true:=by rw[beq_toList];simpa using he
    have HR:=hid (zom ts v k hlt he);clear he hall;go_wp2_with fail
    go_ret;exact⟨ze HR.o.symm,rfl⟩
   ·have hbe:(ts[k].nm.toList == v.toList)=false:=by rw[beq_toList];simpa using he
    have HE:=hid he;clear he hall;go_wp2_with fail
    go_round
    case rel=>exact⟨k+1,by omega,by go_num,by rw[HS.o,decide_eq_false HE.o];rfl⟩
    case measure=>simp[intOf];omega
  ·have HR:Hid (yB ts v=false):=by rw[<- zeS ts v k (by omega)];exact hall
   clear hall hw;go_wp2_with fail
   go_ret;exact⟨ze HR.o.symm,rfl⟩
theorem zgH (ts:List Tm)(m:Nat)(z:BA)(h:z.size=0):jR ts m z=z:=by
 cases m with
 | zero=>rfl
 | succ m=>unfold jR;rw[if_pos h]
theorem zhU (ts:List Tm)(m:Nat)(z:BA)(h:¬z.size=0):jR ts (m+1) z=jR ts m (over ts z):=by
 rw[jR,if_neg h]
theorem ziQ (a:OA)(cap:Nat)(ts:List Tm)(w:World)(hw:jQ w a ts) :
 Calls Tryz.prog 106 #[.l a ts.length cap] w fun e w'=>e=.returned (.bool (zaN ts))/\Bw w w':=by
 have hl:=hw.len;unfold maxLen at hl
 by_cases h12:ts.length<=12
 rotate_left
 ·have HF:Hid (zaN ts=false):=by simp[Hid,zaN,h12]
  clear hw;go_enter Tryz.func106,Tryz.ntmps106;go_wp2_with fail
  go_ret;exact⟨ze HF.o.symm,bRf _ _⟩
 have HG:Hid (zaN ts=up (zbZ ts) ts.length):=by simp[Hid,zaN,h12]
 have h12I:(ts.length:Int)<=12:=by omega
 have HW0:=hid hw;clear hw;go_enter Tryz.func106,Tryz.ntmps106;go_wp2_with fail
 go_loopw [3] (fun i wr=>∃k:Nat,k<=ts.length/\i=.i k/\up (zbZ ts) k=true/\Bw w wr) (fun i _=>ts.length-(intOf i).toNat)
 case atStart=>exact⟨0,Nat.zero_le _,rfl,rfl,bRf _ _⟩
 case round=>
  obtain⟨k,hk,rfl,hup,hB⟩:=hrel;obtain⟨W0,rfl⟩:∃W0,W0=wr:=⟨wr,rfl⟩
  have hsz:=hB.size
  by_cases hlt:k<ts.length
  ·obtain⟨b,off,rfl,hb,c0,c1⟩:=HW0.o.load hB k hlt
   have hbr:b<W0.heap.size:=by omega
   have hsm:=HW0.o.small k hlt;have hsn:=hsm.nm;have HS:Hid (qE ts k=true->zdG ts k=true->up (zbZ ts) (k+1)=true):=fun h h'=>by rw[q8,hup,zbZ,h,h'];rfl
   have HN:Hid (qE ts k=false->zaN ts=false):=fun h=>by rw[HG.o];exact zaH hlt (by rw[zbZ,h];rfl)
   have HD:Hid (zdG ts k=false->zaN ts=false):=fun h=>by rw[HG.o];exact zaH hlt (by rw[zbZ,h,Bool.and_false])
   have HDS:Hid (zdG ts k=decide ((jR ts 5 ts[k].nm).size=0)):=by unfold Hid zdG;rw[getD_at ts k _ hlt]
   have hltI:(k:Int)<(ts.length:Int):=by omega
   have HB:=hid hB;have HBx:Hid (∀(ob:Obj) (n:Nat),Bw W0 ((W0.alloc ob).drewN n)):=fun ob n=>below_drewN (bAl _ _) _
   have HWr:Hid (∀(ob:Obj) (n:Nat),jQ ((W0.alloc ob).drewN n) (some (aD b off)) ts):=fun ob n=>(HW0.o.mono hB).mono (below_drewN (bAl _ _) _)
   clear hup hsm hB
   by_cases hn:zy ts[k].nm=true
   rotate_left
   ·have HNm:Hid (zy ts[k].nm=false):=by simpa[Hid] using hn
    have HF:Hid (qE ts k=false):=by unfold Hid;rw[zcE ts k hlt _ rfl,HNm.o];rfl
    clear hn;go_wp2_with fail
    go_quiet ((go_at_call 114;exact Calls.quiet_of_same (zf HNm.o (zk _ _ hsn))))
    go_wp2_with fail
    go_ret;exact⟨ze (HN.o HF.o).symm,HB.o.trans ((HBx.o _ _).mono hsz)⟩
   have HNm:Hid (zy ts[k].nm=true):=hn;clear hn
   by_cases hbad:0<k/\less (ts.getD (k-1) zbe).nm ts[k].nm=false
   ·obtain⟨hkpos,hls⟩:=hbad
    have HF:Hid (qE ts k=false):=by
     unfold Hid;rw[zcE ts k hlt false (by rw[hls,decide_eq_false (show ¬k=0 by omega)];rfl)];simp
    obtain⟨m,rfl⟩:∃m,k=m+1:=⟨k-1,by omega⟩
    rw[Nat.add_sub_cancel,getD_at ts m _ (by omega)]at hls;obtain⟨b',off',e',hb',d0,d1⟩:=HW0.o.load HB.o m (by omega);simp only[Option.some.injEq,Addr.mk.injEq]at e';obtain⟨rfl,rfl,_⟩:=e';have hls':Op.bytesLess ts[m].nm.toList ts[m+1].nm.toList=false:=hls;have hmI:(m:Int)<12:=by omega
    have hm0:(0:Int)<=(m:Int):=by omega
    have hml:(m:Int)<(ts.length:Int):=by omega
    have hmw:IntKind.i64.wrap (m:Int)=m:=by rw[IntKind.wrap_i64];omega
    clear hls;go_wp2_with fail
    go_quiet ((go_at_call 114;exact Calls.quiet_of_same (zf HNm.o (zk _ _ hsn))))
    go_wp2_with fail
    go_ret;exact⟨ze (HN.o HF.o).symm,HB.o.trans ((HBx.o _ _).mono hsz)⟩
   have hgd:(decide (k=0)||less (ts.getD (k-1) zbe).nm ts[k].nm)=true:=by
    by_cases hk0:k=0
    ·simp[hk0]
    ·cases hq:less (ts.getD (k-1) zbe).nm ts[k].nm
     ·exact absurd ⟨by omega,hq⟩ hbad
     ·simp
   have HA:Hid (qE ts k=(ts[k].ov.toList.isEmpty||yB ts ts[k].ov)):=by
    unfold Hid;rw[zcE ts k hlt true hgd,HNm.o];rfl
   have hgood:(decide (0<k)=false) \/ (decide (0<k)=true/\(0:Int)<=(k:Int)-1/\(k:Int)-1<(ts.length:Int)/\∃h:k-1<ts.length,Op.bytesLess ts[k-1].nm.toList ts[k].nm.toList=true/\W0.cell? (aD b (off+(k-1)*2))=some (.s ts[k-1].nm)):=by
    by_cases hk0:k=0
    ·exact Or.inl (by simp;omega)
    ·refine Or.inr ⟨by simp;omega,by omega,by omega,by omega,?_,?_⟩
     ·rw[decide_eq_false hk0,getD_at ts (k-1) _ (by omega)]at hgd
      exact hgd
     ·obtain⟨b',off',e',hb',d0,d1⟩:=HW0.o.load HB.o (k-1) (by omega)
      simp only[Option.some.injEq,Addr.mk.injEq]at e';obtain⟨rfl,rfl,_⟩:=e';exact d0
   clear hbad hgd
   by_cases hov:ts[k].ov.toList.isEmpty=true
   ·have HT:Hid (qE ts k=true):=by unfold Hid;rw[HA.o,hov];rfl
    rcases hgood with hg|⟨hg,hk1,hk2,hkm,hls',d0⟩
    focus
     go_wp2_with fail
    rotate_left
    focus
     go_wp2_with fail
    all_goals
     go_quiet ((go_at_call 114;exact Calls.quiet_of_same (zf HNm.o (zk _ _ hsn))))
     go_wp2_with fail
     obtain⟨W1,hW1⟩:=nm ((W0.alloc (.cells #[.s ts[k].nm,.s ts[k].ov] 138)).drewN nq);have HB1:Hid (Bw w W1):=by unfold Hid;rw[hW1];exact HB.o.trans ((HBx.o _ _).mono hsz)
     have HW1:=hid (HW0.o.mono HB1.o);rw[<- hW1];clear hW1
     go_loopw [5,6] (fun p i wi=>∃(n:Nat) (z:BA),n<=5/\p=.s z/\i=.i n/\jR ts 5 ts[k].nm=jR ts (5-n) z/\wi=W1) (fun _ i _=>5-(intOf i).toNat)
     case atStart=>exact⟨0,ts[k].nm,Nat.zero_le _,rfl,rfl,rfl,rfl⟩
     case round=>
      obtain⟨n,z,hn5,rfl,rfl,hz,rfl⟩:=hrel
      by_cases hn:n<5
      ·have hnI:(n:Int)<=4:=by omega
       by_cases hz0:z.size=0
       ·have hze:z.toList.isEmpty=true:=by rw[zx];simpa using hz0
        have HDT:Hid (zdG ts (k)=true):=by unfold Hid;rw[HDS.o,hz,zgH ts _ z hz0];simpa using hz0
        clear hz hz0;go_wp2_with fail
        exact⟨⟨k+1,by omega,by go_num,HS.o HT.o HDT.o,HB1.o⟩,by simp[intOf];omega⟩
       ·have hze:z.toList.isEmpty=false:=by rw[zx];simpa using hz0
        have HZ:Hid (jR ts 5 ts[k].nm=jR ts (5-(n+1)) (over ts z)):=by
         obtain⟨q,hq⟩:∃q,5-n=q+1:=⟨4-n,by omega⟩
         rw[Hid,hz,hq,zhU ts q z hz0,show 5-(n+1)=q by omega]
        clear hz hz0
        go_wp2_with (go_at_call 144;refine(zcK _ _ ts _ _ HW1.o).mono ?_;rintro e w'⟨rfl,rfl⟩)
        exact⟨⟨n+1,over ts z,by omega,rfl,by go_num,HZ.o,trivial⟩,by simp[intOf];omega⟩
      ·have e5:5-n=0:=by omega
       rw[e5]at hz;have hnI:¬(n:Int)<=4:=by omega
       by_cases hz0:z.size=0
       ·have hze:z.toList.isEmpty=true:=by rw[zx];simpa using hz0
        have HDT:Hid (zdG ts (k)=true):=by unfold Hid;rw[HDS.o,hz];simpa[jR] using hz0
        clear hz hz0;go_wp2_with fail
        exact⟨⟨k+1,by omega,by go_num,HS.o HT.o HDT.o,HB1.o⟩,by simp[intOf];omega⟩
       ·have hze:z.toList.isEmpty=false:=by rw[zx];simpa using hz0
        have HDT:Hid (zdG ts (k)=false):=by unfold Hid;rw[HDS.o,hz];simpa[jR] using hz0
        clear hz hz0;go_wp2_with fail
        go_ret;exact⟨ze (HD.o HDT.o).symm,HB1.o⟩
   ·have hov':ts[k].ov.toList.isEmpty=false:=by simpa using hov
    clear hov
    by_cases hit:yB ts ts[k].ov=true
    ·have HI:=hid hit
     have HT:Hid (qE ts k=true):=by unfold Hid;rw[HA.o,hit];simp
     clear hit
     rcases hgood with hg|⟨hg,hk1,hk2,hkm,hls',d0⟩
     focus
      go_wp2_with fail
     rotate_left
     focus
      go_wp2_with fail
     all_goals
      go_quiet (first|(go_at_call 114;exact Calls.quiet_of_same (zf HNm.o (zk _ _ hsn)))|(go_at_call 108;exact Calls.quiet_of_same (zf HI.o (zdX _ _ ts _ _ (by exact HWr.o _ _)))))
      go_wp2_with fail
      obtain⟨W1,hW1⟩:=nm ((W0.alloc (.cells #[.s ts[k].nm,.s ts[k].ov] 138)).drewN nq);have HB1:Hid (Bw w W1):=by unfold Hid;rw[hW1];exact HB.o.trans ((HBx.o _ _).mono hsz)
      have HW1:=hid (HW0.o.mono HB1.o);rw[<- hW1];clear hW1
      go_loopw [5,6] (fun p i wi=>∃(n:Nat) (z:BA),n<=5/\p=.s z/\i=.i n/\jR ts 5 ts[k].nm=jR ts (5-n) z/\wi=W1) (fun _ i _=>5-(intOf i).toNat)
      case atStart=>exact⟨0,ts[k].nm,Nat.zero_le _,rfl,rfl,rfl,rfl⟩
      case round=>
       obtain⟨n,z,hn5,rfl,rfl,hz,rfl⟩:=hrel
       by_cases hn:n<5
       ·have hnI:(n:Int)<=4:=by omega
        by_cases hz0:z.size=0
        ·have hze:z.toList.isEmpty=true:=by rw[zx];simpa using hz0
         have HDT:Hid (zdG ts (k)=true):=by unfold Hid;rw[HDS.o,hz,zgH ts _ z hz0];simpa using hz0
         clear hz hz0;go_wp2_with fail
         exact⟨⟨k+1,by omega,by go_num,HS.o HT.o HDT.o,HB1.o⟩,by simp[intOf];omega⟩
        ·have hze:z.toList.isEmpty=false:=by rw[zx];simpa using hz0
         have HZ:Hid (jR ts 5 ts[k].nm=jR ts (5-(n+1)) (over ts z)):=by
          obtain⟨q,hq⟩:∃q,5-n=q+1:=⟨4-n,by omega⟩
          rw[Hid,hz,hq,zhU ts q z hz0,show 5-(n+1)=q by omega]
         clear hz hz0
         go_wp2_with (go_at_call 144;refine(zcK _ _ ts _ _ HW1.o).mono ?_;rintro e w'⟨rfl,rfl⟩)
         exact⟨⟨n+1,over ts z,by omega,rfl,by go_num,HZ.o,trivial⟩,by simp[intOf];omega⟩
       ·have e5:5-n=0:=by omega
        rw[e5]at hz;have hnI:¬(n:Int)<=4:=by omega
        by_cases hz0:z.size=0
        ·have hze:z.toList.isEmpty=true:=by rw[zx];simpa using hz0
         have HDT:Hid (zdG ts (k)=true):=by unfold Hid;rw[HDS.o,hz];simpa[jR] using hz0
         clear hz hz0;go_wp2_with fail
         exact⟨⟨k+1,by omega,by go_num,HS.o HT.o HDT.o,HB1.o⟩,by simp[intOf];omega⟩
        ·have hze:z.toList.isEmpty=false:=by rw[zx];simpa using hz0
         have HDT:Hid (zdG ts (k)=false):=by unfold Hid;rw[HDS.o,hz];simpa[jR] using hz0
         clear hz hz0;go_wp2_with fail
         go_ret;exact⟨ze (HD.o HDT.o).symm,HB1.o⟩
    ·have HI:Hid (yB ts ts[k].ov=false):=by simpa[Hid] using hit
     have HF:Hid (qE ts k=false):=by unfold Hid;rw[HA.o,HI.o,hov'];rfl
     clear hit
     rcases hgood with hg|⟨hg,hk1,hk2,hkm,hls',d0⟩
     focus
      go_wp2_with fail
     rotate_left
     focus
      go_wp2_with fail
     all_goals
      go_quiet (first|(go_at_call 114;exact Calls.quiet_of_same (zf HNm.o (zk _ _ hsn)))|(go_at_call 108;exact Calls.quiet_of_same (zf HI.o (zdX _ _ ts _ _ (by exact HWr.o _ _)))))
      go_wp2_with fail
      go_ret;exact⟨ze (HN.o HF.o).symm,HB.o.trans ((HBx.o _ _).mono hsz)⟩
  ·have HF:Hid (zaN ts=true):=by
    have e:k=ts.length:=by omega
    subst e;rw[Hid,HG.o,hup]
   clear hup;go_wp2_with fail
   go_ret;exact⟨ze HF.o.symm,hB⟩
end Go.Proofs.YtecncindgjdbiaaGreat
