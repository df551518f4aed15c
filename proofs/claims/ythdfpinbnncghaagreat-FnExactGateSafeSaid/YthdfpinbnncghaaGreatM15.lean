import Derived.Test.YthdfpinbnncghaaGreatM11
import Derived.Test.YthdfpinbnncghaaGreatM10
set_option maxHeartbeats 1000000
namespace Go.Proofs.YthdfpinbnncghaaGreat
open Go.RowKit
theorem zfA {w:World}{b off:Nat}{ws:List BA}(hw:zJ w (some (aD b off)) ws):∀j u,(ws.map Value.string)[j]?=some u->w.cell? (((aD b off):Addr).add j)=some u:=by
 intro j u hj
 have hlt:j<ws.length:=by
  have:=(List.getElem?_eq_some_iff.1 hj).1;simpa using this
 obtain⟨b',off',he,hb,hc⟩:=hw.cells (by rintro rfl;simp at hlt);simp only[Option.some.injEq,Addr.mk.injEq]at he;obtain⟨rfl,rfl,_⟩:=he;have h1:=hc j hlt
 have e1:((aD b off):Addr).add j=(aD b (off+j)):=by
  unfold Addr.add;split
  ·rename_i h;subst h;simp
  ·rfl
 rw[e1,h1];rw[List.getElem?_map,List.getElem?_eq_getElem hlt]at hj
 simpa using hj
theorem zgC {ws:List BA}:∀u∈ws.map Value.string,u.oneCell'=true:=by
 intro u hu;simp only[List.mem_map]at hu;obtain⟨s,_,rfl⟩:=hu;rfl
theorem jR (w:World)(o1 o2 o3:Obj):Bw w (((w.alloc o1).alloc o2).alloc o3):=
 ((bAl _ _).alloc (by simp) _).alloc (by simp;omega) _
theorem zcA (w:World)(o1 o2 o3:Obj):(((w.alloc o1).alloc o2).alloc o3).heap[w.heap.size+1+1]?=some o3:=by
 have h:=alloc_at ((w.alloc o1).alloc o2) o3
 simpa using h
theorem zcv (w:World)(o1 o2 o3:Obj):(((w.alloc o1).alloc o2).alloc o3).heap[w.heap.size]?=some o1:=(Below.heap_alloc _ _ _ (by simp;omega)).trans (yt _ _ _).1
theorem zhg (w:World)(o1 o2 o3:Obj):(((w.alloc o1).alloc o2).alloc o3).heap[w.heap.size+1]?=some o2:=(Below.heap_alloc _ _ _ (by simp)).trans (yt _ _ _).2
theorem zib {w w1:World}{o1 o2 o3:Obj}(hg:(((w.alloc o1).alloc o2).alloc o3).grownBy w1 (some (w.heap.size+1+1))) :
 w1.heap[w.heap.size]?=some o1/\w1.heap[w.heap.size+1]?=some o2/\Bw w w1/\w.heap.size+1+1<w1.heap.size:=by
 refine⟨(hg.block _ (by simp;omega) (by simp;try omega)).trans (zcv _ _ _ _),(hg.block _ (by simp) (by simp)).trans (zhg _ _ _ _),(jR _ _ _ _).grown hg (jR _ _ _ _).size (by intro k hk;simp at hk;omega),?_⟩
 have:=hg.size;simp at this;omega
theorem zp2 (w:World)(p:Addr)(v:Value)(o3:Obj):((w.setCell p v).alloc o3).heap[w.heap.size]?=some o3:=by
 have h:=alloc_at (w.setCell p v) o3
 simpa[World.setCell] using h
theorem zlP {w w1 w2:World}{a:Value}{C1 C2:AV}{t1 t2:TypeId}{o3:Obj}(hk:w1.heap[w.heap.size]?=some (.cells C1 t1))(hr:w1.heap[w.heap.size+1]?=some (.cells C2 t2))(hB:Bw w w1)(hz:w.heap.size+1+1<w1.heap.size)
 (hg:((w1.setCell (aD w.heap.size 3) a).alloc o3).grownBy w2 (some w1.heap.size)) :
 w2.heap[w.heap.size]?=some (.cells (C1.setIfInBounds 3 a) t1)/\w2.heap[w.heap.size+1]?=some (.cells C2 t2)/\Bw w w2/\w1.heap.size<w2.heap.size:=by
 have hs:(w1.setCell (aD w.heap.size 3) a).heap.size=w1.heap.size:=by simp[World.setCell]
 refine⟨(hg.block _ (by simp[World.setCell];omega) (by simp;omega)).trans ((Below.heap_alloc _ _ _ (by rw[hs];omega)).trans (zh hk _)),
  (hg.block _ (by simp[World.setCell];omega) (by simp;omega)).trans ((Below.heap_alloc _ _ _ (by rw[hs];omega)).trans ((Below.heap_setCell _ _ _ _ (by simp)).trans hr)),
  ((hB.setCell (Nat.le_refl _) _).alloc (by rw[hs];omega) _).grown hg (by simp[World.setCell];omega) (by intro k hk;simp at hk;omega),?_⟩
 have:=hg.size;simp[World.setCell]at this;omega
theorem zA.grown {lo:Nat}{w w2:World}{a:OA}{ws:List BA}{row:Nat}(h:zA lo w a ws)(hg:w.grownBy w2 (some row))(hr:∀g,a=some g->g.block≠row):zA lo w2 a ws:=by
 rcases h with⟨rfl,rfl⟩|⟨g,C,rfl,hl,hh,hc⟩
 ·exact Or.inl ⟨rfl,rfl⟩
 ·exact Or.inr ⟨g,C,rfl,hl,(hg.block g (gES hh).1 (by have:=hr _ rfl;simpa using this)).trans hh,hc⟩
theorem zA.lt {lo:Nat}{w:World}{a:OA}{ws:List BA}(h:zA lo w a ws):∀g,a=some g->g.block<w.heap.size:=by
 intro g hg
 rcases h with⟨rfl,_⟩|⟨g',C,rfl,_,hh,_⟩
 ·cases hg
 ·cases hg;exact(gES hh).1
set_option maxRecDepth 20000 in
theorem zkV (o:Ob)(b off b' off' cap cap':Nat)(w:World)(ho:zab w o (some (aD b off)) (some (aD b' off')))(hl:o.vs.length<=1048576)(hl':o.hs.length<=1048576) :
 Calls Tryz.prog 194 #[.agg #[.s o.kd,.s o.nm,.s o.tm,.l (some (aD b off)) o.vs.length cap,.bool o.en,.l (some (aD b' off')) o.hs.length cap',.i o.vr]] w
  fun e w'=>∃a dap a' dap' m,e=.returned (.agg #[.s o.kd,.s o.nm,.s o.tm,.l a o.vs.length dap,.bool o.en,.l a' o.hs.length dap',.i o.vr])/\zA w.heap.size w' a o.vs/\(∀g,a=some g->g.block<m)/\w.heap.size<=m/\zA m w' a' o.hs/\Bw w w':=by
 obtain⟨i0,hi,hz0,hz1',hz2⟩:=info_parts Tryz.zdi;go_enter Tryz.func194,Tryz.ntmps194
 go_wp2_with (first
  | (at_builtin;refine wpList_append_own _ rfl (.tmp 3) (.tmp 5) 110 rfl (w.heap.size+1+1) 9 i0 (.s ByteArray.empty) 1 16 Tryz.underlying110 hi hz0 hz1' hz2 rfl (by decide) (.l (some (aD (w.heap.size+1+1) 0)) 0 0) 0 [] rfl ⟨rfl,.inr ⟨w.heap.size+1+1,0,#[],rfl,Nat.le_refl _,zcA _ _ _ _,Nat.le_refl _,by simp[maxLen],rfl,rfl⟩⟩ (aD b off) o.vs.length cap (o.vs.map Value.string) rfl (by simp) (zfA (ho.vals.mono (jR _ _ _ _))) zgC (by unfold maxLen;omega) (by omega) (by simp) ?_;intro v' w1 hown hgr _;simp only[Nat.zero_add,List.nil_append]at hown;obtain⟨a,dap,rfl,ht1⟩:=zA.zgk hown;obtain⟨hk1,hr1,hB1,hz1⟩:=zib hgr;have hX1:∀j,w1.cell? (aD w.heap.size j)=(#[.s o.kd,.s o.nm,.s o.tm,.l (some (aD b off)) o.vs.length cap,.bool o.en,.l (some (aD b' off')) o.hs.length cap',.i o.vr]:AV)[j]?:=fun j=>cell_of_block hk1;have hF1:∀j,w1.frozen? (aD w.heap.size j)=false:=fun j=>zl hk1;have hzz1:w.heap.size<w1.heap.size:=(by omega);have hone:=hB1.setCell (p:=(aD w.heap.size 3)) (Nat.le_refl _) (.l a o.vs.length dap);have HT1:Hid (zA (w.heap.size+1+1) w1 a o.vs):=ht1;have HK1:Hid (w1.heap[w.heap.size]?=some (.cells #[.s o.kd,.s o.nm,.s o.tm,.l (some (aD b off)) o.vs.length cap,.bool o.en,.l (some (aD b' off')) o.hs.length cap',.i o.vr] 145)):=hk1;have HR1:Hid (w1.heap[w.heap.size+1]?=some (.cells #[.s ByteArray.empty,.s ByteArray.empty,.s ByteArray.empty,.l none 0 0,.bool false,.l none 0 0,.i 0] 145)):=hr1;clear ht1 hk1 hr1;clear hown hgr)
  | (at_builtin;refine wpList_append_own _ rfl (.tmp 8) (.tmp 10) 110 rfl w1.heap.size 9 i0 (.s ByteArray.empty) 1 16 Tryz.underlying110 hi hz0 hz1' hz2 rfl (by decide) (.l (some (aD w1.heap.size 0)) 0 0) 0 [] rfl ⟨rfl,.inr ⟨w1.heap.size,0,#[],rfl,Nat.le_refl _,zp2 _ _ _ _,Nat.le_refl _,(by simp[maxLen]),rfl,rfl⟩⟩ (aD b' off') o.hs.length cap' (o.hs.map Value.string) rfl (by simp) (zfA (ho.holds.mono (hone.alloc hone.size _))) zgC (by unfold maxLen;omega) (by omega) (by simp[World.setCell]) ?_;intro v'' w2 hown hgr _;simp only[Nat.zero_add,List.nil_append]at hown;obtain⟨a',dap',rfl,ht2⟩:=zA.zgk hown;obtain⟨hk2,hr2,hB2,hz2'⟩:=zlP HK1.o HR1.o hB1 hz1 hgr;have HU2:Hid (zA w1.heap.size w2 a' o.hs):=ht2;have HT2:Hid (zA (w.heap.size+1+1) w2 a o.vs):=((HT1.o.setCell _ (by simp;omega) _).mono (bAl _ _)).grown hgr (fun g hg=>Nat.ne_of_lt (HT1.o.lt g hg));have hX2:∀j,w2.cell? (aD w.heap.size j)=(#[.s o.kd,.s o.nm,.s o.tm,.l a o.vs.length dap,.bool o.en,.l (some (aD b' off')) o.hs.length cap',.i o.vr]:AV)[j]?:=fun j=>cell_of_block hk2;have hF2:∀j,w2.frozen? (aD w.heap.size j)=false:=fun j=>zl hk2;have hY2:∀j,w2.cell? (aD (w.heap.size+1) j)=(#[.s ByteArray.empty,.s ByteArray.empty,.s ByteArray.empty,.l none 0 0,.bool false,.l none 0 0,.i 0]:AV)[j]?:=fun j=>cell_of_block hr2;have hG2:∀j,w2.frozen? (aD (w.heap.size+1) j)=false:=fun j=>zl hr2;have hzz2:w.heap.size+1<w2.heap.size:=(by omega);clear hown hgr ht2 hk2 hr2 hX1 hF1))
 refine bodyPost_ret (v:=(.agg #[.s o.kd,.s o.nm,.s o.tm,.l a o.vs.length dap,.bool o.en,.l a' o.hs.length dap',.i o.vr])) (by simp[results,Tryz.results194,go_sem,hY2]) rfl ⟨a,dap,a',dap',w1.heap.size,rfl,((((((((HT2.o.setCell _ (by simp;omega) _).setCell _ (by simp) _).setCell _ (by simp) _).setCell _ (by simp) _).setCell _ (by simp) _).setCell _ (by simp) _).setCell _ (by simp) _).setCell _ (by simp) _).low (by omega),HT1.o.lt,by omega,((((((((HU2.o.setCell _ (by simp;omega) _).setCell _ (by simp;omega) _).setCell _ (by simp;omega) _).setCell _ (by simp;omega) _).setCell _ (by simp;omega) _).setCell _ (by simp;omega) _).setCell _ (by simp;omega) _).setCell _ (by simp;omega) _),((((((((hB2.setCell (Nat.le_refl _) _).setCell (by simp) _).setCell (by simp) _).setCell (by simp) _).setCell (by simp) _).setCell (by simp) _).setCell (by simp) _).setCell (by simp) _)⟩
def yS (f:Fld)(v res:BA):Int:=if f.kd=1/\f.wg=res then zaJ v else 0
def zes (fs:List Fld)(vs:List BA)(res:BA):Nat->Int
 | 0=>0
 | k+1=>zes fs vs res k+yS (fs.getD k zb7) (vs.getD k ByteArray.empty) res
def je (ss:List Shp)(o:Ob)(res:BA):Int:=
 if zH ss o=true/\res.toList.isEmpty=false then (if res=o.kd then 1 else 0)+zes (shapeOf ss o.kd).fs o.vs res (shapeOf ss o.kd).fs.length else 0
theorem zeq (s:BA):0<=zaJ s/\zaJ s<=10000000:=by
 unfold zaJ
 split
 ·rename_i h
  refine⟨zdx s h,?_⟩;unfold zat at h;simp only[Bool.and_eq_true,decide_eq_true_eq]at h
  have:=(zfK s.data.toList h.2 7 (by have:=h.1.1.2;simpa using this)).2
  unfold zg7;omega
 ·omega
theorem zg3 (f:Fld)(v res:BA):0<=yS f v res/\yS f v res<=10000000:=by
 unfold yS
 split
 ·exact zeq v
 ·omega
theorem zc2 (fs:List Fld)(vs:List BA)(res:BA):∀k,0<=zes fs vs res k/\zes fs vs res k<=k*10000000
 | 0=>by simp[zes]
 | k+1=>by
  have h1:=zc2 fs vs res k;have h2:=zg3 (fs.getD k zb7) (vs.getD k ByteArray.empty) res;simp only[zes];omega
theorem zgS (ss:List Shp)(o:Ob)(res:BA)(h:o.vs.length<=1048576):0<=je ss o res/\je ss o res<=20000000000000:=by
 unfold je
 split
 ·rename_i hc
  have hc1:=hc.1;unfold zH at hc1;simp only[Bool.and_eq_true,decide_eq_true_eq]at hc1
  have:=zc2 (shapeOf ss o.kd).fs o.vs res (shapeOf ss o.kd).fs.length
  have h3:=hc1.2
  split <;> omega
 ·omega
theorem zpY (fs:List Fld)(vs:List BA)(res:BA)(k:Nat)(h:k<fs.length)(h':k<vs.length):zes fs vs res (k+1)=zes fs vs res k+yS fs[k] vs[k] res:=by
 have e1:fs.getD k zb7=fs[k]:=by simp[List.getD,h]
 have e2:vs.getD k ByteArray.empty=vs[k]:=by simp[List.getD,h']
 simp only[zes];rw[e1,e2]
theorem zcQ (s p:BA)(w:World)(_hs:s.size<=maxLen)(_hp:p.size<=maxLen) :
 Calls Tryz.prog 64 #[.s s,.s p] w fun e w'=>e=.returned (.bool (begins s p))/\w'=w:=by
 unfold maxLen at _hs _hp;go_enter Tryz.func64,Tryz.ntmps64;go_wp2_with fail
 all_goals
  go_ret;refine⟨ze ?_,rfl⟩
  simp[begins, *]
theorem zhl (s p:BA)(w:World)(_hs:s.size<=maxLen)(_hp:p.size<=maxLen) :
 Calls Tryz.prog 231 #[.s s,.s p] w fun e w'=>e=.returned (.bool (begins s p))/\w'=w:=by
 unfold maxLen at _hs _hp;go_enter Tryz.func231,Tryz.ntmps231;go_wp2_with fail
 all_goals
  go_ret;refine⟨ze ?_,rfl⟩
  simp[begins, *]
theorem jP (s p:BA)(w:World)(hs:s.size<=maxLen)(hp:p.size<=maxLen) :
 Calls Tryz.prog 182 #[.s s,.s p] w fun e w'=>e=.returned (.bool (begins s p))/\w'=w:=by
 go_enter Tryz.func182,Tryz.ntmps182
 go_wp2_with (go_at_call 231;refine(zhl s p _ hs hp).mono ?_;rintro e w'⟨rfl,rfl⟩)
 go_ret;exact⟨rfl,rfl⟩
theorem zal (r:Rl)(a:OA)(cap:Nat)(v:Int)(w:World)(hw:yJ w a r.vs) :
 Calls Tryz.prog 62 #[.agg (r.cells a cap),.i v] w fun e w'=>e=.returned (.bool (yG r.vs v))/\Bw w w':=by
 have hl:=hw.len;unfold maxLen at hl;unfold Rl.cells;have hB:∀ob,Bw w (w.alloc ob):=fun ob=>bAl _ _
 go_enter Tryz.func62,Tryz.ntmps62;go_wp2_with fail
 go_loop [5] (fun i=>∃k:Nat,k<=r.vs.length/\i=.i k/\yG (r.vs.take k) v=false) (fun i=>r.vs.length-(intOf i).toNat)
 case atStart=>exact⟨0,Nat.zero_le _,rfl,rfl⟩
 case round=>
  obtain⟨k,hk,rfl,hall⟩:=hrel
  by_cases hlt:k<r.vs.length
  ·obtain⟨b,off,rfl,hb,c0⟩:=hw.load (bRf _ _) k hlt
   clear hw;have HS:Hid (yG (r.vs.take (k+1)) v=(false||decide (r.vs[k]=v))):=by rw[zgn r.vs v k hlt,hall];rfl
   have hltI:(k:Int)<(r.vs.length:Int):=by omega
   by_cases he:r.vs[k]=v
   ·have hbe:(r.vs[k] == v)=true:=by simpa using he
    have HR:Hid (yG r.vs v=true):=zoO r.vs v k hlt he;clear he hall;go_wp2_with fail
    go_ret;exact⟨ze HR.o.symm,hB _⟩
   ·have hbe:(r.vs[k] == v)=false:=by simpa using he
    have HE:Hid (¬r.vs[k]=v):=he;clear he hall;go_wp2_with fail
    go_round
    case rel=>exact⟨k+1,by omega,by go_num,by rw[HS.o,decide_eq_false HE.o];rfl⟩
    case measure=>simp[intOf];omega
  ·have HR:Hid (yG r.vs v=false):=by rw[<- zn6 r.vs v k (by omega)];exact hall
   clear hall hw;go_wp2_with fail
   go_ret;exact⟨ze HR.o.symm,hB _⟩
end Go.Proofs.YthdfpinbnncghaaGreat
namespace Go.Proofs.YthdfpinbnncghaaGreat
open Go.ChangeShapes Go.WideShapes Go.ChangeAt Go.RowKit
theorem Tryz.zrz:Tryz.prog.cellsOf 26=3:=by kernel_rfl
theorem Tryz.znQ:Tryz.prog.cellsOf 22=1:=by kernel_rfl
theorem Tryz.zpv:Tryz.prog.cellsOf 23=1:=by kernel_rfl
theorem Tryz.zoW:Tryz.prog.cellsOf 24=1:=by kernel_rfl
theorem zrc {H:Type}{enc:TypeId × Value->H}{w:World}{base:Nat}{spare:Nat->Bool}{held:Bool}{fuel:Nat}{cs:List Value}{x:DataW H × List MemPlace}
 (h:DataW.trod enc Tryz.prog w base spare held fuel 26 cs=some x) :
 ∃(l:Lw) (a b c:OA) (ca cb cc:Nat),cs=(l.cells a b c ca cb cc).toList/\yH w l a b c:=by
 have hlen:cs.length=3:=by
  obtain⟨_,_,_,_,hl,_,_⟩:=DataW.trod_struct Tryz.underlying26 h;rw[hl];exact Tryz.zrz
 match cs,hlen with
 | [c0,c1,c2],_=>
  have hf:=jo Tryz.underlying26 h;obtain⟨_,_,f0⟩:=hf 0 22 0 c0 rfl Tryz.znQ rfl;obtain⟨_,_,f1⟩:=hf 1 23 1 c1 rfl Tryz.zpv rfl;obtain⟨_,_,f2⟩:=hf 2 24 2 c2 rfl Tryz.zoW rfl;obtain⟨a,ca,ss,e0,hS⟩:=zn9 f0;obtain⟨b,cb,ms,e1,hM⟩:=zoD f1;obtain⟨c,cc,ts,e2,hT⟩:=zpG f2;simp only[List.cons.injEq,and_true]at e0 e1 e2;subst e0 e1 e2;exact⟨⟨ss,ms,ts⟩,a,b,c,ca,cb,cc,rfl,⟨hS,hM,hT⟩⟩
end Go.Proofs.YthdfpinbnncghaaGreat
