import Derived.Test.YtcgpjfcocmcodaaGreatM12
set_option maxHeartbeats 2000000
namespace Go.Proofs.YtcgpjfcocmcodaaGreat
open Go.RowKit
theorem zjW (nm:BA)(kd ls ms:Int)(sl:Value)(to:BA)(rl:Int)(mu fx:Bool)(df wg:BA)(v:BA)(bn:Nat)(w:World)(hb:bn<w.heap.size)(hn:w.cell? (aD bn 0)=some (.s v)) :
 Calls Tryz.prog 220 #[.agg #[.s nm,.i kd,.i ls,.i ms,sl,.s to,.i rl,.bool mu,.bool fx,.s df,.s wg],.pointer (some (aD bn 0))] w fun e w'=>e=.returned (.bool (nm.toList == v.toList))/\Bw w w':=by
 go_enter Tryz.func220,Tryz.ntmps220
 go_wp2
 go_ret;exact⟨rfl,bAl _ _⟩
theorem zlf (a:OA)(cap:Nat)(fs:List Fld)(v:BA)(bn:Nat)(w:World)(hw:yg w a fs)(hbn:bn<w.heap.size)(hn:w.cell? (aD bn 0)=some (.s v)) :
 Calls Tryz.prog 219 #[.l a fs.length cap,.func (.func 220) #[] #[.pointer (some (aD bn 0))]] w fun e w'=>e=.returned (.i (zS fs v))/\Bw w w':=by
 have hl:=hw.len;unfold maxLen at hl;go_enter Tryz.func219,Tryz.ntmps219
 go_wp2
 go_loopw [8] (fun i wr=>∃k:Nat,k<=fs.length/\i=.i k/\hasName (fs.take k) v=false/\Bw w wr) (fun i _=>fs.length-(intOf i).toNat)
 case atStart=>exact⟨0,Nat.zero_le _,rfl,rfl,bRf _ _⟩
 case round=>
  obtain⟨k,hk,rfl,hno,hB⟩:=hrel
  by_cases hlt:k<fs.length
  ·obtain⟨b,off,rfl,hb,hr⟩:=hw.rows (by rintro rfl;simp at hlt)
   obtain⟨wa,wcap,hf⟩:=hr k hlt;obtain⟨c0,c1,c2,c3,c4,c5,c6,c7,c8,c9,c10⟩:=(hf.mono hb hB).load;have hn1:=(hB.cell (p:=(aD bn 0)) hbn).trans hn;have hbn1:bn<wr.heap.size:=nLt hbn hB.size;clear hw hr hf hn
   by_cases he:fs[k].nm=v
   ·have HA:Hid (zS fs v=k):=zd7 fs v k hlt hno he
    have HE:Hid ((fs[k].nm.toList == v.toList)=true):=by unfold Hid;rw[beq_toList];simpa using he
    clear he hno;go_wp2_with fail
    refine(zf HE.o (zjW _ _ _ _ _ _ _ _ _ _ _ _ _ _ hbn1 hn1)).mono ?_;rintro e w2⟨rfl,hb2⟩;go_wp2_with fail
    go_ret;exact⟨zo HA.o.symm,hB.trans (hb2.mono hB.size)⟩
   ·have HS:Hid (hasName (fs.take (k+1)) v=false):=by unfold Hid;rw[zd9 fs v k hlt,hno,decide_eq_false he];rfl
    have HE:Hid ((fs[k].nm.toList == v.toList)=false):=by unfold Hid;rw[beq_toList];simpa using he
    clear he hno;go_wp2_with fail
    refine(zf HE.o (zjW _ _ _ _ _ _ _ _ _ _ _ _ _ _ hbn1 hn1)).mono ?_;rintro e w2⟨rfl,hb2⟩;go_wp2_with fail
    exact⟨⟨k+1,by omega,by go_num,HS.o,hB.trans (hb2.mono hB.size)⟩,by simp[intOf];omega⟩
  ·have HA:Hid (zS fs v=-1):=zgX fs v (by rw[<- zh8 fs v k (by omega)];exact hno)
   clear hno hw
   go_wp2
   go_ret;exact⟨zo HA.o.symm,hB⟩
theorem jk (a:OA)(cap:Nat)(fs:List Fld)(v:BA)(w:World)(hw:yg w a fs) :
 Calls Tryz.prog 204 #[.l a fs.length cap,.s v] w fun e w'=>e=.returned (.i (zS fs v))/\Bw w w':=by
 go_enter Tryz.func204,Tryz.ntmps204;go_wp2_with fail
 refine(zlf _ _ _ v _ _ (hw.mono (bAl _ _)) (by simp) (by rw[World.cell?_alloc_at _ _ _ _ rfl];rfl)).mono ?_;rintro e w2⟨rfl,hb2⟩;go_wp2_with fail
 go_ret;exact⟨rfl,(bAl _ _).trans (hb2.mono (by simp))⟩
theorem zeh (nm:BA)(ls ms:Int)(a:OA)(n cap:Nat)(to:BA)(rl:Int)(mu fx:Bool)(df wg:BA)(w:World) :
 Calls Tryz.prog 217 #[.agg #[.s nm,.i 1,.i ls,.i ms,.l a n cap,.s to,.i rl,.bool mu,.bool fx,.s df,.s wg]] w fun e w'=>e=.returned (.bool (yM 1 ls ms n to rl wg))/\Bw w w':=by
 go_enter Tryz.func217,Tryz.ntmps217
 go_wp2
 all_goals
  go_ret;refine⟨ze ?_,bAl _ _⟩
  simp_all [yM]
  try first|omega|(intros;omega)|(rw[Bool.eq_iff_iff];simp)
theorem zb1 (nm:BA)(ls ms:Int)(a:OA)(n cap:Nat)(to:BA)(rl:Int)(mu fx:Bool)(df wg:BA)(w:World) :
 Calls Tryz.prog 217 #[.agg #[.s nm,.i 2,.i ls,.i ms,.l a n cap,.s to,.i rl,.bool mu,.bool fx,.s df,.s wg]] w fun e w'=>e=.returned (.bool (yM 2 ls ms n to rl wg))/\Bw w w':=by
 go_enter Tryz.func217,Tryz.ntmps217
 go_wp2
 all_goals
  go_ret;refine⟨ze ?_,bAl _ _⟩
  simp_all [yM]
  try first|omega|(intros;omega)|(rw[Bool.eq_iff_iff];simp)
theorem zex (nm:BA)(ls ms:Int)(a:OA)(n cap:Nat)(to:BA)(rl:Int)(mu fx:Bool)(df wg:BA)(w:World) :
 Calls Tryz.prog 217 #[.agg #[.s nm,.i 3,.i ls,.i ms,.l a n cap,.s to,.i rl,.bool mu,.bool fx,.s df,.s wg]] w fun e w'=>e=.returned (.bool (yM 3 ls ms n to rl wg))/\Bw w w':=by
 go_enter Tryz.func217,Tryz.ntmps217
 go_wp2
 all_goals
  go_ret;refine⟨ze ?_,bAl _ _⟩
  simp_all [yM]
  try first|omega|(intros;omega)|(rw[Bool.eq_iff_iff];simp)
theorem zaN (nm:BA)(ls ms:Int)(a:OA)(n cap:Nat)(to:BA)(rl:Int)(mu fx:Bool)(df wg:BA)(w:World) :
 Calls Tryz.prog 217 #[.agg #[.s nm,.i 4,.i ls,.i ms,.l a n cap,.s to,.i rl,.bool mu,.bool fx,.s df,.s wg]] w fun e w'=>e=.returned (.bool (yM 4 ls ms n to rl wg))/\Bw w w':=by
 go_enter Tryz.func217,Tryz.ntmps217
 go_wp2
 all_goals
  go_ret;refine⟨ze ?_,bAl _ _⟩
  simp_all [yM]
  try first|omega|(intros;omega)|(rw[Bool.eq_iff_iff];simp)
theorem zjK (nm:BA)(kd ls ms:Int)(a:OA)(n cap:Nat)(to:BA)(rl:Int)(mu fx:Bool)(df wg:BA)(w:World)(h1:kd≠1)(h2:kd≠2)(h3:kd≠3)(h4:kd≠4) :
 Calls Tryz.prog 217 #[.agg #[.s nm,.i kd,.i ls,.i ms,.l a n cap,.s to,.i rl,.bool mu,.bool fx,.s df,.s wg]] w fun e w'=>∃b,e=.returned (.bool b)/\Bw w w':=by
 have e1:(kd == 1)=false:=by simpa using h1
 have e2:(kd == 2)=false:=by simpa using h2
 have e3:(kd == 3)=false:=by simpa using h3
 have e4:(kd == 4)=false:=by simpa using h4
 have n1:(kd != 1)=true:=by simpa using h1
 have n2:(kd != 2)=true:=by simpa using h2
 clear h1 h2 h3 h4;go_enter Tryz.func217,Tryz.ntmps217
 go_wp2
 all_goals
  go_ret;exact⟨_,rfl,bAl _ _⟩
theorem zfw {w:World}{b off:Nat}{ws:List BA}(hw:zG w (some (aD b off)) ws):∀j u,(ws.map Value.string)[j]?=some u->w.cell? (((aD b off):Addr).add j)=some u:=by
 intro j u hj
 have hlt:j<ws.length:=by
  have:=(List.getElem?_eq_some_iff.1 hj).1;simpa using this
 obtain⟨b',off',he,hb,hc⟩:=hw.cells (by rintro rfl;simp at hlt);simp only[Option.some.injEq,Addr.mk.injEq]at he;obtain⟨rfl,rfl,_⟩:=he;have h1:=hc j hlt
 have e1:((aD b off):Addr).add j=(aD b (off+j)):=by
  unfold Addr.add;split
  ·rename_i h;subst h;simp
  ·rfl
 rw[e1,h1];rw[List.getElem?_map,List.getElem?_eq_getElem hlt]at hj
 simpa using hj
theorem zgR {ws:List BA}:∀u∈ws.map Value.string,u.oneCell'=true:=by
 intro u hu;simp only[List.mem_map]at hu;obtain⟨s,_,rfl⟩:=hu;rfl
theorem jC (w:World)(o1 o2 o3:Obj):Bw w (((w.alloc o1).alloc o2).alloc o3):=
 ((bAl _ _).alloc (by simp) _).alloc (by simp;omega) _
theorem zci (w:World)(o1 o2 o3:Obj):(((w.alloc o1).alloc o2).alloc o3).heap[w.heap.size+1+1]?=some o3:=by
 have h:=alloc_at ((w.alloc o1).alloc o2) o3
 simpa using h
theorem zca (w:World)(o1 o2 o3:Obj):(((w.alloc o1).alloc o2).alloc o3).heap[w.heap.size]?=some o1:=(Below.heap_alloc _ _ _ (by simp;omega)).trans (zQ _ _ _).1
theorem zhc (w:World)(o1 o2 o3:Obj):(((w.alloc o1).alloc o2).alloc o3).heap[w.heap.size+1]?=some o2:=(Below.heap_alloc _ _ _ (by simp)).trans (zQ _ _ _).2
theorem zih {w w1:World}{o1 o2 o3:Obj}(hg:(((w.alloc o1).alloc o2).alloc o3).grownBy w1 (some (w.heap.size+1+1))) :
 w1.heap[w.heap.size]?=some o1/\w1.heap[w.heap.size+1]?=some o2/\Bw w w1/\w.heap.size+1+1<w1.heap.size:=by
 refine⟨(hg.block _ (by simp;omega) (by simp;try omega)).trans (zca _ _ _ _),(hg.block _ (by simp) (by simp)).trans (zhc _ _ _ _),(jC _ _ _ _).grown hg (jC _ _ _ _).size (by intro k hk;simp at hk;omega),?_⟩
 have:=hg.size;simp at this;omega
theorem zpk (w:World)(p:Addr)(v:Value)(o3:Obj):((w.setCell p v).alloc o3).heap[w.heap.size]?=some o3:=by
 have h:=alloc_at (w.setCell p v) o3
 simpa[World.setCell] using h
theorem zlI {w w1 w2:World}{a:Value}{C1 C2:AV}{t1 t2:TypeId}{o3:Obj}(hk:w1.heap[w.heap.size]?=some (.cells C1 t1))(hr:w1.heap[w.heap.size+1]?=some (.cells C2 t2))(hB:Bw w w1)(hz:w.heap.size+1+1<w1.heap.size)
 (hg:((w1.setCell (aD w.heap.size 3) a).alloc o3).grownBy w2 (some w1.heap.size)) :
 w2.heap[w.heap.size]?=some (.cells (C1.setIfInBounds 3 a) t1)/\w2.heap[w.heap.size+1]?=some (.cells C2 t2)/\Bw w w2/\w1.heap.size<w2.heap.size:=by
 have hs:(w1.setCell (aD w.heap.size 3) a).heap.size=w1.heap.size:=by simp[World.setCell]
 refine⟨(hg.block _ (by simp[World.setCell];omega) (by simp;omega)).trans ((Below.heap_alloc _ _ _ (by rw[hs];omega)).trans (zi hk _)),
  (hg.block _ (by simp[World.setCell];omega) (by simp;omega)).trans ((Below.heap_alloc _ _ _ (by rw[hs];omega)).trans ((Below.heap_setCell _ _ _ _ (by simp)).trans hr)),
  ((hB.setCell (Nat.le_refl _) _).alloc (by rw[hs];omega) _).grown hg (by simp[World.setCell];omega) (by intro k hk;simp at hk;omega),?_⟩
 have:=hg.size;simp[World.setCell]at this;omega
theorem zn.grown {lo:Nat}{w w2:World}{a:OA}{ws:List BA}{row:Nat}(h:zn lo w a ws)(hg:w.grownBy w2 (some row))(hr:∀g,a=some g->g.block≠row):zn lo w2 a ws:=by
 rcases h with⟨rfl,rfl⟩|⟨g,C,rfl,hl,hh,hc⟩
 ·exact Or.inl ⟨rfl,rfl⟩
 ·exact Or.inr ⟨g,C,rfl,hl,(hg.block g (gES hh).1 (by have:=hr _ rfl;simpa using this)).trans hh,hc⟩
theorem zn.lt {lo:Nat}{w:World}{a:OA}{ws:List BA}(h:zn lo w a ws):∀g,a=some g->g.block<w.heap.size:=by
 intro g hg
 rcases h with⟨rfl,_⟩|⟨g',C,rfl,_,hh,_⟩
 ·cases hg
 ·cases hg;exact(gES hh).1
set_option maxRecDepth 20000 in
theorem zeu (o:Ob)(b off b' off' cap cap':Nat)(w:World)(ho:jU w o (some (aD b off)) (some (aD b' off')))(hl:o.vs.length<=1048576)(hl':o.hs.length<=1048576) :
 Calls Tryz.prog 73 #[.agg #[.s o.kd,.s o.nm,.s o.tm,.l (some (aD b off)) o.vs.length cap,.bool o.en,.l (some (aD b' off')) o.hs.length cap',.i o.vr]] w
  fun e w'=>∃a dap a' dap' m,e=.returned (.agg #[.s o.kd,.s o.nm,.s o.tm,.l a o.vs.length dap,.bool o.en,.l a' o.hs.length dap',.i o.vr])/\zn w.heap.size w' a o.vs/\(∀g,a=some g->g.block<m)/\w.heap.size<=m/\zn m w' a' o.hs/\Bw w w':=by
 obtain⟨i0,hi,hz0,hz1',hz2⟩:=info_parts Tryz.zcV;go_enter Tryz.func73,Tryz.ntmps73
 go_wp2_with (first
  | (at_builtin;refine wpList_append_own _ rfl (.tmp 3) (.tmp 5) 105 rfl (w.heap.size+1+1) 9 i0 (.s ByteArray.empty) 1 16 Tryz.underlying105 hi hz0 hz1' hz2 rfl (by decide) (.l (some (aD (w.heap.size+1+1) 0)) 0 0) 0 [] rfl ⟨rfl,.inr ⟨w.heap.size+1+1,0,#[],rfl,Nat.le_refl _,zci _ _ _ _,Nat.le_refl _,by simp[maxLen],rfl,rfl⟩⟩ (aD b off) o.vs.length cap (o.vs.map Value.string) rfl (by simp) (zfw (ho.vals.mono (jC _ _ _ _))) zgR (by unfold maxLen;omega) (by omega) (by simp) ?_;intro v' w1 hown hgr _;simp only[Nat.zero_add,List.nil_append]at hown;obtain⟨a,dap,rfl,ht1⟩:=zn.zdq hown;obtain⟨hk1,hr1,hB1,hz1⟩:=zih hgr;have hX1:∀j,w1.cell? (aD w.heap.size j)=(#[.s o.kd,.s o.nm,.s o.tm,.l (some (aD b off)) o.vs.length cap,.bool o.en,.l (some (aD b' off')) o.hs.length cap',.i o.vr]:AV)[j]?:=fun j=>cell_of_block hk1;have hF1:∀j,w1.frozen? (aD w.heap.size j)=false:=fun j=>zh hk1;have hzz1:w.heap.size<w1.heap.size:=(by omega);have hone:=hB1.setCell (p:=(aD w.heap.size 3)) (Nat.le_refl _) (.l a o.vs.length dap);have HT1:Hid (zn (w.heap.size+1+1) w1 a o.vs):=ht1;have HK1:Hid (w1.heap[w.heap.size]?=some (.cells #[.s o.kd,.s o.nm,.s o.tm,.l (some (aD b off)) o.vs.length cap,.bool o.en,.l (some (aD b' off')) o.hs.length cap',.i o.vr] 121)):=hk1;have HR1:Hid (w1.heap[w.heap.size+1]?=some (.cells #[.s ByteArray.empty,.s ByteArray.empty,.s ByteArray.empty,.l none 0 0,.bool false,.l none 0 0,.i 0] 121)):=hr1;clear ht1 hk1 hr1;clear hown hgr)
  | (at_builtin;refine wpList_append_own _ rfl (.tmp 8) (.tmp 10) 105 rfl w1.heap.size 9 i0 (.s ByteArray.empty) 1 16 Tryz.underlying105 hi hz0 hz1' hz2 rfl (by decide) (.l (some (aD w1.heap.size 0)) 0 0) 0 [] rfl ⟨rfl,.inr ⟨w1.heap.size,0,#[],rfl,Nat.le_refl _,zpk _ _ _ _,Nat.le_refl _,(by simp[maxLen]),rfl,rfl⟩⟩ (aD b' off') o.hs.length cap' (o.hs.map Value.string) rfl (by simp) (zfw (ho.holds.mono (hone.alloc hone.size _))) zgR (by unfold maxLen;omega) (by omega) (by simp[World.setCell]) ?_;intro v'' w2 hown hgr _;simp only[Nat.zero_add,List.nil_append]at hown;obtain⟨a',dap',rfl,ht2⟩:=zn.zdq hown;obtain⟨hk2,hr2,hB2,hz2'⟩:=zlI HK1.o HR1.o hB1 hz1 hgr;have HU2:Hid (zn w1.heap.size w2 a' o.hs):=ht2;have HT2:Hid (zn (w.heap.size+1+1) w2 a o.vs):=((HT1.o.setCell _ (by simp;omega) _).mono (bAl _ _)).grown hgr (fun g hg=>Nat.ne_of_lt (HT1.o.lt g hg));have hX2:∀j,w2.cell? (aD w.heap.size j)=(#[.s o.kd,.s o.nm,.s o.tm,.l a o.vs.length dap,.bool o.en,.l (some (aD b' off')) o.hs.length cap',.i o.vr]:AV)[j]?:=fun j=>cell_of_block hk2;have hF2:∀j,w2.frozen? (aD w.heap.size j)=false:=fun j=>zh hk2;have hY2:∀j,w2.cell? (aD (w.heap.size+1) j)=(#[.s ByteArray.empty,.s ByteArray.empty,.s ByteArray.empty,.l none 0 0,.bool false,.l none 0 0,.i 0]:AV)[j]?:=fun j=>cell_of_block hr2;have hG2:∀j,w2.frozen? (aD (w.heap.size+1) j)=false:=fun j=>zh hr2;have hzz2:w.heap.size+1<w2.heap.size:=(by omega);clear hown hgr ht2 hk2 hr2 hX1 hF1))
 refine bodyPost_ret (v:=(.agg #[.s o.kd,.s o.nm,.s o.tm,.l a o.vs.length dap,.bool o.en,.l a' o.hs.length dap',.i o.vr])) (by simp[results,Tryz.results73,go_sem,hY2]) rfl ⟨a,dap,a',dap',w1.heap.size,rfl,((((((((HT2.o.setCell _ (by simp;omega) _).setCell _ (by simp) _).setCell _ (by simp) _).setCell _ (by simp) _).setCell _ (by simp) _).setCell _ (by simp) _).setCell _ (by simp) _).setCell _ (by simp) _).low (by omega),HT1.o.lt,by omega,((((((((HU2.o.setCell _ (by simp;omega) _).setCell _ (by simp;omega) _).setCell _ (by simp;omega) _).setCell _ (by simp;omega) _).setCell _ (by simp;omega) _).setCell _ (by simp;omega) _).setCell _ (by simp;omega) _).setCell _ (by simp;omega) _),((((((((hB2.setCell (Nat.le_refl _) _).setCell (by simp) _).setCell (by simp) _).setCell (by simp) _).setCell (by simp) _).setCell (by simp) _).setCell (by simp) _).setCell (by simp) _)⟩
structure Lg where
 tm:BA
 rs:BA
 mo:Int
 fr:Int
def Lg.cells (m:Lg):AV:=#[.s m.tm,.s m.rs,.i m.mo,.i m.fr]
structure Lg.Small (m:Lg):Prop where
 tm:m.tm.size<=maxLen
 rs:m.rs.size<=maxLen
structure zbn (w:World)(a:OA)(ms:List Lg):Prop where
 len:ms.length<=maxLen
 small:∀i (h:i<ms.length),ms[i].Small
 rows:ms≠[]->∃b off,a=some (aD b off)/\b<w.heap.size/\∀i (h:i<ms.length),∀j,j<4->w.cell? (aD b (off+i*4+j))=ms[i].cells[j]?
theorem zbn.mono {w w':World}{a:OA}{ms:List Lg}(h:zbn w a ms)(hl:Bw w w'):zbn w' a ms:=
 ⟨h.len,h.small,fun hne=>by
  obtain⟨b,off,ha,hb,hr⟩:=h.rows hne;exact⟨b,off,ha,nLt hb hl.size,fun i hi j hj=>(hl.cell (p:=(aD b (off+i*4+j))) hb).trans (hr i hi j hj)⟩⟩
theorem zbn.load {w w':World}{a:OA}{ms:List Lg}(h:zbn w a ms)(hl:Bw w w')(i:Nat)(hi:i<ms.length):∃b off,a=some (aD b off)/\b<w.heap.size /\
 w'.cell? (aD b (off+i*4))=some (.s ms[i].tm)/\w'.cell? (aD b (off+i*4+1))=some (.s ms[i].rs)/\w'.cell? (aD b (off+i*4+2))=some (.i ms[i].mo)/\w'.cell? (aD b (off+i*4+3))=some (.i ms[i].fr):=by
 obtain⟨b,off,ha,hb,hr⟩:=h.rows (by rintro rfl;simp at hi);have hc:∀j,j<4->w'.cell? (aD b (off+i*4+j))=ms[i].cells[j]?:=fun j hj=>(hl.cell (p:=(aD b (off+i*4+j))) hb).trans (hr i hi j hj)
 exact⟨b,off,ha,hb,hc 0 (by omega),hc 1 (by omega),hc 2 (by omega),hc 3 (by omega)⟩
def Lg.sz (m:Lg):Nat:=m.tm.size+m.rs.size
def zeJ (ms:List Lg):Nat:=(ms.map Lg.sz).sum
def zcQ (ms:List Lg):Nat:=ms.length+zeJ ms
theorem zd0 (m:Lg)(left:Int)(w:World)(hm:m.Small)(h0:0<=left)(h1:left<=1048576) :
 Calls Tryz.prog 67 #[.agg m.cells,.i left] w fun e w'=>e=.returned (.i (zL m.sz left))/\Bw w w':=by
 have k0:=hm.tm;have k1:=hm.rs;unfold maxLen at k0 k1;unfold Lg.cells;have hB:∀ob,Bw w (w.alloc ob):=fun ob=>bAl _ _
 by_cases hf:(m.sz:Int)<=left
 ·have HF:Hid (zL m.sz left=left-m.tm.size-m.rs.size):=by
   unfold Hid;rw[zM hf];unfold Lg.sz;omega
  unfold Lg.sz at hf;go_enter Tryz.func67,Tryz.ntmps67;go_wp2_with fail
  go_ret;exact⟨zo HF.o.symm,hB _⟩
 ·have HF:Hid (zL m.sz left=-1):=zC hf
  have HN:Hid (¬((m.tm.size+m.rs.size:Nat):Int)<=left):=hf;clear hf;go_enter Tryz.func67,Tryz.ntmps67;go_wp2_with fail
  all_goals go_ret
  all_goals first|exact⟨zo HF.o.symm,hB _⟩|(exfalso;have:=HN.o;simp at *;omega)
theorem zhJ (m:Lg)(left:Int)(w:World)(hm:m.Small)(h0:0<=left)(h1:left<=1048576)(h:(m.sz:Int)<=left) :
 Calls Tryz.prog 67 #[.agg m.cells,.i left] w fun e w'=>e=.returned (.i (left-m.sz))/\Bw w w':=by
 refine(zd0 m left w hm h0 h1).mono ?_;rintro e w'⟨rfl,hb⟩;exact⟨zo (zM h),hb⟩
theorem ziE (m:Lg)(left:Int)(w:World)(hm:m.Small)(h0:0<=left)(h1:left<=1048576)(h:¬(m.sz:Int)<=left) :
 Calls Tryz.prog 67 #[.agg m.cells,.i left] w fun e w'=>e=.returned (.i (-1))/\Bw w w':=by
 refine(zd0 m left w hm h0 h1).mono ?_;rintro e w'⟨rfl,hb⟩;exact⟨zo (zC h),hb⟩
theorem zgl (a:OA)(cap:Nat)(ms:List Lg)(left:Int)(w:World)(hw:zbn w a ms)(h0:0<=left)(h1:left<=1048576) :
 Calls Tryz.prog 20 #[.l a ms.length cap,.i left] w fun e w'=>e=.returned (.i (zL (zcQ ms) left))/\Bw w w':=by
 have hl:=hw.len;unfold maxLen at hl
 by_cases hfit:(ms.length:Int)<=left
 ·go_enter Tryz.func20,Tryz.ntmps20
  go_wp2_with fail
  go_loopw [1,5] (fun l i wr=>∃k:Nat,k<=ms.length/\i=.i k/\0<=left-ms.length-zeJ (ms.take k)/\l=.i (left-ms.length-zeJ (ms.take k))/\Bw w wr) (fun _ i _=>ms.length-(intOf i).toNat)
  case atStart=>exact⟨0,Nat.zero_le _,rfl,by simp[zeJ];omega,by simp[zeJ],bRf _ _⟩
  case round=>
   obtain⟨k,hk,rfl,hpos,rfl,hB⟩:=hrel
   by_cases hlt:k<ms.length
   ·obtain⟨b,off,rfl,hb,c0,c1,c2,c3⟩:=hw.load hB k hlt
    have hsm:=hw.small k hlt;have HS:Hid (zeJ (ms.take (k+1))=zeJ (ms.take k)+ms[k].sz):=za7 Lg.sz ms k hlt;have hle:zeJ (ms.take (k+1))<=zeJ ms:=zcX Lg.sz ms (k+1);clear hw
    by_cases hneg:(ms[k].sz:Int)<=left-ms.length-zeJ (ms.take k)
    ·have HNG:Hid ((ms[k].sz:Int)<=left-ms.length-zeJ (ms.take k)):=hneg
     clear hle;go_wp2_with fail
     refine(zhJ _ _ _ hsm hpos (by omega) HNG.o).mono ?_;rintro e w1⟨rfl,hb1⟩;have hB1:=hB.trans (hb1.mono hB.size);clear hb1;go_wp2_with fail
     exact⟨⟨k+1,by omega,by go_num,by rw[HS.o];omega,by rw[HS.o];congr 1;omega,hB1⟩,by simp[intOf];omega⟩
    ·have HF:Hid (zL (zcQ ms) left=-1):=zC (by have:=HS.o;unfold zcQ;omega)
     have HNG:=hid hneg;clear hneg hle;go_wp2_with fail
     refine(ziE _ _ _ hsm hpos (by omega) (by have:=HNG.o;omega)).mono ?_;rintro e w1⟨rfl,hb1⟩;have hB1:=hB.trans (hb1.mono hB.size);clear hb1;go_wp2_with fail
     go_ret;exact⟨zo HF.o.symm,hB1⟩
   ·have HF:Hid (zL (zcQ ms) left=left-ms.length-zeJ (ms.take k)):=by
     rw[tOl (by omega)]at hpos ⊢;have e:zL (zcQ ms) left=left-zcQ ms:=zM (by unfold zcQ;omega);unfold Hid;rw[e];unfold zcQ;omega
    clear hw
    go_wp2
    go_ret;exact⟨zo HF.o.symm,hB⟩
 ·have HF:Hid (zL (zcQ ms) left=-1):=zC (by unfold zcQ;omega)
  clear hw;go_enter Tryz.func20,Tryz.ntmps20
  go_wp2
  go_ret;exact⟨zo HF.o.symm,bRf _ _⟩
theorem zhs (m:Lg)(w:World):Calls Tryz.prog 102 #[.agg m.cells,.agg m.cells] w fun e w'=>e=.returned (.bool true)/\Bw w w':=by
 unfold Lg.cells;have hn2:(m.mo != m.mo)=false:=by simp
 have hn3:(m.fr != m.fr)=false:=by simp
 go_enter Tryz.func102,Tryz.ntmps102;go_wp2_with fail
 go_ret;exact⟨rfl,zw _ _ _⟩
theorem zgv (a a':OA)(cap cap':Nat)(ms:List Lg)(w:World)(hw:zbn w a ms)(hw':zbn w a' ms) :
 Calls Tryz.prog 46 #[.l a ms.length cap,.l a' ms.length cap'] w fun e w'=>e=.returned (.bool true)/\Bw w w':=by
 have hl:=hw.len;unfold maxLen at hl;have hnn:((ms.length:Int) != ms.length)=false:=by simp
 go_enter Tryz.func46,Tryz.ntmps46;go_wp2_with fail
 go_loopw [5] (fun i wr=>∃k:Nat,k<=ms.length/\i=.i k/\Bw w wr) (fun i _=>ms.length-(intOf i).toNat)
 case atStart=>exact⟨0,Nat.zero_le _,rfl,bRf _ _⟩
 case round=>
  obtain⟨k,hk,rfl,hB⟩:=hrel
  by_cases hlt:k<ms.length
  ·obtain⟨b,off,rfl,hb,c0,c1,c2,c3⟩:=hw.load hB k hlt
   obtain⟨b',off',rfl,hb',d0,d1,d2,d3⟩:=hw'.load hB k hlt;have hltI:(k:Int)<(ms.length:Int):=by omega
   clear hw hw';go_wp2_with fail
   go_region_with (go_at_call 102;refine(zhs ms[k] _).mono ?_;rintro e w1⟨rfl,hb1'⟩;have hb1:=(bRf wr.heap.size wr).drew.trans hb1';clear hb1')
   all_goals go_wp2_with fail
   all_goals exact⟨⟨k+1,by omega,by go_num,hB.trans (hb1.mono hB.size)⟩,by simp[intOf];omega⟩
  ·clear hw hw'
   go_wp2_with fail
   go_ret;exact⟨rfl,hB⟩
structure zac (lo:Nat)(w:World)(bo:Nat)(ms:List Lg)(k:Nat):Prop where
 low:lo<=bo
 rows:∃C,w.heap[bo]?=some (.cells C 69)/\C.size=ms.length*4/\∀i (h:i<ms.length),i<k->∀j,j<4->C[i*4+j]?=ms[i].cells[j]?
theorem zac.at {lo:Nat}{w:World}{bo:Nat}{ms:List Lg}(h:zac lo w bo ms ms.length)(hs:∀i (h:i<ms.length),ms[i].Small)(hl:ms.length<=maxLen):zbn w (some (aD bo 0)) ms:=by
 obtain⟨C,hC,hsz,hr⟩:=h.rows;refine⟨hl,hs,fun _=>⟨bo,0,rfl,(gES hC).1,fun i hi j hj=>?_⟩⟩;rw[cell_of_block hC,Nat.zero_add];exact hr i hi hi j hj
theorem zac.later {lo:Nat}{w w':World}{bo:Nat}{ms:List Lg}{k:Nat}(h:zac lo w bo ms k)(hb:Bw w w'):zac lo w' bo ms k:=by
 obtain⟨C,hC,hsz,hr⟩:=h.rows;exact⟨h.low,C,(hb.block bo (gES hC).1).trans hC,hsz,hr⟩
theorem zac.above {lo:Nat}{w w':World}{bo:Nat}{ms:List Lg}{k:Nat}(h:zac lo w bo ms k)(ha:yN lo w w'):zac lo w' bo ms k:=by
 obtain⟨C,hC,hr⟩:=h.rows;exact⟨h.low,C,(ha.same _ h.low (gES hC).1).trans hC,hr⟩
theorem zac.weaken {lo lo':Nat}{w:World}{bo:Nat}{ms:List Lg}{k:Nat}(h:zac lo w bo ms k)(hl:lo'<=lo):zac lo' w bo ms k:=⟨Nat.le_trans hl h.low,h.rows⟩
def zqx (w:World)(b o:Nat)(v0 v1 v2 v3:Value):World:=((((w.setCell (aD b o) v0).setCell (aD b (o+1)) v1).setCell (aD b (o+2)) v2).setCell (aD b (o+3)) v3)
def zjB (C:AV)(o:Nat)(v0 v1 v2 v3:Value):AV:=((((C.setIfInBounds (o) v0).setIfInBounds (o+1) v1).setIfInBounds (o+2) v2).setIfInBounds (o+3) v3)
theorem znT {w:World}{b o:Nat}{C:AV}{t:TypeId}(h:w.heap[b]?=some (.cells C t))(v0 v1 v2 v3:Value):(zqx w b o v0 v1 v2 v3).heap[b]?=some (.cells (zjB C o v0 v1 v2 v3) t):=
 zi (zi (zi (zi h v0) v1) v2) v3
theorem znC {B:Nat}{a w:World}(h:Below B a w){b:Nat}(hb:B<=b)(o:Nat)(v0 v1 v2 v3:Value):Below B a (zqx w b o v0 v1 v2 v3):=
 (((h.setCell hb v0).setCell hb v1).setCell hb v2).setCell hb v3
theorem zoO (C:AV)(o:Nat)(v0 v1 v2 v3:Value):(zjB C o v0 v1 v2 v3).size=C.size:=by simp[zjB]
theorem zpQ (C:AV)(o i:Nat)(v0 v1 v2 v3:Value)(h:i<o \/ o+4<=i):(zjB C o v0 v1 v2 v3)[i]?=C[i]?:=by
 unfold zjB
 iterate 4 rw[Array.getElem?_setIfInBounds,if_neg (by omega)]
theorem zrd (C:AV)(o j:Nat)(v0 v1 v2 v3:Value)(hj:j<4)(ho:o+4<=C.size):(zjB C o v0 v1 v2 v3)[o+j]?=(#[v0,v1,v2,v3]:AV)[j]?:=by
 have hc:j=0 \/ j=1 \/ j=2 \/ j=3:=by omega
 unfold zjB
 rcases hc with h|h|h|h <;> subst h <;> simp[Array.getElem?_setIfInBounds] <;> omega
theorem zac.put {lo:Nat}{w:World}{bo:Nat}{ms:List Lg}{k:Nat}(h:zac lo w bo ms k)(hk:k<ms.length) :
 zac lo (zqx w bo (k*4) (.s ms[k].tm) (.s ms[k].rs) (.i ms[k].mo) (.i ms[k].fr)) bo ms (k+1):=by
 obtain⟨C,hC,hsz,hr⟩:=h.rows;refine⟨h.low,_,znT hC _ _ _ _,by rw[zoO];exact hsz,fun i hi hik j hj=>?_⟩
 rcases Nat.lt_or_ge i k with hlt|hge
 ·rw[zpQ _ _ _ _ _ _ _ (by omega)]
  exact hr i hi hlt j hj
 ·have e:i=k:=by omega
  subst e;rw[zrd _ _ _ _ _ _ _ hj (by omega)]
  rfl
theorem zhV (m:Lg)(w:World) :
 Calls Tryz.prog 84 #[.agg m.cells] w fun e w'=>e=.returned (.agg m.cells)/\Bw w w':=by
 unfold Lg.cells;go_enter Tryz.func84,Tryz.ntmps84;go_wp2_with fail
 refine bodyPost_ret (v:=.agg #[.s m.tm,.s m.rs,.i m.mo,.i m.fr]) (by simp[results,Tryz.results84,go_sem]) rfl ⟨rfl,?_⟩;exact(((bAl _ _).alloc (by simp) _).alloc (by simp;omega) _)
def zqH:AV:=#[.s ByteArray.empty,.s ByteArray.empty,.i 0,.i 0]
def zpE (n:Nat):AV:=madeCells zqH (n*4)
theorem zgE (a:OA)(cap:Nat)(ms:List Lg)(w:World)(hw:zbn w a ms)(hl:ms.length<=1048576) :
 Calls Tryz.prog 35 #[.l a ms.length cap] w fun e w'=>e=.returned (.l (some (aD w.heap.size 0)) ms.length ms.length)/\zac w.heap.size w' w.heap.size ms ms.length/\Bw w w':=by
 have hmk:∀w:World,(Instr.makeSlice 37 (.i ms.length) (.i ms.length)).run Tryz.prog w=.ok (.l (some (aD w.heap.size 0)) ms.length ms.length) (w.alloc (.cells (zpE ms.length) 69)):=
  fun w=>jE (P:=Tryz.prog) 37 69 (.agg zqH) 4 48 Tryz.underlying37 (by kernel_rfl) ms.length (by omega) (by omega) w
 go_enter Tryz.func35,Tryz.ntmps35;go_wp2_with fail
 clear hmk
 go_loopw [4] (fun i wr=>∃k:Nat,k<=ms.length/\i=.i k/\zac w.heap.size wr w.heap.size ms k/\Bw w wr) (fun i _=>ms.length-(intOf i).toNat)
 case atStart=>exact⟨0,Nat.zero_le _,rfl,⟨Nat.le_refl _,zpE ms.length,(MapKept.heap_alloc w _).1,size_madeCells _ _,fun i _ h=>absurd h (by omega)⟩,bAl _ _⟩
 case round=>
  obtain⟨k,hk,rfl,hown,hB⟩:=hrel
  by_cases hlt:k<ms.length
  ·obtain⟨b,off,rfl,hb,c0,c1,c2,c3⟩:=hw.load hB k hlt
   have hltI:(k:Int)<(ms.length:Int):=by omega
   clear hw;go_wp2_with fail
   refine(zhV ms[k] _).mono ?_;rintro e w1⟨rfl,hb1⟩;have hB1:=hB.trans (hb1.mono hB.size);have hown1:=hown.later hb1
   have hbo:w.heap.size<wr.heap.size:=by
    obtain⟨C',hC',_⟩:=hown.rows;exact(gES hC').1
   obtain⟨C,hC,hsz,_⟩:=hown1.rows;have hfz:∀o,w1.frozen? (aD w.heap.size o)=false:=fun o=>zh hC
   have hex:∀o,o<ms.length*4->∃v,w1.cell? (aD w.heap.size o)=some v:=fun o ho=>⟨C[o]'(by omega),by rw[cell_of_block hC];exact Array.getElem?_eq_getElem (by omega)⟩
   obtain⟨v0,hv0⟩:=hex (k*4) (by omega);obtain⟨v1,hv1⟩:=hex (k*4+1) (by omega);obtain⟨v2,hv2⟩:=hex (k*4+2) (by omega);obtain⟨v3,hv3⟩:=hex (k*4+3) (by omega);have HP:=hid hown1;clear hex hC hsz c0 c1 c2 c3 hown hown1;unfold Lg.cells;go_wp2_with fail
   exact⟨⟨k+1,by omega,by go_num,HP.o.put hlt,znC hB1 (Nat.le_refl _) _ _ _ _ _⟩,by simp[intOf];omega⟩
  ·have HF:Hid (zac w.heap.size wr w.heap.size ms ms.length):=by
    have e:k=ms.length:=by omega
    subst e;exact hown
   clear hw hown;go_wp2_with fail
   go_ret;exact⟨rfl,HF.o,hB⟩
structure Pu where
 dr:BA
 tm:BA
 rs:BA
 am:Int
 un:Int
def Pu.cells (m:Pu):AV:=#[.s m.dr,.s m.tm,.s m.rs,.i m.am,.i m.un]
structure Pu.Small (m:Pu):Prop where
 dr:m.dr.size<=maxLen
 tm:m.tm.size<=maxLen
 rs:m.rs.size<=maxLen
structure zce (w:World)(a:OA)(ms:List Pu):Prop where
 len:ms.length<=maxLen
 small:∀i (h:i<ms.length),ms[i].Small
 rows:ms≠[]->∃b off,a=some (aD b off)/\b<w.heap.size/\∀i (h:i<ms.length),∀j,j<5->w.cell? (aD b (off+i*5+j))=ms[i].cells[j]?
theorem zce.mono {w w':World}{a:OA}{ms:List Pu}(h:zce w a ms)(hl:Bw w w'):zce w' a ms:=
 ⟨h.len,h.small,fun hne=>by
  obtain⟨b,off,ha,hb,hr⟩:=h.rows hne;exact⟨b,off,ha,nLt hb hl.size,fun i hi j hj=>(hl.cell (p:=(aD b (off+i*5+j))) hb).trans (hr i hi j hj)⟩⟩
theorem zce.load {w w':World}{a:OA}{ms:List Pu}(h:zce w a ms)(hl:Bw w w')(i:Nat)(hi:i<ms.length):∃b off,a=some (aD b off)/\b<w.heap.size /\
 w'.cell? (aD b (off+i*5))=some (.s ms[i].dr)/\w'.cell? (aD b (off+i*5+1))=some (.s ms[i].tm)/\w'.cell? (aD b (off+i*5+2))=some (.s ms[i].rs)/\w'.cell? (aD b (off+i*5+3))=some (.i ms[i].am)/\w'.cell? (aD b (off+i*5+4))=some (.i ms[i].un):=by
 obtain⟨b,off,ha,hb,hr⟩:=h.rows (by rintro rfl;simp at hi);have hc:∀j,j<5->w'.cell? (aD b (off+i*5+j))=ms[i].cells[j]?:=fun j hj=>(hl.cell (p:=(aD b (off+i*5+j))) hb).trans (hr i hi j hj)
 exact⟨b,off,ha,hb,hc 0 (by omega),hc 1 (by omega),hc 2 (by omega),hc 3 (by omega),hc 4 (by omega)⟩
def Pu.sz (m:Pu):Nat:=m.dr.size+m.tm.size+m.rs.size
def zeD (ms:List Pu):Nat:=(ms.map Pu.sz).sum
def zdp (ms:List Pu):Nat:=ms.length+zeD ms
theorem zeG (m:Pu)(left:Int)(w:World)(hm:m.Small)(h0:0<=left)(h1:left<=1048576) :
 Calls Tryz.prog 68 #[.agg m.cells,.i left] w fun e w'=>e=.returned (.i (zL m.sz left))/\Bw w w':=by
 have k0:=hm.dr;have k1:=hm.tm;have k2:=hm.rs;unfold maxLen at k0 k1 k2;unfold Pu.cells;have hB:∀ob,Bw w (w.alloc ob):=fun ob=>bAl _ _
 by_cases hf:(m.sz:Int)<=left
 ·have HF:Hid (zL m.sz left=left-m.dr.size-m.tm.size-m.rs.size):=by
   unfold Hid;rw[zM hf];unfold Pu.sz;omega
  unfold Pu.sz at hf;go_enter Tryz.func68,Tryz.ntmps68;go_wp2_with fail
  go_ret;exact⟨zo HF.o.symm,hB _⟩
 ·have HF:Hid (zL m.sz left=-1):=zC hf
  have HN:Hid (¬((m.dr.size+m.tm.size+m.rs.size:Nat):Int)<=left):=hf;clear hf;go_enter Tryz.func68,Tryz.ntmps68;go_wp2_with fail
  all_goals go_ret
  all_goals first|exact⟨zo HF.o.symm,hB _⟩|(exfalso;have:=HN.o;simp at *;omega)
theorem ziw (m:Pu)(left:Int)(w:World)(hm:m.Small)(h0:0<=left)(h1:left<=1048576)(h:(m.sz:Int)<=left) :
 Calls Tryz.prog 68 #[.agg m.cells,.i left] w fun e w'=>e=.returned (.i (left-m.sz))/\Bw w w':=by
 refine(zeG m left w hm h0 h1).mono ?_;rintro e w'⟨rfl,hb⟩;exact⟨zo (zM h),hb⟩
theorem zkA (m:Pu)(left:Int)(w:World)(hm:m.Small)(h0:0<=left)(h1:left<=1048576)(h:¬(m.sz:Int)<=left) :
 Calls Tryz.prog 68 #[.agg m.cells,.i left] w fun e w'=>e=.returned (.i (-1))/\Bw w w':=by
 refine(zeG m left w hm h0 h1).mono ?_;rintro e w'⟨rfl,hb⟩;exact⟨zo (zC h),hb⟩
theorem zhP (a:OA)(cap:Nat)(ms:List Pu)(left:Int)(w:World)(hw:zce w a ms)(h0:0<=left)(h1:left<=1048576) :
 Calls Tryz.prog 21 #[.l a ms.length cap,.i left] w fun e w'=>e=.returned (.i (zL (zdp ms) left))/\Bw w w':=by
 have hl:=hw.len;unfold maxLen at hl
 by_cases hfit:(ms.length:Int)<=left
 ·go_enter Tryz.func21,Tryz.ntmps21
  go_wp2_with fail
  go_loopw [1,5] (fun l i wr=>∃k:Nat,k<=ms.length/\i=.i k/\0<=left-ms.length-zeD (ms.take k)/\l=.i (left-ms.length-zeD (ms.take k))/\Bw w wr) (fun _ i _=>ms.length-(intOf i).toNat)
  case atStart=>exact⟨0,Nat.zero_le _,rfl,by simp[zeD];omega,by simp[zeD],bRf _ _⟩
  case round=>
   obtain⟨k,hk,rfl,hpos,rfl,hB⟩:=hrel
   by_cases hlt:k<ms.length
   ·obtain⟨b,off,rfl,hb,c0,c1,c2,c3,c4⟩:=hw.load hB k hlt
    have hsm:=hw.small k hlt;have HS:Hid (zeD (ms.take (k+1))=zeD (ms.take k)+ms[k].sz):=za7 Pu.sz ms k hlt;have hle:zeD (ms.take (k+1))<=zeD ms:=zcX Pu.sz ms (k+1);clear hw
    by_cases hneg:(ms[k].sz:Int)<=left-ms.length-zeD (ms.take k)
    ·have HNG:Hid ((ms[k].sz:Int)<=left-ms.length-zeD (ms.take k)):=hneg
     clear hle;go_wp2_with fail
     refine(ziw _ _ _ hsm hpos (by omega) HNG.o).mono ?_;rintro e w1⟨rfl,hb1⟩;have hB1:=hB.trans (hb1.mono hB.size);clear hb1;go_wp2_with fail
     exact⟨⟨k+1,by omega,by go_num,by rw[HS.o];omega,by rw[HS.o];congr 1;omega,hB1⟩,by simp[intOf];omega⟩
    ·have HF:Hid (zL (zdp ms) left=-1):=zC (by have:=HS.o;unfold zdp;omega)
     have HNG:=hid hneg;clear hneg hle;go_wp2_with fail
     refine(zkA _ _ _ hsm hpos (by omega) (by have:=HNG.o;omega)).mono ?_;rintro e w1⟨rfl,hb1⟩;have hB1:=hB.trans (hb1.mono hB.size);clear hb1;go_wp2_with fail
     go_ret;exact⟨zo HF.o.symm,hB1⟩
   ·have HF:Hid (zL (zdp ms) left=left-ms.length-zeD (ms.take k)):=by
     rw[tOl (by omega)]at hpos ⊢;have e:zL (zdp ms) left=left-zdp ms:=zM (by unfold zdp;omega);unfold Hid;rw[e];unfold zdp;omega
    clear hw
    go_wp2
    go_ret;exact⟨zo HF.o.symm,hB⟩
 ·have HF:Hid (zL (zdp ms) left=-1):=zC (by unfold zdp;omega)
  clear hw;go_enter Tryz.func21,Tryz.ntmps21
  go_wp2
  go_ret;exact⟨zo HF.o.symm,bRf _ _⟩
theorem zi9 (m:Pu)(w:World):Calls Tryz.prog 103 #[.agg m.cells,.agg m.cells] w fun e w'=>e=.returned (.bool true)/\Bw w w':=by
 unfold Pu.cells;have hn3:(m.am != m.am)=false:=by simp
 have hn4:(m.un != m.un)=false:=by simp
 go_enter Tryz.func103,Tryz.ntmps103;go_wp2_with fail
 go_ret;exact⟨rfl,zw _ _ _⟩
theorem zhh (a a':OA)(cap cap':Nat)(ms:List Pu)(w:World)(hw:zce w a ms)(hw':zce w a' ms) :
 Calls Tryz.prog 47 #[.l a ms.length cap,.l a' ms.length cap'] w fun e w'=>e=.returned (.bool true)/\Bw w w':=by
 have hl:=hw.len;unfold maxLen at hl;have hnn:((ms.length:Int) != ms.length)=false:=by simp
 go_enter Tryz.func47,Tryz.ntmps47;go_wp2_with fail
 go_loopw [5] (fun i wr=>∃k:Nat,k<=ms.length/\i=.i k/\Bw w wr) (fun i _=>ms.length-(intOf i).toNat)
 case atStart=>exact⟨0,Nat.zero_le _,rfl,bRf _ _⟩
 case round=>
  obtain⟨k,hk,rfl,hB⟩:=hrel
  by_cases hlt:k<ms.length
  ·obtain⟨b,off,rfl,hb,c0,c1,c2,c3,c4⟩:=hw.load hB k hlt
   obtain⟨b',off',rfl,hb',d0,d1,d2,d3,d4⟩:=hw'.load hB k hlt;have hltI:(k:Int)<(ms.length:Int):=by omega
   clear hw hw';go_wp2_with fail
   go_region_with (go_at_call 103;refine(zi9 ms[k] _).mono ?_;rintro e w1⟨rfl,hb1'⟩;have hb1:=(bRf wr.heap.size wr).drew.trans hb1';clear hb1')
   all_goals go_wp2_with fail
   all_goals exact⟨⟨k+1,by omega,by go_num,hB.trans (hb1.mono hB.size)⟩,by simp[intOf];omega⟩
  ·clear hw hw'
   go_wp2_with fail
   go_ret;exact⟨rfl,hB⟩
structure zaa (lo:Nat)(w:World)(bo:Nat)(ms:List Pu)(k:Nat):Prop where
 low:lo<=bo
 rows:∃C,w.heap[bo]?=some (.cells C 142)/\C.size=ms.length*5/\∀i (h:i<ms.length),i<k->∀j,j<5->C[i*5+j]?=ms[i].cells[j]?
theorem zaa.at {lo:Nat}{w:World}{bo:Nat}{ms:List Pu}(h:zaa lo w bo ms ms.length)(hs:∀i (h:i<ms.length),ms[i].Small)(hl:ms.length<=maxLen):zce w (some (aD bo 0)) ms:=by
 obtain⟨C,hC,hsz,hr⟩:=h.rows;refine⟨hl,hs,fun _=>⟨bo,0,rfl,(gES hC).1,fun i hi j hj=>?_⟩⟩;rw[cell_of_block hC,Nat.zero_add];exact hr i hi hi j hj
theorem zaa.later {lo:Nat}{w w':World}{bo:Nat}{ms:List Pu}{k:Nat}(h:zaa lo w bo ms k)(hb:Bw w w'):zaa lo w' bo ms k:=by
 obtain⟨C,hC,hsz,hr⟩:=h.rows;exact⟨h.low,C,(hb.block bo (gES hC).1).trans hC,hsz,hr⟩
theorem zaa.above {lo:Nat}{w w':World}{bo:Nat}{ms:List Pu}{k:Nat}(h:zaa lo w bo ms k)(ha:yN lo w w'):zaa lo w' bo ms k:=by
 obtain⟨C,hC,hr⟩:=h.rows;exact⟨h.low,C,(ha.same _ h.low (gES hC).1).trans hC,hr⟩
theorem zaa.weaken {lo lo':Nat}{w:World}{bo:Nat}{ms:List Pu}{k:Nat}(h:zaa lo w bo ms k)(hl:lo'<=lo):zaa lo' w bo ms k:=⟨Nat.le_trans hl h.low,h.rows⟩
def zqU (w:World)(b o:Nat)(v0 v1 v2 v3 v4:Value):World:=(((((w.setCell (aD b o) v0).setCell (aD b (o+1)) v1).setCell (aD b (o+2)) v2).setCell (aD b (o+3)) v3).setCell (aD b (o+4)) v4)
def zjU (C:AV)(o:Nat)(v0 v1 v2 v3 v4:Value):AV:=(((((C.setIfInBounds (o) v0).setIfInBounds (o+1) v1).setIfInBounds (o+2) v2).setIfInBounds (o+3) v3).setIfInBounds (o+4) v4)
theorem zmN {w:World}{b o:Nat}{C:AV}{t:TypeId}(h:w.heap[b]?=some (.cells C t))(v0 v1 v2 v3 v4:Value):(zqU w b o v0 v1 v2 v3 v4).heap[b]?=some (.cells (zjU C o v0 v1 v2 v3 v4) t):=
 zi (zi (zi (zi (zi h v0) v1) v2) v3) v4
theorem zmX {B:Nat}{a w:World}(h:Below B a w){b:Nat}(hb:B<=b)(o:Nat)(v0 v1 v2 v3 v4:Value):Below B a (zqU w b o v0 v1 v2 v3 v4):=
 ((((h.setCell hb v0).setCell hb v1).setCell hb v2).setCell hb v3).setCell hb v4
theorem zoY (C:AV)(o:Nat)(v0 v1 v2 v3 v4:Value):(zjU C o v0 v1 v2 v3 v4).size=C.size:=by simp[zjU]
theorem zpP (C:AV)(o i:Nat)(v0 v1 v2 v3 v4:Value)(h:i<o \/ o+5<=i):(zjU C o v0 v1 v2 v3 v4)[i]?=C[i]?:=by
 unfold zjU
 iterate 5 rw[Array.getElem?_setIfInBounds,if_neg (by omega)]
theorem zre (C:AV)(o j:Nat)(v0 v1 v2 v3 v4:Value)(hj:j<5)(ho:o+5<=C.size):(zjU C o v0 v1 v2 v3 v4)[o+j]?=(#[v0,v1,v2,v3,v4]:AV)[j]?:=by
 have hc:j=0 \/ j=1 \/ j=2 \/ j=3 \/ j=4:=by omega
 unfold zjU
 rcases hc with h|h|h|h|h <;> subst h <;> simp[Array.getElem?_setIfInBounds] <;> omega
theorem zaa.put {lo:Nat}{w:World}{bo:Nat}{ms:List Pu}{k:Nat}(h:zaa lo w bo ms k)(hk:k<ms.length) :
 zaa lo (zqU w bo (k*5) (.s ms[k].dr) (.s ms[k].tm) (.s ms[k].rs) (.i ms[k].am) (.i ms[k].un)) bo ms (k+1):=by
 obtain⟨C,hC,hsz,hr⟩:=h.rows;refine⟨h.low,_,zmN hC _ _ _ _ _,by rw[zoY];exact hsz,fun i hi hik j hj=>?_⟩
 rcases Nat.lt_or_ge i k with hlt|hge
 ·rw[zpP _ _ _ _ _ _ _ _ (by omega)]
  exact hr i hi hlt j hj
 ·have e:i=k:=by omega
  subst e;rw[zre _ _ _ _ _ _ _ _ hj (by omega)]
  rfl
theorem ziK (m:Pu)(w:World) :
 Calls Tryz.prog 85 #[.agg m.cells] w fun e w'=>e=.returned (.agg m.cells)/\Bw w w':=by
 unfold Pu.cells;go_enter Tryz.func85,Tryz.ntmps85;go_wp2_with fail
 refine bodyPost_ret (v:=.agg #[.s m.dr,.s m.tm,.s m.rs,.i m.am,.i m.un]) (by simp[results,Tryz.results85,go_sem]) rfl ⟨rfl,?_⟩;exact(((bAl _ _).alloc (by simp) _).alloc (by simp;omega) _)
def zqW:AV:=#[.s ByteArray.empty,.s ByteArray.empty,.s ByteArray.empty,.i 0,.i 0]
def zpt (n:Nat):AV:=madeCells zqW (n*5)
theorem zhr (a:OA)(cap:Nat)(ms:List Pu)(w:World)(hw:zce w a ms)(hl:ms.length<=1048576) :
 Calls Tryz.prog 36 #[.l a ms.length cap] w fun e w'=>e=.returned (.l (some (aD w.heap.size 0)) ms.length ms.length)/\zaa w.heap.size w' w.heap.size ms ms.length/\Bw w w':=by
 have hmk:∀w:World,(Instr.makeSlice 38 (.i ms.length) (.i ms.length)).run Tryz.prog w=.ok (.l (some (aD w.heap.size 0)) ms.length ms.length) (w.alloc (.cells (zpt ms.length) 142)):=
  fun w=>jE (P:=Tryz.prog) 38 142 (.agg zqW) 5 64 Tryz.underlying38 (by kernel_rfl) ms.length (by omega) (by omega) w
 go_enter Tryz.func36,Tryz.ntmps36;go_wp2_with fail
 clear hmk
 go_loopw [4] (fun i wr=>∃k:Nat,k<=ms.length/\i=.i k/\zaa w.heap.size wr w.heap.size ms k/\Bw w wr) (fun i _=>ms.length-(intOf i).toNat)
 case atStart=>exact⟨0,Nat.zero_le _,rfl,⟨Nat.le_refl _,zpt ms.length,(MapKept.heap_alloc w _).1,size_madeCells _ _,fun i _ h=>absurd h (by omega)⟩,bAl _ _⟩
 case round=>
  obtain⟨k,hk,rfl,hown,hB⟩:=hrel
  by_cases hlt:k<ms.length
  ·obtain⟨b,off,rfl,hb,c0,c1,c2,c3,c4⟩:=hw.load hB k hlt
   have hltI:(k:Int)<(ms.length:Int):=by omega
   clear hw;go_wp2_with fail
   refine(ziK ms[k] _).mono ?_;rintro e w1⟨rfl,hb1⟩;have hB1:=hB.trans (hb1.mono hB.size);have hown1:=hown.later hb1
   have hbo:w.heap.size<wr.heap.size:=by
    obtain⟨C',hC',_⟩:=hown.rows;exact(gES hC').1
   obtain⟨C,hC,hsz,_⟩:=hown1.rows;have hfz:∀o,w1.frozen? (aD w.heap.size o)=false:=fun o=>zh hC
   have hex:∀o,o<ms.length*5->∃v,w1.cell? (aD w.heap.size o)=some v:=fun o ho=>⟨C[o]'(by omega),by rw[cell_of_block hC];exact Array.getElem?_eq_getElem (by omega)⟩
   obtain⟨v0,hv0⟩:=hex (k*5) (by omega);obtain⟨v1,hv1⟩:=hex (k*5+1) (by omega);obtain⟨v2,hv2⟩:=hex (k*5+2) (by omega);obtain⟨v3,hv3⟩:=hex (k*5+3) (by omega);obtain⟨v4,hv4⟩:=hex (k*5+4) (by omega);have HP:=hid hown1;clear hex hC hsz c0 c1 c2 c3 c4 hown hown1;unfold Pu.cells;go_wp2_with fail
   exact⟨⟨k+1,by omega,by go_num,HP.o.put hlt,zmX hB1 (Nat.le_refl _) _ _ _ _ _ _⟩,by simp[intOf];omega⟩
  ·have HF:Hid (zaa w.heap.size wr w.heap.size ms ms.length):=by
    have e:k=ms.length:=by omega
    subst e;exact hown
   clear hw hown;go_wp2_with fail
   go_ret;exact⟨rfl,HF.o,hB⟩
end Go.Proofs.YtcgpjfcocmcodaaGreat
