import Derived.Test.YtkficnallnpjnaaGreatM13
set_option maxHeartbeats 2000000
namespace Go.Proofs.YtkficnallnpjnaaGreat
open Go.RowKit
theorem zfb {w:World}{b off:Nat}{ws:List ByteArray}(hw:zF w (some ⟨b,off,none⟩) ws):∀j u,(ws.map Value.string)[j]?=some u->w.cell? ((⟨b,off,none⟩:Addr).add j)=some u:=by
 intro j u hj
 have hlt:j<ws.length:=by
  have:=(List.getElem?_eq_some_iff.1 hj).1;simpa using this
 obtain⟨b',off',he,hb,hc⟩:=hw.cells (by rintro rfl;simp at hlt);simp only[Option.some.injEq,Addr.mk.injEq]at he;obtain⟨rfl,rfl,_⟩:=he;have h1:=hc j hlt
 have e1:(⟨b,off,none⟩:Addr).add j=⟨b,off+j,none⟩:=by
  unfold Addr.add;split
  ·rename_i h;subst h;simp
  ·rfl
 rw[e1,h1];rw[List.getElem?_map,List.getElem?_eq_getElem hlt]at hj
 simpa using hj
theorem zgT {ws:List ByteArray}:∀u∈ws.map Value.string,u.oneCell'=true:=by
 intro u hu;simp only[List.mem_map]at hu;obtain⟨s,_,rfl⟩:=hu;rfl
theorem jD (w:World)(o1 o2 o3:Obj):Below w.heap.size w (((w.alloc o1).alloc o2).alloc o3):=
 ((bAl _ _).alloc (by simp) _).alloc (by simp;omega) _
theorem zca (w:World)(o1 o2 o3:Obj):(((w.alloc o1).alloc o2).alloc o3).heap[w.heap.size+1+1]?=some o3:=by
 have h:=alloc_at ((w.alloc o1).alloc o2) o3
 simpa using h
theorem zch (w:World)(o1 o2 o3:Obj):(((w.alloc o1).alloc o2).alloc o3).heap[w.heap.size]?=some o1:=(Below.heap_alloc _ _ _ (by simp;omega)).trans (zT _ _ _).1
theorem zgM (w:World)(o1 o2 o3:Obj):(((w.alloc o1).alloc o2).alloc o3).heap[w.heap.size+1]?=some o2:=(Below.heap_alloc _ _ _ (by simp)).trans (zT _ _ _).2
theorem zh1 {w w1:World}{o1 o2 o3:Obj}(hg:(((w.alloc o1).alloc o2).alloc o3).grownBy w1 (some (w.heap.size+1+1))) :
 w1.heap[w.heap.size]?=some o1/\w1.heap[w.heap.size+1]?=some o2/\Below w.heap.size w w1/\w.heap.size+1+1<w1.heap.size:=by
 refine⟨(hg.block _ (by simp;omega) (by simp;try omega)).trans (zch _ _ _ _),(hg.block _ (by simp) (by simp)).trans (zgM _ _ _ _),(jD _ _ _ _).grown hg (jD _ _ _ _).size (by intro k hk;simp at hk;omega),?_⟩
 have:=hg.size;simp at this;omega
theorem zo5 (w:World)(p:Addr)(v:Value)(o3:Obj):((w.setCell p v).alloc o3).heap[w.heap.size]?=some o3:=by
 have h:=alloc_at (w.setCell p v) o3
 simpa[World.setCell] using h
theorem zle {w w1 w2:World}{a:Value}{C1 C2:Array Value}{t1 t2:TypeId}{o3:Obj}(hk:w1.heap[w.heap.size]?=some (.cells C1 t1))(hr:w1.heap[w.heap.size+1]?=some (.cells C2 t2))(hB:Below w.heap.size w w1)(hz:w.heap.size+1+1<w1.heap.size)
 (hg:((w1.setCell ⟨w.heap.size,3,none⟩ a).alloc o3).grownBy w2 (some w1.heap.size)) :
 w2.heap[w.heap.size]?=some (.cells (C1.setIfInBounds 3 a) t1)/\w2.heap[w.heap.size+1]?=some (.cells C2 t2)/\Below w.heap.size w w2/\w1.heap.size<w2.heap.size:=by
 have hs:(w1.setCell ⟨w.heap.size,3,none⟩ a).heap.size=w1.heap.size:=by simp[World.setCell]
 refine⟨(hg.block _ (by simp[World.setCell];omega) (by simp;omega)).trans ((Below.heap_alloc _ _ _ (by rw[hs];omega)).trans (zi hk _)),
  (hg.block _ (by simp[World.setCell];omega) (by simp;omega)).trans ((Below.heap_alloc _ _ _ (by rw[hs];omega)).trans ((Below.heap_setCell _ _ _ _ (by simp)).trans hr)),
  ((hB.setCell (Nat.le_refl _) _).alloc (by rw[hs];omega) _).grown hg (by simp[World.setCell];omega) (by intro k hk;simp at hk;omega),?_⟩
 have:=hg.size;simp[World.setCell]at this;omega
theorem zn.grown {lo:Nat}{w w2:World}{a:Option Addr}{ws:List ByteArray}{row:Nat}(h:zn lo w a ws)(hg:w.grownBy w2 (some row))(hr:∀g,a=some g->g.block≠row):zn lo w2 a ws:=by
 rcases h with⟨rfl,rfl⟩|⟨g,C,rfl,hl,hh,hc⟩
 ·exact Or.inl ⟨rfl,rfl⟩
 ·exact Or.inr ⟨g,C,rfl,hl,(hg.block g (gES hh).1 (by have:=hr _ rfl;simpa using this)).trans hh,hc⟩
theorem zn.lt {lo:Nat}{w:World}{a:Option Addr}{ws:List ByteArray}(h:zn lo w a ws):∀g,a=some g->g.block<w.heap.size:=by
 intro g hg
 rcases h with⟨rfl,_⟩|⟨g',C,rfl,_,hh,_⟩
 ·cases hg
 ·cases hg;exact(gES hh).1
set_option maxRecDepth 20000 in
theorem zd2 (o:Ob)(b off b' off' cap cap':Nat)(w:World)(ho:jP w o (some ⟨b,off,none⟩) (some ⟨b',off',none⟩))(hl:o.vs.length<=1048576)(hl':o.hs.length<=1048576) :
 Calls Tryz.prog 65 #[.agg #[.string o.kd,.string o.nm,.string o.tm,.slice (some ⟨b,off,none⟩) o.vs.length cap,.bool o.en,.slice (some ⟨b',off',none⟩) o.hs.length cap',.int .i64 o.vr]] w
  fun e w'=>∃a dap a' dap' m,e=.returned (.agg #[.string o.kd,.string o.nm,.string o.tm,.slice a o.vs.length dap,.bool o.en,.slice a' o.hs.length dap',.int .i64 o.vr])/\zn w.heap.size w' a o.vs/\(∀g,a=some g->g.block<m)/\w.heap.size<=m/\zn m w' a' o.hs/\Below w.heap.size w w':=by
 obtain⟨i0,hi,hz0,hz1',hz2⟩:=info_parts Tryz.zcH;go_enter Tryz.func65,Tryz.ntmps65
 go_wp2_with (first
  | (at_builtin;refine wpList_append_own _ rfl (.tmp 3) (.tmp 5) 100 rfl (w.heap.size+1+1) 9 i0 (.string ByteArray.empty) 1 16 Tryz.underlying100 hi hz0 hz1' hz2 rfl (by decide) (.slice (some ⟨w.heap.size+1+1,0,none⟩) 0 0) 0 [] rfl ⟨rfl,.inr ⟨w.heap.size+1+1,0,#[],rfl,Nat.le_refl _,zca _ _ _ _,Nat.le_refl _,by simp[maxLen],rfl,rfl⟩⟩ ⟨b,off,none⟩ o.vs.length cap (o.vs.map Value.string) rfl (by simp) (zfb (ho.vals.mono (jD _ _ _ _))) zgT (by unfold maxLen;omega) (by omega) (by simp) ?_;intro v' w1 hown hgr _;simp only[Nat.zero_add,List.nil_append]at hown;obtain⟨a,dap,rfl,ht1⟩:=zn.zdo hown;obtain⟨hk1,hr1,hB1,hz1⟩:=zh1 hgr;have hX1:∀j,w1.cell? ⟨w.heap.size,j,none⟩=(#[.string o.kd,.string o.nm,.string o.tm,.slice (some ⟨b,off,none⟩) o.vs.length cap,.bool o.en,.slice (some ⟨b',off',none⟩) o.hs.length cap',.int .i64 o.vr]:Array Value)[j]?:=fun j=>cell_of_block hk1;have hF1:∀j,w1.frozen? ⟨w.heap.size,j,none⟩=false:=fun j=>zh hk1;have hzz1:w.heap.size<w1.heap.size:=(by omega);have hone:=hB1.setCell (p:=⟨w.heap.size,3,none⟩) (Nat.le_refl _) (.slice a o.vs.length dap);have HT1:Hid (zn (w.heap.size+1+1) w1 a o.vs):=ht1;have HK1:Hid (w1.heap[w.heap.size]?=some (.cells #[.string o.kd,.string o.nm,.string o.tm,.slice (some ⟨b,off,none⟩) o.vs.length cap,.bool o.en,.slice (some ⟨b',off',none⟩) o.hs.length cap',.int .i64 o.vr] 117)):=hk1;have HR1:Hid (w1.heap[w.heap.size+1]?=some (.cells #[.string ByteArray.empty,.string ByteArray.empty,.string ByteArray.empty,.slice none 0 0,.bool false,.slice none 0 0,.int .i64 0] 117)):=hr1;clear ht1 hk1 hr1;clear hown hgr)
  | (at_builtin;refine wpList_append_own _ rfl (.tmp 8) (.tmp 10) 100 rfl w1.heap.size 9 i0 (.string ByteArray.empty) 1 16 Tryz.underlying100 hi hz0 hz1' hz2 rfl (by decide) (.slice (some ⟨w1.heap.size,0,none⟩) 0 0) 0 [] rfl ⟨rfl,.inr ⟨w1.heap.size,0,#[],rfl,Nat.le_refl _,zo5 _ _ _ _,Nat.le_refl _,(by simp[maxLen]),rfl,rfl⟩⟩ ⟨b',off',none⟩ o.hs.length cap' (o.hs.map Value.string) rfl (by simp) (zfb (ho.holds.mono (hone.alloc hone.size _))) zgT (by unfold maxLen;omega) (by omega) (by simp[World.setCell]) ?_;intro v'' w2 hown hgr _;simp only[Nat.zero_add,List.nil_append]at hown;obtain⟨a',dap',rfl,ht2⟩:=zn.zdo hown;obtain⟨hk2,hr2,hB2,hz2'⟩:=zle HK1.out HR1.out hB1 hz1 hgr;have HU2:Hid (zn w1.heap.size w2 a' o.hs):=ht2;have HT2:Hid (zn (w.heap.size+1+1) w2 a o.vs):=((HT1.out.setCell _ (by simp;omega) _).mono (bAl _ _)).grown hgr (fun g hg=>Nat.ne_of_lt (HT1.out.lt g hg));have hX2:∀j,w2.cell? ⟨w.heap.size,j,none⟩=(#[.string o.kd,.string o.nm,.string o.tm,.slice a o.vs.length dap,.bool o.en,.slice (some ⟨b',off',none⟩) o.hs.length cap',.int .i64 o.vr]:Array Value)[j]?:=fun j=>cell_of_block hk2;have hF2:∀j,w2.frozen? ⟨w.heap.size,j,none⟩=false:=fun j=>zh hk2;have hY2:∀j,w2.cell? ⟨w.heap.size+1,j,none⟩=(#[.string ByteArray.empty,.string ByteArray.empty,.string ByteArray.empty,.slice none 0 0,.bool false,.slice none 0 0,.int .i64 0]:Array Value)[j]?:=fun j=>cell_of_block hr2;have hG2:∀j,w2.frozen? ⟨w.heap.size+1,j,none⟩=false:=fun j=>zh hr2;have hzz2:w.heap.size+1<w2.heap.size:=(by omega);clear hown hgr ht2 hk2 hr2 hX1 hF1))
 refine bodyPost_ret (v:=(.agg #[.string o.kd,.string o.nm,.string o.tm,.slice a o.vs.length dap,.bool o.en,.slice a' o.hs.length dap',.int .i64 o.vr])) (by simp[results,Tryz.results65,go_sem,hY2]) rfl ⟨a,dap,a',dap',w1.heap.size,rfl,((((((((HT2.out.setCell _ (by simp;omega) _).setCell _ (by simp) _).setCell _ (by simp) _).setCell _ (by simp) _).setCell _ (by simp) _).setCell _ (by simp) _).setCell _ (by simp) _).setCell _ (by simp) _).low (by omega),HT1.out.lt,by omega,((((((((HU2.out.setCell _ (by simp;omega) _).setCell _ (by simp;omega) _).setCell _ (by simp;omega) _).setCell _ (by simp;omega) _).setCell _ (by simp;omega) _).setCell _ (by simp;omega) _).setCell _ (by simp;omega) _).setCell _ (by simp;omega) _),((((((((hB2.setCell (Nat.le_refl _) _).setCell (by simp) _).setCell (by simp) _).setCell (by simp) _).setCell (by simp) _).setCell (by simp) _).setCell (by simp) _).setCell (by simp) _)⟩
theorem zjF (nm:ByteArray)(kd ls ms:Int)(sl:Value)(to:ByteArray)(rl:Int)(mu fx:Bool)(df wg:ByteArray)(v:ByteArray)(bn:Nat)(w:World)(hb:bn<w.heap.size)(hn:w.cell? ⟨bn,0,none⟩=some (.string v)) :
 Calls Tryz.prog 213 #[.agg #[.string nm,.int .i64 kd,.int .i64 ls,.int .i64 ms,sl,.string to,.int .i64 rl,.bool mu,.bool fx,.string df,.string wg],.pointer (some ⟨bn,0,none⟩)] w fun e w'=>e=.returned (.bool (nm.toList == v.toList))/\Below w.heap.size w w':=by
 go_enter Tryz.func213,Tryz.ntmps213
 go_wp2
 go_ret;exact⟨rfl,bAl _ _⟩
theorem zkx (a:Option Addr)(cap:Nat)(fs:List Fld)(v:ByteArray)(bn:Nat)(w:World)(hw:yc w a fs)(hbn:bn<w.heap.size)(hn:w.cell? ⟨bn,0,none⟩=some (.string v)) :
 Calls Tryz.prog 212 #[.slice a fs.length cap,.func (.func 213) #[] #[.pointer (some ⟨bn,0,none⟩)]] w fun e w'=>e=.returned (.int .i64 (zR fs v))/\Below w.heap.size w w':=by
 have hl:=hw.len;unfold maxLen at hl;go_enter Tryz.func212,Tryz.ntmps212
 go_wp2
 go_loopw [8] (fun i wr=>∃k:Nat,k<=fs.length/\i=.int .i64 k/\hasName (fs.take k) v=false/\Below w.heap.size w wr) (fun i _=>fs.length-(intOf i).toNat)
 case atStart=>exact⟨0,Nat.zero_le _,rfl,rfl,bRf _ _⟩
 case round=>
  obtain⟨k,hk,rfl,hno,hB⟩:=hrel
  by_cases hlt:k<fs.length
  ·obtain⟨b,off,rfl,hb,hr⟩:=hw.rows (by rintro rfl;simp at hlt)
   obtain⟨wa,wcap,hf⟩:=hr k hlt;obtain⟨c0,c1,c2,c3,c4,c5,c6,c7,c8,c9,c10⟩:=(hf.mono hb hB).load;have hn1:=(hB.cell (p:=⟨bn,0,none⟩) hbn).trans hn;have hbn1:bn<wr.heap.size:=nLt hbn hB.size;clear hw hr hf hn
   by_cases he:fs[k].nm=v
   ·have HA:Hid (zR fs v=k):=zd7 fs v k hlt hno he
    have HE:Hid ((fs[k].nm.toList == v.toList)=true):=by unfold Hid;rw[beq_toList];simpa using he
    clear he hno;go_wp2_with fail
    refine(zf HE.out (zjF _ _ _ _ _ _ _ _ _ _ _ _ _ _ hbn1 hn1)).mono ?_;rintro e w2⟨rfl,hb2⟩;go_wp2_with fail
    go_ret;exact⟨zo HA.out.symm,hB.trans (hb2.mono hB.size)⟩
   ·have HS:Hid (hasName (fs.take (k+1)) v=false):=by unfold Hid;rw[zd4 fs v k hlt,hno,decide_eq_false he];rfl
    have HE:Hid ((fs[k].nm.toList == v.toList)=false):=by unfold Hid;rw[beq_toList];simpa using he
    clear he hno;go_wp2_with fail
    refine(zf HE.out (zjF _ _ _ _ _ _ _ _ _ _ _ _ _ _ hbn1 hn1)).mono ?_;rintro e w2⟨rfl,hb2⟩;go_wp2_with fail
    exact⟨⟨k+1,by omega,by go_num,HS.out,hB.trans (hb2.mono hB.size)⟩,by simp[intOf];omega⟩
  ·have HA:Hid (zR fs v=-1):=zgt fs v (by rw[<- zhU fs v k (by omega)];exact hno)
   clear hno hw
   go_wp2
   go_ret;exact⟨zo HA.out.symm,hB⟩
theorem jh (a:Option Addr)(cap:Nat)(fs:List Fld)(v:ByteArray)(w:World)(hw:yc w a fs) :
 Calls Tryz.prog 193 #[.slice a fs.length cap,.string v] w fun e w'=>e=.returned (.int .i64 (zR fs v))/\Below w.heap.size w w':=by
 go_enter Tryz.func193,Tryz.ntmps193;go_wp2_with fail
 refine(zkx _ _ _ v _ _ (hw.mono (bAl _ _)) (by simp) (by rw[World.cell?_alloc_at _ _ _ _ rfl];rfl)).mono ?_;rintro e w2⟨rfl,hb2⟩;go_wp2_with fail
 go_ret;exact⟨rfl,(bAl _ _).trans (hb2.mono (by simp))⟩
def Ob.row (o:Ob)(a0 a1:Option Addr)(c0 c1:Nat):Array Value:=#[.string o.kd,.string o.nm,.string o.tm,.slice a0 o.vs.length c0,.bool o.en,.slice a1 o.hs.length c1,.int .i64 o.vr]
def Ob.sz (o:Ob):Nat:=zdv o
theorem Ob.znV {o:Ob}(h:(o.sz:Int)<=1048576):o.vs.length<=1048576/\o.hs.length<=1048576:=zrf h (Int.le_refl _)
theorem zdH (o:Ob)(a0 a1:Option Addr)(c0 c1:Nat)(left:Int)(w:World)(hm:o.Small)(h0':zF w a0 o.vs)(h1':zF w a1 o.hs)(h0:0<=left)(h1:left<=1048576) :
 Calls Tryz.prog 56 #[.agg (o.row a0 a1 c0 c1),.int .i64 left] w fun e w'=>e=.returned (.int .i64 (zL o.sz left))/\Below w.heap.size w w':=zhC o a0 a1 c0 c1 left w ⟨hm,h0',h1'⟩ h0 h1
theorem zhG (o:Ob)(a0 a1:Option Addr)(c0 c1:Nat)(a0' a1':Option Addr)(c0' c1':Nat)(w:World)(hm:o.Small)(h0:zF w a0 o.vs)(h1:zF w a1 o.hs)(h0':zF w a0' o.vs)(h1':zF w a1' o.hs) :
 Calls Tryz.prog 84 #[.agg (o.row a0 a1 c0 c1),.agg (o.row a0' a1' c0' c1')] w fun e w'=>e=.returned (.bool true)/\Below w.heap.size w w':=zhr o a0 a1 a0' a1' c0 c1 c0' c1' w ⟨hm,h0,h1⟩ ⟨hm,h0',h1'⟩
theorem zg7 (o:Ob)(a0 a1:Option Addr)(c0 c1:Nat)(w:World)(hm:o.Small)(h0:zF w a0 o.vs)(h1:zF w a1 o.hs)(hl:o.vs.length<=1048576/\o.hs.length<=1048576) :
 Calls Tryz.prog 72 #[.agg (o.row a0 a1 c0 c1)] w fun e w'=>∃g0 g1,e=.returned (.agg (o.row (some ⟨g0,0,none⟩) (some ⟨g1,0,none⟩) o.vs.length o.hs.length))/\w.heap.size<=g0/\w'.heap[g0]?=some (.cells (jR o.vs) 9)/\w.heap.size<=g1/\w'.heap[g1]?=some (.cells (jR o.hs) 9)/\Below w.heap.size w w':=by
 refine(zg6 o a0 a1 c0 c1 w ⟨hm,h0,h1⟩ hl.1 hl.2).mono ?_;rintro e w'⟨bv,bh,he,hv,hh,_,hbv,hbh,hb⟩;exact⟨bv,bh,he,hv,hbv,hh,hbh,hb⟩
structure zpk (w:World)(b off:Nat)(x:Ob)(a0 a1:Option Addr)(c0 c1:Nat):Prop where
 small:x.Small
 l0:zF w a0 x.vs
 l1:zF w a1 x.hs
 cell:∀j,j<7->w.cell? ⟨b,off+j,none⟩=(Ob.row x a0 a1 c0 c1)[j]?
structure zbA (w:World)(a:Option Addr)(ms:List Ob):Prop where
 len:ms.length<=maxLen
 rows:ms≠[]->∃b off,a=some ⟨b,off,none⟩/\b<w.heap.size/\∀i (h:i<ms.length),∃a0 a1 c0 c1,zpk w b (off+i*7) ms[i] a0 a1 c0 c1
theorem zpk.mono {w w':World}{b off:Nat}{x:Ob}{a0 a1:Option Addr}{c0 c1:Nat}(h:zpk w b off x a0 a1 c0 c1)(hb:b<w.heap.size)(hl:Below w.heap.size w w'):zpk w' b off x a0 a1 c0 c1:=
 ⟨h.small,h.l0.mono hl,h.l1.mono hl,fun j hj=>(hl.cell (p:=⟨b,off+j,none⟩) hb).trans (h.cell j hj)⟩
theorem zbA.mono {w w':World}{a:Option Addr}{ms:List Ob}(h:zbA w a ms)(hl:Below w.heap.size w w'):zbA w' a ms:=
 ⟨h.len,fun hne=>by
  obtain⟨b,off,ha,hb,hr⟩:=h.rows hne;refine⟨b,off,ha,nLt hb hl.size,fun i hi=>?_⟩;obtain⟨a0,a1,c0,c1,hf⟩:=hr i hi;exact⟨a0,a1,c0,c1,hf.mono hb hl⟩⟩
theorem zbA.load {w w':World}{a:Option Addr}{ms:List Ob}(h:zbA w a ms)(hl:Below w.heap.size w w')(i:Nat)(hi:i<ms.length):∃b off a0 a1 c0 c1,a=some ⟨b,off,none⟩/\b<w.heap.size/\ms[i].Small/\zF w' a0 ms[i].vs/\zF w' a1 ms[i].hs /\
 w'.cell? ⟨b,off+i*7,none⟩=some (.string ms[i].kd)/\w'.cell? ⟨b,off+i*7+1,none⟩=some (.string ms[i].nm)/\w'.cell? ⟨b,off+i*7+2,none⟩=some (.string ms[i].tm)/\w'.cell? ⟨b,off+i*7+3,none⟩=some (.slice a0 ms[i].vs.length c0)/\w'.cell? ⟨b,off+i*7+4,none⟩=some (.bool ms[i].en)/\w'.cell? ⟨b,off+i*7+5,none⟩=some (.slice a1 ms[i].hs.length c1)/\w'.cell? ⟨b,off+i*7+6,none⟩=some (.int .i64 ms[i].vr):=by
 obtain⟨b,off,ha,hb,hr⟩:=h.rows (by rintro rfl;simp at hi);obtain⟨a0,a1,c0,c1,hf0⟩:=hr i hi;have hf:=hf0.mono hb hl;exact⟨b,off,a0,a1,c0,c1,ha,hb,hf.small,hf.l0,hf.l1,hf.cell 0 (by omega),hf.cell 1 (by omega),hf.cell 2 (by omega),hf.cell 3 (by omega),hf.cell 4 (by omega),hf.cell 5 (by omega),hf.cell 6 (by omega)⟩
def za7 (ms:List Ob):Nat:=(ms.map Ob.sz).sum
def qL (ms:List Ob):Nat:=ms.length+za7 ms
structure zeX (ms:List Ob):Prop where
 small:∀i (h:i<ms.length),ms[i].Small/\(ms[i].vs.length<=maxLen/\∀s∈ms[i].vs,s.size<=maxLen)/\(ms[i].hs.length<=maxLen/\∀s∈ms[i].hs,s.size<=maxLen)
theorem zbA.smalls {w:World}{a:Option Addr}{ms:List Ob}(h:zbA w a ms):zeX ms:=
 ⟨fun i hi=>by
  obtain⟨b,off,_,_,hr⟩:=h.rows (by rintro rfl;simp at hi);obtain⟨a0,a1,c0,c1,hf⟩:=hr i hi;exact⟨hf.small,⟨hf.l0.len,hf.l0.small⟩,⟨hf.l1.len,hf.l1.small⟩⟩⟩
theorem zlY {ms:List Ob}{left:Int}(h:(qL ms:Int)<=left)(hl:left<=1048576):ms.length<=1048576/\∀i (h:i<ms.length),ms[i].vs.length<=1048576/\ms[i].hs.length<=1048576:=by
 unfold qL at h;refine⟨by omega,fun i hi=>?_⟩;have h1:ms[i].sz<=za7 ms:=zi0 Ob.sz ms i hi;exact Ob.znV (by omega)
theorem zf5 (a:Option Addr)(cap:Nat)(ms:List Ob)(left:Int)(w:World)(hw:zbA w a ms)(h0:0<=left)(h1:left<=1048576) :
 Calls Tryz.prog 18 #[.slice a ms.length cap,.int .i64 left] w fun e w'=>e=.returned (.int .i64 (zL (qL ms) left))/\Below w.heap.size w w':=by
 have hl:=hw.len;unfold maxLen at hl
 by_cases hfit:(ms.length:Int)<=left
 ·go_enter Tryz.func18,Tryz.ntmps18
  go_wp2_with fail
  go_loopw [1,5] (fun l i wr=>∃k:Nat,k<=ms.length/\i=.int .i64 k/\0<=left-ms.length-za7 (ms.take k)/\l=.int .i64 (left-ms.length-za7 (ms.take k))/\Below w.heap.size w wr) (fun _ i _=>ms.length-(intOf i).toNat)
  case atStart=>exact⟨0,Nat.zero_le _,rfl,by simp[za7];omega,by simp[za7],bRf _ _⟩
  case round=>
   obtain⟨k,hk,rfl,hpos,rfl,hB⟩:=hrel
   by_cases hlt:k<ms.length
   ·obtain⟨b,off,a0,a1,c0,c1,rfl,hb,hsm,hl0,hl1,d0,d1,d2,d3,d4,d5,d6⟩:=hw.load hB k hlt
    have hbr:=nLt hb hB.size;have HS:Hid (za7 (ms.take (k+1))=za7 (ms.take k)+ms[k].sz):=za8 Ob.sz ms k hlt;have hle:za7 (ms.take (k+1))<=za7 ms:=zcW Ob.sz ms (k+1);have HI:Hid (zF wr a0 ms[k].vs/\zF wr a1 ms[k].hs):=⟨hl0,hl1⟩
    clear hw hl0 hl1
    by_cases hneg:(ms[k].sz:Int)<=left-ms.length-za7 (ms.take k)
    ·have HNG:Hid ((ms[k].sz:Int)<=left-ms.length-za7 (ms.take k)):=hneg
     clear hle;go_wp2_with fail
     refine(zdH ms[k] a0 a1 c0 c1 _ _ hsm HI.out.1 HI.out.2 hpos (by omega)).mono ?_;rintro e w1⟨rfl,hb1⟩;rw[zM HNG.out];have hB1:=hB.trans (hb1.mono hB.size);clear hb1;go_wp2_with fail
     exact⟨⟨k+1,by omega,by go_num,by rw[HS.out];omega,by rw[HS.out];congr 1;omega,hB1⟩,by simp[intOf];omega⟩
    ·have HF:Hid (zL (qL ms) left=-1):=zC (by have:=HS.out;unfold qL;omega)
     have HNG:=hid hneg;clear hneg hle;go_wp2_with fail
     refine(zdH ms[k] a0 a1 c0 c1 _ _ hsm HI.out.1 HI.out.2 hpos (by omega)).mono ?_;rintro e w1⟨rfl,hb1⟩;rw[zC (by have:=HNG.out;omega)];have hB1:=hB.trans (hb1.mono hB.size);clear hb1;go_wp2_with fail
     go_ret;exact⟨zo HF.out.symm,hB1⟩
   ·have HF:Hid (zL (qL ms) left=left-ms.length-za7 (ms.take k)):=by
     rw[tOl (by omega)]at hpos ⊢;have e:zL (qL ms) left=left-qL ms:=zM (by unfold qL;omega);unfold Hid;rw[e];unfold qL;omega
    clear hw
    go_wp2
    go_ret;exact⟨zo HF.out.symm,hB⟩
 ·have HF:Hid (zL (qL ms) left=-1):=zC (by unfold qL;omega)
  clear hw;go_enter Tryz.func18,Tryz.ntmps18
  go_wp2
  go_ret;exact⟨zo HF.out.symm,bRf _ _⟩
theorem zf9 (a a':Option Addr)(cap cap':Nat)(ms:List Ob)(w:World)(hw:zbA w a ms)(hw':zbA w a' ms) :
 Calls Tryz.prog 35 #[.slice a ms.length cap,.slice a' ms.length cap'] w fun e w'=>e=.returned (.bool true)/\Below w.heap.size w w':=by
 have hl:=hw.len;unfold maxLen at hl;have hnn:((ms.length:Int) != ms.length)=false:=by simp
 go_enter Tryz.func35,Tryz.ntmps35;go_wp2_with fail
 go_loopw [5] (fun i wr=>∃k:Nat,k<=ms.length/\i=.int .i64 k/\Below w.heap.size w wr) (fun i _=>ms.length-(intOf i).toNat)
 case atStart=>exact⟨0,Nat.zero_le _,rfl,bRf _ _⟩
 case round=>
  obtain⟨k,hk,rfl,hB⟩:=hrel
  by_cases hlt:k<ms.length
  ·obtain⟨b,off,a0,a1,c0,c1,rfl,hb,hsm,hl0,hl1,d0,d1,d2,d3,d4,d5,d6⟩:=hw.load hB k hlt
   obtain⟨b',off',a0',a1',c0',c1',rfl,hb',_,hl0',hl1',f0,f1,f2,f3,f4,f5,f6⟩:=hw'.load hB k hlt;have hltI:(k:Int)<(ms.length:Int):=by omega
   clear hw hw';go_wp2_with fail
   go_region_with (go_at_call 84;refine(zhG ms[k] a0 a1 c0 c1 a0' a1' c0' c1' _ hsm (by exact hl0.mono ((bRf _ _).drew)) (by exact hl1.mono ((bRf _ _).drew)) (by exact hl0'.mono ((bRf _ _).drew)) (by exact hl1'.mono ((bRf _ _).drew))).mono ?_;rintro e w1⟨rfl,hb1'⟩;have hb1:=(bRf wr.heap.size wr).drew.trans hb1';clear hb1')
   all_goals go_wp2_with fail
   all_goals exact⟨⟨k+1,by omega,by go_num,hB.trans (hb1.mono hB.size)⟩,by simp[intOf];omega⟩
  ·clear hw hw'
   go_wp2_with fail
   go_ret;exact⟨rfl,hB⟩
structure zah (lo:Nat)(w:World)(bo:Nat)(ms:List Ob)(k:Nat):Prop where
 low:lo<=bo
 rows:∃C,w.heap[bo]?=some (.cells C 117)/\C.size=ms.length*7 /\
  ∀i (h:i<ms.length),i<k->∃g0 g1,lo<=g0/\g0≠bo/\w.heap[g0]?=some (.cells (jR ms[i].vs) 9)/\lo<=g1/\g1≠bo/\w.heap[g1]?=some (.cells (jR ms[i].hs) 9)/\∀j,j<7->C[i*7+j]?=(Ob.row ms[i] (some ⟨g0,0,none⟩) (some ⟨g1,0,none⟩) ms[i].vs.length ms[i].hs.length)[j]?
theorem zah.at {lo:Nat}{w:World}{bo:Nat}{ms:List Ob}(h:zah lo w bo ms ms.length)(hs:zeX ms)(hl:ms.length<=maxLen):zbA w (some ⟨bo,0,none⟩) ms:=by
 obtain⟨C,hC,hsz,hr⟩:=h.rows;refine⟨hl,fun _=>⟨bo,0,rfl,(gES hC).1,fun i hi=>?_⟩⟩;obtain⟨g0,g1,_,_,hk0,_,_,hk1,hc⟩:=hr i hi hi;obtain⟨s0,s1,s2⟩:=hs.small i hi;refine⟨some ⟨g0,0,none⟩,some ⟨g1,0,none⟩,ms[i].vs.length,ms[i].hs.length,s0,zdB hk0 s1.1 s1.2,zdB hk1 s2.1 s2.2,fun j hj=>?_⟩;rw[cell_of_block hC,Nat.zero_add];exact hc j hj
theorem zah.above {lo:Nat}{w w':World}{bo:Nat}{ms:List Ob}{k:Nat}(h:zah lo w bo ms k)(ha:yM lo w w'):zah lo w' bo ms k:=by
 obtain⟨C,hC,hsz,hr⟩:=h.rows;refine⟨h.low,C,(ha.same _ h.low (gES hC).1).trans hC,hsz,fun i hi hk=>?_⟩;obtain⟨g0,g1,p0,q0,r0,p1,q1,r1,hc⟩:=hr i hi hk;exact⟨g0,g1,p0,q0,(ha.same _ p0 (gES r0).1).trans r0,p1,q1,(ha.same _ p1 (gES r1).1).trans r1,hc⟩
theorem zah.later {lo:Nat}{w w':World}{bo:Nat}{ms:List Ob}{k:Nat}(h:zah lo w bo ms k)(hb:Below w.heap.size w w'):zah lo w' bo ms k:=h.above (yM.below hb)
def zmQ (w:World)(b o:Nat)(v0 v1 v2 v3 v4 v5 v6:Value):World:=(((((((w.setCell ⟨b,o,none⟩ v0).setCell ⟨b,o+1,none⟩ v1).setCell ⟨b,o+2,none⟩ v2).setCell ⟨b,o+3,none⟩ v3).setCell ⟨b,o+4,none⟩ v4).setCell ⟨b,o+5,none⟩ v5).setCell ⟨b,o+6,none⟩ v6)
def zkk (C:Array Value)(o:Nat)(v0 v1 v2 v3 v4 v5 v6:Value):Array Value:=(((((((C.setIfInBounds (o) v0).setIfInBounds (o+1) v1).setIfInBounds (o+2) v2).setIfInBounds (o+3) v3).setIfInBounds (o+4) v4).setIfInBounds (o+5) v5).setIfInBounds (o+6) v6)
theorem zmZ {w:World}{b o:Nat}{C:Array Value}{t:TypeId}(h:w.heap[b]?=some (.cells C t))(v0 v1 v2 v3 v4 v5 v6:Value):(zmQ w b o v0 v1 v2 v3 v4 v5 v6).heap[b]?=some (.cells (zkk C o v0 v1 v2 v3 v4 v5 v6) t):=
 zi (zi (zi (zi (zi (zi (zi h v0) v1) v2) v3) v4) v5) v6
theorem znH {B:Nat}{a w:World}(h:Below B a w){b:Nat}(hb:B<=b)(o:Nat)(v0 v1 v2 v3 v4 v5 v6:Value):Below B a (zmQ w b o v0 v1 v2 v3 v4 v5 v6):=
 ((((((h.setCell hb v0).setCell hb v1).setCell hb v2).setCell hb v3).setCell hb v4).setCell hb v5).setCell hb v6
theorem zc6 (w:World)(b o:Nat)(v0 v1 v2 v3 v4 v5 v6:Value){b':Nat}(h:b'≠b):(zmQ w b o v0 v1 v2 v3 v4 v5 v6).heap[b']?=w.heap[b']?:=by
 unfold zmQ
 iterate 7 rw[zG h]
theorem zn7 (C:Array Value)(o:Nat)(v0 v1 v2 v3 v4 v5 v6:Value):(zkk C o v0 v1 v2 v3 v4 v5 v6).size=C.size:=by simp[zkk]
theorem zpY (C:Array Value)(o i:Nat)(v0 v1 v2 v3 v4 v5 v6:Value)(h:i<o \/ o+7<=i):(zkk C o v0 v1 v2 v3 v4 v5 v6)[i]?=C[i]?:=by
 unfold zkk
 iterate 7 rw[Array.getElem?_setIfInBounds,if_neg (by omega)]
theorem zqJ (C:Array Value)(o j:Nat)(v0 v1 v2 v3 v4 v5 v6:Value)(hj:j<7)(ho:o+7<=C.size):(zkk C o v0 v1 v2 v3 v4 v5 v6)[o+j]?=(#[v0,v1,v2,v3,v4,v5,v6]:Array Value)[j]?:=by
 have hc:j=0 \/ j=1 \/ j=2 \/ j=3 \/ j=4 \/ j=5 \/ j=6:=by omega
 unfold zkk
 rcases hc with h|h|h|h|h|h|h <;> subst h <;> simp[Array.getElem?_setIfInBounds] <;> omega
theorem zah.put {lo:Nat}{w:World}{bo:Nat}{ms:List Ob}{k:Nat}(h:zah lo w bo ms k)(hk:k<ms.length)(g0 g1:Nat)(p0:lo<=g0)(q0:g0≠bo)(r0:w.heap[g0]?=some (.cells (jR ms[k].vs) 9))(p1:lo<=g1)(q1:g1≠bo)(r1:w.heap[g1]?=some (.cells (jR ms[k].hs) 9)) :
 zah lo (zmQ w bo (k*7) (.string ms[k].kd) (.string ms[k].nm) (.string ms[k].tm) (.slice (some ⟨g0,0,none⟩) ms[k].vs.length ms[k].vs.length) (.bool ms[k].en) (.slice (some ⟨g1,0,none⟩) ms[k].hs.length ms[k].hs.length) (.int .i64 ms[k].vr)) bo ms (k+1):=by
 obtain⟨C,hC,hsz,hr⟩:=h.rows;refine⟨h.low,_,zmZ hC _ _ _ _ _ _ _,by rw[zn7];exact hsz,fun i hi hik=>?_⟩
 rcases Nat.lt_or_ge i k with hlt|hge
 ·obtain⟨g0',g1',x0,y0,z0,x1,y1,z1,hc⟩:=hr i hi hlt
  refine⟨g0',g1',x0,y0,(by rw[zc6 _ _ _ _ _ _ _ _ _ _ y0];exact z0),x1,y1,(by rw[zc6 _ _ _ _ _ _ _ _ _ _ y1];exact z1),fun j hj=>?_⟩;rw[zpY _ _ _ _ _ _ _ _ _ _ (by omega)];exact hc j hj
 ·have e:i=k:=by omega
  subst e;refine⟨g0,g1,p0,q0,(by rw[zc6 _ _ _ _ _ _ _ _ _ _ q0];exact r0),p1,q1,(by rw[zc6 _ _ _ _ _ _ _ _ _ _ q1];exact r1),fun j hj=>?_⟩;rw[zqJ _ _ _ _ _ _ _ _ _ _ hj (by omega)]
  rfl
def zqh:Array Value:=#[.string ByteArray.empty,.string ByteArray.empty,.string ByteArray.empty,.slice none 0 0,.bool false,.slice none 0 0,.int .i64 0]
def zo3 (n:Nat):Array Value:=madeCells zqh (n*7)
theorem zgK (a:Option Addr)(cap:Nat)(ms:List Ob)(w:World)(hw:zbA w a ms)(hl:ms.length<=1048576)(hls:∀i (h:i<ms.length),ms[i].vs.length<=1048576/\ms[i].hs.length<=1048576) :
 Calls Tryz.prog 28 #[.slice a ms.length cap] w fun e w'=>e=.returned (.slice (some ⟨w.heap.size,0,none⟩) ms.length ms.length)/\zah w.heap.size w' w.heap.size ms ms.length/\Below w.heap.size w w':=by
 have hmk:∀w:World,(Instr.makeSlice 35 (.int .i64 ms.length) (.int .i64 ms.length)).run Tryz.prog w=.ok (.slice (some ⟨w.heap.size,0,none⟩) ms.length ms.length) (w.alloc (.cells (zo3 ms.length) 117)):=
  fun w=>jA (P:=Tryz.prog) 35 117 (.agg zqh) 7 112 Tryz.underlying35 (by kernel_rfl) ms.length (by omega) (by omega) w
 go_enter Tryz.func28,Tryz.ntmps28;go_wp2_with fail
 clear hmk
 go_loopw [4] (fun i wr=>∃k:Nat,k<=ms.length/\i=.int .i64 k/\Hid (zah w.heap.size wr w.heap.size ms k)/\Below w.heap.size w wr) (fun i _=>ms.length-(intOf i).toNat)
 case atStart=>exact⟨0,Nat.zero_le _,rfl,⟨Nat.le_refl _,zo3 ms.length,(MapKept.heap_alloc w _).1,size_madeCells _ _,fun i _ h=>absurd h (by omega)⟩,bAl _ _⟩
 case round=>
  obtain⟨k,hk,rfl,HOW,hB⟩:=hrel
  by_cases hlt:k<ms.length
  ·obtain⟨b,off,a0,a1,c0,c1,rfl,hb,hsm,hl0,hl1,d0,d1,d2,d3,d4,d5,d6⟩:=hw.load hB k hlt
   have HLS:=hid (hls k hlt);have hltI:(k:Int)<(ms.length:Int):=by omega
   clear hw;go_wp2_with fail
   refine(zg7 ms[k] a0 a1 c0 c1 _ hsm hl0 hl1 HLS.out).mono ?_;rintro e w1⟨g0,g1,rfl,p0,r0,p1,r1,hb1⟩;have hB1:=hB.trans (hb1.mono hB.size)
   have hbo:w.heap.size<wr.heap.size:=by
    obtain⟨C',hC',_⟩:=HOW.out.rows;exact(gES hC').1
   have HP:=hid (HOW.out.later hb1);obtain⟨C,hC,hsz,_⟩:=HP.out.rows;have hfz:∀o,w1.frozen? ⟨w.heap.size,o,none⟩=false:=fun o=>zh hC
   have hex:∀o,o<ms.length*7->∃v,w1.cell? ⟨w.heap.size,o,none⟩=some v:=fun o ho=>⟨C[o]'(by omega),by rw[cell_of_block hC];exact Array.getElem?_eq_getElem (by omega)⟩
   obtain⟨v0,hv0⟩:=hex (k*7) (by omega);obtain⟨v1,hv1⟩:=hex (k*7+1) (by omega);obtain⟨v2,hv2⟩:=hex (k*7+2) (by omega);obtain⟨v3,hv3⟩:=hex (k*7+3) (by omega);obtain⟨v4,hv4⟩:=hex (k*7+4) (by omega);obtain⟨v5,hv5⟩:=hex (k*7+5) (by omega);obtain⟨v6,hv6⟩:=hex (k*7+6) (by omega);have HR:=zbJ p0 r0 p1 r1;clear hex hC hsz d0 d1 d2 d3 d4 d5 d6 p0 r0 p1 r1 hl0 hl1;unfold Ob.row;go_wp2_with fail
   obtain⟨p0,r0,p1,r1⟩:=HR.out;exact⟨⟨k+1,by omega,by go_num,HP.out.put hlt g0 g1 (by omega) (by omega) r0 (by omega) (by omega) r1,znH hB1 (Nat.le_refl _) _ _ _ _ _ _ _ _⟩,by simp[intOf];omega⟩
  ·have HF:Hid (zah w.heap.size wr w.heap.size ms ms.length):=by
    have e:k=ms.length:=by omega
    subst e;exact HOW.out
   clear hw HOW;go_wp2_with fail
   go_ret;exact⟨rfl,HF.out,hB⟩
structure Gr where
 no:Int
 to:ByteArray
 gb:ByteArray
 r:Rl
def Gr.cells (g:Gr)(a0:Option Addr)(c0:Nat):Array Value:=#[.int .i64 g.no,.string g.to,.string g.gb,.slice a0 g.r.vs.length c0,.string g.r.kd,.string g.r.tm,.string g.r.px]
structure Gr.Small (g:Gr):Prop where
 to:g.to.size<=maxLen
 gb:g.gb.size<=maxLen
 r:g.r.Small
def Gr.sz (g:Gr):Nat:=g.to.size+g.gb.size+g.r.sz
theorem Gr.znV {g:Gr}(h:(g.sz:Int)<=1048576):g.r.vs.length<=1048576:=by unfold Gr.sz Rl.sz at h;omega
theorem zen (g:Gr)(a0:Option Addr)(c0:Nat)(left:Int)(w:World)(hm:g.Small)(hi:ql w a0 g.r.vs)(h0:0<=left)(h1:left<=1048576) :
 Calls Tryz.prog 57 #[.agg (g.cells a0 c0),.int .i64 left] w fun e w'=>e=.returned (.int .i64 (zL g.sz left))/\Below w.heap.size w w':=by
 have k1:=hm.to;have k2:=hm.gb;have HM:=qE hm.r hi.len;unfold maxLen at k1 k2;clear hm hi;unfold Gr.cells;have hB:∀ob,Below w.heap.size w (w.alloc ob):=fun ob=>bAl _ _
 by_cases c1:(g.to.size:Int)<=left
 rotate_left
 ·have HF:Hid (zL g.sz left=-1):=zC (by unfold Gr.sz;omega)
  go_enter Tryz.func57,Tryz.ntmps57;go_wp2_with fail
  go_ret;exact⟨zo HF.out.symm,hB _⟩
 by_cases c2:(g.gb.size:Int)<=left-g.to.size
 rotate_left
 ·have HF:Hid (zL g.sz left=-1):=zC (by unfold Gr.sz;omega)
  go_enter Tryz.func57,Tryz.ntmps57;go_wp2_with fail
  go_ret;exact⟨zo HF.out.symm,hB _⟩
 by_cases c3:(g.r.sz:Int)<=left-g.to.size-g.gb.size
 ·have HF:Hid (zL g.sz left=left-g.to.size-g.gb.size-g.r.sz):=by
   unfold Hid;rw[zM (by unfold Gr.sz;omega)];unfold Gr.sz;omega
  go_enter Tryz.func57,Tryz.ntmps57;go_wp2_with fail
  refine(zeK g.r a0 c0 _ _ HM.out.1 HM.out.2 (by omega) (by omega)).mono ?_;rintro e w1⟨rfl,hb⟩;rw[zM c3];have hB1:=(hB _).trans (hb.mono (by simp));clear hb;go_wp2_with fail
  go_ret;exact⟨zo HF.out.symm,hB1⟩
 ·have HF:Hid (zL g.sz left=-1):=zC (by unfold Gr.sz;omega)
  have HC:=hid c3;clear c3;go_enter Tryz.func57,Tryz.ntmps57;go_wp2_with fail
  refine(zeK g.r a0 c0 _ _ HM.out.1 HM.out.2 (by omega) (by omega)).mono ?_;rintro e w1⟨rfl,hb⟩;rw[zC (by have:=HC.out;omega)];have hB1:=(hB _).trans (hb.mono (by simp));clear hb;go_wp2_with fail
  go_ret;exact⟨zo HF.out.symm,hB1⟩
theorem ziH (g:Gr)(a0:Option Addr)(c0:Nat)(a0':Option Addr)(c0':Nat)(w:World)(_hm:g.Small)(hi:ql w a0 g.r.vs)(hi':ql w a0' g.r.vs) :
 Calls Tryz.prog 85 #[.agg (g.cells a0 c0),.agg (g.cells a0' c0')] w fun e w'=>e=.returned (.bool true)/\Below w.heap.size w w':=by
 have hn:(g.no != g.no)=false:=by simp
 unfold Gr.cells;go_enter Tryz.func85,Tryz.ntmps85;go_wp2_with fail
 refine(zkc g.r _ _ _ _ _ (hi.mono (zw _ _ _)) (hi'.mono (zw _ _ _))).mono ?_;rintro e w1⟨rfl,hb⟩;have hB1:=(zw w _ _).trans (hb.mono (by simp;omega));clear hb;go_wp2_with fail
 go_ret;exact⟨rfl,hB1⟩
theorem ziI (g:Gr)(a0:Option Addr)(c0:Nat)(w:World)(_hm:g.Small)(hi:ql w a0 g.r.vs)(hl:g.r.vs.length<=1048576) :
 Calls Tryz.prog 73 #[.agg (g.cells a0 c0)] w fun e w'=>∃g0,e=.returned (.agg (g.cells (some ⟨g0,0,none⟩) g.r.vs.length))/\w.heap.size<=g0/\w'.heap[g0]?=some (.cells (zbN g.r.vs) 3)/\Below w.heap.size w w':=by
 unfold Gr.cells;go_enter Tryz.func73,Tryz.ntmps73;go_wp2_with fail
 have k0:=znu w (.cells #[.int .i64 g.no,.string g.to,.string g.gb,.slice a0 g.r.vs.length c0,.string g.r.kd,.string g.r.tm,.string g.r.px] 108) (.cells #[.int .i64 0,.string ByteArray.empty,.string ByteArray.empty,.slice none 0 0,.string ByteArray.empty,.string ByteArray.empty,.string ByteArray.empty] 121) (.cells #[.int .i64 g.no,.string g.to,.string g.gb,.slice none 0 0,.string ByteArray.empty,.string ByteArray.empty,.string ByteArray.empty] 121);have hB0:=below3' w (.cells #[.int .i64 g.no,.string g.to,.string g.gb,.slice a0 g.r.vs.length c0,.string g.r.kd,.string g.r.tm,.string g.r.px] 108) (.cells #[.int .i64 0,.string ByteArray.empty,.string ByteArray.empty,.slice none 0 0,.string ByteArray.empty,.string ByteArray.empty,.string ByteArray.empty] 121) (.cells #[.int .i64 g.no,.string g.to,.string g.gb,.slice none 0 0,.string ByteArray.empty,.string ByteArray.empty,.string ByteArray.empty] 121);refine(zjy g.r a0 c0 _ (hi.mono (below3' _ _ _ _)) hl).mono ?_;rintro e w1⟨bk,rfl,hlo,hhi,hbk,hb⟩;have hlo':w.heap.size+1+1+1<=bk:=by simpa using hlo
 have hR1:=(hb.block _ (by simp)).trans k0.2.1;have hO1:=(hb.block _ (by simp)).trans k0.2.2;have hB1:=hB0.trans (hb.mono (by simp;omega));have HK:=hid hbk;have cR:=fun j=>cell_of_block (o:=j) hR1
 have fR:=fun j=>zh (o:=j) hR1
 have cO:=fun j=>cell_of_block (o:=j) hO1
 have fO:=fun j=>zh (o:=j) hO1
 have hz1:=(gES hO1).1;clear hb hbk k0 hB0 hlo hR1 hO1;unfold Rl.cells;go_wp2_with fail
 refine bodyPost_ret (v:=.agg #[.int .i64 g.no,.string g.to,.string g.gb,.slice (some ⟨bk,0,none⟩) g.r.vs.length g.r.vs.length,.string g.r.kd,.string g.r.tm,.string g.r.px]) (by simp[results,Tryz.results73,go_sem,cR]) rfl ⟨bk,rfl,by omega,?_,?_⟩
 ·have h1:bk≠w.heap.size+1:=by omega
  have h2:bk≠w.heap.size+1+1:=by omega
  exact(zG h1).trans ((zG h1).trans ((zG h1).trans ((zG h1).trans ((zG h1).trans ((zG h1).trans ((zG h1).trans ((zG h2).trans ((zG h2).trans ((zG h2).trans ((zG h2).trans HK.out))))))))))
 ·have h3:w.heap.size<=w.heap.size+1:=by omega
  have h4:w.heap.size<=w.heap.size+1+1:=by omega
  exact((((((((((hB1.setCell h4 _).setCell h4 _).setCell h4 _).setCell h4 _).setCell h3 _).setCell h3 _).setCell h3 _).setCell h3 _).setCell h3 _).setCell h3 _).setCell h3 _
structure zp4 (w:World)(b off:Nat)(x:Gr)(a0:Option Addr)(c0:Nat):Prop where
 small:x.Small
 l0:ql w a0 x.r.vs
 cell:∀j,j<7->w.cell? ⟨b,off+j,none⟩=(Gr.cells x a0 c0)[j]?
structure zcf (w:World)(a:Option Addr)(ms:List Gr):Prop where
 len:ms.length<=maxLen
 rows:ms≠[]->∃b off,a=some ⟨b,off,none⟩/\b<w.heap.size/\∀i (h:i<ms.length),∃a0 c0,zp4 w b (off+i*7) ms[i] a0 c0
theorem zp4.mono {w w':World}{b off:Nat}{x:Gr}{a0:Option Addr}{c0:Nat}(h:zp4 w b off x a0 c0)(hb:b<w.heap.size)(hl:Below w.heap.size w w'):zp4 w' b off x a0 c0:=
 ⟨h.small,h.l0.mono hl,fun j hj=>(hl.cell (p:=⟨b,off+j,none⟩) hb).trans (h.cell j hj)⟩
theorem zcf.mono {w w':World}{a:Option Addr}{ms:List Gr}(h:zcf w a ms)(hl:Below w.heap.size w w'):zcf w' a ms:=
 ⟨h.len,fun hne=>by
  obtain⟨b,off,ha,hb,hr⟩:=h.rows hne;refine⟨b,off,ha,nLt hb hl.size,fun i hi=>?_⟩;obtain⟨a0,c0,hf⟩:=hr i hi;exact⟨a0,c0,hf.mono hb hl⟩⟩
theorem zcf.load {w w':World}{a:Option Addr}{ms:List Gr}(h:zcf w a ms)(hl:Below w.heap.size w w')(i:Nat)(hi:i<ms.length):∃b off a0 c0,a=some ⟨b,off,none⟩/\b<w.heap.size/\ms[i].Small/\ql w' a0 ms[i].r.vs /\
 w'.cell? ⟨b,off+i*7,none⟩=some (.int .i64 ms[i].no)/\w'.cell? ⟨b,off+i*7+1,none⟩=some (.string ms[i].to)/\w'.cell? ⟨b,off+i*7+2,none⟩=some (.string ms[i].gb)/\w'.cell? ⟨b,off+i*7+3,none⟩=some (.slice a0 ms[i].r.vs.length c0)/\w'.cell? ⟨b,off+i*7+4,none⟩=some (.string ms[i].r.kd)/\w'.cell? ⟨b,off+i*7+5,none⟩=some (.string ms[i].r.tm)/\w'.cell? ⟨b,off+i*7+6,none⟩=some (.string ms[i].r.px):=by
 obtain⟨b,off,ha,hb,hr⟩:=h.rows (by rintro rfl;simp at hi);obtain⟨a0,c0,hf0⟩:=hr i hi;have hf:=hf0.mono hb hl;exact⟨b,off,a0,c0,ha,hb,hf.small,hf.l0,hf.cell 0 (by omega),hf.cell 1 (by omega),hf.cell 2 (by omega),hf.cell 3 (by omega),hf.cell 4 (by omega),hf.cell 5 (by omega),hf.cell 6 (by omega)⟩
def zdC (ms:List Gr):Nat:=(ms.map Gr.sz).sum
def zcg (ms:List Gr):Nat:=ms.length+zdC ms
structure zgB (ms:List Gr):Prop where
 small:∀i (h:i<ms.length),ms[i].Small/\ms[i].r.vs.length<=maxLen
theorem zcf.smalls {w:World}{a:Option Addr}{ms:List Gr}(h:zcf w a ms):zgB ms:=
 ⟨fun i hi=>by
  obtain⟨b,off,_,_,hr⟩:=h.rows (by rintro rfl;simp at hi);obtain⟨a0,c0,hf⟩:=hr i hi;exact⟨hf.small,hf.l0.len⟩⟩
theorem zq4 {ms:List Gr}{left:Int}(h:(zcg ms:Int)<=left)(hl:left<=1048576):ms.length<=1048576/\∀i (h:i<ms.length),ms[i].r.vs.length<=1048576:=by
 unfold zcg at h;refine⟨by omega,fun i hi=>?_⟩;have h1:ms[i].sz<=zdC ms:=zi0 Gr.sz ms i hi;exact Gr.znV (by omega)
theorem zhl (a:Option Addr)(cap:Nat)(ms:List Gr)(left:Int)(w:World)(hw:zcf w a ms)(h0:0<=left)(h1:left<=1048576) :
 Calls Tryz.prog 19 #[.slice a ms.length cap,.int .i64 left] w fun e w'=>e=.returned (.int .i64 (zL (zcg ms) left))/\Below w.heap.size w w':=by
 have hl:=hw.len;unfold maxLen at hl
 by_cases hfit:(ms.length:Int)<=left
 ·go_enter Tryz.func19,Tryz.ntmps19
  go_wp2_with fail
  go_loopw [1,5] (fun l i wr=>∃k:Nat,k<=ms.length/\i=.int .i64 k/\0<=left-ms.length-zdC (ms.take k)/\l=.int .i64 (left-ms.length-zdC (ms.take k))/\Below w.heap.size w wr) (fun _ i _=>ms.length-(intOf i).toNat)
  case atStart=>exact⟨0,Nat.zero_le _,rfl,by simp[zdC];omega,by simp[zdC],bRf _ _⟩
  case round=>
   obtain⟨k,hk,rfl,hpos,rfl,hB⟩:=hrel
   by_cases hlt:k<ms.length
   ·obtain⟨b,off,a0,c0,rfl,hb,hsm,hl0,d0,d1,d2,d3,d4,d5,d6⟩:=hw.load hB k hlt
    have hbr:=nLt hb hB.size;have HS:Hid (zdC (ms.take (k+1))=zdC (ms.take k)+ms[k].sz):=za8 Gr.sz ms k hlt;have hle:zdC (ms.take (k+1))<=zdC ms:=zcW Gr.sz ms (k+1);have HI:Hid (ql wr a0 ms[k].r.vs):=hl0;clear hw hl0
    by_cases hneg:(ms[k].sz:Int)<=left-ms.length-zdC (ms.take k)
    ·have HNG:Hid ((ms[k].sz:Int)<=left-ms.length-zdC (ms.take k)):=hneg
     clear hle;go_wp2_with fail
     refine(zen ms[k] a0 c0 _ _ hsm HI.out hpos (by omega)).mono ?_;rintro e w1⟨rfl,hb1⟩;rw[zM HNG.out];have hB1:=hB.trans (hb1.mono hB.size);clear hb1;go_wp2_with fail
     exact⟨⟨k+1,by omega,by go_num,by rw[HS.out];omega,by rw[HS.out];congr 1;omega,hB1⟩,by simp[intOf];omega⟩
    ·have HF:Hid (zL (zcg ms) left=-1):=zC (by have:=HS.out;unfold zcg;omega)
     have HNG:=hid hneg;clear hneg hle;go_wp2_with fail
     refine(zen ms[k] a0 c0 _ _ hsm HI.out hpos (by omega)).mono ?_;rintro e w1⟨rfl,hb1⟩;rw[zC (by have:=HNG.out;omega)];have hB1:=hB.trans (hb1.mono hB.size);clear hb1;go_wp2_with fail
     go_ret;exact⟨zo HF.out.symm,hB1⟩
   ·have HF:Hid (zL (zcg ms) left=left-ms.length-zdC (ms.take k)):=by
     rw[tOl (by omega)]at hpos ⊢;have e:zL (zcg ms) left=left-zcg ms:=zM (by unfold zcg;omega);unfold Hid;rw[e];unfold zcg;omega
    clear hw
    go_wp2
    go_ret;exact⟨zo HF.out.symm,hB⟩
 ·have HF:Hid (zL (zcg ms) left=-1):=zC (by unfold zcg;omega)
  clear hw;go_enter Tryz.func19,Tryz.ntmps19
  go_wp2
  go_ret;exact⟨zo HF.out.symm,bRf _ _⟩
theorem zhh (a a':Option Addr)(cap cap':Nat)(ms:List Gr)(w:World)(hw:zcf w a ms)(hw':zcf w a' ms) :
 Calls Tryz.prog 36 #[.slice a ms.length cap,.slice a' ms.length cap'] w fun e w'=>e=.returned (.bool true)/\Below w.heap.size w w':=by
 have hl:=hw.len;unfold maxLen at hl;have hnn:((ms.length:Int) != ms.length)=false:=by simp
 go_enter Tryz.func36,Tryz.ntmps36;go_wp2_with fail
 go_loopw [5] (fun i wr=>∃k:Nat,k<=ms.length/\i=.int .i64 k/\Below w.heap.size w wr) (fun i _=>ms.length-(intOf i).toNat)
 case atStart=>exact⟨0,Nat.zero_le _,rfl,bRf _ _⟩
 case round=>
  obtain⟨k,hk,rfl,hB⟩:=hrel
  by_cases hlt:k<ms.length
  ·obtain⟨b,off,a0,c0,rfl,hb,hsm,hl0,d0,d1,d2,d3,d4,d5,d6⟩:=hw.load hB k hlt
   obtain⟨b',off',a0',c0',rfl,hb',_,hl0',f0,f1,f2,f3,f4,f5,f6⟩:=hw'.load hB k hlt;have hltI:(k:Int)<(ms.length:Int):=by omega
   clear hw hw';go_wp2_with fail
   go_region_with (go_at_call 85;refine(ziH ms[k] a0 c0 a0' c0' _ hsm (by exact hl0.mono ((bRf _ _).drew)) (by exact hl0'.mono ((bRf _ _).drew))).mono ?_;rintro e w1⟨rfl,hb1'⟩;have hb1:=(bRf wr.heap.size wr).drew.trans hb1';clear hb1')
   all_goals go_wp2_with fail
   all_goals exact⟨⟨k+1,by omega,by go_num,hB.trans (hb1.mono hB.size)⟩,by simp[intOf];omega⟩
  ·clear hw hw'
   go_wp2_with fail
   go_ret;exact⟨rfl,hB⟩
structure zaa (lo:Nat)(w:World)(bo:Nat)(ms:List Gr)(k:Nat):Prop where
 low:lo<=bo
 rows:∃C,w.heap[bo]?=some (.cells C 121)/\C.size=ms.length*7 /\
  ∀i (h:i<ms.length),i<k->∃g0,lo<=g0/\g0≠bo/\w.heap[g0]?=some (.cells (zbN ms[i].r.vs) 3)/\∀j,j<7->C[i*7+j]?=(Gr.cells ms[i] (some ⟨g0,0,none⟩) ms[i].r.vs.length)[j]?
theorem zaa.at {lo:Nat}{w:World}{bo:Nat}{ms:List Gr}(h:zaa lo w bo ms ms.length)(hs:zgB ms)(hl:ms.length<=maxLen):zcf w (some ⟨bo,0,none⟩) ms:=by
 obtain⟨C,hC,hsz,hr⟩:=h.rows;refine⟨hl,fun _=>⟨bo,0,rfl,(gES hC).1,fun i hi=>?_⟩⟩;obtain⟨g0,_,_,hk0,hc⟩:=hr i hi hi;obtain⟨s0,s1⟩:=hs.small i hi;refine⟨some ⟨g0,0,none⟩,ms[i].r.vs.length,s0,zhI hk0 s1,fun j hj=>?_⟩;rw[cell_of_block hC,Nat.zero_add];exact hc j hj
theorem zaa.above {lo:Nat}{w w':World}{bo:Nat}{ms:List Gr}{k:Nat}(h:zaa lo w bo ms k)(ha:yM lo w w'):zaa lo w' bo ms k:=by
 obtain⟨C,hC,hsz,hr⟩:=h.rows;refine⟨h.low,C,(ha.same _ h.low (gES hC).1).trans hC,hsz,fun i hi hk=>?_⟩;obtain⟨g0,p0,q0,r0,hc⟩:=hr i hi hk;exact⟨g0,p0,q0,(ha.same _ p0 (gES r0).1).trans r0,hc⟩
theorem zaa.later {lo:Nat}{w w':World}{bo:Nat}{ms:List Gr}{k:Nat}(h:zaa lo w bo ms k)(hb:Below w.heap.size w w'):zaa lo w' bo ms k:=h.above (yM.below hb)
theorem zaa.weaken {lo lo':Nat}{w:World}{bo:Nat}{ms:List Gr}{k:Nat}(h:zaa lo w bo ms k)(hl:lo'<=lo):zaa lo' w bo ms k:=by
 obtain⟨C,hC,hsz,hr⟩:=h.rows;refine⟨Nat.le_trans hl h.low,C,hC,hsz,fun i hi hk=>?_⟩;obtain⟨g0,p0,q0,r0,hc⟩:=hr i hi hk;exact⟨g0,Nat.le_trans hl p0,q0,r0,hc⟩
def zmw (w:World)(b o:Nat)(v0 v1 v2 v3 v4 v5 v6:Value):World:=(((((((w.setCell ⟨b,o,none⟩ v0).setCell ⟨b,o+1,none⟩ v1).setCell ⟨b,o+2,none⟩ v2).setCell ⟨b,o+3,none⟩ v3).setCell ⟨b,o+4,none⟩ v4).setCell ⟨b,o+5,none⟩ v5).setCell ⟨b,o+6,none⟩ v6)
def zjf (C:Array Value)(o:Nat)(v0 v1 v2 v3 v4 v5 v6:Value):Array Value:=(((((((C.setIfInBounds (o) v0).setIfInBounds (o+1) v1).setIfInBounds (o+2) v2).setIfInBounds (o+3) v3).setIfInBounds (o+4) v4).setIfInBounds (o+5) v5).setIfInBounds (o+6) v6)
theorem zm4 {w:World}{b o:Nat}{C:Array Value}{t:TypeId}(h:w.heap[b]?=some (.cells C t))(v0 v1 v2 v3 v4 v5 v6:Value):(zmw w b o v0 v1 v2 v3 v4 v5 v6).heap[b]?=some (.cells (zjf C o v0 v1 v2 v3 v4 v5 v6) t):=
 zi (zi (zi (zi (zi (zi (zi h v0) v1) v2) v3) v4) v5) v6
theorem zmK {B:Nat}{a w:World}(h:Below B a w){b:Nat}(hb:B<=b)(o:Nat)(v0 v1 v2 v3 v4 v5 v6:Value):Below B a (zmw w b o v0 v1 v2 v3 v4 v5 v6):=
 ((((((h.setCell hb v0).setCell hb v1).setCell hb v2).setCell hb v3).setCell hb v4).setCell hb v5).setCell hb v6
theorem zia (w:World)(b o:Nat)(v0 v1 v2 v3 v4 v5 v6:Value){b':Nat}(h:b'≠b):(zmw w b o v0 v1 v2 v3 v4 v5 v6).heap[b']?=w.heap[b']?:=by
 unfold zmw
 iterate 7 rw[zG h]
theorem zoq (C:Array Value)(o:Nat)(v0 v1 v2 v3 v4 v5 v6:Value):(zjf C o v0 v1 v2 v3 v4 v5 v6).size=C.size:=by simp[zjf]
theorem zpF (C:Array Value)(o i:Nat)(v0 v1 v2 v3 v4 v5 v6:Value)(h:i<o \/ o+7<=i):(zjf C o v0 v1 v2 v3 v4 v5 v6)[i]?=C[i]?:=by
 unfold zjf
 iterate 7 rw[Array.getElem?_setIfInBounds,if_neg (by omega)]
theorem zqb (C:Array Value)(o j:Nat)(v0 v1 v2 v3 v4 v5 v6:Value)(hj:j<7)(ho:o+7<=C.size):(zjf C o v0 v1 v2 v3 v4 v5 v6)[o+j]?=(#[v0,v1,v2,v3,v4,v5,v6]:Array Value)[j]?:=by
 have hc:j=0 \/ j=1 \/ j=2 \/ j=3 \/ j=4 \/ j=5 \/ j=6:=by omega
 unfold zjf
 rcases hc with h|h|h|h|h|h|h <;> subst h <;> simp[Array.getElem?_setIfInBounds] <;> omega
theorem zaa.put {lo:Nat}{w:World}{bo:Nat}{ms:List Gr}{k:Nat}(h:zaa lo w bo ms k)(hk:k<ms.length)(g0:Nat)(p0:lo<=g0)(q0:g0≠bo)(r0:w.heap[g0]?=some (.cells (zbN ms[k].r.vs) 3)) :
 zaa lo (zmw w bo (k*7) (.int .i64 ms[k].no) (.string ms[k].to) (.string ms[k].gb) (.slice (some ⟨g0,0,none⟩) ms[k].r.vs.length ms[k].r.vs.length) (.string ms[k].r.kd) (.string ms[k].r.tm) (.string ms[k].r.px)) bo ms (k+1):=by
 obtain⟨C,hC,hsz,hr⟩:=h.rows;refine⟨h.low,_,zm4 hC _ _ _ _ _ _ _,by rw[zoq];exact hsz,fun i hi hik=>?_⟩
 rcases Nat.lt_or_ge i k with hlt|hge
 ·obtain⟨g0',x0,y0,z0,hc⟩:=hr i hi hlt
  refine⟨g0',x0,y0,(by rw[zia _ _ _ _ _ _ _ _ _ _ y0];exact z0),fun j hj=>?_⟩;rw[zpF _ _ _ _ _ _ _ _ _ _ (by omega)];exact hc j hj
 ·have e:i=k:=by omega
  subst e;refine⟨g0,p0,q0,(by rw[zia _ _ _ _ _ _ _ _ _ _ q0];exact r0),fun j hj=>?_⟩;rw[zqb _ _ _ _ _ _ _ _ _ _ hj (by omega)]
  rfl
def zqe:Array Value:=#[.int .i64 0,.string ByteArray.empty,.string ByteArray.empty,.slice none 0 0,.string ByteArray.empty,.string ByteArray.empty,.string ByteArray.empty]
def zpb (n:Nat):Array Value:=madeCells zqe (n*7)
theorem zg8 (a:Option Addr)(cap:Nat)(ms:List Gr)(w:World)(hw:zcf w a ms)(hl:ms.length<=1048576)(hls:∀i (h:i<ms.length),ms[i].r.vs.length<=1048576) :
 Calls Tryz.prog 29 #[.slice a ms.length cap] w fun e w'=>e=.returned (.slice (some ⟨w.heap.size,0,none⟩) ms.length ms.length)/\zaa w.heap.size w' w.heap.size ms ms.length/\Below w.heap.size w w':=by
 have hmk:∀w:World,(Instr.makeSlice 36 (.int .i64 ms.length) (.int .i64 ms.length)).run Tryz.prog w=.ok (.slice (some ⟨w.heap.size,0,none⟩) ms.length ms.length) (w.alloc (.cells (zpb ms.length) 121)):=
  fun w=>jA (P:=Tryz.prog) 36 121 (.agg zqe) 7 112 Tryz.underlying36 (by kernel_rfl) ms.length (by omega) (by omega) w
 go_enter Tryz.func29,Tryz.ntmps29;go_wp2_with fail
 clear hmk
 go_loopw [4] (fun i wr=>∃k:Nat,k<=ms.length/\i=.int .i64 k/\Hid (zaa w.heap.size wr w.heap.size ms k)/\Below w.heap.size w wr) (fun i _=>ms.length-(intOf i).toNat)
 case atStart=>exact⟨0,Nat.zero_le _,rfl,⟨Nat.le_refl _,zpb ms.length,(MapKept.heap_alloc w _).1,size_madeCells _ _,fun i _ h=>absurd h (by omega)⟩,bAl _ _⟩
 case round=>
  obtain⟨k,hk,rfl,HOW,hB⟩:=hrel
  by_cases hlt:k<ms.length
  ·obtain⟨b,off,a0,c0,rfl,hb,hsm,hl0,d0,d1,d2,d3,d4,d5,d6⟩:=hw.load hB k hlt
   have HLS:=hid (hls k hlt);have hltI:(k:Int)<(ms.length:Int):=by omega
   clear hw;go_wp2_with fail
   refine(ziI ms[k] a0 c0 _ hsm hl0 HLS.out).mono ?_;rintro e w1⟨g0,rfl,p0,r0,hb1⟩;have hB1:=hB.trans (hb1.mono hB.size)
   have hbo:w.heap.size<wr.heap.size:=by
    obtain⟨C',hC',_⟩:=HOW.out.rows;exact(gES hC').1
   have HP:=hid (HOW.out.later hb1);obtain⟨C,hC,hsz,_⟩:=HP.out.rows;have hfz:∀o,w1.frozen? ⟨w.heap.size,o,none⟩=false:=fun o=>zh hC
   have hex:∀o,o<ms.length*7->∃v,w1.cell? ⟨w.heap.size,o,none⟩=some v:=fun o ho=>⟨C[o]'(by omega),by rw[cell_of_block hC];exact Array.getElem?_eq_getElem (by omega)⟩
   obtain⟨v0,hv0⟩:=hex (k*7) (by omega);obtain⟨v1,hv1⟩:=hex (k*7+1) (by omega);obtain⟨v2,hv2⟩:=hex (k*7+2) (by omega);obtain⟨v3,hv3⟩:=hex (k*7+3) (by omega);obtain⟨v4,hv4⟩:=hex (k*7+4) (by omega);obtain⟨v5,hv5⟩:=hex (k*7+5) (by omega);obtain⟨v6,hv6⟩:=hex (k*7+6) (by omega);have HR:=qE p0 r0;clear hex hC hsz d0 d1 d2 d3 d4 d5 d6 p0 r0 hl0;unfold Gr.cells;go_wp2_with fail
   obtain⟨p0,r0⟩:=HR.out;exact⟨⟨k+1,by omega,by go_num,HP.out.put hlt g0 (by omega) (by omega) r0,zmK hB1 (Nat.le_refl _) _ _ _ _ _ _ _ _⟩,by simp[intOf];omega⟩
  ·have HF:Hid (zaa w.heap.size wr w.heap.size ms ms.length):=by
    have e:k=ms.length:=by omega
    subst e;exact HOW.out
   clear hw HOW;go_wp2_with fail
   go_ret;exact⟨rfl,HF.out,hB⟩
structure Lg where
 tm:ByteArray
 rs:ByteArray
 mo:Int
 fr:Int
def Lg.cells (m:Lg):Array Value:=#[.string m.tm,.string m.rs,.int .i64 m.mo,.int .i64 m.fr]
structure Lg.Small (m:Lg):Prop where
 tm:m.tm.size<=maxLen
 rs:m.rs.size<=maxLen
structure zbG (w:World)(a:Option Addr)(ms:List Lg):Prop where
 len:ms.length<=maxLen
 small:∀i (h:i<ms.length),ms[i].Small
 rows:ms≠[]->∃b off,a=some ⟨b,off,none⟩/\b<w.heap.size/\∀i (h:i<ms.length),∀j,j<4->w.cell? ⟨b,off+i*4+j,none⟩=ms[i].cells[j]?
theorem zbG.mono {w w':World}{a:Option Addr}{ms:List Lg}(h:zbG w a ms)(hl:Below w.heap.size w w'):zbG w' a ms:=
 ⟨h.len,h.small,fun hne=>by
  obtain⟨b,off,ha,hb,hr⟩:=h.rows hne;exact⟨b,off,ha,nLt hb hl.size,fun i hi j hj=>(hl.cell (p:=⟨b,off+i*4+j,none⟩) hb).trans (hr i hi j hj)⟩⟩
theorem zbG.load {w w':World}{a:Option Addr}{ms:List Lg}(h:zbG w a ms)(hl:Below w.heap.size w w')(i:Nat)(hi:i<ms.length):∃b off,a=some ⟨b,off,none⟩/\b<w.heap.size /\
 w'.cell? ⟨b,off+i*4,none⟩=some (.string ms[i].tm)/\w'.cell? ⟨b,off+i*4+1,none⟩=some (.string ms[i].rs)/\w'.cell? ⟨b,off+i*4+2,none⟩=some (.int .i64 ms[i].mo)/\w'.cell? ⟨b,off+i*4+3,none⟩=some (.int .i64 ms[i].fr):=by
 obtain⟨b,off,ha,hb,hr⟩:=h.rows (by rintro rfl;simp at hi);have hc:∀j,j<4->w'.cell? ⟨b,off+i*4+j,none⟩=ms[i].cells[j]?:=fun j hj=>(hl.cell (p:=⟨b,off+i*4+j,none⟩) hb).trans (hr i hi j hj)
 exact⟨b,off,ha,hb,hc 0 (by omega),hc 1 (by omega),hc 2 (by omega),hc 3 (by omega)⟩
def Lg.sz (m:Lg):Nat:=m.tm.size+m.rs.size
def zeu (ms:List Lg):Nat:=(ms.map Lg.sz).sum
def zcV (ms:List Lg):Nat:=ms.length+zeu ms
theorem zdz (m:Lg)(left:Int)(w:World)(hm:m.Small)(h0:0<=left)(h1:left<=1048576) :
 Calls Tryz.prog 58 #[.agg m.cells,.int .i64 left] w fun e w'=>e=.returned (.int .i64 (zL m.sz left))/\Below w.heap.size w w':=by
 have k0:=hm.tm;have k1:=hm.rs;unfold maxLen at k0 k1;unfold Lg.cells;have hB:∀ob,Below w.heap.size w (w.alloc ob):=fun ob=>bAl _ _
 by_cases hf:(m.sz:Int)<=left
 ·have HF:Hid (zL m.sz left=left-m.tm.size-m.rs.size):=by
   unfold Hid;rw[zM hf];unfold Lg.sz;omega
  unfold Lg.sz at hf;go_enter Tryz.func58,Tryz.ntmps58;go_wp2_with fail
  go_ret;exact⟨zo HF.out.symm,hB _⟩
 ·have HF:Hid (zL m.sz left=-1):=zC hf
  have HN:Hid (¬((m.tm.size+m.rs.size:Nat):Int)<=left):=hf;clear hf;go_enter Tryz.func58,Tryz.ntmps58;go_wp2_with fail
  all_goals go_ret
  all_goals first|exact⟨zo HF.out.symm,hB _⟩|(exfalso;have:=HN.out;simp at *;omega)
theorem zhF (m:Lg)(left:Int)(w:World)(hm:m.Small)(h0:0<=left)(h1:left<=1048576)(h:(m.sz:Int)<=left) :
 Calls Tryz.prog 58 #[.agg m.cells,.int .i64 left] w fun e w'=>e=.returned (.int .i64 (left-m.sz))/\Below w.heap.size w w':=by
 refine(zdz m left w hm h0 h1).mono ?_;rintro e w'⟨rfl,hb⟩;exact⟨zo (zM h),hb⟩
theorem ziW (m:Lg)(left:Int)(w:World)(hm:m.Small)(h0:0<=left)(h1:left<=1048576)(h:¬(m.sz:Int)<=left) :
 Calls Tryz.prog 58 #[.agg m.cells,.int .i64 left] w fun e w'=>e=.returned (.int .i64 (-1))/\Below w.heap.size w w':=by
 refine(zdz m left w hm h0 h1).mono ?_;rintro e w'⟨rfl,hb⟩;exact⟨zo (zC h),hb⟩
theorem zge (a:Option Addr)(cap:Nat)(ms:List Lg)(left:Int)(w:World)(hw:zbG w a ms)(h0:0<=left)(h1:left<=1048576) :
 Calls Tryz.prog 20 #[.slice a ms.length cap,.int .i64 left] w fun e w'=>e=.returned (.int .i64 (zL (zcV ms) left))/\Below w.heap.size w w':=by
 have hl:=hw.len;unfold maxLen at hl
 by_cases hfit:(ms.length:Int)<=left
 ·go_enter Tryz.func20,Tryz.ntmps20
  go_wp2_with fail
  go_loopw [1,5] (fun l i wr=>∃k:Nat,k<=ms.length/\i=.int .i64 k/\0<=left-ms.length-zeu (ms.take k)/\l=.int .i64 (left-ms.length-zeu (ms.take k))/\Below w.heap.size w wr) (fun _ i _=>ms.length-(intOf i).toNat)
  case atStart=>exact⟨0,Nat.zero_le _,rfl,by simp[zeu];omega,by simp[zeu],bRf _ _⟩
  case round=>
   obtain⟨k,hk,rfl,hpos,rfl,hB⟩:=hrel
   by_cases hlt:k<ms.length
   ·obtain⟨b,off,rfl,hb,c0,c1,c2,c3⟩:=hw.load hB k hlt
    have hsm:=hw.small k hlt;have HS:Hid (zeu (ms.take (k+1))=zeu (ms.take k)+ms[k].sz):=za8 Lg.sz ms k hlt;have hle:zeu (ms.take (k+1))<=zeu ms:=zcW Lg.sz ms (k+1);clear hw
    by_cases hneg:(ms[k].sz:Int)<=left-ms.length-zeu (ms.take k)
    ·have HNG:Hid ((ms[k].sz:Int)<=left-ms.length-zeu (ms.take k)):=hneg
     clear hle;go_wp2_with fail
     refine(zhF _ _ _ hsm hpos (by omega) HNG.out).mono ?_;rintro e w1⟨rfl,hb1⟩;have hB1:=hB.trans (hb1.mono hB.size);clear hb1;go_wp2_with fail
     exact⟨⟨k+1,by omega,by go_num,by rw[HS.out];omega,by rw[HS.out];congr 1;omega,hB1⟩,by simp[intOf];omega⟩
    ·have HF:Hid (zL (zcV ms) left=-1):=zC (by have:=HS.out;unfold zcV;omega)
     have HNG:=hid hneg;clear hneg hle;go_wp2_with fail
     refine(ziW _ _ _ hsm hpos (by omega) (by have:=HNG.out;omega)).mono ?_;rintro e w1⟨rfl,hb1⟩;have hB1:=hB.trans (hb1.mono hB.size);clear hb1;go_wp2_with fail
     go_ret;exact⟨zo HF.out.symm,hB1⟩
   ·have HF:Hid (zL (zcV ms) left=left-ms.length-zeu (ms.take k)):=by
     rw[tOl (by omega)]at hpos ⊢;have e:zL (zcV ms) left=left-zcV ms:=zM (by unfold zcV;omega);unfold Hid;rw[e];unfold zcV;omega
    clear hw
    go_wp2
    go_ret;exact⟨zo HF.out.symm,hB⟩
 ·have HF:Hid (zL (zcV ms) left=-1):=zC (by unfold zcV;omega)
  clear hw;go_enter Tryz.func20,Tryz.ntmps20
  go_wp2
  go_ret;exact⟨zo HF.out.symm,bRf _ _⟩
theorem zhx (m:Lg)(w:World):Calls Tryz.prog 86 #[.agg m.cells,.agg m.cells] w fun e w'=>e=.returned (.bool true)/\Below w.heap.size w w':=by
 unfold Lg.cells;have hn2:(m.mo != m.mo)=false:=by simp
 have hn3:(m.fr != m.fr)=false:=by simp
 go_enter Tryz.func86,Tryz.ntmps86;go_wp2_with fail
 go_ret;exact⟨rfl,zw _ _ _⟩
theorem zga (a a':Option Addr)(cap cap':Nat)(ms:List Lg)(w:World)(hw:zbG w a ms)(hw':zbG w a' ms) :
 Calls Tryz.prog 37 #[.slice a ms.length cap,.slice a' ms.length cap'] w fun e w'=>e=.returned (.bool true)/\Below w.heap.size w w':=by
 have hl:=hw.len;unfold maxLen at hl;have hnn:((ms.length:Int) != ms.length)=false:=by simp
 go_enter Tryz.func37,Tryz.ntmps37;go_wp2_with fail
 go_loopw [5] (fun i wr=>∃k:Nat,k<=ms.length/\i=.int .i64 k/\Below w.heap.size w wr) (fun i _=>ms.length-(intOf i).toNat)
 case atStart=>exact⟨0,Nat.zero_le _,rfl,bRf _ _⟩
 case round=>
  obtain⟨k,hk,rfl,hB⟩:=hrel
  by_cases hlt:k<ms.length
  ·obtain⟨b,off,rfl,hb,c0,c1,c2,c3⟩:=hw.load hB k hlt
   obtain⟨b',off',rfl,hb',d0,d1,d2,d3⟩:=hw'.load hB k hlt;have hltI:(k:Int)<(ms.length:Int):=by omega
   clear hw hw';go_wp2_with fail
   go_region_with (go_at_call 86;refine(zhx ms[k] _).mono ?_;rintro e w1⟨rfl,hb1'⟩;have hb1:=(bRf wr.heap.size wr).drew.trans hb1';clear hb1')
   all_goals go_wp2_with fail
   all_goals exact⟨⟨k+1,by omega,by go_num,hB.trans (hb1.mono hB.size)⟩,by simp[intOf];omega⟩
  ·clear hw hw'
   go_wp2_with fail
   go_ret;exact⟨rfl,hB⟩
structure j3 (lo:Nat)(w:World)(bo:Nat)(ms:List Lg)(k:Nat):Prop where
 low:lo<=bo
 rows:∃C,w.heap[bo]?=some (.cells C 124)/\C.size=ms.length*4/\∀i (h:i<ms.length),i<k->∀j,j<4->C[i*4+j]?=ms[i].cells[j]?
theorem j3.at {lo:Nat}{w:World}{bo:Nat}{ms:List Lg}(h:j3 lo w bo ms ms.length)(hs:∀i (h:i<ms.length),ms[i].Small)(hl:ms.length<=maxLen):zbG w (some ⟨bo,0,none⟩) ms:=by
 obtain⟨C,hC,hsz,hr⟩:=h.rows;refine⟨hl,hs,fun _=>⟨bo,0,rfl,(gES hC).1,fun i hi j hj=>?_⟩⟩;rw[cell_of_block hC,Nat.zero_add];exact hr i hi hi j hj
theorem j3.later {lo:Nat}{w w':World}{bo:Nat}{ms:List Lg}{k:Nat}(h:j3 lo w bo ms k)(hb:Below w.heap.size w w'):j3 lo w' bo ms k:=by
 obtain⟨C,hC,hsz,hr⟩:=h.rows;exact⟨h.low,C,(hb.block bo (gES hC).1).trans hC,hsz,hr⟩
theorem j3.above {lo:Nat}{w w':World}{bo:Nat}{ms:List Lg}{k:Nat}(h:j3 lo w bo ms k)(ha:yM lo w w'):j3 lo w' bo ms k:=by
 obtain⟨C,hC,hr⟩:=h.rows;exact⟨h.low,C,(ha.same _ h.low (gES hC).1).trans hC,hr⟩
theorem j3.weaken {lo lo':Nat}{w:World}{bo:Nat}{ms:List Lg}{k:Nat}(h:j3 lo w bo ms k)(hl:lo'<=lo):j3 lo' w bo ms k:=⟨Nat.le_trans hl h.low,h.rows⟩
def zqs (w:World)(b o:Nat)(v0 v1 v2 v3:Value):World:=((((w.setCell ⟨b,o,none⟩ v0).setCell ⟨b,o+1,none⟩ v1).setCell ⟨b,o+2,none⟩ v2).setCell ⟨b,o+3,none⟩ v3)
def zj3 (C:Array Value)(o:Nat)(v0 v1 v2 v3:Value):Array Value:=((((C.setIfInBounds (o) v0).setIfInBounds (o+1) v1).setIfInBounds (o+2) v2).setIfInBounds (o+3) v3)
theorem znx {w:World}{b o:Nat}{C:Array Value}{t:TypeId}(h:w.heap[b]?=some (.cells C t))(v0 v1 v2 v3:Value):(zqs w b o v0 v1 v2 v3).heap[b]?=some (.cells (zj3 C o v0 v1 v2 v3) t):=
 zi (zi (zi (zi h v0) v1) v2) v3
theorem zmu {B:Nat}{a w:World}(h:Below B a w){b:Nat}(hb:B<=b)(o:Nat)(v0 v1 v2 v3:Value):Below B a (zqs w b o v0 v1 v2 v3):=
 (((h.setCell hb v0).setCell hb v1).setCell hb v2).setCell hb v3
theorem zn0 (C:Array Value)(o:Nat)(v0 v1 v2 v3:Value):(zj3 C o v0 v1 v2 v3).size=C.size:=by simp[zj3]
theorem zpw (C:Array Value)(o i:Nat)(v0 v1 v2 v3:Value)(h:i<o \/ o+4<=i):(zj3 C o v0 v1 v2 v3)[i]?=C[i]?:=by
 unfold zj3
 iterate 4 rw[Array.getElem?_setIfInBounds,if_neg (by omega)]
theorem zqB (C:Array Value)(o j:Nat)(v0 v1 v2 v3:Value)(hj:j<4)(ho:o+4<=C.size):(zj3 C o v0 v1 v2 v3)[o+j]?=(#[v0,v1,v2,v3]:Array Value)[j]?:=by
 have hc:j=0 \/ j=1 \/ j=2 \/ j=3:=by omega
 unfold zj3
 rcases hc with h|h|h|h <;> subst h <;> simp[Array.getElem?_setIfInBounds] <;> omega
theorem j3.put {lo:Nat}{w:World}{bo:Nat}{ms:List Lg}{k:Nat}(h:j3 lo w bo ms k)(hk:k<ms.length) :
 j3 lo (zqs w bo (k*4) (.string ms[k].tm) (.string ms[k].rs) (.int .i64 ms[k].mo) (.int .i64 ms[k].fr)) bo ms (k+1):=by
 obtain⟨C,hC,hsz,hr⟩:=h.rows;refine⟨h.low,_,znx hC _ _ _ _,by rw[zn0];exact hsz,fun i hi hik j hj=>?_⟩
 rcases Nat.lt_or_ge i k with hlt|hge
 ·rw[zpw _ _ _ _ _ _ _ (by omega)]
  exact hr i hi hlt j hj
 ·have e:i=k:=by omega
  subst e;rw[zqB _ _ _ _ _ _ _ hj (by omega)]
  rfl
theorem zhJ (m:Lg)(w:World) :
 Calls Tryz.prog 74 #[.agg m.cells] w fun e w'=>e=.returned (.agg m.cells)/\Below w.heap.size w w':=by
 unfold Lg.cells;go_enter Tryz.func74,Tryz.ntmps74;go_wp2_with fail
 refine bodyPost_ret (v:=.agg #[.string m.tm,.string m.rs,.int .i64 m.mo,.int .i64 m.fr]) (by simp[results,Tryz.results74,go_sem]) rfl ⟨rfl,?_⟩;exact(((bAl _ _).alloc (by simp) _).alloc (by simp;omega) _)
def zp6:Array Value:=#[.string ByteArray.empty,.string ByteArray.empty,.int .i64 0,.int .i64 0]
def zoU (n:Nat):Array Value:=madeCells zp6 (n*4)
theorem zgO (a:Option Addr)(cap:Nat)(ms:List Lg)(w:World)(hw:zbG w a ms)(hl:ms.length<=1048576) :
 Calls Tryz.prog 30 #[.slice a ms.length cap] w fun e w'=>e=.returned (.slice (some ⟨w.heap.size,0,none⟩) ms.length ms.length)/\j3 w.heap.size w' w.heap.size ms ms.length/\Below w.heap.size w w':=by
 have hmk:∀w:World,(Instr.makeSlice 37 (.int .i64 ms.length) (.int .i64 ms.length)).run Tryz.prog w=.ok (.slice (some ⟨w.heap.size,0,none⟩) ms.length ms.length) (w.alloc (.cells (zoU ms.length) 124)):=
  fun w=>jA (P:=Tryz.prog) 37 124 (.agg zp6) 4 48 Tryz.underlying37 (by kernel_rfl) ms.length (by omega) (by omega) w
 go_enter Tryz.func30,Tryz.ntmps30;go_wp2_with fail
 clear hmk
 go_loopw [4] (fun i wr=>∃k:Nat,k<=ms.length/\i=.int .i64 k/\j3 w.heap.size wr w.heap.size ms k/\Below w.heap.size w wr) (fun i _=>ms.length-(intOf i).toNat)
 case atStart=>exact⟨0,Nat.zero_le _,rfl,⟨Nat.le_refl _,zoU ms.length,(MapKept.heap_alloc w _).1,size_madeCells _ _,fun i _ h=>absurd h (by omega)⟩,bAl _ _⟩
 case round=>
  obtain⟨k,hk,rfl,hown,hB⟩:=hrel
  by_cases hlt:k<ms.length
  ·obtain⟨b,off,rfl,hb,c0,c1,c2,c3⟩:=hw.load hB k hlt
   have hltI:(k:Int)<(ms.length:Int):=by omega
   clear hw;go_wp2_with fail
   refine(zhJ ms[k] _).mono ?_;rintro e w1⟨rfl,hb1⟩;have hB1:=hB.trans (hb1.mono hB.size);have hown1:=hown.later hb1
   have hbo:w.heap.size<wr.heap.size:=by
    obtain⟨C',hC',_⟩:=hown.rows;exact(gES hC').1
   obtain⟨C,hC,hsz,_⟩:=hown1.rows;have hfz:∀o,w1.frozen? ⟨w.heap.size,o,none⟩=false:=fun o=>zh hC
   have hex:∀o,o<ms.length*4->∃v,w1.cell? ⟨w.heap.size,o,none⟩=some v:=fun o ho=>⟨C[o]'(by omega),by rw[cell_of_block hC];exact Array.getElem?_eq_getElem (by omega)⟩
   obtain⟨v0,hv0⟩:=hex (k*4) (by omega);obtain⟨v1,hv1⟩:=hex (k*4+1) (by omega);obtain⟨v2,hv2⟩:=hex (k*4+2) (by omega);obtain⟨v3,hv3⟩:=hex (k*4+3) (by omega);have HP:=hid hown1;clear hex hC hsz c0 c1 c2 c3 hown hown1;unfold Lg.cells;go_wp2_with fail
   exact⟨⟨k+1,by omega,by go_num,HP.out.put hlt,zmu hB1 (Nat.le_refl _) _ _ _ _ _⟩,by simp[intOf];omega⟩
  ·have HF:Hid (j3 w.heap.size wr w.heap.size ms ms.length):=by
    have e:k=ms.length:=by omega
    subst e;exact hown
   clear hw hown;go_wp2_with fail
   go_ret;exact⟨rfl,HF.out,hB⟩
end Go.Proofs.YtkficnallnpjnaaGreat
