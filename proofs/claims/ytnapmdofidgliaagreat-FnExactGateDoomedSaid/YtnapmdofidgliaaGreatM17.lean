import Derived.Test.YtnapmdofidgliaaGreatM14
import Derived.Test.YtnapmdofidgliaaGreatM15
set_option maxHeartbeats 4000000
namespace Go.Proofs.YtnapmdofidgliaaGreat
open Go.RowKit
theorem zjw (nm:ByteArray)(kd ls ms:Int)(sl:Value)(to:ByteArray)(rl:Int)(mu fx:Bool)(df wg:ByteArray)(v:ByteArray)(bn:Nat)(w:World)(hb:bn<w.heap.size)(hn:w.cell? ⟨bn,0,none⟩=some (.string v)) :
 Calls Tryz.prog 206 #[.agg #[.string nm,.int .i64 kd,.int .i64 ls,.int .i64 ms,sl,.string to,.int .i64 rl,.bool mu,.bool fx,.string df,.string wg],.pointer (some ⟨bn,0,none⟩)] w fun e w'=>e=.returned (.bool (nm.toList == v.toList))/\Below w.heap.size w w':=by
 go_enter Tryz.func206,Tryz.ntmps206
 go_wp2
 go_ret;exact⟨rfl,bAl _ _⟩
theorem zkL (a:Option Addr)(cap:Nat)(fs:List Fld)(v:ByteArray)(bn:Nat)(w:World)(hw:zY w a fs)(hbn:bn<w.heap.size)(hn:w.cell? ⟨bn,0,none⟩=some (.string v)) :
 Calls Tryz.prog 205 #[.slice a fs.length cap,.func (.func 206) #[] #[.pointer (some ⟨bn,0,none⟩)]] w fun e w'=>e=.returned (.int .i64 (zR fs v))/\Below w.heap.size w w':=by
 have hl:=hw.len;unfold maxLen at hl;go_enter Tryz.func205,Tryz.ntmps205
 go_wp2
 go_loopw [8] (fun i wr=>∃k:Nat,k<=fs.length/\i=.int .i64 k/\hasName (fs.take k) v=false/\Below w.heap.size w wr) (fun i _=>fs.length-(intOf i).toNat)
 case atStart=>exact⟨0,Nat.zero_le _,rfl,rfl,bRf _ _⟩
 case round=>
  obtain⟨k,hk,rfl,hno,hB⟩:=hrel
  by_cases hlt:k<fs.length
  ·obtain⟨b,off,rfl,hb,hr⟩:=hw.rows (by rintro rfl;simp at hlt)
   obtain⟨wa,wcap,hf⟩:=hr k hlt;obtain⟨c0,c1,c2,c3,c4,c5,c6,c7,c8,c9,c10⟩:=(hf.mono hb hB).load;have hn1:=(hB.cell (p:=⟨bn,0,none⟩) hbn).trans hn;have hbn1:bn<wr.heap.size:=nLt hbn hB.size;clear hw hr hf hn
   by_cases he:fs[k].nm=v
   ·have HA:Hid (zR fs v=k):=zer fs v k hlt hno he
    have HE:Hid ((fs[k].nm.toList == v.toList)=true):=by unfold Hid;rw[beq_toList];simpa using he
    clear he hno;go_wp2_with fail
    refine(zf HE.out (zjw _ _ _ _ _ _ _ _ _ _ _ _ _ _ hbn1 hn1)).mono ?_;rintro e w2⟨rfl,hb2⟩;go_wp2_with fail
    go_ret;exact⟨zo HA.out.symm,hB.trans (hb2.mono hB.size)⟩
   ·have HS:Hid (hasName (fs.take (k+1)) v=false):=by unfold Hid;rw[zd8 fs v k hlt,hno,decide_eq_false he];rfl
    have HE:Hid ((fs[k].nm.toList == v.toList)=false):=by unfold Hid;rw[beq_toList];simpa using he
    clear he hno;go_wp2_with fail
    refine(zf HE.out (zjw _ _ _ _ _ _ _ _ _ _ _ _ _ _ hbn1 hn1)).mono ?_;rintro e w2⟨rfl,hb2⟩;go_wp2_with fail
    exact⟨⟨k+1,by omega,by go_num,HS.out,hB.trans (hb2.mono hB.size)⟩,by simp[intOf];omega⟩
  ·have HA:Hid (zR fs v=-1):=zgW fs v (by rw[<- zia fs v k (by omega)];exact hno)
   clear hno hw
   go_wp2
   go_ret;exact⟨zo HA.out.symm,hB⟩
theorem jl (a:Option Addr)(cap:Nat)(fs:List Fld)(v:ByteArray)(w:World)(hw:zY w a fs) :
 Calls Tryz.prog 186 #[.slice a fs.length cap,.string v] w fun e w'=>e=.returned (.int .i64 (zR fs v))/\Below w.heap.size w w':=by
 go_enter Tryz.func186,Tryz.ntmps186;go_wp2_with fail
 refine(zkL _ _ _ v _ _ (hw.mono (bAl _ _)) (by simp) (by rw[World.cell?_alloc_at _ _ _ _ rfl];rfl)).mono ?_;rintro e w2⟨rfl,hb2⟩;go_wp2_with fail
 go_ret;exact⟨rfl,(bAl _ _).trans (hb2.mono (by simp))⟩
theorem zdY (nm:ByteArray)(ls ms:Int)(a:Option Addr)(n cap:Nat)(to:ByteArray)(rl:Int)(mu fx:Bool)(df wg:ByteArray)(w:World) :
 Calls Tryz.prog 203 #[.agg #[.string nm,.int .i64 1,.int .i64 ls,.int .i64 ms,.slice a n cap,.string to,.int .i64 rl,.bool mu,.bool fx,.string df,.string wg]] w fun e w'=>e=.returned (.bool (yO 1 ls ms n to rl wg))/\Below w.heap.size w w':=by
 go_enter Tryz.func203,Tryz.ntmps203
 go_wp2
 all_goals
  go_ret;refine⟨ze ?_,bAl _ _⟩
  simp_all [yO]
  try first|omega|(intros;omega)|(rw[Bool.eq_iff_iff];simp)
theorem zb7 (nm:ByteArray)(ls ms:Int)(a:Option Addr)(n cap:Nat)(to:ByteArray)(rl:Int)(mu fx:Bool)(df wg:ByteArray)(w:World) :
 Calls Tryz.prog 203 #[.agg #[.string nm,.int .i64 2,.int .i64 ls,.int .i64 ms,.slice a n cap,.string to,.int .i64 rl,.bool mu,.bool fx,.string df,.string wg]] w fun e w'=>e=.returned (.bool (yO 2 ls ms n to rl wg))/\Below w.heap.size w w':=by
 go_enter Tryz.func203,Tryz.ntmps203
 go_wp2
 all_goals
  go_ret;refine⟨ze ?_,bAl _ _⟩
  simp_all [yO]
  try first|omega|(intros;omega)|(rw[Bool.eq_iff_iff];simp)
theorem zep (nm:ByteArray)(ls ms:Int)(a:Option Addr)(n cap:Nat)(to:ByteArray)(rl:Int)(mu fx:Bool)(df wg:ByteArray)(w:World) :
 Calls Tryz.prog 203 #[.agg #[.string nm,.int .i64 3,.int .i64 ls,.int .i64 ms,.slice a n cap,.string to,.int .i64 rl,.bool mu,.bool fx,.string df,.string wg]] w fun e w'=>e=.returned (.bool (yO 3 ls ms n to rl wg))/\Below w.heap.size w w':=by
 go_enter Tryz.func203,Tryz.ntmps203
 go_wp2
 all_goals
  go_ret;refine⟨ze ?_,bAl _ _⟩
  simp_all [yO]
  try first|omega|(intros;omega)|(rw[Bool.eq_iff_iff];simp)
theorem zat (nm:ByteArray)(ls ms:Int)(a:Option Addr)(n cap:Nat)(to:ByteArray)(rl:Int)(mu fx:Bool)(df wg:ByteArray)(w:World) :
 Calls Tryz.prog 203 #[.agg #[.string nm,.int .i64 4,.int .i64 ls,.int .i64 ms,.slice a n cap,.string to,.int .i64 rl,.bool mu,.bool fx,.string df,.string wg]] w fun e w'=>e=.returned (.bool (yO 4 ls ms n to rl wg))/\Below w.heap.size w w':=by
 go_enter Tryz.func203,Tryz.ntmps203
 go_wp2
 all_goals
  go_ret;refine⟨ze ?_,bAl _ _⟩
  simp_all [yO]
  try first|omega|(intros;omega)|(rw[Bool.eq_iff_iff];simp)
theorem zjG (nm:ByteArray)(kd ls ms:Int)(a:Option Addr)(n cap:Nat)(to:ByteArray)(rl:Int)(mu fx:Bool)(df wg:ByteArray)(w:World)(h1:kd≠1)(h2:kd≠2)(h3:kd≠3)(h4:kd≠4) :
 Calls Tryz.prog 203 #[.agg #[.string nm,.int .i64 kd,.int .i64 ls,.int .i64 ms,.slice a n cap,.string to,.int .i64 rl,.bool mu,.bool fx,.string df,.string wg]] w fun e w'=>∃b,e=.returned (.bool b)/\Below w.heap.size w w':=by
 have e1:(kd == 1)=false:=by simpa using h1
 have e2:(kd == 2)=false:=by simpa using h2
 have e3:(kd == 3)=false:=by simpa using h3
 have e4:(kd == 4)=false:=by simpa using h4
 have n1:(kd != 1)=true:=by simpa using h1
 have n2:(kd != 2)=true:=by simpa using h2
 clear h1 h2 h3 h4;go_enter Tryz.func203,Tryz.ntmps203
 go_wp2
 all_goals
  go_ret;exact⟨_,rfl,bAl _ _⟩
theorem zfv {w:World}{b off:Nat}{ws:List ByteArray}(hw:zD w (some ⟨b,off,none⟩) ws):∀j u,(ws.map Value.string)[j]?=some u->w.cell? ((⟨b,off,none⟩:Addr).add j)=some u:=by
 intro j u hj
 have hlt:j<ws.length:=by
  have:=(List.getElem?_eq_some_iff.1 hj).1;simpa using this
 obtain⟨b',off',he,hb,hc⟩:=hw.cells (by rintro rfl;simp at hlt);simp only[Option.some.injEq,Addr.mk.injEq]at he;obtain⟨rfl,rfl,_⟩:=he;have h1:=hc j hlt
 have e1:(⟨b,off,none⟩:Addr).add j=⟨b,off+j,none⟩:=by
  unfold Addr.add;split
  ·rename_i h;subst h;simp
  ·rfl
 rw[e1,h1];rw[List.getElem?_map,List.getElem?_eq_getElem hlt]at hj
 simpa using hj
theorem zgb {ws:List ByteArray}:∀u∈ws.map Value.string,u.oneCell'=true:=by
 intro u hu;simp only[List.mem_map]at hu;obtain⟨s,_,rfl⟩:=hu;rfl
theorem jH (w:World)(o1 o2 o3:Obj):Below w.heap.size w (((w.alloc o1).alloc o2).alloc o3):=
 ((bAl _ _).alloc (by simp) _).alloc (by simp;omega) _
theorem zcp (w:World)(o1 o2 o3:Obj):(((w.alloc o1).alloc o2).alloc o3).heap[w.heap.size+1+1]?=some o3:=by
 have h:=alloc_at ((w.alloc o1).alloc o2) o3
 simpa using h
theorem zck (w:World)(o1 o2 o3:Obj):(((w.alloc o1).alloc o2).alloc o3).heap[w.heap.size]?=some o1:=(Below.heap_alloc _ _ _ (by simp;omega)).trans (zT _ _ _).1
theorem zgm (w:World)(o1 o2 o3:Obj):(((w.alloc o1).alloc o2).alloc o3).heap[w.heap.size+1]?=some o2:=(Below.heap_alloc _ _ _ (by simp)).trans (zT _ _ _).2
theorem zhX {w w1:World}{o1 o2 o3:Obj}(hg:(((w.alloc o1).alloc o2).alloc o3).grownBy w1 (some (w.heap.size+1+1))) :
 w1.heap[w.heap.size]?=some o1/\w1.heap[w.heap.size+1]?=some o2/\Below w.heap.size w w1/\w.heap.size+1+1<w1.heap.size:=by
 refine⟨(hg.block _ (by simp;omega) (by simp;try omega)).trans (zck _ _ _ _),(hg.block _ (by simp) (by simp)).trans (zgm _ _ _ _),(jH _ _ _ _).grown hg (jH _ _ _ _).size (by intro k hk;simp at hk;omega),?_⟩
 have:=hg.size;simp at this;omega
theorem zpl (w:World)(p:Addr)(v:Value)(o3:Obj):((w.setCell p v).alloc o3).heap[w.heap.size]?=some o3:=by
 have h:=alloc_at (w.setCell p v) o3
 simpa[World.setCell] using h
theorem zlz {w w1 w2:World}{a:Value}{C1 C2:Array Value}{t1 t2:TypeId}{o3:Obj}(hk:w1.heap[w.heap.size]?=some (.cells C1 t1))(hr:w1.heap[w.heap.size+1]?=some (.cells C2 t2))(hB:Below w.heap.size w w1)(hz:w.heap.size+1+1<w1.heap.size)
 (hg:((w1.setCell ⟨w.heap.size,3,none⟩ a).alloc o3).grownBy w2 (some w1.heap.size)) :
 w2.heap[w.heap.size]?=some (.cells (C1.setIfInBounds 3 a) t1)/\w2.heap[w.heap.size+1]?=some (.cells C2 t2)/\Below w.heap.size w w2/\w1.heap.size<w2.heap.size:=by
 have hs:(w1.setCell ⟨w.heap.size,3,none⟩ a).heap.size=w1.heap.size:=by simp[World.setCell]
 refine⟨(hg.block _ (by simp[World.setCell];omega) (by simp;omega)).trans ((Below.heap_alloc _ _ _ (by rw[hs];omega)).trans (zk hk _)),
  (hg.block _ (by simp[World.setCell];omega) (by simp;omega)).trans ((Below.heap_alloc _ _ _ (by rw[hs];omega)).trans ((Below.heap_setCell _ _ _ _ (by simp)).trans hr)),
  ((hB.setCell (Nat.le_refl _) _).alloc (by rw[hs];omega) _).grown hg (by simp[World.setCell];omega) (by intro k hk;simp at hk;omega),?_⟩
 have:=hg.size;simp[World.setCell]at this;omega
theorem zx.grown {lo:Nat}{w w2:World}{a:Option Addr}{ws:List ByteArray}{row:Nat}(h:zx lo w a ws)(hg:w.grownBy w2 (some row))(hr:∀g,a=some g->g.block≠row):zx lo w2 a ws:=by
 rcases h with⟨rfl,rfl⟩|⟨g,C,rfl,hl,hh,hc⟩
 ·exact Or.inl ⟨rfl,rfl⟩
 ·exact Or.inr ⟨g,C,rfl,hl,(hg.block g (gES hh).1 (by have:=hr _ rfl;simpa using this)).trans hh,hc⟩
theorem zx.lt {lo:Nat}{w:World}{a:Option Addr}{ws:List ByteArray}(h:zx lo w a ws):∀g,a=some g->g.block<w.heap.size:=by
 intro g hg
 rcases h with⟨rfl,_⟩|⟨g',C,rfl,_,hh,_⟩
 ·cases hg
 ·cases hg;exact(gES hh).1
set_option maxRecDepth 20000 in
theorem zkf (o:Ob)(b off b' off' cap cap':Nat)(w:World)(ho:jK w o (some ⟨b,off,none⟩) (some ⟨b',off',none⟩))(hl:o.vs.length<=1048576)(hl':o.hs.length<=1048576) :
 Calls Tryz.prog 176 #[.agg #[.string o.kd,.string o.nm,.string o.tm,.slice (some ⟨b,off,none⟩) o.vs.length cap,.bool o.en,.slice (some ⟨b',off',none⟩) o.hs.length cap',.int .i64 o.vr]] w
  fun e w'=>∃a dap a' dap' m,e=.returned (.agg #[.string o.kd,.string o.nm,.string o.tm,.slice a o.vs.length dap,.bool o.en,.slice a' o.hs.length dap',.int .i64 o.vr])/\zx w.heap.size w' a o.vs/\(∀g,a=some g->g.block<m)/\w.heap.size<=m/\zx m w' a' o.hs/\Below w.heap.size w w':=by
 obtain⟨i0,hi,hz0,hz1',hz2⟩:=info_parts Tryz.zc1;go_enter Tryz.func176,Tryz.ntmps176
 go_wp2_with (first
  | (at_builtin;refine wpList_append_own _ rfl (.tmp 3) (.tmp 5) 106 rfl (w.heap.size+1+1) 9 i0 (.string ByteArray.empty) 1 16 Tryz.underlying106 hi hz0 hz1' hz2 rfl (by decide) (.slice (some ⟨w.heap.size+1+1,0,none⟩) 0 0) 0 [] rfl ⟨rfl,.inr ⟨w.heap.size+1+1,0,#[],rfl,Nat.le_refl _,zcp _ _ _ _,Nat.le_refl _,by simp[maxLen],rfl,rfl⟩⟩ ⟨b,off,none⟩ o.vs.length cap (o.vs.map Value.string) rfl (by simp) (zfv (ho.vals.mono (jH _ _ _ _))) zgb (by unfold maxLen;omega) (by omega) (by simp) ?_;intro v' w1 hown hgr _;simp only[Nat.zero_add,List.nil_append]at hown;obtain⟨a,dap,rfl,ht1⟩:=zx.zf1 hown;obtain⟨hk1,hr1,hB1,hz1⟩:=zhX hgr;have hX1:∀j,w1.cell? ⟨w.heap.size,j,none⟩=(#[.string o.kd,.string o.nm,.string o.tm,.slice (some ⟨b,off,none⟩) o.vs.length cap,.bool o.en,.slice (some ⟨b',off',none⟩) o.hs.length cap',.int .i64 o.vr]:Array Value)[j]?:=fun j=>cell_of_block hk1;have hF1:∀j,w1.frozen? ⟨w.heap.size,j,none⟩=false:=fun j=>zh hk1;have hzz1:w.heap.size<w1.heap.size:=(by omega);have hone:=hB1.setCell (p:=⟨w.heap.size,3,none⟩) (Nat.le_refl _) (.slice a o.vs.length dap);have HT1:Hid (zx (w.heap.size+1+1) w1 a o.vs):=ht1;have HK1:Hid (w1.heap[w.heap.size]?=some (.cells #[.string o.kd,.string o.nm,.string o.tm,.slice (some ⟨b,off,none⟩) o.vs.length cap,.bool o.en,.slice (some ⟨b',off',none⟩) o.hs.length cap',.int .i64 o.vr] 123)):=hk1;have HR1:Hid (w1.heap[w.heap.size+1]?=some (.cells #[.string ByteArray.empty,.string ByteArray.empty,.string ByteArray.empty,.slice none 0 0,.bool false,.slice none 0 0,.int .i64 0] 123)):=hr1;clear ht1 hk1 hr1;clear hown hgr)
  | (at_builtin;refine wpList_append_own _ rfl (.tmp 8) (.tmp 10) 106 rfl w1.heap.size 9 i0 (.string ByteArray.empty) 1 16 Tryz.underlying106 hi hz0 hz1' hz2 rfl (by decide) (.slice (some ⟨w1.heap.size,0,none⟩) 0 0) 0 [] rfl ⟨rfl,.inr ⟨w1.heap.size,0,#[],rfl,Nat.le_refl _,zpl _ _ _ _,Nat.le_refl _,(by simp[maxLen]),rfl,rfl⟩⟩ ⟨b',off',none⟩ o.hs.length cap' (o.hs.map Value.string) rfl (by simp) (zfv (ho.holds.mono (hone.alloc hone.size _))) zgb (by unfold maxLen;omega) (by omega) (by simp[World.setCell]) ?_;intro v'' w2 hown hgr _;simp only[Nat.zero_add,List.nil_append]at hown;obtain⟨a',dap',rfl,ht2⟩:=zx.zf1 hown;obtain⟨hk2,hr2,hB2,hz2'⟩:=zlz HK1.out HR1.out hB1 hz1 hgr;have HU2:Hid (zx w1.heap.size w2 a' o.hs):=ht2;have HT2:Hid (zx (w.heap.size+1+1) w2 a o.vs):=((HT1.out.setCell _ (by simp;omega) _).mono (bAl _ _)).grown hgr (fun g hg=>Nat.ne_of_lt (HT1.out.lt g hg));have hX2:∀j,w2.cell? ⟨w.heap.size,j,none⟩=(#[.string o.kd,.string o.nm,.string o.tm,.slice a o.vs.length dap,.bool o.en,.slice (some ⟨b',off',none⟩) o.hs.length cap',.int .i64 o.vr]:Array Value)[j]?:=fun j=>cell_of_block hk2;have hF2:∀j,w2.frozen? ⟨w.heap.size,j,none⟩=false:=fun j=>zh hk2;have hY2:∀j,w2.cell? ⟨w.heap.size+1,j,none⟩=(#[.string ByteArray.empty,.string ByteArray.empty,.string ByteArray.empty,.slice none 0 0,.bool false,.slice none 0 0,.int .i64 0]:Array Value)[j]?:=fun j=>cell_of_block hr2;have hG2:∀j,w2.frozen? ⟨w.heap.size+1,j,none⟩=false:=fun j=>zh hr2;have hzz2:w.heap.size+1<w2.heap.size:=(by omega);clear hown hgr ht2 hk2 hr2 hX1 hF1))
 refine bodyPost_ret (v:=(.agg #[.string o.kd,.string o.nm,.string o.tm,.slice a o.vs.length dap,.bool o.en,.slice a' o.hs.length dap',.int .i64 o.vr])) (by simp[results,Tryz.results176,go_sem,hY2]) rfl ⟨a,dap,a',dap',w1.heap.size,rfl,((((((((HT2.out.setCell _ (by simp;omega) _).setCell _ (by simp) _).setCell _ (by simp) _).setCell _ (by simp) _).setCell _ (by simp) _).setCell _ (by simp) _).setCell _ (by simp) _).setCell _ (by simp) _).low (by omega),HT1.out.lt,by omega,((((((((HU2.out.setCell _ (by simp;omega) _).setCell _ (by simp;omega) _).setCell _ (by simp;omega) _).setCell _ (by simp;omega) _).setCell _ (by simp;omega) _).setCell _ (by simp;omega) _).setCell _ (by simp;omega) _).setCell _ (by simp;omega) _),((((((((hB2.setCell (Nat.le_refl _) _).setCell (by simp) _).setCell (by simp) _).setCell (by simp) _).setCell (by simp) _).setCell (by simp) _).setCell (by simp) _).setCell (by simp) _)⟩
structure Bk where
 now:Int
 tick:Int
 given:Int
 os:List Ob
 gs:List Gr
 ls:List Lg
 ps:List Pu
def Bk.cells (b:Bk)(a0 a1 a2 a3:Option Addr)(c0 c1 c2 c3:Nat):Array Value:=#[.int .i64 b.now,.int .i64 b.tick,.int .i64 b.given,.slice a0 b.os.length c0,.slice a1 b.gs.length c1,.slice a2 b.ls.length c2,.slice a3 b.ps.length c3]
structure jk (w:World)(b:Bk)(a0 a1 a2 a3:Option Addr):Prop where
 os:zbV w a0 b.os
 gs:zc2 w a1 b.gs
 ls:zcX w a2 b.ls
 ps:zdF w a3 b.ps
theorem jk.mono {w w':World}{b:Bk}{a0 a1 a2 a3:Option Addr}(h:jk w b a0 a1 a2 a3)(hb:Below w.heap.size w w'):jk w' b a0 a1 a2 a3:=⟨h.os.mono hb,h.gs.mono hb,h.ls.mono hb,h.ps.mono hb⟩
def Bk.sz (b:Bk):Nat:=qG b.os+zcm b.gs+zcO b.ls+zc9 b.ps
structure Bk.Few (b:Bk):Prop where
 os:b.os.length<=1048576/\∀i (h:i<b.os.length),b.os[i].vs.length<=1048576/\b.os[i].hs.length<=1048576
 gs:b.gs.length<=1048576/\∀i (h:i<b.gs.length),b.gs[i].r.vs.length<=1048576
 ls:b.ls.length<=1048576
 ps:b.ps.length<=1048576
theorem Bk.few {b:Bk}(h:(b.sz:Int)<=1048576):b.Few:=by
 unfold Bk.sz at h;refine⟨zmi (left:=1048576) (by omega) (by omega),zqR (left:=1048576) (by omega) (by omega),?_,?_⟩
 ·unfold zcO at h;omega
 ·unfold zc9 at h;omega
structure Bk.Small (b:Bk):Prop where
 os:zgn b.os
 lo:b.os.length<=maxLen
 gs:zjK b.gs
 lg:b.gs.length<=maxLen
 ls:∀i (h:i<b.ls.length),b.ls[i].Small
 ll:b.ls.length<=maxLen
 ps:∀i (h:i<b.ps.length),b.ps[i].Small
 lp:b.ps.length<=maxLen
theorem jk.small {w:World}{b:Bk}{a0 a1 a2 a3:Option Addr}(h:jk w b a0 a1 a2 a3):b.Small:=⟨h.os.smalls,h.os.len,h.gs.smalls,h.gs.len,h.ls.small,h.ls.len,h.ps.small,h.ps.len⟩
structure znW (lo:Nat)(w:World)(b:Bk)(g0 g1 g2 g3:Nat):Prop where
 os:zan lo w g0 b.os b.os.length
 gs:zad lo w g1 b.gs b.gs.length
 ls:zah lo w g2 b.ls b.ls.length
 ps:zae lo w g3 b.ps b.ps.length
theorem znW.at {lo:Nat}{w:World}{b:Bk}{g0 g1 g2 g3:Nat}(h:znW lo w b g0 g1 g2 g3)(hs:b.Small):jk w b (some ⟨g0,0,none⟩) (some ⟨g1,0,none⟩) (some ⟨g2,0,none⟩) (some ⟨g3,0,none⟩):=⟨h.os.at hs.os hs.lo,h.gs.at hs.gs hs.lg,h.ls.at hs.ls hs.ll,h.ps.at hs.ps hs.lp⟩
theorem zjM (b:Bk)(a0 a1 a2 a3:Option Addr)(c0 c1 c2 c3:Nat)(left:Int)(w:World)(hl:jk w b a0 a1 a2 a3)(h0:0<=left)(h1:left<=1048576) :
 Calls Tryz.prog 5 #[.agg (b.cells a0 a1 a2 a3 c0 c1 c2 c3),.int .i64 left] w fun e w'=>e=.returned (.int .i64 (zK b.sz left))/\Below w.heap.size w w':=by
 have HL:Hid (jk w b a0 a1 a2 a3):=hl;clear hl;unfold Bk.cells;go_enter Tryz.func5,Tryz.ntmps5;go_wp2_with fail
 refine(zgk _ _ b.os _ _ (HL.out.os.mono (bAl _ _)) h0 h1).mono ?_;rintro e w1⟨rfl,hb⟩;have hX1:=za (zl w #[.int .i64 b.now,.int .i64 b.tick,.int .i64 b.given,.slice a0 b.os.length c0,.slice a1 b.gs.length c1,.slice a2 b.ls.length c2,.slice a3 b.ps.length c3] 32) (by simp) hb;have hz1:w.heap.size<w1.heap.size:=by have:=hb.size;simp at this;omega
 have hB1:Below w.heap.size w w1:=(bAl _ _).trans (hb.mono (by simp));clear hb
 by_cases q1:(qG b.os:Int)<=left
 rotate_left
 ·have HF:Hid (zK b.sz left=-1):=zC (by unfold Bk.sz;omega)
  rw[zC q1];go_wp2_with fail
  go_ret;exact⟨zo HF.out.symm,hB1⟩
 rw[zL q1];go_wp2_with fail
 refine(zhi _ _ b.gs _ _ (HL.out.gs.mono hB1) (by omega) (by omega)).mono ?_;rintro e w2⟨rfl,hb⟩;have hX2:=za hX1 hz1 hb;have hz2:=nLt hz1 hb.size;have hB2:=hB1.trans (hb.mono hB1.size);clear hb hX1 hz1 hB1
 by_cases q2:(zcm b.gs:Int)<=left-qG b.os
 rotate_left
 ·have HF:Hid (zK b.sz left=-1):=zC (by unfold Bk.sz;omega)
  rw[zC q2];go_wp2_with fail
  go_ret;exact⟨zo HF.out.symm,hB2⟩
 rw[zL q2];go_wp2_with fail
 refine(zgJ _ _ b.ls _ _ (HL.out.ls.mono hB2) (by omega) (by omega)).mono ?_;rintro e w3⟨rfl,hb⟩;have hX3:=za hX2 hz2 hb;have hz3:=nLt hz2 hb.size;have hB3:=hB2.trans (hb.mono hB2.size);clear hb hX2 hz2 hB2
 by_cases q3:(zcO b.ls:Int)<=left-qG b.os-zcm b.gs
 rotate_left
 ·have HF:Hid (zK b.sz left=-1):=zC (by unfold Bk.sz;omega)
  rw[zC q3];go_wp2_with fail
  go_ret;exact⟨zo HF.out.symm,hB3⟩
 rw[zL q3];go_wp2_with fail
 refine(zhg _ _ b.ps _ _ (HL.out.ps.mono hB3) (by omega) (by omega)).mono ?_;rintro e w4⟨rfl,hb⟩;have hX4:=za hX3 hz3 hb;have hz4:=nLt hz3 hb.size;have hB4:=hB3.trans (hb.mono hB3.size);clear hb hX3 hz3 hB3
 by_cases q4:(zc9 b.ps:Int)<=left-qG b.os-zcm b.gs-zcO b.ls
 rotate_left
 ·have HF:Hid (zK b.sz left=-1):=zC (by unfold Bk.sz;omega)
  rw[zC q4];go_wp2_with fail
  go_ret;exact⟨zo HF.out.symm,hB4⟩
 have HF:Hid (zK b.sz left=left-qG b.os-zcm b.gs-zcO b.ls-zc9 b.ps):=by
  unfold Hid;rw[zL (by unfold Bk.sz;omega)];unfold Bk.sz;omega
 rw[zL q4];go_wp2_with fail
 go_ret;exact⟨zo HF.out.symm,hB4⟩
theorem zkl (b:Bk)(a0 a1 a2 a3:Option Addr)(c0 c1 c2 c3:Nat)(a0' a1' a2' a3':Option Addr)(c0' c1' c2' c3':Nat)(w:World)(hl:jk w b a0 a1 a2 a3)(hl':jk w b a0' a1' a2' a3') :
 Calls Tryz.prog 12 #[.agg (b.cells a0 a1 a2 a3 c0 c1 c2 c3),.agg (b.cells a0' a1' a2' a3' c0' c1' c2' c3')] w fun e w'=>e=.returned (.bool true)/\Below w.heap.size w w':=by
 have HL:Hid (jk w b a0 a1 a2 a3/\jk w b a0' a1' a2' a3'):=⟨hl,hl'⟩
 clear hl hl';have n1:(b.now != b.now)=false:=by simp
 have n2:(b.tick != b.tick)=false:=by simp
 have n3:(b.given != b.given)=false:=by simp
 unfold Bk.cells;go_enter Tryz.func12,Tryz.ntmps12;go_wp2_with fail
 refine(zgQ _ _ _ _ b.os _ (HL.out.1.os.mono (zw _ _ _)) (HL.out.2.os.mono (zw _ _ _))).mono ?_;rintro e w1⟨rfl,hb⟩;have hX1:=za (za (zl w _ _) (by simp) (bAl _ _)) (by simp;omega) hb;have hY1:=za (zl (w.alloc (.cells #[.int .i64 b.now,.int .i64 b.tick,.int .i64 b.given,.slice a0 b.os.length c0,.slice a1 b.gs.length c1,.slice a2 b.ls.length c2,.slice a3 b.ps.length c3] 48)) #[.int .i64 b.now,.int .i64 b.tick,.int .i64 b.given,.slice a0' b.os.length c0',.slice a1' b.gs.length c1',.slice a2' b.ls.length c2',.slice a3' b.ps.length c3'] 48) (by simp) hb;have hz1:w.heap.size+1<w1.heap.size:=by have:=hb.size;simp at this;omega
 have hB1:=(zw w _ _).trans (hb.mono (by simp;omega));rw[World.size_alloc]at hY1;clear hb;go_wp2_with fail
 refine(zhx _ _ _ _ b.gs _ (HL.out.1.gs.mono hB1) (HL.out.2.gs.mono hB1)).mono ?_;rintro e w2⟨rfl,hb⟩;have hX2:=za hX1 (nSl hz1) hb;have hY2:=za hY1 hz1 hb;have hz2:=nLt hz1 hb.size;have hB2:=hB1.trans (hb.mono hB1.size);clear hb hX1 hY1 hz1 hB1;go_wp2_with fail
 refine(zgu _ _ _ _ b.ls _ (HL.out.1.ls.mono hB2) (HL.out.2.ls.mono hB2)).mono ?_;rintro e w3⟨rfl,hb⟩;have hX3:=za hX2 (nSl hz2) hb;have hY3:=za hY2 hz2 hb;have hz3:=nLt hz2 hb.size;have hB3:=hB2.trans (hb.mono hB2.size);clear hb hX2 hY2 hz2 hB2;go_wp2_with fail
 refine(zho _ _ _ _ b.ps _ (HL.out.1.ps.mono hB3) (HL.out.2.ps.mono hB3)).mono ?_;rintro e w4⟨rfl,hb⟩;have hX4:=za hX3 (nSl hz3) hb;have hY4:=za hY3 hz3 hb;have hz4:=nLt hz3 hb.size;have hB4:=hB3.trans (hb.mono hB3.size);clear hb hX3 hY3 hz3 hB3;go_wp2_with fail
 go_ret;exact⟨rfl,hB4⟩
theorem zjC {p:Prop}(h:p):Hid p:=h
theorem qx (w:World)(X Y:Array Value)(s t:TypeId):(∀j,((w.alloc (.cells X s)).alloc (.cells Y t)).cell? ⟨w.heap.size,j,none⟩=X[j]?)/\∀j,((w.alloc (.cells X s)).alloc (.cells Y t)).cell? ⟨w.heap.size+1,j,none⟩=Y[j]?:=by
 refine⟨za (zl w X s) (by simp) (bAl _ _),fun j=>?_⟩;have h:=zl (w.alloc (.cells X s)) Y t j;rw[World.size_alloc]at h;exact h
theorem zkz (l:Lw)(la lb lc:Option Addr)(lca lcb lcc:Nat)(o:Ob)(oa oa':Option Addr)(ocap ocap':Nat)(res:ByteArray)(w:World)(hl:jh w l la lb lc)(_ho:jK w o oa oa')(hc:¬(zy l.ss o=true/\res.toList.isEmpty=false)) :
 Calls Tryz.prog 220 #[.agg (l.cells la lb lc lca lcb lcc),.agg #[.string o.kd,.string o.nm,.string o.tm,.slice oa o.vs.length ocap,.bool o.en,.slice oa' o.hs.length ocap',.int .i64 o.vr],.string res] w fun e w'=>e=.returned (.int .i64 (qV l.ss o res))/\Below w.heap.size w w':=by
 have HL:=hid hl;have HW:Hid (qV l.ss o res=0):=by unfold Hid qV;rw[if_neg hc]
 have HC:=hid hc;clear hl hc;unfold Lw.cells;go_enter Tryz.func220,Tryz.ntmps220;go_wp2_with fail
 refine(qJ _ _ l.ss o.kd _ (HL.out.ss.mono (zw _ _ _))).mono ?_;rintro e w1⟨fa,fcap,rfl,hfl,hb⟩;obtain⟨hX0,hY0⟩:=qx w #[.slice la l.ss.length lca,.slice lb l.ms.length lcb,.slice lc l.ts.length lcc] #[.string o.kd,.string o.nm,.string o.tm,.slice oa o.vs.length ocap,.bool o.en,.slice oa' o.hs.length ocap',.int .i64 o.vr] 41 123;have hX1:=za hX0 (by simp;omega) hb;have hY1:=za hY0 (by simp) hb;have hz1:w.heap.size+1<w1.heap.size:=by have:=hb.size;simp at this;omega
 have HB1:Hid (Below w.heap.size w w1):=(zw w _ _).trans (hb.mono (by simp;omega));clear hfl hb hX0 hY0
 by_cases hk:zG l.ss o.kd=true
 rotate_left
 ·have hk':zG l.ss o.kd=false:=by simpa using hk
  rw[hk'];clear hk hk';go_wp2_with fail
  go_ret;exact⟨zo HW.out.symm,HB1.out.alloc HB1.out.size _⟩
 by_cases he:res.toList.isEmpty=true
 ·have HK:=hid hk
  rw[HK.out];clear hk;go_wp2_with fail
  go_ret;exact⟨zo HW.out.symm,HB1.out.alloc HB1.out.size _⟩
 ·have he':res.toList.isEmpty=false:=by simpa using he
  have hne:((o.vs.length:Int) != ((shapeOf l.ss o.kd).fs.length:Int))=true:=by
   have h:=HC.out;unfold zy at h;rw[hk]at h;simp only[Bool.true_and,decide_eq_true_eq]at h;have h2:¬o.vs.length=(shapeOf l.ss o.kd).fs.length:=fun e=>h ⟨e,he'⟩
   simp;omega
  have HK:=hid hk;rw[HK.out];clear he hk;go_wp2_with fail
  go_ret;exact⟨zo HW.out.symm,HB1.out.alloc HB1.out.size _⟩
theorem zje (l:Lw)(la lb lc:Option Addr)(lca lcb lcc:Nat)(o:Ob)(oa oa':Option Addr)(ocap ocap':Nat)(res:ByteArray)(w:World)(hl:jh w l la lb lc)(ho:jK w o oa oa')(hc:zy l.ss o=true)(he:res.toList.isEmpty=false)(hlen:o.vs.length<=1048576) :
 Calls Tryz.prog 220 #[.agg (l.cells la lb lc lca lcb lcc),.agg #[.string o.kd,.string o.nm,.string o.tm,.slice oa o.vs.length ocap,.bool o.en,.slice oa' o.hs.length ocap',.int .i64 o.vr],.string res] w fun e w'=>e=.returned (.int .i64 (qV l.ss o res))/\Below w.heap.size w w':=by
 have HL:=hid hl;have HO:=hid ho;have HW:Hid (qV l.ss o res=(if res=o.kd then 1 else 0)+zet (shapeOf l.ss o.kd).fs o.vs res (shapeOf l.ss o.kd).fs.length):=by unfold Hid qV;rw[if_pos ⟨hc,he⟩]
 have HK:Hid (zG l.ss o.kd=true/\o.vs.length=(shapeOf l.ss o.kd).fs.length):=by unfold zy at hc;unfold Hid;simpa using hc
 have HN:=hid hlen;clear hl ho hc hlen;unfold Lw.cells;go_enter Tryz.func220,Tryz.ntmps220;go_wp2_with fail
 refine(qJ _ _ l.ss o.kd _ (HL.out.ss.mono (zw _ _ _))).mono ?_;rintro e w1⟨fa,fcap,rfl,hfl,hb⟩;obtain⟨hX0,hY0⟩:=qx w #[.slice la l.ss.length lca,.slice lb l.ms.length lcb,.slice lc l.ts.length lcc] #[.string o.kd,.string o.nm,.string o.tm,.slice oa o.vs.length ocap,.bool o.en,.slice oa' o.hs.length ocap',.int .i64 o.vr] 41 123;have hY1:=za hY0 (by simp) hb;have hz1:w.heap.size+1<w1.heap.size:=by have:=hb.size;simp at this;omega
 have HB1:Hid (Below w.heap.size w w1):=(zw w _ _).trans (hb.mono (by simp;omega));have HFl:=hid (hfl.mono hb);clear hfl hb hX0 hY0;rw[HK.out.1];obtain⟨S,HS⟩:∃S,Hid (S=shapeOf l.ss o.kd):=⟨_,rfl⟩
 rw[<- HS.out]at HFl HK HW ⊢;have hne:((o.vs.length:Int) != (S.fs.length:Int))=false:=by have:=HK.out.2;simp[this]
 obtain⟨n0,hn0⟩:∃n0:Int,n0=if res=o.kd then 1 else 0:=⟨_,rfl⟩
 have hb0:0<=n0/\n0<=1:=by rw[hn0];split <;> omega
 rw[<- hn0]at HW;have HN0:=hid hn0;clear hn0
 by_cases hk:res=o.kd
 all_goals (
  first
  | (have hq:(res.toList == o.kd.toList)=true:=by rw[beq_toList];simpa using hk)
  | (have hq:(res.toList == o.kd.toList)=false:=by rw[beq_toList];simpa using hk)
  have HKE:=zjC hk;clear hk;go_wp2_with fail
  go_loopw [9,44] (fun nv iv wr=>∃(k:Nat) (s:Int),k<=S.fs.length/\iv=.int .i64 k/\nv=.int .i64 s/\Hid (s=n0+zet S.fs o.vs res k/\Below w1.heap.size w1 wr)) (fun _ iv _=>S.fs.length-(intOf iv).toNat)
  case atStart=>exact⟨0,n0,Nat.zero_le _,rfl,by have:=HN0.out;first|(rw[if_pos HKE.out]at this;rw[this])|(rw[if_neg HKE.out]at this;rw[this]),by simp[zet],bAl _ _⟩
  case round=>
   obtain⟨k,s,hk,rfl,rfl,HQ⟩:=hrel;have hsb:0<=s/\s<=1+k*10000000:=by have h1:=HQ.out.1;have h2:=zcM S.fs o.vs res k;omega
   have hkn:k<=1048576:=by have:=HN.out;have:=HK.out.2;omega
   by_cases hlt:k<S.fs.length
   ·obtain⟨b,off,rfl,hb,hr⟩:=HFl.out.rows (by intro e;rw[e]at hlt;simp at hlt)
    obtain⟨wa,wcap,hf⟩:=hr k hlt;obtain⟨c0,c1,c2,c3,c4,c5,c6,c7,c8,c9,c10⟩:=(hf.mono hb HQ.out.2).load;have hlv:k<o.vs.length:=by have:=HK.out.2;omega
    have hltI:(k:Int)<(S.fs.length:Int):=by omega
    have hlvI:(k:Int)<(o.vs.length:Int):=by omega
    obtain⟨vb,voff,rfl,hvb,hvc0⟩:=HO.out.vals.cells (by intro e;rw[e]at hlv;simp at hlv);have hvc:=((HB1.out.trans (HQ.out.2.mono HB1.out.size)).cell (p:=⟨vb,voff+k,none⟩) hvb).trans (hvc0 k hlv);have hvb':=nLt hvb (HB1.out.trans (HQ.out.2.mono HB1.out.size)).size;have hb':=nLt hb HQ.out.2.size;have hY:=za hY1 hz1 HQ.out.2;have hz:=nLt hz1 HQ.out.2.size;have HSt:=zpf S.fs o.vs res k hlt hlv;have HSt:Hid (zet S.fs o.vs res (k+1)=zet S.fs o.vs res k+yN S.fs[k] o.vs[k] res):=HSt;have HVs:Hid (o.vs[k].size<=maxLen):=HO.out.vals.small _ (List.getElem_mem _);have HBo:Hid (∀ob,Below w1.heap.size w1 (wr.alloc ob)):=fun ob=>HQ.out.2.alloc HQ.out.2.size _
    clear hf hr hvc0
    by_cases h1:S.fs[k].kd=1
    ·have e1:(S.fs[k].kd == 1)=true:=by simpa using h1
     by_cases h2:S.fs[k].wg=res
     ·have e2:(S.fs[k].wg.toList == res.toList)=true:=by rw[beq_toList];simpa using h2
      have HFw:Hid (yN S.fs[k] o.vs[k] res=zaF o.vs[k]):=by unfold Hid yN;rw[if_pos ⟨h1,h2⟩]
      have hdb:=zeb o.vs[k];clear h1 h2;go_wp2_with fail
      refine(zdx o.vs[k] _ HVs.out).mono ?_;rintro e w2⟨rfl,rfl⟩;go_wp2_with fail
      exact⟨⟨k+1,s+zaF o.vs[k],by omega,by go_num,by go_num,by rw[HSt.out,HFw.out,HQ.out.1];omega,HBo.out _⟩,zm hlt⟩
     ·have e2:(S.fs[k].wg.toList == res.toList)=false:=by rw[beq_toList];simpa using h2
      have HFw:Hid (yN S.fs[k] o.vs[k] res=0):=by unfold Hid yN;rw[if_neg (fun h=>h2 h.2)]
      clear h1 h2;go_wp2_with fail
      exact⟨⟨k+1,s,by omega,by go_num,rfl,by rw[HSt.out,HFw.out,HQ.out.1];omega,HBo.out _⟩,zm hlt⟩
    ·have e1:(S.fs[k].kd == 1)=false:=by simpa using h1
     have HFw:Hid (yN S.fs[k] o.vs[k] res=0):=by unfold Hid yN;rw[if_neg (fun h=>h1 h.1)]
     clear h1;go_wp2_with fail
     exact⟨⟨k+1,s,by omega,by go_num,rfl,by rw[HSt.out,HFw.out,HQ.out.1];omega,HBo.out _⟩,zm hlt⟩
   ·have e:k=S.fs.length:=by omega
    subst e;have HE:Hid (qV l.ss o res=s):=by unfold Hid;rw[HW.out,HQ.out.1]
    clear hlt hk;go_wp2_with fail
    go_ret;exact⟨zo HE.out.symm,HB1.out.trans (HQ.out.2.mono HB1.out.size)⟩)
end Go.Proofs.YtnapmdofidgliaaGreat
