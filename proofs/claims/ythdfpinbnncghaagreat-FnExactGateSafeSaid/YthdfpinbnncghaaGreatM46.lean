import Derived.Test.YthdfpinbnncghaaGreatM45
set_option maxHeartbeats 8000000
namespace Go.Proofs.YthdfpinbnncghaaGreat
open Go.RowKit
set_option maxRecDepth 20000 in
theorem zpd (o:Ob)(s:Shp)(ms:List Mnd)(fa ma ova oha:OA)(fcap mcap cap cap':Nat)(w:World)(hf:yj w fa s.fs)(hm:qZ w ma ms)(ho:zab w o ova oha)(hA:znw ova o.vs)(hA':znw oha o.hs)(hl:o.vs.length<=1048576)(hl':o.hs.length<=1048576)(hc:o.vs.length=s.fs.length)
 (hml:ms.length<=1048576) (hn:s.fs.length<=6) (hrd:∀q,q<s.fs.length->∀x∈yE s ms q,0<=x/\x<s.fs.length) (hwk:(zL (zo s ms) s.fs.length).1=true) :
 Calls Tryz.prog 247 #[.agg #[.s s.kd,.l fa s.fs.length fcap],.l ma ms.length mcap,.agg #[.s o.kd,.s o.nm,.s o.tm,.l ova o.vs.length cap,.bool o.en,.l oha o.hs.length cap',.i o.vr]] w
  fun e w'=>∃a dap a' dap' m,e=.returned (.agg #[.s o.kd,.s o.nm,.s o.tm,.l a o.vs.length dap,.bool o.en,.l a' o.hs.length dap',.i o.vr])/\zA w.heap.size w' a (yc (decided s ms) (zL (zo s ms) s.fs.length).2.row o.vs)/\(∀g,a=some g->g.block<m)/\w.heap.size<=m/\zA m w' a' o.hs/\Bw w w':=by
 have HH:Hid (yj w fa s.fs/\qZ w ma ms/\o.vs.length=s.fs.length/\ms.length<=1048576/\s.fs.length<=6/\(∀q,q<s.fs.length->∀x∈yE s ms q,0<=x/\x<s.fs.length)/\(∀x∈o.vs,x.size<=maxLen)):=⟨hf,hm,hc,hml,hn,hrd,ho.vals.small⟩
 have HWK:=hid hwk;clear hf hm hc hml hrd hwk;go_enter Tryz.func247,Tryz.ntmps247;go_wp2_with fail
 refine(zkm o ova oha cap cap' _ (ho.mono (jR _ _ _ _)) hA hA' hl hl').mono ?_;rintro e w1⟨a,dap,a',dap',m,rfl,ht,hmm,hsm,ht',hb1⟩;have hX1:∀j,w1.cell? (aD w.heap.size j)=(#[.s s.kd,.l fa s.fs.length fcap]:AV)[j]?:=fun j=>cell_of_block ((hb1.block w.heap.size (by simp;omega)).trans (zcv _ _ _ _))
 have HS1:Hid (w1.heap[w.heap.size]?=some (.cells #[.s s.kd,.l fa s.fs.length fcap] 139)):=(hb1.block w.heap.size (by simp;omega)).trans (zcv _ _ _ _);have HR1:Hid (w1.heap[w.heap.size+1+1]?=some (.cells oZ 145)):=(hb1.block (w.heap.size+1+1) (by simp)).trans (zcA _ _ _ _);have HB1:Hid (Bw w w1):=(jR _ _ _ _).trans (hb1.mono (by simp;omega));have hz1:w.heap.size+1+1<w1.heap.size:=by have:=hb1.size;simp at this;omega
 have HT:Hid (zA (w.heap.size+1+1+1) w1 a o.vs/\(∀g,a=some g->g.block<m)/\w.heap.size+1+1+1<=m/\zA m w1 a' o.hs):=by
  simp only[World.size_alloc]at ht hsm;exact⟨ht,hmm,hsm,ht'⟩
 have hz0:w.heap.size<w1.heap.size:=by omega
 clear ht hmm hsm ht' hb1 ho;have hba:=(bRf w1.heap.size w1).alloc (Nat.le_refl _) (.cells (oC o a a' dap dap') 145);have HBA:=hid (HB1.o.trans (hba.mono HB1.o.size));have HBB:=hid hba;clear hba;go_wp2_with fail
 have h:=ziq s ms ma fa mcap fcap _ (HH.o.2.1.mono HBA.o) (HH.o.1.mono HBA.o) HH.o.2.2.2.1 HH.o.2.2.2.2.1 HH.o.2.2.2.2.2.1;rw[HWK.o]at h;refine h.mono ?_;rintro e w2⟨rv,rfl,hb2,hrow⟩;have hrow:=hrow rfl;obtain⟨ra,rcap,rfl⟩:=qL hrow;have HBC:=hid (HBB.o.trans (hb2.mono HBB.o.size))
 have HR2:Hid (w2.ownsRow (w1.heap.size+1) 3 1 (.l ra (zL (zo s ms) s.fs.length).2.row.length rcap) (zL (zo s ms) s.fs.length).2.row.length (zeT (zL (zo s ms) s.fs.length).2.row)):=by
  have:=hrow;rw[World.size_alloc]at this;exact this
 have HU2:Hid (w2.heap[w1.heap.size]?=some (.cells (oC o a a' dap dap') 145)):=(hb2.block _ (by simp)).trans (alloc_at _ _)
 have HTP:Hid (zlu (zo s ms) s.fs.length (zL (zo s ms) s.fs.length).2.row):=zeu (fun p hp q hq=>by
  unfold zo at hq;obtain⟨x,hx,rfl⟩:=List.mem_map.1 hq
  have:=HH.o.2.2.2.2.2.1 p hp x hx
  omega) HWK.o
 have hz2:=(gES HU2.o).1
 have HRL:Hid ((zL (zo s ms) s.fs.length).2.row.length<=6):=by
  have h1:=zbI (zL (zo s ms) s.fs.length).2.row (List.range s.fs.length) HTP.o.nodup (fun x hx=>List.mem_range.2 ((HTP.o.mem x).1 hx));have h2:=HH.o.2.2.2.2.1;rw[List.length_range]at h1
  show _<=_;omega
 clear h hrow hb2 hX1;go_wp2_with fail
 go_loopw [22] (fun iv wr=>∃j:Nat,j<=(zL (zo s ms) s.fs.length).2.row.length/\iv=.i j/\zA (w.heap.size+1+1+1) wr a (yc (decided s ms) ((zL (zo s ms) s.fs.length).2.row.take j) o.vs)/\zA m wr a' o.hs/\wr.heap[w.heap.size+1+1]?=some (.cells #[.s ByteArray.empty,.s ByteArray.empty,.s ByteArray.empty,.l none 0 0,.bool false,.l none 0 0,.i 0] 145)/\wr.heap[w1.heap.size]?=some (.cells #[.s o.kd,.s o.nm,.s o.tm,.l a o.vs.length dap,.bool o.en,.l a' o.hs.length dap',.i o.vr] 145)/\wr.heap[w.heap.size]?=some (.cells #[.s s.kd,.l fa s.fs.length fcap] 139)/\wr.ownsRow (w1.heap.size+1) 3 1 (.l ra (zL (zo s ms) s.fs.length).2.row.length rcap) (zL (zo s ms) s.fs.length).2.row.length (zeT (zL (zo s ms) s.fs.length).2.row)/\Bw w wr) (fun iv _=>(zL (zo s ms) s.fs.length).2.row.length-(intOf iv).toNat)
 case atStart=>exact⟨0,Nat.zero_le _,rfl,HT.o.1.mono HBC.o,HT.o.2.2.2.mono HBC.o,(HBC.o.block _ hz1).trans HR1.o,HU2.o,(HBC.o.block _ hz0).trans HS1.o,HR2.o,HB1.o.trans (HBC.o.mono HB1.o.size)⟩
 case round=>
  obtain⟨j,hj,rfl,hinv⟩:=hrel;have HI:Hid (zA (w.heap.size+1+1+1) wr a (yc (decided s ms) ((zL (zo s ms) s.fs.length).2.row.take j) o.vs)/\zA m wr a' o.hs/\wr.heap[w.heap.size+1+1]?=some (.cells oZ 145)/\wr.heap[w1.heap.size]?=some (.cells (oC o a a' dap dap') 145)/\wr.heap[w.heap.size]?=some (.cells #[.s s.kd,.l fa s.fs.length fcap] 139)/\wr.ownsRow (w1.heap.size+1) 3 1 (.l ra (zL (zo s ms) s.fs.length).2.row.length rcap) (zL (zo s ms) s.fs.length).2.row.length (zeT (zL (zo s ms) s.fs.length).2.row)/\Bw w wr):=hinv;clear hinv
  by_cases hlt:j<(zL (zo s ms) s.fs.length).2.row.length
  ·have hltI:(j:Int)<((zL (zo s ms) s.fs.length).2.row.length:Int):=by omega
   have hqn:(zL (zo s ms) s.fs.length).2.row[j]<s.fs.length:=(HTP.o.mem _).1 (List.getElem_mem hlt)
   obtain⟨rg,rfl,hrc⟩:∃rg,ra=some (aD rg 0)/\wr.cell? (aD rg j)=some (.i (((zL (zo s ms) s.fs.length).2.row[j]:Nat):Int)):=by
    have hrow:=HI.o.2.2.2.2.2.1;obtain⟨_,⟨h0,h1⟩|⟨g,cp,cur,h0,h1⟩⟩:=id hrow
    ·rw[h1]at hlt;exact absurd hlt (by omega)
    ·cases h0
     refine⟨g,rfl,?_⟩;rw[hrow.cellAt j (by omega)]
     simp[zeT,hlt]
   have HTS:Hid ((yc (decided s ms) ((zL (zo s ms) s.fs.length).2.row.take (j+1)) o.vs)=(yc (decided s ms) ((zL (zo s ms) s.fs.length).2.row.take j) o.vs).set (zL (zo s ms) s.fs.length).2.row[j] (decided s ms (zL (zo s ms) s.fs.length).2.row[j] (yc (decided s ms) ((zL (zo s ms) s.fs.length).2.row.take j) o.vs))):=by
    unfold Hid;rw[tSe hlt,zc4]
    rfl
   have HTL:Hid ((yc (decided s ms) ((zL (zo s ms) s.fs.length).2.row.take j) o.vs).length=o.vs.length):=jY _ _ _;have HSML:Hid (∀x∈(yc (decided s ms) ((zL (zo s ms) s.fs.length).2.row.take j) o.vs),x.size<=maxLen):=zco HH.o.2.1.small _ _ HH.o.2.2.2.2.2.2;have hvl:0<o.vs.length:=by rw[HH.o.2.2.1];omega
   obtain⟨g,C,hga,hgl,hgh,hgc⟩:∃g C,a=some (aD g 0)/\w.heap.size+1+1+1<=g/\wr.heap[g]?=some (.cells C 9)/\∀i (h:i<(yc (decided s ms) ((zL (zo s ms) s.fs.length).2.row.take j) o.vs).length),C[i]?=some (.s (yc (decided s ms) ((zL (zo s ms) s.fs.length).2.row.take j) o.vs)[i]):=by
    rcases HI.o.1 with⟨_,h0⟩|h0
    ·have:=HTL.o;rw[h0]at this;simp at this;omega
    ·exact h0
   have hgm:=HT.o.2.1 _ hga;have hgw1:=HT.o.1.lt _ hga;subst hga
   revert hqn hrc HTS
   generalize (zL (zo s ms) s.fs.length).2.row[j]=q
   intro hqn hrc HTS;have hqv:q<o.vs.length:=by rw[HH.o.2.2.1];exact hqn
   have hqI:(q:Int)<(o.vs.length:Int):=by omega
   have HCS:Hid (C.size=C.size/\q<C.size):=by
    refine⟨rfl,?_⟩
    rcases Nat.lt_or_ge q C.size with h1|h1
    ·exact h1
    ·have h2:=hgc q (by rw[HTL.o];exact hqv)
     rw[Array.getElem?_eq_none h1]at h2;cases h2
   have hOc:=zbH HI.o.2.2.2.1;have hSc:=zbH HI.o.2.2.2.2.1;have hzw:w1.heap.size<wr.heap.size:=(gES HI.o.2.2.2.1).1;have HST:Hid (zJ wr (some (aD g 0)) (yc (decided s ms) ((zL (zo s ms) s.fs.length).2.row.take j) o.vs)):=HI.o.1.at (by rw[HTL.o];unfold maxLen;omega) HSML.o;have HBD:Hid (Bw w wr.drew/\Bw wr wr.drew):=⟨HI.o.2.2.2.2.2.2.drew,(bRf _ _).drew⟩
   have HGH:=hid hgh;clear hgh hgc;go_wp2_with fail
   clear hrc;have hbd:=HBD.o.2;have hOd:=za hOc hzw hbd;have hSd:=za hSc (by omega) hbd
   have HDV:Hid (∀W,Bw wr W->Calls Tryz.prog 261 #[.agg #[.s s.kd,.l fa s.fs.length fcap],.l ma ms.length mcap,.l (some (aD g 0)) o.vs.length dap,.i (q:Int)] W fun e w'=>e=.returned (.s (decided s ms q (yc (decided s ms) ((zL (zo s ms) s.fs.length).2.row.take j) o.vs)))/\Bw W w'):=by
    intro W hb;have hbw:=HI.o.2.2.2.2.2.2.trans (hb.mono HI.o.2.2.2.2.2.2.size);have h:=zh5 s ms (yc (decided s ms) ((zL (zo s ms) s.fs.length).2.row.take j) o.vs) q fa ma (some (aD g 0)) fcap mcap dap W (HH.o.1.mono hbw) (HH.o.2.1.mono hbw) (HST.o.mono hb) (by rw[HTL.o];exact HH.o.2.2.1) hqn;rw[HTL.o]at h;exact h
   go_region_held3 (fun w'=>(∀k,w'.cell? (aD w1.heap.size k)=(#[.s o.kd,.s o.nm,.s o.tm,.l (some (aD g 0)) o.vs.length dap,.bool o.en,.l a' o.hs.length dap',.i o.vr]:AV)[k]?)/\∀k,w'.cell? (aD w.heap.size k)=(#[.s s.kd,.l fa s.fs.length fcap]:AV)[k]?) (first|(refine⟨fun k=>?_,fun k=>?_⟩;rw[hOd];rw[hSd])|(refine⟨fun k=>?_,fun k=>?_⟩;rw[hqo];rw[hqs])) (first
    | (go_at_call 261;refine(HDV.o _ hbd).mono ?_;rintro e w5⟨rfl,hb5⟩;have hbd:=hbd.trans (hb5.mono hbd.size);have hOd:=za hOc hzw hbd;have hSd:=za hSc (by omega) hbd;have hg5:=(hbd.block g (by omega)).trans HGH.o;have hcg:w5.cell? (aD g q)=some (C[q]'HCS.o.2):=(by rw[cell_of_block hg5];exact Array.getElem?_eq_getElem HCS.o.2);have hfg:w5.frozen? (aD g q)=false:=zl hg5;have hqo:∀k,(w5.setCell (aD g q) (.s (decided s ms q (yc (decided s ms) ((zL (zo s ms) s.fs.length).2.row.take j) o.vs)))).cell? (aD w1.heap.size k)=(#[.s o.kd,.s o.nm,.s o.tm,.l (some (aD g 0)) o.vs.length dap,.bool o.en,.l a' o.hs.length dap',.i o.vr]:AV)[k]?:=(fun k=>(yu (by show w1.heap.size≠g;omega)).trans (hOd k));have hqs:∀k,(w5.setCell (aD g q) (.s (decided s ms q (yc (decided s ms) ((zL (zo s ms) s.fs.length).2.row.take j) o.vs)))).cell? (aD w.heap.size k)=(#[.s s.kd,.l fa s.fs.length fcap]:AV)[k]?:=(fun k=>(yu (by show w.heap.size≠g;omega)).trans (hSd k));have HBE:Hid (Bw wr w5):=hbd;clear hb5 hg5))
   go_wp2_with fail
   obtain⟨i1,i2,i3,i4,i5,i6,i7⟩:=HI.o;have hE:=HBE.o;refine⟨⟨j+1,by omega,by rw[wrap_one (by have:=HRL.o;omega)],?_,(i2.mono hE).setCell _ hgm _,(Below.heap_setCell _ _ _ _ (by show w.heap.size+1+1≠g;omega)).trans ((hE.block _ (by omega)).trans i3),(Below.heap_setCell _ _ _ _ (by show w1.heap.size≠g;omega)).trans ((hE.block _ hzw).trans i4),(Below.heap_setCell _ _ _ _ (by show w.heap.size≠g;omega)).trans ((hE.block _ (by omega)).trans i5),?_,(i7.trans (hE.mono i7.size)).setCell (p:=(aD g q)) (by show w.heap.size<=g;omega) _⟩,zfJ hlt (by have:=HRL.o;omega)⟩
   ·rw[HTS.o];exact(i1.mono hE).set q _
   ·refine za6 (jD i6 hE) (fun g' hg'=>Below.heap_setCell _ _ _ _ ?_)
    have:=(i6.lt g' hg').1
    show g'≠g
    omega
  ·have e:j=(zL (zo s ms) s.fs.length).2.row.length:=by omega
   obtain⟨i1,i2,i3,i4,i5,i6,i7⟩:=HI.o;rw[e,tOl (Nat.le_refl _)]at i1;have hRc:∀k,wr.cell? (aD (w.heap.size+1+1) k)=(oZ:AV)[k]?:=fun k=>cell_of_block i3
   have hRf:∀k,wr.frozen? (aD (w.heap.size+1+1) k)=false:=fun k=>zl i3
   have hOc:=zbH i4;have HX:=zcl i1 i2 i7;clear i1 i2 i3 i4 i5 i6 i7 HI;subst e;go_wp2_with fail
   refine bodyPost_ret (v:=(.agg #[.s o.kd,.s o.nm,.s o.tm,.l a o.vs.length dap,.bool o.en,.l a' o.hs.length dap',.i o.vr])) (by simp[results,Tryz.results247,go_sem,hRc]) rfl ?_;obtain⟨ht,ht',hB⟩:=HX.o;exact⟨a,dap,a',dap',m,rfl,(jZ ht _ (by omega) _ _ _ _ _ _ _).low (by omega),HT.o.2.1,by have:=HT.o.2.2.1;omega,jZ ht' _ (by have:=HT.o.2.2.1;omega) _ _ _ _ _ _ _,zaV hB _ (by omega) _ _ _ _ _ _ _⟩
def jm (ss:List Shp)(ms:List Mnd)(o:Ob):Bool:=zC ss o.kd&&(decide (o.vs.length=(shapeOf ss o.kd).fs.length)&&yx ss ms)
theorem zeZ {ss:List Shp}{v:BA}(h:zC ss v=true):∃i,∃hi:i<ss.length,shapeOf ss v=ss[i]:=by
 unfold zC at h;rw[List.any_eq_true]at h;obtain⟨x,hx,he⟩:=h;unfold shapeOf
 cases hf:ss.find? (fun s=>decide (s.kd=v)) with
 | none=>rw[List.find?_eq_none]at hf;exact absurd he (hf x hx)
 | some y=>
  obtain⟨i,hi,rfl⟩:=List.mem_iff_getElem.1 (List.mem_of_find?_eq_some hf);exact⟨i,hi,rfl⟩
theorem zdk {ss:List Shp}{ms:List Mnd}{o:Ob}(h:jm ss ms o=true):o.vs.length=(shapeOf ss o.kd).fs.length/\(shapeOf ss o.kd).fs.length<=6/\(∀q,q<(shapeOf ss o.kd).fs.length->∀x∈yE (shapeOf ss o.kd) ms q,0<=x/\x<(shapeOf ss o.kd).fs.length)/\(zL (zo (shapeOf ss o.kd) ms) (shapeOf ss o.kd).fs.length).1=true:=by
 unfold jm at h;simp only[Bool.and_eq_true,decide_eq_true_eq]at h;obtain⟨hk,hl,hm⟩:=h;obtain⟨i,hi,e⟩:=zeZ hk;unfold yx at hm;simp only[Bool.and_eq_true,decide_eq_true_eq]at hm;obtain⟨⟨⟨h12,hs⟩,ha⟩,hr⟩:=hm;rw[e]at hl ⊢;refine⟨hl,zgj hs i hi,zke hs ha i hi,?_⟩
 have:=List.all_eq_true.1 hr ss[i] (List.getElem_mem hi)
 exact this
def zhP (ss:List Shp)(ms:List Mnd)(o:Ob):List BA:=yc (decided (shapeOf ss o.kd) ms) (zL (zo (shapeOf ss o.kd) ms) (shapeOf ss o.kd).fs.length).2.row o.vs
def zcT (ss:List Shp)(ms:List Mnd)(o:Ob):List BA:=if jm ss ms o=true then zhP ss ms o else o.vs
def zg6 (ss:List Shp)(o:Ob):Ob:=⟨o.kd,o.nm,o.tm,zaq (shapeOf ss o.kd).fs o.vs,o.en,o.hs,o.vr⟩
def zce (ss:List Shp)(ms:List Mnd)(o:Ob):List BA:=if jm ss ms o=true then zhP ss ms (zg6 ss o) else o.vs
theorem zpn {ss:List Shp}{ms:List Mnd}{o:Ob}(h:jm ss ms o=true):(zg6 ss o).vs.length=o.vs.length:=jc (zdk h).1
theorem zgU {fs:List Fld}{vs:List BA}(hf:zcf fs)(hv:∀s∈vs,s.size<=maxLen)(hl:vs.length=fs.length):∀s∈zaq fs vs,s.size<=maxLen:=by
 intro s hm;obtain⟨i,hi,rfl⟩:=List.mem_iff_getElem.1 hm;have h2:=jc hl;have e:(zaq fs vs)[i]=zaD (fs[i]'(by omega)) (vs[i]'(by omega)):=by simp[zaq]
 rw[e];unfold zaD
 split
 ·exact(hf.small i (by omega)).1.df
 ·exact hv _ (List.getElem_mem _)
theorem zqf (o:Ob)(us:List BA)(hnn:us.length=o.vs.length)(s:Shp)(ms:List Mnd)(fa ma ova oha:OA)(fcap mcap cap cap':Nat)(w:World)(hf:yj w fa s.fs)(hm:qZ w ma ms)(hsm:o.Small)(ho:zJ w ova us)(ho':zJ w oha o.hs)(hA:znw ova us)(hA':znw oha o.hs)(hl:o.vs.length<=1048576)(hl':o.hs.length<=1048576)(hc:o.vs.length=s.fs.length)
 (hml:ms.length<=1048576) (hn:s.fs.length<=6) (hrd:∀q,q<s.fs.length->∀x∈yE s ms q,0<=x/\x<s.fs.length) (hwk:(zL (zo s ms) s.fs.length).1=true) :
 Calls Tryz.prog 247 #[.agg #[.s s.kd,.l fa s.fs.length fcap],.l ma ms.length mcap,.agg #[.s o.kd,.s o.nm,.s o.tm,.l ova o.vs.length cap,.bool o.en,.l oha o.hs.length cap',.i o.vr]] w
  fun e w'=>∃a dap a' dap' m,e=.returned (.agg #[.s o.kd,.s o.nm,.s o.tm,.l a o.vs.length dap,.bool o.en,.l a' o.hs.length dap',.i o.vr])/\zA w.heap.size w' a (yc (decided s ms) (zL (zo s ms) s.fs.length).2.row us)/\(∀g,a=some g->g.block<m)/\w.heap.size<=m/\zA m w' a' o.hs/\Bw w w':=by
 have h:=zpd ⟨o.kd,o.nm,o.tm,us,o.en,o.hs,o.vr⟩ s ms fa ma ova oha fcap mcap cap cap' w hf hm ⟨⟨hsm.kd,hsm.nm,hsm.tm⟩,ho,ho'⟩ hA hA' (by show us.length<=_;omega) hl' (by show us.length=_;omega) hml hn hrd hwk;simp only[hnn]at h;exact h
def zbE (l:Lw)(o:Ob):List BA:=zhP l.ss l.ms (zg6 l.ss o)
theorem zcW {l:Lw}{o:Ob}(h:jm l.ss l.ms o=true):(zbE l o).length=o.vs.length:=by
 unfold zbE;rw[<- zpn h];exact jY _ _ _
set_option maxRecDepth 20000 in
theorem zlw (l:Lw)(a b c:OA)(ca cb cc:Nat)(o:Ob)(va ha:OA)(cap cap':Nat)(w:World)(hL:yH w l a b c)(hml:l.ms.length<=1048576)(ho:zab w o va ha)(hl:o.vs.length<=1048576)(hl':o.hs.length<=1048576)(hmd:jm l.ss l.ms o=true) :
 Calls Tryz.prog 220 #[.agg #[.l a l.ss.length ca,.l b l.ms.length cb,.l c l.ts.length cc],.agg #[.s o.kd,.s o.nm,.s o.tm,.l va o.vs.length cap,.bool o.en,.l ha o.hs.length cap',.i o.vr]] w
  fun e w'=>∃e0 dap e1 dap',e=.returned (.agg #[.s o.kd,.s o.nm,.s o.tm,.l e0 o.vs.length dap,.bool o.en,.l e1 o.hs.length dap',.i o.vr])/\zA w.heap.size w' e0 (zbE l o)/\Bw w w':=by
 have HH:=zcl hL ho ho.vals.len;have HFA:=hid (zdk hmd);clear hL ho hmd;go_enter Tryz.func220,Tryz.ntmps220;go_wp2_with fail
 have hb2:=jR w (.cells #[.l a l.ss.length ca,.l b l.ms.length cb,.l c l.ts.length cc] 44) (.cells (oC o va ha cap cap') 145) (.cells oZ 145);refine(qB _ _ l.ss o.kd _ (HH.o.1.ss.mono hb2)).mono ?_;rintro e w1⟨fa,fcap,rfl,hfl0,hb1⟩;have HFL:=hid (hfl0.mono hb1);have hX0:∀j,w1.cell? (aD w.heap.size j)=(#[.l a l.ss.length ca,.l b l.ms.length cb,.l c l.ts.length cc]:AV)[j]?:=fun j=>cell_of_block ((hb1.block w.heap.size (by simp;omega)).trans (zcv _ _ _ _))
 have hX1:∀j,w1.cell? (aD (w.heap.size+1) j)=((oC o va ha cap cap'):AV)[j]?:=fun j=>cell_of_block ((hb1.block (w.heap.size+1) (by simp)).trans (zhg _ _ _ _))
 have HR1:Hid (w1.heap[w.heap.size+1+1]?=some (.cells oZ 145)):=(hb1.block (w.heap.size+1+1) (by simp)).trans (zcA _ _ _ _);have hz2:w.heap.size+1+1<w1.heap.size:=by have:=hb1.size;simp at this;omega
 have hz1:w.heap.size+1<w1.heap.size:=by omega
 have hz0:w.heap.size<w1.heap.size:=by omega
 have hB1:Bw w w1:=hb2.trans (hb1.mono (by simp;omega));clear hb1 hfl0 hb2;go_wp2_with fail
 have hbs:=(bRf w1.heap.size w1).alloc (Nat.le_refl _) (.cells #[.s (shapeOf l.ss o.kd).kd,.l fa (shapeOf l.ss o.kd).fs.length fcap] 139);have hRW:=(hbs.block _ hz2).trans HR1.o;have hzW:=nLt hz2 hbs.size;have hBW:=hB1.trans (hbs.mono hB1.size);have hFW:=HFL.o.mono hbs;clear hbs;obtain⟨W2,hW2⟩:=xN ((w1.alloc (.cells #[.s (shapeOf l.ss o.kd).kd,.l fa (shapeOf l.ss o.kd).fs.length fcap] 139)));have hS2:∀j,W2.drew.cell? (aD w1.heap.size j)=(#[.s (shapeOf l.ss o.kd).kd,.l fa (shapeOf l.ss o.kd).fs.length fcap]:AV)[j]?:=by rw[hW2];exact zn w1 _ _
 have hS1:∀j,W2.drew.cell? (aD (w.heap.size+1) j)=((oC o va ha cap cap'):AV)[j]?:=by rw[hW2];exact za hX1 hz1 (bAl _ _).drew
 have hS0:∀j,W2.drew.cell? (aD w.heap.size j)=(#[.l a l.ss.length ca,.l b l.ms.length cb,.l c l.ts.length cc]:AV)[j]?:=by rw[hW2];exact za hX0 hz0 (bAl _ _).drew
 have hzs:w1.heap.size<W2.drew.heap.size:=by rw[hW2];show w1.heap.size<(w1.alloc (.cells #[.s (shapeOf l.ss o.kd).kd,.l fa (shapeOf l.ss o.kd).fs.length fcap] 139)).heap.size;simp
 rw[<- hW2]at hRW hzW hBW hFW ⊢;clear hW2 hX1 hX0;have hb:=(bRf W2.heap.size W2).drew;have hlW:W2.heap.size=W2.drew.heap.size:=rfl;have hzo:w.heap.size+1<W2.drew.heap.size:=by omega
 have hzl:w.heap.size<W2.drew.heap.size:=by omega
 go_region_held3 (fun w'=>(∀j,w'.cell? (aD w.heap.size j)=(#[.l a l.ss.length ca,.l b l.ms.length cb,.l c l.ts.length cc]:AV)[j]?)/\(∀j,w'.cell? (aD (w.heap.size+1) j)=(#[.s o.kd,.s o.nm,.s o.tm,.l va o.vs.length cap,.bool o.en,.l ha o.hs.length cap',.i o.vr]:AV)[j]?)/\∀j,w'.cell? (aD w1.heap.size j)=(#[.s (shapeOf l.ss o.kd).kd,.l fa (shapeOf l.ss o.kd).fs.length fcap]:AV)[j]?) (first|exact⟨fun j=>by rw[hS0],fun j=>by rw[hS1],fun j=>by rw[hS2]⟩|exact⟨fun j=>by rw[hS5],fun j=>by rw[hS3],fun j=>by rw[hS4]⟩) (first
  | (go_at_call 248;refine(zoP o (shapeOf l.ss o.kd).kd (shapeOf l.ss o.kd).fs _ va ha _ cap cap' _ (by exact hFW.mono hb) (by exact HH.o.2.1.mono (hBW.trans (hb.mono hBW.size))) hl hl' HFA.o.1).mono ?_;rintro e w5⟨a5,dap5,a5',dap5',m5,rfl,ht5,hm5,hsm5,ht5',hb5⟩;have hS0:=za hS0 hzl hb5;have hS1:=za hS1 hzo hb5;have hS2:=za hS2 hzs hb5;have hb:=hb.trans (hb5.mono hb.size);have hO5:zJ w5 a5 (zaq (shapeOf l.ss o.kd).fs o.vs):=ht5.at (by rw[jc HFA.o.1];exact HH.o.2.2) (zgU hFW.smalls HH.o.2.1.vals.small HFA.o.1);have hO5':zJ w5 a5' o.hs:=ht5'.at HH.o.2.1.holds.len HH.o.2.1.holds.small;have hA5:=ht5.zsz;have hA5':=ht5'.zsz;clear ht5 hm5 hsm5 ht5' hb5)
  | (go_at_call 247;refine(zqf o (zaq (shapeOf l.ss o.kd).fs o.vs) (jc HFA.o.1) (shapeOf l.ss o.kd) l.ms _ _ _ _ _ _ _ _ _ (by exact hFW.mono hb) (by exact HH.o.1.ms.mono (hBW.trans (hb.mono hBW.size))) HH.o.2.1.small (by exact hO5) (by exact hO5') hA5 hA5' hl hl' HFA.o.1 hml HFA.o.2.1 HFA.o.2.2.1 HFA.o.2.2.2).mono ?_;rintro e w6⟨e0,dap,e1,dap',m,rfl,ht,hm,hsm,ht',hb6⟩;have hR6:w6.heap[w.heap.size+1+1]?=some (.cells #[.s ByteArray.empty,.s ByteArray.empty,.s ByteArray.empty,.l none 0 0,.bool false,.l none 0 0,.i 0] 145):=((hb.trans (hb6.mono hb.size)).block (w.heap.size+1+1) hzW).trans hRW;have hS0:=fun j=>(hb6.cell (p:=(aD w.heap.size j)) (nLt hzl hb.size)).trans (hS0 j);have hS1:=fun j=>(hb6.cell (p:=(aD (w.heap.size+1) j)) (nLt hzo hb.size)).trans (hS1 j);have hS2:=fun j=>(hb6.cell (p:=(aD w1.heap.size j)) (nLt hzs hb.size)).trans (hS2 j);have hS5:=fun j=>(zh3 (g:=w.heap.size+1+1) (by omega:w.heap.size≠w.heap.size+1+1) (v0:=.s o.kd) (v1:=.s o.nm) (v2:=.s o.tm) (v3:=.l e0 o.vs.length dap) (v4:=.bool o.en) (v5:=.l e1 o.hs.length dap') (v6:=.i o.vr)).trans (hS0 j);have hS3:=fun j=>(zh3 (g:=w.heap.size+1+1) (by omega:w.heap.size+1≠w.heap.size+1+1) (v0:=.s o.kd) (v1:=.s o.nm) (v2:=.s o.tm) (v3:=.l e0 o.vs.length dap) (v4:=.bool o.en) (v5:=.l e1 o.hs.length dap') (v6:=.i o.vr)).trans (hS1 j);have hS4:=fun j=>(zh3 (g:=w.heap.size+1+1) (by omega:w1.heap.size≠w.heap.size+1+1) (v0:=.s o.kd) (v1:=.s o.nm) (v2:=.s o.tm) (v3:=.l e0 o.vs.length dap) (v4:=.bool o.en) (v5:=.l e1 o.hs.length dap') (v6:=.i o.vr)).trans (hS2 j);have hRc:=zl1 hR6;have hRf:=zpE hR6;have hsz5:=hb.size;have hb:=hb.trans (hb6.mono hb.size);clear hb6))
 go_wp2_with fail
 refine bodyPost_ret (v:=(.agg #[.s o.kd,.s o.nm,.s o.tm,.l e0 o.vs.length dap,.bool o.en,.l e1 o.hs.length dap',.i o.vr])) (by simp[results,Tryz.results220,go_sem,hRc]) rfl ?_;have hB:=hBW.trans (hb.mono hBW.size);have h2:=hzW;exact⟨e0,dap,e1,dap',rfl,(jZ (ht.low (lo':=w.heap.size+1+1+1) (by omega)) _ (by omega) _ _ _ _ _ _ _).low (by omega),zaV hB _ (by omega) _ _ _ _ _ _ _⟩
theorem zpM {ss:List Shp}{v:BA}(h:zC ss v=true):(shapeOf ss v).kd=v:=by
 unfold zC at h;rw[List.any_eq_true]at h;obtain⟨x,hx,he⟩:=h;unfold shapeOf
 cases hf:ss.find? (fun s=>decide (s.kd=v)) with
 | none=>rw[List.find?_eq_none]at hf;exact absurd he (hf x hx)
 | some y=>simpa using List.find?_some hf
theorem za0 {ss:List Shp}{ms:List Mnd}{o:Ob}(hm:yx ss ms=true):jm ss ms o=zH ss o:=by
 unfold jm zH;rw[hm,Bool.and_true]
structure zsg (ss:List Shp)(ms:List Mnd)(o:Ob)(pl:List Nat):Prop where
 names:yA (shapeOf ss o.kd) ms (shapeOf ss o.kd).fs.length=pl.map (zbj (shapeOf ss o.kd))
 zqH:zlu (zo (shapeOf ss o.kd) ms) (shapeOf ss o.kd).fs.length pl
 place:∀q (h:q<(shapeOf ss o.kd).fs.length),zY (shapeOf ss o.kd).fs (shapeOf ss o.kd).fs[q].nm=(q:Int)
 kd:(shapeOf ss o.kd).kd=o.kd
 few:(shapeOf ss o.kd).fs.length<=6
 reads:∀q,q<(shapeOf ss o.kd).fs.length->∀x∈yE (shapeOf ss o.kd) ms q,0<=x/\x<(shapeOf ss o.kd).fs.length
 len:o.vs.length=(shapeOf ss o.kd).fs.length
 mends:ms.length<=12
 res:zhP ss ms o=yc (decided (shapeOf ss o.kd) ms) pl o.vs
theorem rowOf {ss:List Shp}{ms:List Mnd}{o:Ob}(hm:yx ss ms=true)(hc:zH ss o=true):zsg ss ms o (greedy (zo (shapeOf ss o.kd) ms) (shapeOf ss o.kd).fs.length (shapeOf ss o.kd).fs.length):=by
 have hmd:jm ss ms o=true:=by rw[za0 hm];exact hc
 obtain⟨hl,h6,hr,hw⟩:=zdk hmd;unfold zH at hc;simp only[Bool.and_eq_true]at hc;obtain⟨i,hi,e⟩:=zeZ hc.1;have hkd:=zpM hc.1;unfold yx at hm;simp only[Bool.and_eq_true,decide_eq_true_eq]at hm;obtain⟨⟨⟨h12,hs⟩,ha⟩,_⟩:=hm
 have hrd:∀p,p<(shapeOf ss o.kd).fs.length->∀q∈zo (shapeOf ss o.kd) ms p,q<(shapeOf ss o.kd).fs.length:=by
  intro p hp q hq;unfold zo at hq;obtain⟨x,hx,rfl⟩:=List.mem_map.1 hq
  have:=hr p hp x hx
  omega
 have htw:=zeu hrd hw
 have htg:zlu (zo (shapeOf ss o.kd) ms) (shapeOf ss o.kd).fs.length (greedy (zo (shapeOf ss o.kd) ms) (shapeOf ss o.kd).fs.length (shapeOf ss o.kd).fs.length):=
  (zcu _ _ _).zqH (zia htw.zmS _ (Nat.le_refl _))
 refine⟨?_,htg,?_,hkd,h6,hr,hl,h12,?_⟩
 ·rw[e];exact zel hs ha i hi _
 ·rw[e]
  intro q hq;refine zem ss[i].fs _ q hq ?_ rfl;unfold hasName;rw[List.any_eq_false];intro x hx;obtain⟨j,hj,rfl⟩:=List.mem_iff_getElem.1 hx;have hjq:j<q:=by simp at hj;omega
  simp only[List.getElem_take,decide_eq_true_eq];exact zeU hs i hi j q hjq hq
 ·exact znd htw htg (zlc _ _) o.vs hl
theorem zms {α:Type}(D:Nat->List α->α)(pl:List Nat)(vs:List α)(k:Nat)(h:k<pl.length):yc D (pl.take (k+1)) vs=(yc D (pl.take k) vs).set pl[k] (D pl[k] (yc D (pl.take k) vs)):=by
 unfold yc;rw[tSe h,List.foldl_append];rfl
theorem zq1 {lo:Nat}{w:World}{g:Nat}{us:List BA}(h:zA lo w (some (aD g 0)) us)(p:Nat)(hp:p<us.length):w.cell? (aD g p)=some (.s us[p]):=by
 rcases h with⟨h0,_⟩|⟨g',C,hg,_,hh,hc⟩
 ·cases h0
 ·cases hg;rw[cell_of_block hh,hc p hp]
theorem zra {lo:Nat}{w:World}{g p:Nat}{us:List BA}(h:zA lo w (some (aD g 0)) us)(_hp:p<us.length):w.frozen? (aD g p)=false:=by
 rcases h with⟨h0,_⟩|⟨g',C,hg,_,hh,hc⟩
 ·cases h0
 ·cases hg;exact zl hh
theorem zrj {w:World}{lo:Nat}{v:Value}{row:List BA}(h:w.ownsRow lo 9 1 v row.length (row.map Value.string)):∃ra rcap,v=.l ra row.length rcap/\(row≠[]->∃rb,ra=some (aD rb 0)/\lo<=rb/\rb<w.heap.size/\∀i (h:i<row.length),w.cell? (aD rb i)=some (.s row[i])):=by
 obtain⟨_,⟨h0,h1⟩|⟨g,cp,cur,h0,h1⟩⟩:=id h
 ·have e:=List.length_eq_zero_iff.1 h1
  subst e;exact⟨none,0,by rw[h0];rfl,fun hn=>absurd rfl hn⟩
 ·subst h0
  refine⟨some (aD g 0),cp,rfl,fun _=>⟨g,rfl,(h.lt g rfl).1,(h.lt g rfl).2,fun i hi=>?_⟩⟩;rw[h.cellAt i (by omega)]
  simp[hi]
theorem zkq (s:Shp)(ms:List Mnd)(o:Ob)(vs:List BA)(n:Nat)(hn:vs.length=n)(p:Nat)(fa ma va ha:OA)(fcap mcap vcap hcap:Nat)(w:World)(hf:yj w fa s.fs)(hm:qZ w ma ms)(hv:zJ w va vs)(hc:vs.length=s.fs.length)(hp:p<s.fs.length)(hix:zY s.fs s.fs[p].nm=(p:Int))(hkd:o.kd=s.kd)(hrd:∀x∈yE s ms p,0<=x/\x<s.fs.length) :
 Calls Tryz.prog 195 #[.l fa s.fs.length fcap,.l ma ms.length mcap,.agg #[.s o.kd,.s o.nm,.s o.tm,.l va n vcap,.bool o.en,.l ha o.hs.length hcap,.i o.vr],.s s.fs[p].nm] w fun e w'=>e=.returned (.s (decided s ms p vs))/\Bw w w':=by
 subst hn;exact zln s ms o vs p fa ma va ha fcap mcap vcap hcap w hf hm hv hc hp hix hkd hrd
set_option maxRecDepth 20000 in
theorem zmK (a0 ma:OA)(cap0 mcap:Nat)(ss:List Shp)(ms:List Mnd)(o:Ob)(b off b' off' cap cap':Nat)(w:World)(hw:yR w a0 ss)(hm:qZ w ma ms)(ho:zab w o (some (aD b off)) (some (aD b' off')))(hl:o.vs.length<=1048576)(hl':o.hs.length<=1048576)(hok:yx ss ms=true) :
 Calls Tryz.prog 139 #[.l a0 ss.length cap0,.l ma ms.length mcap,.agg #[.s o.kd,.s o.nm,.s o.tm,.l (some (aD b off)) o.vs.length cap,.bool o.en,.l (some (aD b' off')) o.hs.length cap',.i o.vr]] w (zgz o (zcT ss ms o) w):=by
 have hsl:=hw.len;unfold maxLen at hsl;have HW:=ji hw hm;clear hw hm
 by_cases hc:zH ss o=true
 rotate_left
 ·have HC:Hid (zH ss o=false):=by simpa[Hid] using hc
  have HRES:Hid (zcT ss ms o=o.vs):=by unfold Hid zcT;rw[if_neg (by rw[za0 hok];exact hc)]
  have HH:=hid ho;clear hc ho;go_enter Tryz.func139,Tryz.ntmps139;go_wp2_with fail
  refine(zkV o b off b' off' cap cap' _ (HH.o.mono (zx w (.cells #[.s o.kd,.s o.nm,.s o.tm,.l (some (aD b off)) o.vs.length cap,.bool o.en,.l (some (aD b' off')) o.hs.length cap',.i o.vr] 145) (.cells #[.s ByteArray.empty,.s ByteArray.empty,.s ByteArray.empty,.l none 0 0,.bool false,.l none 0 0,.i 0] 145))) hl hl').mono ?_;rintro e w1⟨a,dap,a',dap',m,rfl,ht,hm,hsm,ht',hb1⟩;have HO1:Hid (w1.heap[w.heap.size]?=some (.cells (oC o (some (aD b off)) (some (aD b' off')) cap cap') 145)):=(hb1.block w.heap.size (by simp;omega)).trans (yt _ _ _).1;have HR1:Hid (w1.heap[w.heap.size+1]?=some (.cells oZ 145)):=(hb1.block (w.heap.size+1) (by simp)).trans (yt _ _ _).2;have hX1:∀j,w1.cell? (aD w.heap.size j)=((oC o (some (aD b off)) (some (aD b' off')) cap cap'):AV)[j]?:=fun j=>cell_of_block HO1.o
  have hz1:w.heap.size+1<w1.heap.size:=by have:=hb1.size;simp at this;omega
  have hz0:w.heap.size<w1.heap.size:=by omega
  have hB1:Bw w w1:=(zx _ _ _).trans (hb1.mono (by simp;omega))
  have HT:Hid (zA (w.heap.size+1+1) w1 a o.vs/\(∀g,a=some g->g.block<m)/\w.heap.size+1+1<=m/\zA m w1 a' o.hs):=by
   simp only[World.size_alloc]at ht hsm;exact⟨ht,hm,hsm,ht'⟩
  clear ht hm hsm ht' hb1;go_wp2_with fail
  have hbs:=(bRf w1.heap.size w1).alloc (Nat.le_refl _) (.cells (oC o a a' dap dap') 145);have hBs:=hB1.trans (hbs.mono hB1.size);refine(zdC a0 cap0 ss o _ _ cap cap' _ (HW.o.1.mono hBs) (HH.o.mono hBs) HC.o).mono ?_;rintro e w2⟨v,rfl,hb2⟩;have hba:=hbs.trans (hb2.mono hbs.size);have hR2:=(hba.block _ hz1).trans HR1.o;have hU2:∀j,w2.cell? (aD w1.heap.size j)=((oC o a a' dap dap'):AV)[j]?:=za (zn w1 _ _) (by simp) hb2;have hRc:∀j,w2.cell? (aD (w.heap.size+1) j)=(oZ:AV)[j]?:=fun j=>cell_of_block hR2
  have hRf:∀j,w2.frozen? (aD (w.heap.size+1) j)=false:=fun j=>zl hR2
  have HX:=zcl (HT.o.1.mono hba) (HT.o.2.2.2.mono hba) (hB1.trans (hba.mono hB1.size));clear hbs hBs hb2 hba hR2 hX1;go_wp2_with fail
  refine bodyPost_ret (v:=(.agg #[.s o.kd,.s o.nm,.s o.tm,.l a o.vs.length dap,.bool o.en,.l a' o.hs.length dap',.i o.vr])) (by simp[results,Tryz.results139,go_sem,hRc]) rfl ?_;obtain⟨ht,ht',hB⟩:=HX.o;rw[HRES.o];exact⟨a,dap,a',dap',m,rfl,(jZ ht _ (by omega) _ _ _ _ _ _ _).low (by omega),HT.o.2.1,by have:=HT.o.2.2.1;omega,jZ ht' _ (by have:=HT.o.2.2.1;omega) _ _ _ _ _ _ _,zaV hB _ (by omega) _ _ _ _ _ _ _⟩
 have HC:=hid hc;have HRO:=hid (rowOf hok hc);have HRES:Hid (zcT ss ms o=zhP ss ms o):=by unfold Hid zcT;rw[if_pos (by rw[za0 hok];exact hc)]
 have HK:Hid (zC ss o.kd=true):=by unfold zH at hc;simp only[Bool.and_eq_true]at hc;exact hc.1
 have HH:=hid ho;clear hc ho;go_enter Tryz.func139,Tryz.ntmps139;go_wp2_with fail
 refine(zkV o b off b' off' cap cap' _ (HH.o.mono (zx w (.cells #[.s o.kd,.s o.nm,.s o.tm,.l (some (aD b off)) o.vs.length cap,.bool o.en,.l (some (aD b' off')) o.hs.length cap',.i o.vr] 145) (.cells #[.s ByteArray.empty,.s ByteArray.empty,.s ByteArray.empty,.l none 0 0,.bool false,.l none 0 0,.i 0] 145))) hl hl').mono ?_;rintro e w1⟨a,dap,a',dap',m,rfl,ht,hm,hsm,ht',hb1⟩;have HO1:Hid (w1.heap[w.heap.size]?=some (.cells (oC o (some (aD b off)) (some (aD b' off')) cap cap') 145)):=(hb1.block w.heap.size (by simp;omega)).trans (yt _ _ _).1;have HR1:Hid (w1.heap[w.heap.size+1]?=some (.cells oZ 145)):=(hb1.block (w.heap.size+1) (by simp)).trans (yt _ _ _).2;have hX1:∀j,w1.cell? (aD w.heap.size j)=((oC o (some (aD b off)) (some (aD b' off')) cap cap'):AV)[j]?:=fun j=>cell_of_block HO1.o
 have hz1:w.heap.size+1<w1.heap.size:=by have:=hb1.size;simp at this;omega
 have hz0:w.heap.size<w1.heap.size:=by omega
 have hB1:Bw w w1:=(zx _ _ _).trans (hb1.mono (by simp;omega))
 have HT:Hid (zA (w.heap.size+1+1) w1 a o.vs/\(∀g,a=some g->g.block<m)/\w.heap.size+1+1<=m/\zA m w1 a' o.hs):=by
  simp only[World.size_alloc]at ht hsm;exact⟨ht,hm,hsm,ht'⟩
 clear ht hm hsm ht' hb1;go_wp2_with fail
 have hbs:=(bRf w1.heap.size w1).alloc (Nat.le_refl _) (.cells (oC o a a' dap dap') 145);have hBs:=hB1.trans (hbs.mono hB1.size);refine(zfU a0 cap0 ss o _ _ cap cap' w _ HW.o.1 hBs HC.o).mono ?_;rintro e w2⟨fa,fcap,rfl,hf,hb2⟩;have HFA:=hid hf;have hba:=hbs.trans (hb2.mono hbs.size);have HR2:=hid ((hba.block _ hz1).trans HR1.o);have HO2:=hid ((hba.block _ hz0).trans HO1.o);have HU2:Hid (w2.heap[w1.heap.size]?=some (.cells (oC o a a' dap dap') 145)):=(hb2.block _ (by simp)).trans (alloc_at _ _);have HX2:=zcl (HT.o.1.mono hba) (HT.o.2.2.2.mono hba) (hB1.trans (hba.mono hB1.size));have hz2:=(gES HU2.o).1;have hX2:∀j,w2.cell? (aD w.heap.size j)=((oC o (some (aD b off)) (some (aD b' off')) cap cap'):AV)[j]?:=fun j=>cell_of_block HO2.o
 have hzo2:w.heap.size<w2.heap.size:=by omega
 clear hbs hBs hb2 hba hX1 hf;go_wp2_with fail
 refine(yN _ _ _ _ _ (HW.o.1.mono HX2.o.2.2) HK.o).mono ?_;rintro e w3⟨ix,hix,rfl,hsh,rfl⟩;have HSh:=hid hsh;clear hsh;obtain⟨sb,soff,rfl,hsb0,hsr⟩:=HW.o.1.rows (by rintro rfl;simp at hix);obtain⟨fa2,fcap2,hs0⟩:=hsr ix hix;have hs:=hs0.mono hsb0 HX2.o.2.2;have hck:=hs.kind;have hcl:=hs.list;have HF2:=hid hs0.flds;have hixI:(ix:Int)<(ss.length:Int):=by omega
 have hsbw:=nLt hsb0 HX2.o.2.2.size;clear hsr hs hs0;go_wp2_with fail
 refine(zlG fa2 ma fcap2 mcap ss[ix] ms _ (HF2.o.mono HX2.o.2.2) (HW.o.2.mono HX2.o.2.2) HRO.o.mends (by have:=HRO.o.few;rw[HSh.o]at this;exact this)).mono ?_;rintro e w4⟨v,rfl,hrow,hb4⟩;rw[<- HSh.o,HRO.o.names]at hrow;obtain⟨ra,rcap,rfl,hrw⟩:=zrj (by rw[List.length_map];rw[List.length_map]at hrow;exact hrow);rw[List.length_map];have HRO2:=HRO.o;have HX4:Hid (zA (w.heap.size+1+1) w4 a o.vs/\zA m w4 a' o.hs/\Bw w w4):=⟨HX2.o.1.mono hb4,HX2.o.2.1.mono hb4,HX2.o.2.2.trans (hb4.mono HX2.o.2.2.size)⟩
 have HR4:Hid (w4.heap[w.heap.size+1]?=some (.cells oZ 145)):=(hb4.block _ (by omega)).trans HR2.o;have HU4:Hid (w4.heap[w1.heap.size]?=some (.cells (oC o a a' dap dap') 145)):=(hb4.block _ hz2).trans HU2.o;have HZ4:Hid (w3.heap.size<=w4.heap.size):=hb4.size;clear hb4 hX2 hck hcl HSh HF2 HRO hixI hrow
 revert HRO2 HFA hrw
 generalize greedy (zo (shapeOf ss o.kd) ms) (shapeOf ss o.kd).fs.length (shapeOf ss o.kd).fs.length=pl
 intro HFA hrw hro;have HRW:Hid (zsg ss ms o pl):=hro;have HVS:Hid (zhP ss ms o=yc (decided (shapeOf ss o.kd) ms) pl o.vs):=hro.res
 have hpl6:pl.length<=6:=by
  have h1:=zbI pl (List.range (shapeOf ss o.kd).fs.length) hro.zqH.nodup (fun x hx=>List.mem_range.2 ((hro.zqH.mem x).1 hx));rw[List.length_range]at h1
  have:=hro.few
  omega
 clear hro;go_wp2_with fail
 go_loopw [11] (fun i wr=>∃k:Nat,k<=pl.length/\i=.i k/\zA (w.heap.size+1+1) wr a (yc (decided (shapeOf ss o.kd) ms) (pl.take k) o.vs)/\zA m wr a' o.hs/\wr.heap[w.heap.size+1]?=some (.cells #[.s ByteArray.empty,.s ByteArray.empty,.s ByteArray.empty,.l none 0 0,.bool false,.l none 0 0,.i 0] 145)/\wr.heap[w1.heap.size]?=some (.cells #[.s o.kd,.s o.nm,.s o.tm,.l a o.vs.length dap,.bool o.en,.l a' o.hs.length dap',.i o.vr] 145)/\Bw w wr/\w3.heap.size<=wr.heap.size/\(pl.map (zbj (shapeOf ss o.kd))≠[]->∃rb,ra=some (aD rb 0)/\w3.heap.size<=rb/\rb<wr.heap.size/\∀i (h:i<(pl.map (zbj (shapeOf ss o.kd))).length),wr.cell? (aD rb i)=some (.s (pl.map (zbj (shapeOf ss o.kd)))[i]))) (fun i _=>pl.length-(intOf i).toNat)
 case atStart=>exact⟨0,Nat.zero_le _,rfl,HX4.o.1,HX4.o.2.1,HR4.o,HU4.o,HX4.o.2.2,HZ4.o,hrw⟩
 case round=>
  obtain⟨k,hk,rfl,ht,ht',hR,hO,hB,hz3,hrr⟩:=hrel
  by_cases hlt:k<pl.length
  ·obtain⟨rb,rfl,hrb0,hrbz,hrc⟩:=hrr (by intro h;have:=congrArg List.length h;simp at this;rw[this]at hlt;simp at hlt)
   have hpn:pl[k]<(shapeOf ss o.kd).fs.length:=(HRW.o.zqH.mem _).1 (List.getElem_mem hlt);have hck:=hrc k (by rw[List.length_map];exact hlt);rw[List.getElem_map]at hck;have hnm:zbj (shapeOf ss o.kd) pl[k]=(shapeOf ss o.kd).fs[pl[k]].nm:=by unfold zbj;rw[getD_at _ _ _ hpn]
   rw[hnm]at hck;have HTS:Hid (yc (decided (shapeOf ss o.kd) ms) (pl.take (k+1)) o.vs=(yc (decided (shapeOf ss o.kd) ms) (pl.take k) o.vs).set pl[k] (decided (shapeOf ss o.kd) ms pl[k] (yc (decided (shapeOf ss o.kd) ms) (pl.take k) o.vs))):=zms _ pl o.vs k hlt;have HUS:Hid (∀x∈yc (decided (shapeOf ss o.kd) ms) (pl.take k) o.vs,x.size<=maxLen):=zco HW.o.2.small _ _ HH.o.vals.small;have HLV:Hid ((yc (decided (shapeOf ss o.kd) ms) (pl.take k) o.vs).length=o.vs.length):=jY _ _ _;have HRR:Hid (∀i (h:i<(pl.map (zbj (shapeOf ss o.kd))).length),wr.cell? (aD rb i)=some (.s (pl.map (zbj (shapeOf ss o.kd)))[i])):=hrc;clear hrr hrc hnm
   revert hck HTS hpn
   generalize pl[k]=p
   intro hpn hck HTS
   revert HTS HLV HUS ht
   generalize yc (decided (shapeOf ss o.kd) ms) (pl.take k) o.vs=us
   intro ht HUS HLV HTS;have hltI:(k:Int)<(pl.length:Int):=by omega
   have hpv:p<us.length:=by rw[HLV.o,HRW.o.len];exact hpn
   have hpI:(p:Int)<(o.vs.length:Int):=by have:=HRW.o.len;omega
   obtain⟨g,C,hga,hgl,hgh,hgc⟩:∃g C,a=some (aD g 0)/\w.heap.size+1+1<=g/\wr.heap[g]?=some (.cells C 9)/\∀i (h:i<us.length),C[i]?=some (.s us[i]):=by
    rcases ht with⟨_,h0⟩|h0
    ·rw[h0]at hpv;simp at hpv
    ·exact h0
   have hgm:g<m:=HT.o.2.1 _ hga;have hgw1:g<w1.heap.size:=HT.o.1.lt _ hga;have hgw:g<wr.heap.size:=by omega
   subst hga;have hUS:zJ wr (some (aD g 0)) us:=ht.at (by rw[HLV.o];exact HH.o.vals.len) HUS.o;have HJP:Hid (zY (shapeOf ss o.kd).fs (shapeOf ss o.kd).fs[p].nm=(p:Int)):=HRW.o.place p hpn;have hOc:∀j,wr.cell? (aD w1.heap.size j)=((oC o (some (aD g 0)) a' dap dap'):AV)[j]?:=fun j=>cell_of_block hO
   have hOz:w1.heap.size<wr.heap.size:=(gES hO).1;have hRk:(k:Int)<((pl.map (zbj (shapeOf ss o.kd))).length:Int):=by rw[List.length_map];exact hltI
   have hkr:wr.cell? (aD rb (0+k))=some (.s (shapeOf ss o.kd).fs[p].nm):=by rw[Nat.zero_add];exact hck
   have HX:Hid (zA (w.heap.size+1+1) wr (some (aD g 0)) us/\zA m wr a' o.hs/\wr.heap[w.heap.size+1]?=some (.cells oZ 145)/\wr.heap[w1.heap.size]?=some (.cells (oC o (some (aD g 0)) a' dap dap') 145)/\Bw w wr/\w3.heap.size<=wr.heap.size):=⟨ht,ht',hR,hO,hB,hz3⟩
   clear ht ht' hR hO hB hz3 hgh hgc;go_wp2_with fail
   have hb:=(bRf wr.heap.size wr).drew;have hS1:∀j,wr.drew.cell? (aD w1.heap.size j)=((oC o (some (aD g 0)) a' dap dap'):AV)[j]?:=hOc;have hS2:wr.drew.cell? (aD rb k)=some (.s (shapeOf ss o.kd).fs[p].nm):=hck;have hrg:rb≠g:=by omega
   have how:w1.heap.size≠g:=by omega
   clear hOc hck hkr
   go_region_held3 (fun w'=>(∀j,w'.cell? (aD w1.heap.size j)=(#[.s o.kd,.s o.nm,.s o.tm,.l (some (aD g 0)) o.vs.length dap,.bool o.en,.l a' o.hs.length dap',.i o.vr]:AV)[j]?)/\w'.cell? (aD rb k)=some (.s (shapeOf ss o.kd).fs[p].nm)) (first|exact⟨hS1,hS2⟩|exact⟨hS3,hS4⟩) (first
    | (go_at_call 190;refine(zdH HJP.o (qI _ _ (shapeOf ss o.kd).fs _ _ (by exact HFA.o.mono (HX.o.2.2.2.2.1.trans (hb.mono HX.o.2.2.2.2.1.size))))).mono ?_;rintro e w5⟨rfl,rfl⟩)
    | (go_at_call 195;refine(zkq (shapeOf ss o.kd) ms o us _ HLV.o p _ _ _ _ _ _ _ _ _ (by exact HFA.o.mono (HX.o.2.2.2.2.1.trans (hb.mono HX.o.2.2.2.2.1.size))) (by exact HW.o.2.mono (HX.o.2.2.2.2.1.trans (hb.mono HX.o.2.2.2.2.1.size))) (by exact hUS.mono hb) (by rw[HLV.o];exact HRW.o.len) hpn HJP.o HRW.o.kd.symm (HRW.o.reads p hpn)).mono ?_;rintro e w6⟨rfl,hb6⟩;have hb:=hb.trans (hb6.mono hb.size);have hS1:=za hS1 hOz hb6;have hS2:=(hb6.cell (p:=(aD rb k)) hrbz).trans hS2;have hU6:=hUS.mono hb;have hG:=HX.o.1.mono hb;clear hb6;have hS3:∀j,(w6.setCell (aD g p) (.s (decided (shapeOf ss o.kd) ms p us))).cell? (aD w1.heap.size j)=(#[.s o.kd,.s o.nm,.s o.tm,.l (some (aD g 0)) o.vs.length dap,.bool o.en,.l a' o.hs.length dap',.i o.vr]:AV)[j]?:=fun j=>(yu how).trans (hS1 j);have hS4:(w6.setCell (aD g p) (.s (decided (shapeOf ss o.kd) ms p us))).cell? (aD rb k)=some (.s (shapeOf ss o.kd).fs[p].nm):=(yu hrg).trans hS2;have hgc6:w6.cell? (aD g p)=some (.s us[p]):=zq1 hG p hpv;have hgf6:w6.frozen? (aD g p)=false:=zra hG hpv))
   go_wp2_with fail
   obtain⟨ht,ht',hR,hO,hB,hz3⟩:=HX.o;exact⟨⟨k+1,by omega,by go_num,by rw[HTS.o];exact(ht.mono hb).set p _,(ht'.mono hb).setCell _ hgm _,(Below.heap_setCell _ _ _ _ (by show w.heap.size+1≠g;omega)).trans ((hb.block _ (by omega)).trans hR),(Below.heap_setCell _ _ _ _ (by show w1.heap.size≠g;omega)).trans ((hb.block _ hOz).trans hO),(hB.trans (hb.mono hB.size)).setCell (p:=(aD g p)) (by show w.heap.size<=g;omega) _,by rw[World.size_setCell];exact Nat.le_trans hz3 hb.size,fun _=>⟨rb,rfl,hrb0,by rw[World.size_setCell];exact nLt hrbz hb.size,fun i hi=>(yu hrg).trans ((hb.cell (p:=(aD rb i)) hrbz).trans (HRR.o i hi))⟩⟩,zw hlt⟩
  ·have e:k=pl.length:=by omega
   subst e;rw[tOl (Nat.le_refl _),<- HVS.o]at ht;have hRc:∀j,wr.cell? (aD (w.heap.size+1) j)=(oZ:AV)[j]?:=fun j=>cell_of_block hR
   have hRf:∀j,wr.frozen? (aD (w.heap.size+1) j)=false:=fun j=>zl hR
   have hOc:∀j,wr.cell? (aD w1.heap.size j)=((oC o a a' dap dap'):AV)[j]?:=fun j=>cell_of_block hO
   have hOz:=(gES hO).1;have HX:=zcl ht ht' hB;clear ht ht' hB hR hO hrr;go_wp2_with fail
   refine bodyPost_ret (v:=(.agg #[.s o.kd,.s o.nm,.s o.tm,.l a o.vs.length dap,.bool o.en,.l a' o.hs.length dap',.i o.vr])) (by simp[results,Tryz.results139,go_sem,hRc]) rfl ?_;obtain⟨ht,ht',hB⟩:=HX.o;rw[HRES.o];exact⟨a,dap,a',dap',m,rfl,(jZ ht _ (by omega) _ _ _ _ _ _ _).low (by omega),HT.o.2.1,by have:=HT.o.2.2.1;omega,jZ ht' _ (by have:=HT.o.2.2.1;omega) _ _ _ _ _ _ _,zaV hB _ (by omega) _ _ _ _ _ _ _⟩
end Go.Proofs.YthdfpinbnncghaaGreat
