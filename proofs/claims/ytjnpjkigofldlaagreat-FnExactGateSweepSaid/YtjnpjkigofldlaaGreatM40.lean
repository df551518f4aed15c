import Derived.Test.YtjnpjkigofldlaaGreatM39
import Derived.Test.YtjnpjkigofldlaaGreatM36
import Derived.WideKeyEntry
set_option maxRecDepth 20000
set_option maxHeartbeats 4000000
namespace Go.Proofs.YtjnpjkigofldlaaGreat
open Go.RowKit
variable {ss:List Shp}{o:Ob}{l:Lw}{w:World}
theorem zqV (o:Ob)(s:Shp)(ms:List Mnd)(fa ma ova oha:OA)(fcap mcap cap cap':Nat)(w:World)(hf:yw w fa s.fs)(hm:qQ w ma ms)(ho:qY w o ova oha)(hA:zo8 ova o.vs)(hA':zo8 oha o.hs)(hl:o.vs.length<=1048576)(hl':o.hs.length<=1048576)(hc:o.vs.length=s.fs.length)
 (hml:ms.length<=1048576) (hn:s.fs.length<=6) (hrd:∀q,q<s.fs.length->∀x∈yC s ms q,0<=x/\x<s.fs.length) (hwk:(zG (zl s ms) s.fs.length).1=true) :
 Calls Tryz.prog 244 #[.agg #[.s s.kd,.l fa s.fs.length fcap],.l ma ms.length mcap,.agg (oC o ova oha cap cap')] w
  fun e w'=>∃a dap a' dap' m,e=.returned (.agg (oC o a a' dap dap'))/\zk w.heap.size w' a (zY (decided s ms) (zG (zl s ms) s.fs.length).2.row o.vs)/\(∀g,a=some g->g.block<m)/\w.heap.size<=m/\zk m w' a' o.hs/\Bw w w':=by
 have HH:Hid (yw w fa s.fs/\qQ w ma ms/\o.vs.length=s.fs.length/\ms.length<=1048576/\s.fs.length<=6/\(∀q,q<s.fs.length->∀x∈yC s ms q,0<=x/\x<s.fs.length)/\(∀x∈o.vs,x.size<=maxLen)):=⟨hf,hm,hc,hml,hn,hrd,ho.vals.small⟩
 have HWK:=hid hwk;clear hf hm hc hml hrd hwk;go_in;go_wp2_with fail
 refine(zkH o ova oha cap cap' _ (ho.mono (jc _ _ _ _)) hA hA' hl hl').mono ?_;rintro e w1⟨a,dap,a',dap',m,rfl,ht,hmm,hsm,ht',hb1⟩;have hX1:∀j,w1.cell? (aD w.heap.size j)=(#[.s s.kd,.l fa s.fs.length fcap]:AV)[j]?:=fun j=>cell_of_block ((hb1.block w.heap.size (by simp;omega)).trans (zcq _ _ _ _))
 have HS1:Hid (w1.heap[w.heap.size]?=some (.cells #[.s s.kd,.l fa s.fs.length fcap] 130)):=(hb1.block w.heap.size (by simp;omega)).trans (zcq _ _ _ _);have HR1:Hid (w1.heap[w.heap.size+1+1]?=some (.cells oZ 116)):=(hb1.block (w.heap.size+1+1) (by simp)).trans (zdv _ _ _ _);have HB1:Hid (Bw w w1):=(jc _ _ _ _).trans (hb1.mono (by simp;omega));have hz1:w.heap.size+1+1<w1.heap.size:=by have:=hb1.size;simp at this;omega
 have HT:Hid (zk (w.heap.size+1+1+1) w1 a o.vs/\(∀g,a=some g->g.block<m)/\w.heap.size+1+1+1<=m/\zk m w1 a' o.hs):=by
  simp only[World.size_alloc]at ht hsm;exact⟨ht,hmm,hsm,ht'⟩
 have hz0:w.heap.size<w1.heap.size:=by omega
 clear ht hmm hsm ht' hb1 ho;have hba:=(bRf w1.heap.size w1).alloc (Nat.le_refl _) (.cells (oC o a a' dap dap') 116);have HBA:=hid (HB1.o.trans (hba.mono HB1.o.size));have HBB:=hid hba;clear hba;go_wp2_with fail
 have h:=ziR s ms ma fa mcap fcap _ (HH.o.2.1.mono HBA.o) (HH.o.1.mono HBA.o) HH.o.2.2.2.1 HH.o.2.2.2.2.1 HH.o.2.2.2.2.2.1;rw[HWK.o]at h;refine h.mono ?_;rintro e w2⟨rv,rfl,hb2,hrow⟩;have hrow:=hrow rfl;obtain⟨ra,rcap,rfl⟩:=yY hrow;have HBC:=hid (HBB.o.trans (hb2.mono HBB.o.size))
 have HR2:Hid (w2.ownsRow (w1.heap.size+1) 3 1 (.l ra (zG (zl s ms) s.fs.length).2.row.length rcap) (zG (zl s ms) s.fs.length).2.row.length (zfa (zG (zl s ms) s.fs.length).2.row)):=by
  have:=hrow;rw[World.size_alloc]at this;exact this
 have HU2:Hid (w2.heap[w1.heap.size]?=some (.cells (oC o a a' dap dap') 116)):=(hb2.block _ (by simp)).trans (alloc_at _ _)
 have HTP:Hid (zl4 (zl s ms) s.fs.length (zG (zl s ms) s.fs.length).2.row):=zeF (fun p hp q hq=>by
  unfold zl at hq;obtain⟨x,hx,rfl⟩:=List.mem_map.1 hq
  have:=HH.o.2.2.2.2.2.1 p hp x hx
  omega) HWK.o
 have hz2:=(gES HU2.o).1
 have HRL:Hid ((zG (zl s ms) s.fs.length).2.row.length<=6):=by
  have h1:=zbX (zG (zl s ms) s.fs.length).2.row (List.range s.fs.length) HTP.o.nodup (fun x hx=>List.mem_range.2 ((HTP.o.mem x).1 hx));have h2:=HH.o.2.2.2.2.1;rw[List.length_range]at h1
  show _<=_;omega
 clear h hrow hb2 hX1;go_wp2
 go_loopw [22] (fun iv wr=>∃j:Nat,j<=(zG (zl s ms) s.fs.length).2.row.length/\iv=.i j/\zk (w.heap.size+1+1+1) wr a (zY (decided s ms) ((zG (zl s ms) s.fs.length).2.row.take j) o.vs)/\zk m wr a' o.hs/\wr.heap[w.heap.size+1+1]?=some (.cells oZ 116)/\wr.heap[w1.heap.size]?=some (.cells (oC o a a' dap dap') 116)/\wr.heap[w.heap.size]?=some (.cells #[.s s.kd,.l fa s.fs.length fcap] 130)/\wr.ownsRow (w1.heap.size+1) 3 1 (.l ra (zG (zl s ms) s.fs.length).2.row.length rcap) (zG (zl s ms) s.fs.length).2.row.length (zfa (zG (zl s ms) s.fs.length).2.row)/\Bw w wr) (fun iv _=>(zG (zl s ms) s.fs.length).2.row.length-(intOf iv).toNat)
 case atStart=>exact⟨0,Nat.zero_le _,rfl,HT.o.1.mono HBC.o,HT.o.2.2.2.mono HBC.o,(HBC.o.block _ hz1).trans HR1.o,HU2.o,(HBC.o.block _ hz0).trans HS1.o,HR2.o,HB1.o.trans (HBC.o.mono HB1.o.size)⟩
 case round=>
  obtain⟨j,hj,rfl,hinv⟩:=hrel;have HI:Hid (zk (w.heap.size+1+1+1) wr a (zY (decided s ms) ((zG (zl s ms) s.fs.length).2.row.take j) o.vs)/\zk m wr a' o.hs/\wr.heap[w.heap.size+1+1]?=some (.cells oZ 116)/\wr.heap[w1.heap.size]?=some (.cells (oC o a a' dap dap') 116)/\wr.heap[w.heap.size]?=some (.cells #[.s s.kd,.l fa s.fs.length fcap] 130)/\wr.ownsRow (w1.heap.size+1) 3 1 (.l ra (zG (zl s ms) s.fs.length).2.row.length rcap) (zG (zl s ms) s.fs.length).2.row.length (zfa (zG (zl s ms) s.fs.length).2.row)/\Bw w wr):=hinv;clear hinv
  by_cases hlt:j<(zG (zl s ms) s.fs.length).2.row.length
  ·have hltI:(j:Int)<((zG (zl s ms) s.fs.length).2.row.length:Int):=by omega
   have hqn:(zG (zl s ms) s.fs.length).2.row[j]<s.fs.length:=(HTP.o.mem _).1 (List.getElem_mem hlt)
   obtain⟨rg,rfl,hrc⟩:∃rg,ra=some (aD rg 0)/\wr.cell? (aD rg j)=some (.i (((zG (zl s ms) s.fs.length).2.row[j]:Nat):Int)):=by
    have hrow:=HI.o.2.2.2.2.2.1;obtain⟨_,⟨h0,h1⟩|⟨g,cp,cur,h0,h1⟩⟩:=id hrow
    ·rw[h1]at hlt;exact absurd hlt (by omega)
    ·cases h0
     refine⟨g,rfl,?_⟩;rw[hrow.cellAt j (by omega)]
     simp[zfa,hlt]
   have HTS:Hid ((zY (decided s ms) ((zG (zl s ms) s.fs.length).2.row.take (j+1)) o.vs)=(zY (decided s ms) ((zG (zl s ms) s.fs.length).2.row.take j) o.vs).set (zG (zl s ms) s.fs.length).2.row[j] (decided s ms (zG (zl s ms) s.fs.length).2.row[j] (zY (decided s ms) ((zG (zl s ms) s.fs.length).2.row.take j) o.vs))):=by
    unfold Hid;rw[tSe hlt,zdd]
    rfl
   have HTL:Hid ((zY (decided s ms) ((zG (zl s ms) s.fs.length).2.row.take j) o.vs).length=o.vs.length):=jH _ _ _;have HSML:Hid (∀x∈(zY (decided s ms) ((zG (zl s ms) s.fs.length).2.row.take j) o.vs),x.size<=maxLen):=zch HH.o.2.1.small _ _ HH.o.2.2.2.2.2.2;have hvl:0<o.vs.length:=by rw[HH.o.2.2.1];omega
   obtain⟨g,C,hga,hgl,hgh,hgc⟩:∃g C,a=some (aD g 0)/\w.heap.size+1+1+1<=g/\wr.heap[g]?=some (.cells C 9)/\∀i (h:i<(zY (decided s ms) ((zG (zl s ms) s.fs.length).2.row.take j) o.vs).length),C[i]?=some (.s (zY (decided s ms) ((zG (zl s ms) s.fs.length).2.row.take j) o.vs)[i]):=by
    rcases HI.o.1 with⟨_,h0⟩|h0
    ·have:=HTL.o;rw[h0]at this;simp at this;omega
    ·exact h0
   have hgm:=HT.o.2.1 _ hga;have hgw1:=HT.o.1.lt _ hga;subst hga
   revert hqn hrc HTS
   generalize (zG (zl s ms) s.fs.length).2.row[j]=q
   intro hqn hrc HTS;have hqv:q<o.vs.length:=by rw[HH.o.2.2.1];exact hqn
   have hqI:(q:Int)<(o.vs.length:Int):=by omega
   have HCS:Hid (C.size=C.size/\q<C.size):=by
    refine⟨rfl,?_⟩
    rcases Nat.lt_or_ge q C.size with h1|h1
    ·exact h1
    ·have h2:=hgc q (by rw[HTL.o];exact hqv)
     rw[Array.getElem?_eq_none h1]at h2;cases h2
   have hOc:=zbu HI.o.2.2.2.1;have hSc:=zbu HI.o.2.2.2.2.1;have hzw:w1.heap.size<wr.heap.size:=(gES HI.o.2.2.2.1).1;have HST:Hid (zD wr (some (aD g 0)) (zY (decided s ms) ((zG (zl s ms) s.fs.length).2.row.take j) o.vs)):=HI.o.1.at (by rw[HTL.o];unfold maxLen;omega) HSML.o;have HBD:Hid (Bw w wr.drew/\Bw wr wr.drew):=⟨HI.o.2.2.2.2.2.2.drew,(bRf _ _).drew⟩
   have HGH:=hid hgh;clear hgh hgc;go_wp2_with fail
   clear hrc;have hbd:=HBD.o.2;have hOd:=za hOc hzw hbd;have hSd:=za hSc (by omega) hbd
   have HDV:Hid (∀W,Bw wr W->Calls Tryz.prog 251 #[.agg #[.s s.kd,.l fa s.fs.length fcap],.l ma ms.length mcap,.l (some (aD g 0)) o.vs.length dap,.i (q:Int)] W fun e w'=>e=.returned (.s (decided s ms q (zY (decided s ms) ((zG (zl s ms) s.fs.length).2.row.take j) o.vs)))/\Bw W w'):=by
    intro W hb;have hbw:=HI.o.2.2.2.2.2.2.trans (hb.mono HI.o.2.2.2.2.2.2.size);have h:=zh5 s ms (zY (decided s ms) ((zG (zl s ms) s.fs.length).2.row.take j) o.vs) q fa ma (some (aD g 0)) fcap mcap dap W (HH.o.1.mono hbw) (HH.o.2.1.mono hbw) (HST.o.mono hb) (by rw[HTL.o];exact HH.o.2.2.1) hqn;rw[HTL.o]at h;exact h
   go_region_held3 (fun w'=>(∀k,w'.cell? (aD w1.heap.size k)=(oC o (some (aD g 0)) a' dap dap')[k]?)/\∀k,w'.cell? (aD w.heap.size k)=(#[.s s.kd,.l fa s.fs.length fcap]:AV)[k]?) (first|(refine⟨fun k=>?_,fun k=>?_⟩;rw[hOd];rw[hSd])|(refine⟨fun k=>?_,fun k=>?_⟩;rw[hqo];rw[hqs])) (first
    | (go_at_call 251;refine(HDV.o _ hbd).mono ?_;rintro e w5⟨rfl,hb5⟩;have hbd:=hbd.trans (hb5.mono hbd.size);have hOd:=za hOc hzw hbd;have hSd:=za hSc (by omega) hbd;have hg5:=(hbd.block g (by omega)).trans HGH.o;have hcg:w5.cell? (aD g q)=some (C[q]'HCS.o.2):=(by rw[cell_of_block hg5];exact Array.getElem?_eq_getElem HCS.o.2);have hfg:w5.frozen? (aD g q)=false:=zf hg5;have hqo:∀k,(w5.setCell (aD g q) (.s (decided s ms q (zY (decided s ms) ((zG (zl s ms) s.fs.length).2.row.take j) o.vs)))).cell? (aD w1.heap.size k)=(oC o (some (aD g 0)) a' dap dap')[k]?:=(fun k=>(yu (by show w1.heap.size≠g;omega)).trans (hOd k));have hqs:∀k,(w5.setCell (aD g q) (.s (decided s ms q (zY (decided s ms) ((zG (zl s ms) s.fs.length).2.row.take j) o.vs)))).cell? (aD w.heap.size k)=(#[.s s.kd,.l fa s.fs.length fcap]:AV)[k]?:=(fun k=>(yu (by show w.heap.size≠g;omega)).trans (hSd k));have HBE:Hid (Bw wr w5):=hbd;clear hb5 hg5))
   go_wp2_with fail
   obtain⟨i1,i2,i3,i4,i5,i6,i7⟩:=HI.o;have hE:=HBE.o;refine⟨⟨j+1,by omega,by rw[wrap_one (by have:=HRL.o;omega)],?_,(i2.mono hE).setCell _ hgm _,(Below.heap_setCell _ _ _ _ (by show w.heap.size+1+1≠g;omega)).trans ((hE.block _ (by omega)).trans i3),(Below.heap_setCell _ _ _ _ (by show w1.heap.size≠g;omega)).trans ((hE.block _ hzw).trans i4),(Below.heap_setCell _ _ _ _ (by show w.heap.size≠g;omega)).trans ((hE.block _ (by omega)).trans i5),?_,(i7.trans (hE.mono i7.size)).setCell (p:=(aD g q)) (by show w.heap.size<=g;omega) _⟩,yO hlt (by have:=HRL.o;omega)⟩
   ·rw[HTS.o];exact(i1.mono hE).set q _
   ·refine q9 (yc i6 hE) (fun g' hg'=>Below.heap_setCell _ _ _ _ ?_)
    have:=(i6.lt g' hg').1
    show g'≠g
    omega
  ·have e:j=(zG (zl s ms) s.fs.length).2.row.length:=by omega
   obtain⟨i1,i2,i3,i4,i5,i6,i7⟩:=HI.o;rw[e,tOl (Nat.le_refl _)]at i1;have hRc:∀k,wr.cell? (aD (w.heap.size+1+1) k)=oZ[k]?:=fun k=>cell_of_block i3
   have hRf:∀k,wr.frozen? (aD (w.heap.size+1+1) k)=false:=fun k=>zf i3
   have hOc:=zbu i4;have HX:=zao i1 i2 i7;clear i1 i2 i3 i4 i5 i6 i7 HI;subst e;go_wp2
   refine bodyPost_ret (v:=(.agg (oC o a a' dap dap'))) (by simp[results,Tryz.results244,go_sem,hRc]) rfl ?_;obtain⟨ht,ht',hB⟩:=HX.o;exact⟨a,dap,a',dap',m,rfl,(jF ht _ (by omega) _ _ _ _ _ _ _).low (by omega),HT.o.2.1,by have:=HT.o.2.2.1;omega,jF ht' _ (by have:=HT.o.2.2.1;omega) _ _ _ _ _ _ _,qI hB _ (by omega) _ _ _ _ _ _ _⟩
def qJ (ss:List Shp)(ms:List Mnd)(o:Ob):Bool:=zF ss o.kd&&(decide (o.vs.length=(shapeOf ss o.kd).fs.length)&&yj ss ms)
theorem zdn {v:BA}(h:zF ss v=true):∃i,∃hi:i<ss.length,shapeOf ss v=ss[i]:=by
 unfold zF at h;rw[List.any_eq_true]at h;obtain⟨x,hx,he⟩:=h;unfold shapeOf
 cases hf:ss.find? (fun s=>decide (s.kd=v)) with
 | none=>rw[List.find?_eq_none]at hf;exact absurd he (hf x hx)
 | some y=>
  obtain⟨i,hi,rfl⟩:=List.mem_iff_getElem.1 (List.mem_of_find?_eq_some hf);exact⟨i,hi,rfl⟩
theorem zb4 {ms:List Mnd}(h:qJ ss ms o=true):o.vs.length=(shapeOf ss o.kd).fs.length/\(shapeOf ss o.kd).fs.length<=6/\(∀q,q<(shapeOf ss o.kd).fs.length->∀x∈yC (shapeOf ss o.kd) ms q,0<=x/\x<(shapeOf ss o.kd).fs.length)/\(zG (zl (shapeOf ss o.kd) ms) (shapeOf ss o.kd).fs.length).1=true:=by
 unfold qJ at h;simp only[Bool.and_eq_true,decide_eq_true_eq]at h;obtain⟨hk,hl,hm⟩:=h;obtain⟨i,hi,e⟩:=zdn hk;unfold yj at hm;simp only[Bool.and_eq_true,decide_eq_true_eq]at hm;obtain⟨⟨⟨h12,hs⟩,ha⟩,hr⟩:=hm;rw[e]at hl ⊢;refine⟨hl,zgv hs i hi,zk1 hs ha i hi,?_⟩
 have:=List.all_eq_true.1 hr ss[i] (List.getElem_mem hi)
 exact this
def ziz (ss:List Shp)(ms:List Mnd)(o:Ob):List BA:=zY (decided (shapeOf ss o.kd) ms) (zG (zl (shapeOf ss o.kd) ms) (shapeOf ss o.kd).fs.length).2.row o.vs
def zcK (ss:List Shp)(ms:List Mnd)(o:Ob):List BA:=if qJ ss ms o=true then ziz ss ms o else o.vs
def zhD (ss:List Shp)(o:Ob):Ob:=⟨o.kd,o.nm,o.tm,zal (shapeOf ss o.kd).fs o.vs,o.en,o.hs,o.vr⟩
def zb5 (ss:List Shp)(ms:List Mnd)(o:Ob):List BA:=if qJ ss ms o=true then ziz ss ms (zhD ss o) else o.vs
theorem zqx {ms:List Mnd}(h:qJ ss ms o=true):(zhD ss o).vs.length=o.vs.length:=qL (zb4 h).1
theorem zhF {fs:List Fld}{vs:List BA}(hf:zb6 fs)(hv:∀s∈vs,s.size<=maxLen)(hl:vs.length=fs.length):∀s∈zal fs vs,s.size<=maxLen:=by
 intro s hm;obtain⟨i,hi,rfl⟩:=List.mem_iff_getElem.1 hm;have h2:=qL hl;have e:(zal fs vs)[i]=zax (fs[i]'(by omega)) (vs[i]'(by omega)):=by simp[zal]
 rw[e];unfold zax
 split
 ·exact(hf.small i (by omega)).1.df
 ·exact hv _ (List.getElem_mem _)
theorem zsp (o:Ob)(us:List BA)(hnn:us.length=o.vs.length)(s:Shp)(ms:List Mnd)(fa ma ova oha:OA)(fcap mcap cap cap':Nat)(w:World)(hf:yw w fa s.fs)(hm:qQ w ma ms)(hsm:o.Small)(ho:zD w ova us)(ho':zD w oha o.hs)(hA:zo8 ova us)(hA':zo8 oha o.hs)(hl:o.vs.length<=1048576)(hl':o.hs.length<=1048576)(hc:o.vs.length=s.fs.length)
 (hml:ms.length<=1048576) (hn:s.fs.length<=6) (hrd:∀q,q<s.fs.length->∀x∈yC s ms q,0<=x/\x<s.fs.length) (hwk:(zG (zl s ms) s.fs.length).1=true) :
 Calls Tryz.prog 244 #[.agg #[.s s.kd,.l fa s.fs.length fcap],.l ma ms.length mcap,.agg #[.s o.kd,.s o.nm,.s o.tm,.l ova o.vs.length cap,.bool o.en,.l oha o.hs.length cap',.i o.vr]] w
  fun e w'=>∃a dap a' dap' m,e=.returned (.agg #[.s o.kd,.s o.nm,.s o.tm,.l a o.vs.length dap,.bool o.en,.l a' o.hs.length dap',.i o.vr])/\zk w.heap.size w' a (zY (decided s ms) (zG (zl s ms) s.fs.length).2.row us)/\(∀g,a=some g->g.block<m)/\w.heap.size<=m/\zk m w' a' o.hs/\Bw w w':=by
 have h:=zqV ⟨o.kd,o.nm,o.tm,us,o.en,o.hs,o.vr⟩ s ms fa ma ova oha fcap mcap cap cap' w hf hm ⟨⟨hsm.kd,hsm.nm,hsm.tm⟩,ho,ho'⟩ hA hA' (by show us.length<=_;omega) hl' (by show us.length=_;omega) hml hn hrd hwk;simp only[oC,hnn]at h;exact h
def zct (l:Lw)(o:Ob):List BA:=ziz l.ss l.ms (zhD l.ss o)
theorem zeo (h:qJ l.ss l.ms o=true):(zct l o).length=o.vs.length:=by
 unfold zct;rw[<- zqx h];exact jH _ _ _
theorem zmf (l:Lw)(a b c:OA)(ca cb cc:Nat)(o:Ob)(va ha:OA)(cap cap':Nat)(w:World)(hL:qp w l a b c)(hml:l.ms.length<=1048576)(ho:qY w o va ha)(hl:o.vs.length<=1048576)(hl':o.hs.length<=1048576)(hmd:qJ l.ss l.ms o=true) :
 Calls Tryz.prog 227 #[.agg (lC l a b c ca cb cc),.agg (oC o va ha cap cap')] w
  fun e w'=>∃e0 dap e1 dap',e=.returned (.agg (oC o e0 e1 dap dap'))/\zk w.heap.size w' e0 (zct l o)/\Bw w w':=by
 have HH:=zao hL ho ho.vals.len;have HFA:=hid (zb4 hmd);clear hL ho hmd;go_in;go_wp2_with fail
 have hb2:=jc w (.cells (lC l a b c ca cb cc) 47) (.cells (oC o va ha cap cap') 116) (.cells oZ 116);refine(qV _ _ l.ss o.kd _ (HH.o.1.ss.mono hb2)).mono ?_;rintro e w1⟨fa,fcap,rfl,hfl0,hb1⟩;have HFL:=hid (hfl0.mono hb1);have hX0:∀j,w1.cell? (aD w.heap.size j)=(lC l a b c ca cb cc)[j]?:=fun j=>cell_of_block ((hb1.block w.heap.size (by simp;omega)).trans (zcq _ _ _ _))
 have hX1:∀j,w1.cell? (aD (w.heap.size+1) j)=(oC o va ha cap cap')[j]?:=fun j=>cell_of_block ((hb1.block (w.heap.size+1) (by simp)).trans (zhT _ _ _ _))
 have HR1:Hid (w1.heap[w.heap.size+1+1]?=some (.cells oZ 116)):=(hb1.block (w.heap.size+1+1) (by simp)).trans (zdv _ _ _ _);have hz2:w.heap.size+1+1<w1.heap.size:=by have:=hb1.size;simp at this;omega
 have hz1:w.heap.size+1<w1.heap.size:=by omega
 have hz0:w.heap.size<w1.heap.size:=by omega
 have hB1:Bw w w1:=hb2.trans (hb1.mono (by simp;omega));clear hb1 hfl0 hb2;go_wp2_with fail
 have hbs:=(bRf w1.heap.size w1).alloc (Nat.le_refl _) (.cells #[.s (shapeOf l.ss o.kd).kd,.l fa (shapeOf l.ss o.kd).fs.length fcap] 130);have hRW:=(hbs.block _ hz2).trans HR1.o;have hzW:=nLt hz2 hbs.size;have hBW:=hB1.trans (hbs.mono hB1.size);have hFW:=HFL.o.mono hbs;clear hbs;obtain⟨W2,hW2⟩:=xN ((w1.alloc (.cells #[.s (shapeOf l.ss o.kd).kd,.l fa (shapeOf l.ss o.kd).fs.length fcap] 130)));have hS2:∀j,W2.drew.cell? (aD w1.heap.size j)=(#[.s (shapeOf l.ss o.kd).kd,.l fa (shapeOf l.ss o.kd).fs.length fcap]:AV)[j]?:=by rw[hW2];exact zI w1 _ _
 have hS1:∀j,W2.drew.cell? (aD (w.heap.size+1) j)=(oC o va ha cap cap')[j]?:=by rw[hW2];exact za hX1 hz1 (bAl _ _).drew
 have hS0:∀j,W2.drew.cell? (aD w.heap.size j)=(lC l a b c ca cb cc)[j]?:=by rw[hW2];exact za hX0 hz0 (bAl _ _).drew
 have hzs:w1.heap.size<W2.drew.heap.size:=by rw[hW2];show w1.heap.size<(w1.alloc (.cells #[.s (shapeOf l.ss o.kd).kd,.l fa (shapeOf l.ss o.kd).fs.length fcap] 130)).heap.size;simp
 rw[<- hW2]at hRW hzW hBW hFW ⊢;clear hW2 hX1 hX0;have hb:=(bRf W2.heap.size W2).drew;have hlW:W2.heap.size=W2.drew.heap.size:=rfl;have hzo:w.heap.size+1<W2.drew.heap.size:=by omega
 have hzl:w.heap.size<W2.drew.heap.size:=by omega
 go_region_held3 (fun w'=>(∀j,w'.cell? (aD w.heap.size j)=(lC l a b c ca cb cc)[j]?)/\(∀j,w'.cell? (aD (w.heap.size+1) j)=(oC o va ha cap cap')[j]?)/\∀j,w'.cell? (aD w1.heap.size j)=(#[.s (shapeOf l.ss o.kd).kd,.l fa (shapeOf l.ss o.kd).fs.length fcap]:AV)[j]?) (first|exact⟨fun j=>by rw[hS0],fun j=>by rw[hS1],fun j=>by rw[hS2]⟩|exact⟨fun j=>by rw[hS5],fun j=>by rw[hS3],fun j=>by rw[hS4]⟩) (first
  | (go_at_call 245;refine(zrm o (shapeOf l.ss o.kd).kd (shapeOf l.ss o.kd).fs _ va ha _ cap cap' _ (by exact hFW.mono hb) (by exact HH.o.2.1.mono (hBW.trans (hb.mono hBW.size))) hl hl' HFA.o.1).mono ?_;rintro e w5⟨a5,dap5,a5',dap5',m5,rfl,ht5,hm5,hsm5,ht5',hb5⟩;have hS0:=za hS0 hzl hb5;have hS1:=za hS1 hzo hb5;have hS2:=za hS2 hzs hb5;have hb:=hb.trans (hb5.mono hb.size);have hO5:zD w5 a5 (zal (shapeOf l.ss o.kd).fs o.vs):=ht5.at (by rw[qL HFA.o.1];exact HH.o.2.2) (zhF hFW.smalls HH.o.2.1.vals.small HFA.o.1);have hO5':zD w5 a5' o.hs:=ht5'.at HH.o.2.1.holds.len HH.o.2.1.holds.small;have hA5:=ht5.zuf;have hA5':=ht5'.zuf;clear ht5 hm5 hsm5 ht5' hb5)
  | (go_at_call 244;refine(zsp o (zal (shapeOf l.ss o.kd).fs o.vs) (qL HFA.o.1) (shapeOf l.ss o.kd) l.ms _ _ _ _ _ _ _ _ _ (by exact hFW.mono hb) (by exact HH.o.1.ms.mono (hBW.trans (hb.mono hBW.size))) HH.o.2.1.small (by exact hO5) (by exact hO5') hA5 hA5' hl hl' HFA.o.1 hml HFA.o.2.1 HFA.o.2.2.1 HFA.o.2.2.2).mono ?_;rintro e w6⟨e0,dap,e1,dap',m,rfl,ht,hm,hsm,ht',hb6⟩;have hR6:w6.heap[w.heap.size+1+1]?=some (.cells oZ 116):=((hb.trans (hb6.mono hb.size)).block (w.heap.size+1+1) hzW).trans hRW;have hS0:=fun j=>(hb6.cell (p:=(aD w.heap.size j)) (nLt hzl hb.size)).trans (hS0 j);have hS1:=fun j=>(hb6.cell (p:=(aD (w.heap.size+1) j)) (nLt hzo hb.size)).trans (hS1 j);have hS2:=fun j=>(hb6.cell (p:=(aD w1.heap.size j)) (nLt hzs hb.size)).trans (hS2 j);have hS5:=fun j=>(zcc (g:=w.heap.size+1+1) (by omega:w.heap.size≠w.heap.size+1+1) (v0:=.s o.kd) (v1:=.s o.nm) (v2:=.s o.tm) (v3:=.l e0 o.vs.length dap) (v4:=.bool o.en) (v5:=.l e1 o.hs.length dap') (v6:=.i o.vr)).trans (hS0 j);have hS3:=fun j=>(zcc (g:=w.heap.size+1+1) (by omega:w.heap.size+1≠w.heap.size+1+1) (v0:=.s o.kd) (v1:=.s o.nm) (v2:=.s o.tm) (v3:=.l e0 o.vs.length dap) (v4:=.bool o.en) (v5:=.l e1 o.hs.length dap') (v6:=.i o.vr)).trans (hS1 j);have hS4:=fun j=>(zcc (g:=w.heap.size+1+1) (by omega:w1.heap.size≠w.heap.size+1+1) (v0:=.s o.kd) (v1:=.s o.nm) (v2:=.s o.tm) (v3:=.l e0 o.vs.length dap) (v4:=.bool o.en) (v5:=.l e1 o.hs.length dap') (v6:=.i o.vr)).trans (hS2 j);have hRc:=yP hR6;have hRf:=zbo hR6;have hsz5:=hb.size;have hb:=hb.trans (hb6.mono hb.size);clear hb6))
 go_wp2
 refine bodyPost_ret (v:=(.agg (oC o e0 e1 dap dap'))) (by simp[results,Tryz.results227,go_sem,hRc]) rfl ?_;have hB:=hBW.trans (hb.mono hBW.size);have h2:=hzW;exact⟨e0,dap,e1,dap',rfl,(jF (ht.low (lo':=w.heap.size+1+1+1) (by omega)) _ (by omega) _ _ _ _ _ _ _).low (by omega),qI hB _ (by omega) _ _ _ _ _ _ _⟩
def zaX (l:Lw)(o:Ob):Bool:=decide ((yI l.ss o).1=0)&&decide (zct l o=o.vs)
theorem zay (hok:yj l.ss l.ms=true)(h:(yI l.ss o).1=0):qJ l.ss l.ms o=true:=by
 have hw:whole l.ss o=true:=by
  cases hc:whole l.ss o with
  | true=>rfl
  | false=>unfold yI at h;rw[if_neg (by rw[hc];simp)]at h;simp at h
 unfold whole zq at hw;unfold qJ;simp only[Bool.and_eq_true]at hw ⊢;exact⟨hw.2.1,hw.2.2,hok⟩
theorem zg2 (hm:qJ l.ss l.ms o=true)(hs:zea l.ss)(hms:∀i (h:i<l.ms.length),l.ms[i].Small)(ho:∀s∈o.vs,s.size<=maxLen):∀s∈zct l o,s.size<=maxLen:=by
 have hf:=zb4 hm;have hk:zF l.ss o.kd=true:=by unfold qJ at hm;simp only[Bool.and_eq_true]at hm;exact hm.1
 obtain⟨i,hi,e⟩:=zdn hk;have h1:zb6 (shapeOf l.ss o.kd).fs:=by rw[e];exact(hs.small i hi).2.2
 exact zch hms _ _ (zhF h1 ho hf.1)
theorem ziT {a:OA}{lo:Nat}(h:zk lo w a (zct l o))(hm:qJ l.ss l.ms o=true)(hl:o.vs.length<=maxLen)(hs:∀s∈zct l o,s.size<=maxLen):zD w a (zct l o):=h.at (by rw[zeo hm];exact hl) hs
theorem zlg (a c:OA)(ca cc:Nat)(xs ys:List BA)(w:World)(hx:zD w a xs)(hy:zD w c ys)(hl:xs.length<=1048576)(hl':ys.length<=1048576)(hn:xs.length=ys.length) :
 Calls Tryz.prog 226 #[.l a ys.length ca,.l c ys.length cc] w fun e w'=>e=.returned (.bool (decide (xs=ys)))/\Bw w w':=by
 have h:=zjJ a c ca cc xs ys w hx hy hl hl';rw[hn]at h;exact h
theorem zos (l:Lw)(a b c:OA)(ca cb cc:Nat)(o:Ob)(va ha:OA)(cap cap':Nat)(w:World)(hL:qp w l a b c)(hml:l.ms.length<=1048576)(ho:qY w o va ha)(hl:o.vs.length<=1048576)(hl':o.hs.length<=1048576)(hok:yj l.ss l.ms=true) :
 Calls Tryz.prog 183 #[.agg (lC l a b c ca cb cc),.agg (oC o va ha cap cap')] w fun e w'=>e=.returned (.bool (zaX l o))/\Bw w w':=by
 have hfd:∀(s0 s1 s2:BA) (x y:OA) (n m p q:Nat) (t:Bool) (v:Int) (wf:World),(Instr.field 116 (.agg #[.s s0,.s s1,.s s2,.l x n p,.bool t,.l y m q,.i v]) 3).run Tryz.prog wf=.ok (.l x n p) wf:=fun s0 s1 s2 x y n m p q t v wf=>by kernel_rfl
 have HH:=yB hL ho;clear hL ho;obtain⟨r,hr⟩:=xN (zaX l o);rw[<- hr];have HR:Hid (r=zaX l o):=hr;clear hr;go_in;go_wp2_with fail
 have hb2:=zo w (.cells (lC l a b c ca cb cc) 47) (.cells (oC o va ha cap cap') 116);refine(zjW _ _ l.ss o _ _ _ _ _ (HH.o.1.ss.mono hb2) (HH.o.2.mono hb2)).mono ?_;rintro e w1⟨rfl,hb1⟩;have hX0:∀j,w1.cell? (aD w.heap.size j)=(lC l a b c ca cb cc)[j]?:=fun j=>cell_of_block ((hb1.block w.heap.size (by simp;omega)).trans (zK _ _ _).1)
 have hX1:∀j,w1.cell? (aD (w.heap.size+1) j)=(oC o va ha cap cap')[j]?:=fun j=>cell_of_block ((hb1.block (w.heap.size+1) (by simp)).trans (zK _ _ _).2)
 have hz1:w.heap.size+1<w1.heap.size:=by have:=hb1.size;simp at this;omega
 have hz0:w.heap.size<w1.heap.size:=by omega
 have hB1:Bw w w1:=hb2.trans (hb1.mono (by simp;omega));clear hb1 hb2
 by_cases hc:(yI l.ss o).1=0
 rotate_left
 ·have HF:Hid (r=false):=by unfold Hid;rw[HR.o];unfold zaX;rw[decide_eq_false hc];rfl
  have hv:zhs l.ss o=.iface 296 (.agg #[.i (yI l.ss o).1,.i (yI l.ss o).2]):=zoa hc;rw[hv];clear hc hv;go_wp2
  go_ret;exact⟨ze HF.o.symm,hB1⟩
 have HMD:=hid (zay hok hc);have HS:=hid (zg2 HMD.o HH.o.1.ss.smalls HH.o.1.ms.small HH.o.2.vals.small);have HF:Hid (decide (zct l o=o.vs)=r):=by unfold Hid;rw[HR.o];unfold zaX;rw[decide_eq_true hc];rfl
 have hv:zhs l.ss o=.nilIface:=by unfold zhs;rw[hc];rfl
 rw[hv];have HLN:=hid (zeo HMD.o);clear hc hv;go_wp2_with fail
 have hS0:=za hX0 hz0 (bRf w1.heap.size w1).drew;have hS1:=za hX1 hz1 (bRf w1.heap.size w1).drew;have hb:=(bRf w1.heap.size w1).drew;have hzl:=hz0;have hzo:=hz1;clear hX0 hX1
 go_region_held3 (fun w'=>(∀j,w'.cell? (aD w.heap.size j)=(lC l a b c ca cb cc)[j]?)/\(∀j,w'.cell? (aD (w.heap.size+1) j)=(oC o va ha cap cap')[j]?)) (exact⟨fun j=>by rw[hS0],fun j=>by rw[hS1]⟩) (first
  | (go_at_call 227;refine(zmf l a b c ca cb cc o va ha cap cap' _ (by exact HH.o.1.mono (hB1.trans (hb.mono hB1.size))) hml (by exact HH.o.2.mono (hB1.trans (hb.mono hB1.size))) hl hl' HMD.o).mono ?_;rintro e w5⟨e0,dap,e1,dap',rfl,ht5,hb5⟩;have hS0:=za hS0 hzl hb5;have hS1:=za hS1 hzo hb5;have hb:=hb.trans (hb5.mono hb.size);have hO5:zD w5 e0 (zct l o):=ziT ht5 HMD.o HH.o.2.vals.len HS.o;clear ht5 hb5)
  | (go_at_call 226;refine(zlg _ va _ cap (zct l o) o.vs _ (by exact hO5) (by exact HH.o.2.vals.mono (hB1.trans (hb.mono hB1.size))) (by rw[HLN.o];exact hl) hl HLN.o).mono ?_;rintro e w6⟨rfl,hb6⟩;rw[HF.o];have hS0:=fun j=>(hb6.cell (p:=(aD w.heap.size j)) (nLt hzl hb.size)).trans (hS0 j);have hS1:=fun j=>(hb6.cell (p:=(aD (w.heap.size+1) j)) (nLt hzo hb.size)).trans (hS1 j);have hb:=hb.trans (hb6.mono hb.size);clear hb6))
 go_wp2
 go_ret;exact⟨rfl,hB1.trans (hb.mono hB1.size)⟩
theorem zH.entry {kt mt:TypeId}(K:zj8 kt)(hm:Tryz.prog.underlying mt=some (.map kt 3)){r:Nat}{f:BA->BA->Option Int}(h:zH w r f)(a b:BA)(ha:a.size<=maxLen)(hb:b.size<=maxLen)(v0:Int)(hf:f a b=some v0) :
 ∃st:Int,(Instr.mapEntry mt (.map (some r)) (y8 a b)).run Tryz.prog w=.ok (.tuple #[.i v0,.i st]) w /\
  ∀v:Int,∃w',(Instr.entryStore mt (.map (some r)) (.i st) (.i v)).run Tryz.prog w=.ok () w'/\zH w' r (fun p q=>if p=a/\q=b then some v else f p q)/\zeA r w w':=by
 obtain⟨es,clock,hh,h1,h2,h3⟩:=h.ex;obtain⟨l,hl⟩:=K.key a b ha hb;obtain⟨s1,s2⟩:=h.stamps es clock hh
 have hkeys:∀e∈es.toList,∃l,keyOf Tryz.prog kt e.key=some l:=fun e he=>by
  obtain⟨a',b',v,e1,ha',hb',_⟩:=h1 e he;rw[e1];exact K.key a' b' ha' hb'
 have hc:=K.law.check w false hl;have hs:=K.law.stays w hl
 rcases K.law.find w hl es.toList hkeys with⟨g1,g2⟩|⟨j,e,g1,g2,g3⟩
 ·obtain⟨x,hx,hk⟩:=h2 a b v0 hf
  exact absurd hk (g2 x hx)
 ·have hj:es[j]?=some e:=by simpa using g2
  have hv:e.val=.i v0:=by
   obtain⟨a',b',v',e1,_,_,e2,e3⟩:=h1 e (List.mem_of_getElem? g2);rw[g3]at e1;have hab:a=a'/\b=b':=by unfold y8 at e1;simpa using e1
   obtain⟨rfl,rfl⟩:=hab;rw[e3]at hf;rw[e2,Option.some.inj hf]
  have hsame:es.modify j (fun e=>{ e with key:=y8 a b })=es:=by
   apply Array.ext'
   rw[Array.toList_modify]
   apply List.ext_getElem?
   intro i;rw[List.getElem?_modify]
   by_cases e':j=i
   ·subst e'
    rw[g2]
    simp[<- g3]
   ·simp[e']
  have hset:{ w with heap:=w.heap.setIfInBounds r (.map es clock) }=w:=by
   have hr:r<w.heap.size:=(gES hh).1
   have:w.heap.setIfInBounds r (.map es clock)=w.heap:=by
    apply Array.ext_getElem?
    intro i
    by_cases e':r=i
    ·subst e';rw[Array.getElem?_setIfInBounds_self_of_lt hr,hh]
    ·rw[Array.getElem?_setIfInBounds_ne e']
   rw[this]
  refine⟨(e.born:Int),?_,fun v=>?_⟩
  ·rw[hv]at g1
   simp[Instr.mapEntry,run_underlying hm,MapKept.run_getObj_map hh,hc,g1,hj,g3,hs,hsame,MapKept.run_setObj_map _ hh,Result.andThen,goInt,hset]
  ·obtain⟨w',u1,u2,u3⟩:=h.upd K hm a b ha hb v
   refine⟨w',?_,u2,u3⟩
   have hidx:es.findIdx? (fun e'=>((e'.born:Nat):Int) == ((e.born:Nat):Int))=some j:=by
    rw[WideElems.findIdx_arr];exact WideElems.findIdx_born s2 g2
   have hmod:es.modify j (fun e=>{ e with val:=.i v })=es.modify j (fun e'=>{ e' with key:=y8 a b,val:=.i v }):=by
    apply Array.ext'
    rw[Array.toList_modify,Array.toList_modify]
    apply List.ext_getElem?
    intro i;rw[List.getElem?_modify,List.getElem?_modify]
    by_cases e':j=i
    ·subst e'
     rw[g2]
     simp[<- g3]
    ·simp[e']
   simp[Instr.mapUpdate,run_underlying hm,MapKept.run_getObj_map hh,hc,g1,hj,g3,hs,MapKept.run_setObj_map _ hh,Result.andThen]at u1
   simp[Instr.entryStore,MapKept.run_getObj_map hh,asInt,asIntOf,hidx,hmod,MapKept.run_setObj_map _ hh,Result.andThen]
   exact u1
structure zj7 (b:Bk):Prop where
 one:∀i j (hi:i<b.ls.length) (hj:j<b.ls.length),b.ls[i].tm=b.ls[j].tm->b.ls[i].rs=b.ls[j].rs->i=j
 has:∀k (hk:k<b.ps.length),∃j,∃hj:j<b.ls.length,b.ls[j].tm=b.ps[k].tm/\b.ls[j].rs=b.ps[k].rs
 fr:∀i (hi:i<b.ls.length),0<=b.ls[i].fr/\b.ls[i].fr<=1000000
 am:∀i (hi:i<b.ps.length),0<=b.ps[i].am/\b.ps[i].am<=1000000
 ll:b.ls.length<=1000
 lp:b.ps.length<=1000
 sz:qK b.os<=1048576
def sumTo (l:Lw)(b:Bk)(g:Lg)(k:Nat):Int:=g.fr+used l b.os g.tm g.rs+zbk b.ps g.tm g.rs k
theorem zgV (l:Lw)(b:Bk)(tm rs:BA)(h:qK b.os<=1048576):0<=used l b.os tm rs/\used l b.os tm rs<=20000000000000:=by
 have h2:=zcg l b.os tm rs b.os.length (Nat.le_refl _);rw[tOl (Nat.le_refl _)]at h2;unfold used;unfold qK at h;omega
theorem zhh {r:Nat}{w':World}(h:zeA r w w'){b o:Nat}(hb:b≠r):w'.cell? (aD b o)=w.cell? (aD b o):=by
 unfold World.cell?
 rw[h.out b hb]
theorem zq8 (l:Lw)(la lb lc:OA)(lca lcb lcc:Nat)(b:Bk)(a0 a1 a2 a3:OA)(c0 c1 c2 c3:Nat)(w:World)(hl:qp w l la lb lc)(hb:qj w b a0 a1 a2 a3)(hs:zj7 b) :
 Calls Tryz.prog 195 #[.agg (lC l la lb lc lca lcb lcc),.agg (bC b a0 a1 a2 a3 c0 c1 c2 c3)] w fun e w'=>(∃r f,e=.returned (.map (some r))/\w.heap.size<=r/\zH w' r f/\∀i (hi:i<b.ls.length),f b.ls[i].tm b.ls[i].rs=some (sumTo l b b.ls[i] b.ps.length))/\Bw w w':=by
 have HH:Hid (qp w l la lb lc/\qj w b a0 a1 a2 a3/\zj7 b):=⟨hl,hb,hs⟩
 have hll:=hs.ll;have hlp:=hs.lp;have hmk:∀w:World,(Instr.makeMap 248 none).run Tryz.prog w=.ok (.map (some w.heap.size)) (w.alloc (.map #[] 0)):=fun w=>by kernel_rfl
 clear hl hb hs;go_in;go_wp2_with fail
 have HB0:Hid (Bw w ((w.alloc (.cells (lC l la lb lc lca lcb lcc) 47)).alloc (.cells (bC b a0 a1 a2 a3 c0 c1 c2 c3) 40))):=zo _ _ _;have hX0:∀j,((w.alloc (.cells (lC l la lb lc lca lcb lcc) 47)).alloc (.cells (bC b a0 a1 a2 a3 c0 c1 c2 c3) 40)).cell? (aD w.heap.size j)=(lC l la lb lc lca lcb lcc)[j]?:=fun j=>cell_of_block (zK _ _ _).1
 have hX1:∀j,((w.alloc (.cells (lC l la lb lc lca lcb lcc) 47)).alloc (.cells (bC b a0 a1 a2 a3 c0 c1 c2 c3) 40)).cell? (aD (w.heap.size+1) j)=(bC b a0 a1 a2 a3 c0 c1 c2 c3)[j]?:=fun j=>cell_of_block (zK _ _ _).2
 obtain⟨W0,hW0⟩:=xN ((w.alloc (.cells (lC l la lb lc lca lcb lcc) 47)).alloc (.cells (bC b a0 a1 a2 a3 c0 c1 c2 c3) 40));have hsz:W0.heap.size=w.heap.size+1+1:=by rw[hW0];simp
 rw[<- hW0]at HB0 hX0 hX1 ⊢;clear hW0;have hz0:w.heap.size<W0.heap.size:=by omega
 have hz1:w.heap.size+1<W0.heap.size:=by omega
 have HSZ:=hid hsz;clear hsz;have hba:=(bRf W0.heap.size W0).alloc (Nat.le_refl _) (.map #[] 0);have hY1:=za hX1 hz1 hba;have hzm:=nLt hz1 hba.size;go_wp2_with fail
 clear hmk hY1 hzm hba
 go_loopw [14] (fun iv wr=>∃k:Nat,k<=b.ls.length/\iv=.i k/\Hid ((∃f,zH wr W0.heap.size f/\∀i (hi:i<b.ls.length),i<k->f b.ls[i].tm b.ls[i].rs=some (sumTo l b b.ls[i] 0))/\Bw W0 wr)) (fun iv _=>b.ls.length-(intOf iv).toNat)
 case atStart=>exact⟨0,Nat.zero_le _,rfl,⟨_,zH.new W0,fun i hi h=>absurd h (Nat.not_lt_zero _)⟩,bAl _ _⟩
 case round=>
  obtain⟨k,hk,rfl,HQ⟩:=hrel;have hkn:k<=1000:=by omega
  by_cases hlt:k<b.ls.length
  ·obtain⟨f,hf,hfk⟩:=HQ.o.1
   have hBr:=HQ.o.2;have HBw:Hid (∀W,Bw W0 W->Bw w W):=fun W hW=>HB0.o.trans (hW.mono HB0.o.size)
   obtain⟨ob,off,rfl,hob,d0,d1,d2,d3⟩:=HH.o.2.1.ls.load (HBw.o _ hBr) k hlt;have hsm:=HH.o.2.1.ls.small k hlt;have hltI:(k:Int)<(b.ls.length:Int):=by omega
   have hob':=nLt hob (HBw.o _ hBr).size;have hfr:=HH.o.2.2.fr k hlt;have hus:=zgV l b b.ls[k].tm b.ls[k].rs HH.o.2.2.sz;have hwr:IntKind.i64.wrap (b.ls[k].fr+used l b.os b.ls[k].tm b.ls[k].rs)=b.ls[k].fr+used l b.os b.ls[k].tm b.ls[k].rs:=by rw[IntKind.wrap_i64];omega
   have hS0:=za hX0 hz0 hBr;have hS1:=za hX1 hz1 hBr;have HM:=yB hf hBr;have HFK:=hid hfk;have hzl:=nLt hz0 hBr.size;have hzb:=nLt hz1 hBr.size;clear hf hfk hBr HQ;go_wp2_with fail
   have hba:=(bRf wr.heap.size wr).alloc (Nat.le_refl _) (.cells #[.s b.ls[k].tm,.s b.ls[k].rs,.i b.ls[k].mo,.i b.ls[k].fr] 138);have hT0:=za hS0 hzl hba;have hT1:=za hS1 hzb hba;have hT2:=zI wr #[.s b.ls[k].tm,.s b.ls[k].rs,.i b.ls[k].mo,.i b.ls[k].fr] 138;have hzg:wr.heap.size<(wr.alloc (.cells #[.s b.ls[k].tm,.s b.ls[k].rs,.i b.ls[k].mo,.i b.ls[k].fr] 138)).heap.size:=by simp
   obtain⟨W2,hW2⟩:=xN (wr.alloc (.cells #[.s b.ls[k].tm,.s b.ls[k].rs,.i b.ls[k].mo,.i b.ls[k].fr] 138));rw[<- hW2]at hba hT0 hT1 hT2 hzg ⊢;clear hW2 hS0 hS1 d0 d1 d2 d3;have hS0:=za hT0 (nLt hzl hba.size) (bRf W2.heap.size W2).drew;have hS1:=za hT1 (nLt hzb hba.size) (bRf W2.heap.size W2).drew;have hS2:=za hT2 hzg (bRf W2.heap.size W2).drew;have hb:=hba.trans ((bRf W2.heap.size W2).drew.mono hba.size);have hy0:=nLt hzl hb.size;have hy1:=nLt hzb hb.size;have hy2:=hzg;have hne0:w.heap.size≠W0.heap.size:=by have:=HSZ.o;omega
   have hne1:w.heap.size+1≠W0.heap.size:=by have:=HSZ.o;omega
   have hne2:wr.heap.size≠W0.heap.size:=by have:=HM.o.1.lt;omega
   have HNE:=zao hne0 hne1 hne2;clear hne0 hne1 hne2;clear hT0 hT1 hT2 hba
   go_region_held3 (fun w'=>(∀j,w'.cell? (aD w.heap.size j)=(lC l la lb lc lca lcb lcc)[j]?)/\(∀j,w'.cell? (aD (w.heap.size+1) j)=(bC b a0 a1 (some (aD ob off)) a3 c0 c1 c2 c3)[j]?)/\(∀j,w'.cell? (aD wr.heap.size j)=(#[.s b.ls[k].tm,.s b.ls[k].rs,.i b.ls[k].mo,.i b.ls[k].fr]:AV)[j]?)) (first|exact⟨fun j=>by rw[hS0],fun j=>by rw[hS1],fun j=>by rw[hS2]⟩|exact⟨fun j=>by rw[hU0],fun j=>by rw[hU1],fun j=>by rw[hU2]⟩) (first
    | (go_at_call 196;refine(zbM b.ls[k] _).mono ?_;rintro e w5⟨rfl,hb5⟩;unfold y8;have hS0:=za hS0 hy0 hb5;have hS1:=za hS1 hy1 hb5;have hS2:=za hS2 hy2 hb5;have hy0:=nLt hy0 hb5.size;have hy1:=nLt hy1 hb5.size;have hy2:=nLt hy2 hb5.size;have hb:=hb.trans (hb5.mono hb.size);clear hb5)
    | (go_at_call 231;refine(zny l la lb lc lca lcb lcc b a0 a1 (some (aD ob off)) a3 c0 c1 c2 c3 _ _ _ (by exact HH.o.1.mono ((HBw.o _ HM.o.2).trans (hb.mono (HBw.o _ HM.o.2).size))) (by exact HH.o.2.1.mono ((HBw.o _ HM.o.2).trans (hb.mono (HBw.o _ HM.o.2).size))) HH.o.2.2.sz).mono ?_;rintro e w6⟨rfl,hb6⟩;have hS0:=za hS0 hy0 hb6;have hS1:=za hS1 hy1 hb6;have hS2:=za hS2 hy2 hb6;have hb:=hb.trans (hb6.mono hb.size);have hf6:=HM.o.1.mono hb;obtain⟨w7,hup,hf7,hp7⟩:=hf6.upd zc3 Tryz.underlying248 b.ls[k].tm b.ls[k].rs hsm.tm hsm.rs (b.ls[k].fr+used l b.os b.ls[k].tm b.ls[k].rs);unfold y8 at hup;rw[HSZ.o]at hup;have hU0:=fun j=>(zhh hp7 (o:=j) HNE.o.1).trans (hS0 j);have hU1:=fun j=>(zhh hp7 (o:=j) HNE.o.2.1).trans (hS1 j);have hU2:=fun j=>(zhh hp7 (o:=j) HNE.o.2.2).trans (hS2 j);clear hb6))
   go_wp2_with fail
   refine⟨⟨k+1,by omega,by go_num,⟨_,hf7,fun i hi hik=>?_⟩,hp7.below (HM.o.2.trans (hb.mono HM.o.2.size)) (Nat.le_refl _)⟩,zi hlt⟩
   by_cases e:i=k
   ·subst e
    rw[if_pos ⟨rfl,rfl⟩]
    simp[sumTo,zbk]
   ·rw[if_neg (fun h=>e (HH.o.2.2.one i k hi hlt h.1 h.2))]
    exact HFK.o i hi (by omega)
  ·have e:k=b.ls.length:=by omega
   have hBr:=HQ.o.2;have hS1:=za hX1 hz1 hBr;have hzb:=nLt hz1 hBr.size
   have HM:Hid (∃f,zH wr W0.heap.size f/\∀i (hi:i<b.ls.length),f b.ls[i].tm b.ls[i].rs=some (sumTo l b b.ls[i] 0)):=by
    obtain⟨f,hf,hfk⟩:=HQ.o.1;exact⟨f,hf,fun i hi=>hfk i hi (by omega)⟩
   have HBr:=hid hBr;have HBw:Hid (∀W,Bw W0 W->Bw w W):=fun W hW=>HB0.o.trans (hW.mono HB0.o.size)
   clear hBr HQ hlt hk hkn;subst e;go_wp2_with fail
   clear hS1
   go_loopw [35] (fun iv ws=>∃k:Nat,k<=b.ps.length/\iv=.i k/\Hid ((∃f,zH ws W0.heap.size f/\∀i (hi:i<b.ls.length),f b.ls[i].tm b.ls[i].rs=some (sumTo l b b.ls[i] k))/\Bw W0 ws)) (fun iv _=>b.ps.length-(intOf iv).toNat)
   case atStart=>exact⟨0,Nat.zero_le _,rfl,HM.o,HBr.o⟩
   case round=>
    obtain⟨k,hk,rfl,HQ⟩:=hrel;have hkn:k<=1000:=by omega
    by_cases hlt:k<b.ps.length
    ·obtain⟨f,hf,hfk⟩:=HQ.o.1
     have hBr:=HQ.o.2;obtain⟨ob,off,rfl,hob,d0,d1,d2,d3,d4⟩:=HH.o.2.1.ps.load (HBw.o _ hBr) k hlt;have hsm:=HH.o.2.1.ps.small k hlt;have hltI:(k:Int)<(b.ps.length:Int):=by omega
     have hob':=nLt hob (HBw.o _ hBr).size
     obtain⟨v,hv,hvb⟩:∃v,f b.ps[k].tm b.ps[k].rs=some v/\0<=v/\v<=30000000000000:=by
      obtain⟨j,hj,e1,e2⟩:=HH.o.2.2.has k hlt;refine⟨_,by rw[<- e1,<- e2];exact hfk j hj,?_⟩;have h1:=HH.o.2.2.fr j hj;have h2:=zgV l b b.ls[j].tm b.ls[j].rs HH.o.2.2.sz;have h3:=zcM b.ps b.ls[j].tm b.ls[j].rs HH.o.2.2.am k hk;unfold sumTo;omega
     have ham:=HH.o.2.2.am k hlt;have hwr:IntKind.i64.wrap (v+b.ps[k].am)=v+b.ps[k].am:=by rw[IntKind.wrap_i64];omega
     have HM2:=j3 hf hBr hv hfk;clear hf hfk hBr HQ hv hvb
     have HFIN:Hid (∀i (hi:i<b.ls.length),(if b.ls[i].tm=b.ps[k].tm/\b.ls[i].rs=b.ps[k].rs then some (v+b.ps[k].am) else f b.ls[i].tm b.ls[i].rs)=some (sumTo l b b.ls[i] (k+1))):=by
      intro i hi;obtain⟨_,_,g1,g2⟩:=HM2.o;have g3:=g2 i hi
      by_cases e:b.ls[i].tm=b.ps[k].tm/\b.ls[i].rs=b.ps[k].rs
      ·rw[if_pos e]
       have g4:v=sumTo l b b.ls[i] k:=by
        rw[e.1,e.2,g1]at g3;exact Option.some.inj g3
       unfold sumTo at g4 ⊢;rw[zfW _ _ _ _ hlt,if_pos (by unfold zrr;simp[e.1,e.2]),g4]
       congr 1
       omega
      ·rw[if_neg e,g3]
       unfold sumTo;rw[zfW _ _ _ _ hlt,if_neg (by unfold zrr;simp only[Bool.and_eq_true,decide_eq_true_eq];exact fun h=>e ⟨h.1.symm,h.2.symm⟩)]
       congr 1
       omega
     go_wp2_with fail
     have hba:=(bRf wr.heap.size wr).alloc (Nat.le_refl _) (.cells #[.s b.ps[k].dr,.s b.ps[k].tm,.s b.ps[k].rs,.i b.ps[k].am,.i b.ps[k].un] 140);have hT2:=zI wr #[.s b.ps[k].dr,.s b.ps[k].tm,.s b.ps[k].rs,.i b.ps[k].am,.i b.ps[k].un] 140;have hzg:wr.heap.size<(wr.alloc (.cells #[.s b.ps[k].dr,.s b.ps[k].tm,.s b.ps[k].rs,.i b.ps[k].am,.i b.ps[k].un] 140)).heap.size:=by simp
     obtain⟨W2,hW2⟩:=xN (wr.alloc (.cells #[.s b.ps[k].dr,.s b.ps[k].tm,.s b.ps[k].rs,.i b.ps[k].am,.i b.ps[k].un] 140));rw[<- hW2]at hba hT2 hzg ⊢;clear hW2 d0 d1 d2 d3 d4;have hS2:=za hT2 hzg (bRf W2.heap.size W2).drew;have hb:=hba.trans ((bRf W2.heap.size W2).drew.mono hba.size);have hy2:=hzg;have HNE:Hid (wr.heap.size≠W0.heap.size):=by have:=HM2.o.1.lt;intro h;omega
     clear hT2 hba
     go_region_held3 (fun w'=>∀j,w'.cell? (aD wr.heap.size j)=(#[.s b.ps[k].dr,.s b.ps[k].tm,.s b.ps[k].rs,.i b.ps[k].am,.i b.ps[k].un]:AV)[j]?) (first|exact fun j=>by rw[hS2]|exact fun j=>by rw[hU2]) (first
      | (go_at_call 194;refine(zd9 b.ps[k] _).mono ?_;rintro e w5⟨rfl,hb5⟩;have hS2:=za hS2 hy2 hb5;have hb:=hb.trans (hb5.mono hb.size);have hf5:=HM2.o.1.mono hb;have hlk:=hf5.look zc3 Tryz.underlying248 b.ps[k].tm b.ps[k].rs hsm.tm hsm.rs false;rw[HM2.o.2.2.1]at hlk;obtain⟨st,hen,hst⟩:=hf5.entry zc3 Tryz.underlying248 b.ps[k].tm b.ps[k].rs hsm.tm hsm.rs v HM2.o.2.2.1;obtain⟨w7,hup,hf7,hp7⟩:=hst (v+b.ps[k].am);unfold y8 at hlk hen ⊢;rw[HSZ.o]at hlk hen hup;simp only[Option.getD_some,Bool.false_eq_true,if_false]at hlk;have hU2:=fun j=>(zhh hp7 (o:=j) HNE.o).trans (hS2 j);clear hb5 hst))
     all_goals first|(go_wp2;exact⟨⟨k+1,by omega,by go_num,⟨_,hf7,HFIN.o⟩,hp7.below (HM2.o.2.1.trans (hb.mono HM2.o.2.1.size)) (Nat.le_refl _)⟩,zi hlt⟩)|exact⟨⟨k+1,by omega,by go_num,⟨_,hf7,HFIN.o⟩,hp7.below (HM2.o.2.1.trans (hb.mono HM2.o.2.1.size)) (Nat.le_refl _)⟩,zi hlt⟩
    ·have e:k=b.ps.length:=by omega
     subst e;have HE:=hid HQ.o;clear HQ hlt hk;go_wp2
     go_ret;obtain⟨⟨f,h1,h2⟩,h3⟩:=HE.o;rw[HSZ.o]at h1;exact⟨⟨_,f,rfl,by omega,h1,h2⟩,HBw.o _ h3⟩
def zbZ (l:Lw)(b:Bk)(g:Lg):Bool:=decide (sumTo l b g b.ps.length=g.mo)
def zcV (l:Lw)(b:Bk):Bool:=b.ls.all (zbZ l b)
theorem zpY (l:Lw)(la lb lc:OA)(lca lcb lcc:Nat)(b:Bk)(a0 a1 a2 a3:OA)(c0 c1 c2 c3:Nat)(w:World)(hl:qp w l la lb lc)(hb:qj w b a0 a1 a2 a3)(hs:zj7 b) :
 Calls Tryz.prog 142 #[.agg (lC l la lb lc lca lcb lcc),.agg (bC b a0 a1 a2 a3 c0 c1 c2 c3)] w fun e w'=>e=.returned (.bool (zcV l b))/\Bw w w':=by
 have HH:=zao hl hb hs;have hll:=hs.ll;clear hl hb hs;have HG:Hid (zcV l b=b.ls.all (zbZ l b)):=rfl;go_in;go_wp2_with fail
 have hb2:=zo w (.cells (lC l la lb lc lca lcb lcc) 47) (.cells (bC b a0 a1 a2 a3 c0 c1 c2 c3) 40);refine(zq8 l la lb lc lca lcb lcc b a0 a1 a2 a3 c0 c1 c2 c3 _ (HH.o.1.mono hb2) (HH.o.2.1.mono hb2) HH.o.2.2).mono ?_;rintro e w1⟨⟨r,f,rfl,hr,hf,hfk⟩,hb1⟩;have hX1:∀j,w1.cell? (aD (w.heap.size+1) j)=(bC b a0 a1 a2 a3 c0 c1 c2 c3)[j]?:=fun j=>cell_of_block ((hb1.block (w.heap.size+1) (by simp)).trans (zK _ _ _).2)
 have hz1:w.heap.size+1<w1.heap.size:=by have:=hb1.size;simp at this;omega
 have HB1:Hid (Bw w w1):=hb2.trans (hb1.mono (by simp;omega));have HM:=yB hf hfk;clear hb1 hb2 hf hfk hr;go_wp2
 go_loopw [14] (fun iv wr=>∃k:Nat,k<=b.ls.length/\iv=.i k/\Hid ((b.ls.take k).all (zbZ l b)=true/\Bw w1 wr)) (fun iv _=>b.ls.length-(intOf iv).toNat)
 case atStart=>exact⟨0,Nat.zero_le _,rfl,by simp,bRf _ _⟩
 case round=>
  obtain⟨k,hk,rfl,HQ⟩:=hrel;have hkn:k<=1000:=by omega
  by_cases hlt:k<b.ls.length
  ·have hBr:=HQ.o.2
   have hBw:=HB1.o.trans (hBr.mono HB1.o.size);obtain⟨ob,off,rfl,hob,d0,d1,d2,d3⟩:=HH.o.2.1.ls.load hBw k hlt;have hsm:=HH.o.2.1.ls.small k hlt;have hltI:(k:Int)<(b.ls.length:Int):=by omega
   have hob':ob<wr.heap.size:=nLt hob hBw.size;have HSn:Hid ((b.ls.take (k+1)).all (zbZ l b)=((b.ls.take k).all (zbZ l b)&&(zbZ l b) b.ls[k])):=qM _ _ _ hlt;have HNo:Hid ((zbZ l b) b.ls[k]=false->zcV l b=false):=fun h=>by rw[HG.o];exact zaE _ _ _ hlt h
   have HYes:Hid ((zbZ l b) b.ls[k]=true->(b.ls.take (k+1)).all (zbZ l b)=true):=fun h=>by rw[HSn.o,HQ.o.1,h];rfl
   obtain⟨v,hv⟩:=xN (sumTo l b b.ls[k] b.ps.length);have HM2:Hid (zH wr r f/\Bw w1 wr/\f b.ls[k].tm b.ls[k].rs=some v):=⟨HM.o.1.mono hBr,hBr,by rw[hv];exact HM.o.2 k hlt⟩
   have HV:=hid hv;clear hBr hBw HQ hv
   by_cases he:v=b.ls[k].mo
   ·have e2:(v != b.ls[k].mo)=false:=by simp[he]
    have HN:Hid ((b.ls.take (k+1)).all (zbZ l b)=true):=HYes.o (by unfold zbZ;rw[decide_eq_true_eq,<- HV.o];exact he);clear he;go_wp2_with fail
    have hba:=(bRf wr.heap.size wr).alloc (Nat.le_refl _) (.cells #[.s b.ls[k].tm,.s b.ls[k].rs,.i b.ls[k].mo,.i b.ls[k].fr] 138);have hT2:=zI wr #[.s b.ls[k].tm,.s b.ls[k].rs,.i b.ls[k].mo,.i b.ls[k].fr] 138;have hzg:wr.heap.size<(wr.alloc (.cells #[.s b.ls[k].tm,.s b.ls[k].rs,.i b.ls[k].mo,.i b.ls[k].fr] 138)).heap.size:=by simp
    obtain⟨W2,hW2⟩:=xN (wr.alloc (.cells #[.s b.ls[k].tm,.s b.ls[k].rs,.i b.ls[k].mo,.i b.ls[k].fr] 138));rw[<- hW2]at hba hT2 hzg ⊢;clear hW2 d0 d1 d2 d3;have hS2:=za hT2 hzg (bRf W2.heap.size W2).drew;have hb:=hba.trans ((bRf W2.heap.size W2).drew.mono hba.size);have hy2:=hzg;clear hT2 hba
    go_region_held3 (fun w'=>∀j,w'.cell? (aD wr.heap.size j)=(#[.s b.ls[k].tm,.s b.ls[k].rs,.i b.ls[k].mo,.i b.ls[k].fr]:AV)[j]?) (exact fun j=>by rw[hS2]) (first
     | (go_at_call 196;refine(zbM b.ls[k] _).mono ?_;rintro e w5⟨rfl,hb5⟩;have hS2:=za hS2 hy2 hb5;have hb:=hb.trans (hb5.mono hb.size);have hf5:=HM2.o.1.mono hb;have hlk:=hf5.look zc3 Tryz.underlying248 b.ls[k].tm b.ls[k].rs hsm.tm hsm.rs false;rw[HM2.o.2.2]at hlk;unfold y8 at hlk ⊢;simp only[Option.getD_some,Bool.false_eq_true,if_false]at hlk;clear hb5))
    go_wp2
    exact⟨⟨k+1,by omega,by go_num,HN.o,HM2.o.2.1.trans (hb.mono HM2.o.2.1.size)⟩,zi hlt⟩
   ·have e2:(v != b.ls[k].mo)=true:=by simp[he]
    have HN:Hid (zcV l b=false):=HNo.o (by unfold zbZ;rw[decide_eq_false_iff_not,<- HV.o];exact he);clear he;go_wp2_with fail
    have hba:=(bRf wr.heap.size wr).alloc (Nat.le_refl _) (.cells #[.s b.ls[k].tm,.s b.ls[k].rs,.i b.ls[k].mo,.i b.ls[k].fr] 138);have hT2:=zI wr #[.s b.ls[k].tm,.s b.ls[k].rs,.i b.ls[k].mo,.i b.ls[k].fr] 138;have hzg:wr.heap.size<(wr.alloc (.cells #[.s b.ls[k].tm,.s b.ls[k].rs,.i b.ls[k].mo,.i b.ls[k].fr] 138)).heap.size:=by simp
    obtain⟨W2,hW2⟩:=xN (wr.alloc (.cells #[.s b.ls[k].tm,.s b.ls[k].rs,.i b.ls[k].mo,.i b.ls[k].fr] 138));rw[<- hW2]at hba hT2 hzg ⊢;clear hW2 d0 d1 d2 d3;have hS2:=za hT2 hzg (bRf W2.heap.size W2).drew;have hb:=hba.trans ((bRf W2.heap.size W2).drew.mono hba.size);have hy2:=hzg;clear hT2 hba
    go_region_held3 (fun w'=>∀j,w'.cell? (aD wr.heap.size j)=(#[.s b.ls[k].tm,.s b.ls[k].rs,.i b.ls[k].mo,.i b.ls[k].fr]:AV)[j]?) (exact fun j=>by rw[hS2]) (first
     | (go_at_call 196;refine(zbM b.ls[k] _).mono ?_;rintro e w5⟨rfl,hb5⟩;have hS2:=za hS2 hy2 hb5;have hb:=hb.trans (hb5.mono hb.size);have hf5:=HM2.o.1.mono hb;have hlk:=hf5.look zc3 Tryz.underlying248 b.ls[k].tm b.ls[k].rs hsm.tm hsm.rs false;rw[HM2.o.2.2]at hlk;unfold y8 at hlk ⊢;simp only[Option.getD_some,Bool.false_eq_true,if_false]at hlk;clear hb5))
    go_wp2
    go_ret;have h9:=HM2.o.2.1.trans (hb.mono HM2.o.2.1.size);exact⟨ze HN.o.symm,HB1.o.trans (h9.mono HB1.o.size)⟩
  ·have e:k=b.ls.length:=by omega
   subst e;have HE:Hid (zcV l b=true):=by have:=HQ.o.1;rw[tOl (Nat.le_refl _)]at this;unfold Hid;rw[HG.o];exact this
   have HB:=hid HQ.o.2;clear HQ hlt hk;go_wp2
   go_ret;exact⟨ze HE.o.symm,HB1.o.trans (HB.o.mono HB1.o.size)⟩
end Go.Proofs.YtjnpjkigofldlaaGreat
