import Derived.Test.YtnapmdofidgliaaGreatM41
set_option maxHeartbeats 8000000
namespace Go.Proofs.YtnapmdofidgliaaGreat
open Go.RowKit
set_option maxRecDepth 20000 in
theorem zoV (o:Ob)(s:Shp)(ms:List Mnd)(fa ma ova oha:Option Addr)(fcap mcap cap cap':Nat)(w:World)(hf:zY w fa s.fs)(hm:qN w ma ms)(ho:jK w o ova oha)(hA:zm8 ova o.vs)(hA':zm8 oha o.hs)(hl:o.vs.length<=1048576)(hl':o.hs.length<=1048576)(hc:o.vs.length=s.fs.length)
 (hml:ms.length<=1048576) (hn:s.fs.length<=6) (hrd:∀q,q<s.fs.length->∀x∈yC s ms q,0<=x/\x<s.fs.length) (hwk:(zH (zn s ms) s.fs.length).1=true) :
 Calls Tryz.prog 215 #[.agg #[.string s.kd,.slice fa s.fs.length fcap],.slice ma ms.length mcap,.agg #[.string o.kd,.string o.nm,.string o.tm,.slice ova o.vs.length cap,.bool o.en,.slice oha o.hs.length cap',.int .i64 o.vr]] w
  fun e w'=>∃a dap a' dap' m,e=.returned (.agg #[.string o.kd,.string o.nm,.string o.tm,.slice a o.vs.length dap,.bool o.en,.slice a' o.hs.length dap',.int .i64 o.vr])/\zx w.heap.size w' a (z8 (decided s ms) (zH (zn s ms) s.fs.length).2.row o.vs)/\(∀g,a=some g->g.block<m)/\w.heap.size<=m/\zx m w' a' o.hs/\Below w.heap.size w w':=by
 have HH:Hid (zY w fa s.fs/\qN w ma ms/\o.vs.length=s.fs.length/\ms.length<=1048576/\s.fs.length<=6/\(∀q,q<s.fs.length->∀x∈yC s ms q,0<=x/\x<s.fs.length)/\(∀x∈o.vs,x.size<=maxLen)):=⟨hf,hm,hc,hml,hn,hrd,ho.vals.small⟩
 have HWK:=hid hwk;clear hf hm hc hml hrd hwk;go_enter Tryz.func215,Tryz.ntmps215;go_wp2_with fail
 refine(zkm o ova oha cap cap' _ (ho.mono (jH _ _ _ _)) hA hA' hl hl').mono ?_;rintro e w1⟨a,dap,a',dap',m,rfl,ht,hmm,hsm,ht',hb1⟩;have hX1:∀j,w1.cell? ⟨w.heap.size,j,none⟩=(#[.string s.kd,.slice fa s.fs.length fcap]:Array Value)[j]?:=fun j=>cell_of_block ((hb1.block w.heap.size (by simp;omega)).trans (zck _ _ _ _))
 have HS1:Hid (w1.heap[w.heap.size]?=some (.cells #[.string s.kd,.slice fa s.fs.length fcap] 131)):=(hb1.block w.heap.size (by simp;omega)).trans (zck _ _ _ _);have HR1:Hid (w1.heap[w.heap.size+1+1]?=some (.cells #[.string ByteArray.empty,.string ByteArray.empty,.string ByteArray.empty,.slice none 0 0,.bool false,.slice none 0 0,.int .i64 0] 123)):=(hb1.block (w.heap.size+1+1) (by simp)).trans (zcp _ _ _ _);have HB1:Hid (Below w.heap.size w w1):=(jH _ _ _ _).trans (hb1.mono (by simp;omega));have hz1:w.heap.size+1+1<w1.heap.size:=by have:=hb1.size;simp at this;omega
 have HT:Hid (zx (w.heap.size+1+1+1) w1 a o.vs/\(∀g,a=some g->g.block<m)/\w.heap.size+1+1+1<=m/\zx m w1 a' o.hs):=by
  simp only[World.size_alloc]at ht hsm;exact⟨ht,hmm,hsm,ht'⟩
 have hz0:w.heap.size<w1.heap.size:=by omega
 clear ht hmm hsm ht' hb1 ho;have hba:=(bRf w1.heap.size w1).alloc (Nat.le_refl _) (.cells #[.string o.kd,.string o.nm,.string o.tm,.slice a o.vs.length dap,.bool o.en,.slice a' o.hs.length dap',.int .i64 o.vr] 123);have HBA:=hid (HB1.out.trans (hba.mono HB1.out.size));have HBB:=hid hba;clear hba;go_wp2_with fail
 have h:=zh2 s ms ma fa mcap fcap _ (HH.out.2.1.mono HBA.out) (HH.out.1.mono HBA.out) HH.out.2.2.2.1 HH.out.2.2.2.2.1 HH.out.2.2.2.2.2.1;rw[HWK.out]at h;refine h.mono ?_;rintro e w2⟨rv,rfl,hb2,hrow⟩;have hrow:=hrow rfl;obtain⟨ra,rcap,rfl⟩:=yY hrow;have HBC:=hid (HBB.out.trans (hb2.mono HBB.out.size))
 have HR2:Hid (w2.ownsRow (w1.heap.size+1) 3 1 (.slice ra (zH (zn s ms) s.fs.length).2.row.length rcap) (zH (zn s ms) s.fs.length).2.row.length (zeJ (zH (zn s ms) s.fs.length).2.row)):=by
  have:=hrow;rw[World.size_alloc]at this;exact this
 have HU2:Hid (w2.heap[w1.heap.size]?=some (.cells #[.string o.kd,.string o.nm,.string o.tm,.slice a o.vs.length dap,.bool o.en,.slice a' o.hs.length dap',.int .i64 o.vr] 123)):=(hb2.block _ (by simp)).trans (alloc_at _ _)
 have HTP:Hid (zkY (zn s ms) s.fs.length (zH (zn s ms) s.fs.length).2.row):=zdW (fun p hp q hq=>by
  unfold zn at hq;obtain⟨x,hx,rfl⟩:=List.mem_map.1 hq
  have:=HH.out.2.2.2.2.2.1 p hp x hx
  omega) HWK.out
 have hz2:=(gES HU2.out).1
 have HRL:Hid ((zH (zn s ms) s.fs.length).2.row.length<=6):=by
  have h1:=zbS (zH (zn s ms) s.fs.length).2.row (List.range s.fs.length) HTP.out.nodup (fun x hx=>List.mem_range.2 ((HTP.out.mem x).1 hx));have h2:=HH.out.2.2.2.2.1;rw[List.length_range]at h1
  show _<=_;omega
 clear h hrow hb2 hX1;go_wp2_with fail
 go_loopw [22] (fun iv wr=>∃j:Nat,j<=(zH (zn s ms) s.fs.length).2.row.length/\iv=.int .i64 j/\zx (w.heap.size+1+1+1) wr a (z8 (decided s ms) ((zH (zn s ms) s.fs.length).2.row.take j) o.vs)/\zx m wr a' o.hs/\wr.heap[w.heap.size+1+1]?=some (.cells #[.string ByteArray.empty,.string ByteArray.empty,.string ByteArray.empty,.slice none 0 0,.bool false,.slice none 0 0,.int .i64 0] 123)/\wr.heap[w1.heap.size]?=some (.cells #[.string o.kd,.string o.nm,.string o.tm,.slice a o.vs.length dap,.bool o.en,.slice a' o.hs.length dap',.int .i64 o.vr] 123)/\wr.heap[w.heap.size]?=some (.cells #[.string s.kd,.slice fa s.fs.length fcap] 131)/\wr.ownsRow (w1.heap.size+1) 3 1 (.slice ra (zH (zn s ms) s.fs.length).2.row.length rcap) (zH (zn s ms) s.fs.length).2.row.length (zeJ (zH (zn s ms) s.fs.length).2.row)/\Below w.heap.size w wr) (fun iv _=>(zH (zn s ms) s.fs.length).2.row.length-(intOf iv).toNat)
 case atStart=>exact⟨0,Nat.zero_le _,rfl,HT.out.1.mono HBC.out,HT.out.2.2.2.mono HBC.out,(HBC.out.block _ hz1).trans HR1.out,HU2.out,(HBC.out.block _ hz0).trans HS1.out,HR2.out,HB1.out.trans (HBC.out.mono HB1.out.size)⟩
 case round=>
  obtain⟨j,hj,rfl,hinv⟩:=hrel;have HI:Hid (zx (w.heap.size+1+1+1) wr a (z8 (decided s ms) ((zH (zn s ms) s.fs.length).2.row.take j) o.vs)/\zx m wr a' o.hs/\wr.heap[w.heap.size+1+1]?=some (.cells #[.string ByteArray.empty,.string ByteArray.empty,.string ByteArray.empty,.slice none 0 0,.bool false,.slice none 0 0,.int .i64 0] 123)/\wr.heap[w1.heap.size]?=some (.cells #[.string o.kd,.string o.nm,.string o.tm,.slice a o.vs.length dap,.bool o.en,.slice a' o.hs.length dap',.int .i64 o.vr] 123)/\wr.heap[w.heap.size]?=some (.cells #[.string s.kd,.slice fa s.fs.length fcap] 131)/\wr.ownsRow (w1.heap.size+1) 3 1 (.slice ra (zH (zn s ms) s.fs.length).2.row.length rcap) (zH (zn s ms) s.fs.length).2.row.length (zeJ (zH (zn s ms) s.fs.length).2.row)/\Below w.heap.size w wr):=hinv;clear hinv
  by_cases hlt:j<(zH (zn s ms) s.fs.length).2.row.length
  ·have hltI:(j:Int)<((zH (zn s ms) s.fs.length).2.row.length:Int):=by omega
   have hqn:(zH (zn s ms) s.fs.length).2.row[j]<s.fs.length:=(HTP.out.mem _).1 (List.getElem_mem hlt)
   obtain⟨rg,rfl,hrc⟩:∃rg,ra=some ⟨rg,0,none⟩/\wr.cell? ⟨rg,j,none⟩=some (.int .i64 (((zH (zn s ms) s.fs.length).2.row[j]:Nat):Int)):=by
    have hrow:=HI.out.2.2.2.2.2.1;obtain⟨_,⟨h0,h1⟩|⟨g,cp,cur,h0,h1⟩⟩:=id hrow
    ·rw[h1]at hlt;exact absurd hlt (by omega)
    ·cases h0
     refine⟨g,rfl,?_⟩;rw[hrow.cellAt j (by omega)]
     simp[zeJ,hlt]
   have HTS:Hid ((z8 (decided s ms) ((zH (zn s ms) s.fs.length).2.row.take (j+1)) o.vs)=(z8 (decided s ms) ((zH (zn s ms) s.fs.length).2.row.take j) o.vs).set (zH (zn s ms) s.fs.length).2.row[j] (decided s ms (zH (zn s ms) s.fs.length).2.row[j] (z8 (decided s ms) ((zH (zn s ms) s.fs.length).2.row.take j) o.vs))):=by
    unfold Hid;rw[tSe hlt,zc0]
    rfl
   have HTL:Hid ((z8 (decided s ms) ((zH (zn s ms) s.fs.length).2.row.take j) o.vs).length=o.vs.length):=jS _ _ _;have HSML:Hid (∀x∈(z8 (decided s ms) ((zH (zn s ms) s.fs.length).2.row.take j) o.vs),x.size<=maxLen):=zcf HH.out.2.1.small _ _ HH.out.2.2.2.2.2.2;have hvl:0<o.vs.length:=by rw[HH.out.2.2.1];omega
   obtain⟨g,C,hga,hgl,hgh,hgc⟩:∃g C,a=some ⟨g,0,none⟩/\w.heap.size+1+1+1<=g/\wr.heap[g]?=some (.cells C 9)/\∀i (h:i<(z8 (decided s ms) ((zH (zn s ms) s.fs.length).2.row.take j) o.vs).length),C[i]?=some (.string (z8 (decided s ms) ((zH (zn s ms) s.fs.length).2.row.take j) o.vs)[i]):=by
    rcases HI.out.1 with⟨_,h0⟩|h0
    ·have:=HTL.out;rw[h0]at this;simp at this;omega
    ·exact h0
   have hgm:=HT.out.2.1 _ hga;have hgw1:=HT.out.1.lt _ hga;subst hga
   revert hqn hrc HTS
   generalize (zH (zn s ms) s.fs.length).2.row[j]=q
   intro hqn hrc HTS;have hqv:q<o.vs.length:=by rw[HH.out.2.2.1];exact hqn
   have hqI:(q:Int)<(o.vs.length:Int):=by omega
   have HCS:Hid (C.size=C.size/\q<C.size):=by
    refine⟨rfl,?_⟩
    rcases Nat.lt_or_ge q C.size with h1|h1
    ·exact h1
    ·have h2:=hgc q (by rw[HTL.out];exact hqv)
     rw[Array.getElem?_eq_none h1]at h2;cases h2
   have hOc:=zbA HI.out.2.2.2.1;have hSc:=zbA HI.out.2.2.2.2.1;have hzw:w1.heap.size<wr.heap.size:=(gES HI.out.2.2.2.1).1;have HST:Hid (zD wr (some ⟨g,0,none⟩) (z8 (decided s ms) ((zH (zn s ms) s.fs.length).2.row.take j) o.vs)):=HI.out.1.at (by rw[HTL.out];unfold maxLen;omega) HSML.out;have HBD:Hid (Below w.heap.size w wr.drew/\Below wr.heap.size wr wr.drew):=⟨HI.out.2.2.2.2.2.2.drew,(bRf _ _).drew⟩
   have HGH:=hid hgh;clear hgh hgc;go_wp2_with fail
   clear hrc;have hbd:=HBD.out.2;have hOd:=za hOc hzw hbd;have hSd:=za hSc (by omega) hbd
   have HDV:Hid (∀W,Below wr.heap.size wr W->Calls Tryz.prog 225 #[.agg #[.string s.kd,.slice fa s.fs.length fcap],.slice ma ms.length mcap,.slice (some ⟨g,0,none⟩) o.vs.length dap,.int .i64 (q:Int)] W fun e w'=>e=.returned (.string (decided s ms q (z8 (decided s ms) ((zH (zn s ms) s.fs.length).2.row.take j) o.vs)))/\Below W.heap.size W w'):=by
    intro W hb;have hbw:=HI.out.2.2.2.2.2.2.trans (hb.mono HI.out.2.2.2.2.2.2.size);have h:=zhq s ms (z8 (decided s ms) ((zH (zn s ms) s.fs.length).2.row.take j) o.vs) q fa ma (some ⟨g,0,none⟩) fcap mcap dap W (HH.out.1.mono hbw) (HH.out.2.1.mono hbw) (HST.out.mono hb) (by rw[HTL.out];exact HH.out.2.2.1) hqn;rw[HTL.out]at h;exact h
   go_region_held3 (fun w'=>(∀k,w'.cell? ⟨w1.heap.size,k,none⟩=(#[.string o.kd,.string o.nm,.string o.tm,.slice (some ⟨g,0,none⟩) o.vs.length dap,.bool o.en,.slice a' o.hs.length dap',.int .i64 o.vr]:Array Value)[k]?)/\∀k,w'.cell? ⟨w.heap.size,k,none⟩=(#[.string s.kd,.slice fa s.fs.length fcap]:Array Value)[k]?) (first|(refine⟨fun k=>?_,fun k=>?_⟩;rw[hOd];rw[hSd])|(refine⟨fun k=>?_,fun k=>?_⟩;rw[hqo];rw[hqs])) (first
    | (go_at_call 225;refine(HDV.out _ hbd).mono ?_;rintro e w5⟨rfl,hb5⟩;have hbd:=hbd.trans (hb5.mono hbd.size);have hOd:=za hOc hzw hbd;have hSd:=za hSc (by omega) hbd;have hg5:=(hbd.block g (by omega)).trans HGH.out;have hcg:w5.cell? ⟨g,q,none⟩=some (C[q]'HCS.out.2):=(by rw[cell_of_block hg5];exact Array.getElem?_eq_getElem HCS.out.2);have hfg:w5.frozen? ⟨g,q,none⟩=false:=zh hg5;have hqo:∀k,(w5.setCell ⟨g,q,none⟩ (.string (decided s ms q (z8 (decided s ms) ((zH (zn s ms) s.fs.length).2.row.take j) o.vs)))).cell? ⟨w1.heap.size,k,none⟩=(#[.string o.kd,.string o.nm,.string o.tm,.slice (some ⟨g,0,none⟩) o.vs.length dap,.bool o.en,.slice a' o.hs.length dap',.int .i64 o.vr]:Array Value)[k]?:=(fun k=>(yg (by show w1.heap.size≠g;omega)).trans (hOd k));have hqs:∀k,(w5.setCell ⟨g,q,none⟩ (.string (decided s ms q (z8 (decided s ms) ((zH (zn s ms) s.fs.length).2.row.take j) o.vs)))).cell? ⟨w.heap.size,k,none⟩=(#[.string s.kd,.slice fa s.fs.length fcap]:Array Value)[k]?:=(fun k=>(yg (by show w.heap.size≠g;omega)).trans (hSd k));have HBE:Hid (Below wr.heap.size wr w5):=hbd;clear hb5 hg5))
   go_wp2_with fail
   obtain⟨i1,i2,i3,i4,i5,i6,i7⟩:=HI.out;have hE:=HBE.out;refine⟨⟨j+1,by omega,by rw[wrap_one (by have:=HRL.out;omega)],?_,(i2.mono hE).setCell _ hgm _,(Below.heap_setCell _ _ _ _ (by show w.heap.size+1+1≠g;omega)).trans ((hE.block _ (by omega)).trans i3),(Below.heap_setCell _ _ _ _ (by show w1.heap.size≠g;omega)).trans ((hE.block _ hzw).trans i4),(Below.heap_setCell _ _ _ _ (by show w.heap.size≠g;omega)).trans ((hE.block _ (by omega)).trans i5),?_,(i7.trans (hE.mono i7.size)).setCell (p:=⟨g,q,none⟩) (by show w.heap.size<=g;omega) _⟩,jq hlt (by have:=HRL.out;omega)⟩
   ·rw[HTS.out];exact(i1.mono hE).set q _
   ·refine qW (yF i6 hE) (fun g' hg'=>Below.heap_setCell _ _ _ _ ?_)
    have:=(i6.lt g' hg').1
    show g'≠g
    omega
  ·have e:j=(zH (zn s ms) s.fs.length).2.row.length:=by omega
   obtain⟨i1,i2,i3,i4,i5,i6,i7⟩:=HI.out;rw[e,tOl (Nat.le_refl _)]at i1;have hRc:∀k,wr.cell? ⟨w.heap.size+1+1,k,none⟩=(#[.string ByteArray.empty,.string ByteArray.empty,.string ByteArray.empty,.slice none 0 0,.bool false,.slice none 0 0,.int .i64 0]:Array Value)[k]?:=fun k=>cell_of_block i3
   have hRf:∀k,wr.frozen? ⟨w.heap.size+1+1,k,none⟩=false:=fun k=>zh i3
   have hOc:=zbA i4;have HX:=zc6 i1 i2 i7;clear i1 i2 i3 i4 i5 i6 i7 HI;subst e;go_wp2_with fail
   refine bodyPost_ret (v:=(.agg #[.string o.kd,.string o.nm,.string o.tm,.slice a o.vs.length dap,.bool o.en,.slice a' o.hs.length dap',.int .i64 o.vr])) (by simp[results,Tryz.results215,go_sem,hRc]) rfl ?_;obtain⟨ht,ht',hB⟩:=HX.out;exact⟨a,dap,a',dap',m,rfl,(jT ht _ (by omega) _ _ _ _ _ _ _).low (by omega),HT.out.2.1,by have:=HT.out.2.2.1;omega,jT ht' _ (by have:=HT.out.2.2.1;omega) _ _ _ _ _ _ _,zaW hB _ (by omega) _ _ _ _ _ _ _⟩
def qI (ss:List Shp)(ms:List Mnd)(o:Ob):Bool:=zG ss o.kd&&(decide (o.vs.length=(shapeOf ss o.kd).fs.length)&&yj ss ms)
theorem zco {ss:List Shp}{v:ByteArray}(h:zG ss v=true):∃i,∃hi:i<ss.length,shapeOf ss v=ss[i]:=by
 unfold zG at h;rw[List.any_eq_true]at h;obtain⟨x,hx,he⟩:=h;unfold shapeOf
 cases hf:ss.find? (fun s=>decide (s.kd=v)) with
 | none=>rw[List.find?_eq_none]at hf;exact absurd he (hf x hx)
 | some y=>
  obtain⟨i,hi,rfl⟩:=List.mem_iff_getElem.1 (List.mem_of_find?_eq_some hf);exact⟨i,hi,rfl⟩
theorem zb0 {ss:List Shp}{ms:List Mnd}{o:Ob}(h:qI ss ms o=true):o.vs.length=(shapeOf ss o.kd).fs.length/\(shapeOf ss o.kd).fs.length<=6/\(∀q,q<(shapeOf ss o.kd).fs.length->∀x∈yC (shapeOf ss o.kd) ms q,0<=x/\x<(shapeOf ss o.kd).fs.length)/\(zH (zn (shapeOf ss o.kd) ms) (shapeOf ss o.kd).fs.length).1=true:=by
 unfold qI at h;simp only[Bool.and_eq_true,decide_eq_true_eq]at h;obtain⟨hk,hl,hm⟩:=h;obtain⟨i,hi,e⟩:=zco hk;unfold yj at hm;simp only[Bool.and_eq_true,decide_eq_true_eq]at hm;obtain⟨⟨⟨h12,hs⟩,ha⟩,hr⟩:=hm;rw[e]at hl ⊢;refine⟨hl,zd0 hs i hi,zjB hs ha i hi,?_⟩
 have:=List.all_eq_true.1 hr ss[i] (List.getElem_mem hi)
 exact this
def zhv (ss:List Shp)(ms:List Mnd)(o:Ob):List ByteArray:=z8 (decided (shapeOf ss o.kd) ms) (zH (zn (shapeOf ss o.kd) ms) (shapeOf ss o.kd).fs.length).2.row o.vs
def zcz (ss:List Shp)(ms:List Mnd)(o:Ob):List ByteArray:=if qI ss ms o=true then zhv ss ms o else o.vs
def zgo (ss:List Shp)(o:Ob):Ob:=⟨o.kd,o.nm,o.tm,zal (shapeOf ss o.kd).fs o.vs,o.en,o.hs,o.vr⟩
def zb1 (ss:List Shp)(ms:List Mnd)(o:Ob):List ByteArray:=if qI ss ms o=true then zhv ss ms (zgo ss o) else o.vs
theorem zoQ {ss:List Shp}{ms:List Mnd}{o:Ob}(h:qI ss ms o=true):(zgo ss o).vs.length=o.vs.length:=qR (zb0 h).1
theorem zgR {fs:List Fld}{vs:List ByteArray}(hf:zca fs)(hv:∀s∈vs,s.size<=maxLen)(hl:vs.length=fs.length):∀s∈zal fs vs,s.size<=maxLen:=by
 intro s hm;obtain⟨i,hi,rfl⟩:=List.mem_iff_getElem.1 hm;have h2:=qR hl;have e:(zal fs vs)[i]=zas (fs[i]'(by omega)) (vs[i]'(by omega)):=by simp[zal]
 rw[e];unfold zas
 split
 ·exact(hf.small i (by omega)).1.df
 ·exact hv _ (List.getElem_mem _)
theorem zpw (o:Ob)(us:List ByteArray)(hnn:us.length=o.vs.length)(s:Shp)(ms:List Mnd)(fa ma ova oha:Option Addr)(fcap mcap cap cap':Nat)(w:World)(hf:zY w fa s.fs)(hm:qN w ma ms)(hsm:o.Small)(ho:zD w ova us)(ho':zD w oha o.hs)(hA:zm8 ova us)(hA':zm8 oha o.hs)(hl:o.vs.length<=1048576)(hl':o.hs.length<=1048576)(hc:o.vs.length=s.fs.length)
 (hml:ms.length<=1048576) (hn:s.fs.length<=6) (hrd:∀q,q<s.fs.length->∀x∈yC s ms q,0<=x/\x<s.fs.length) (hwk:(zH (zn s ms) s.fs.length).1=true) :
 Calls Tryz.prog 215 #[.agg #[.string s.kd,.slice fa s.fs.length fcap],.slice ma ms.length mcap,.agg #[.string o.kd,.string o.nm,.string o.tm,.slice ova o.vs.length cap,.bool o.en,.slice oha o.hs.length cap',.int .i64 o.vr]] w
  fun e w'=>∃a dap a' dap' m,e=.returned (.agg #[.string o.kd,.string o.nm,.string o.tm,.slice a o.vs.length dap,.bool o.en,.slice a' o.hs.length dap',.int .i64 o.vr])/\zx w.heap.size w' a (z8 (decided s ms) (zH (zn s ms) s.fs.length).2.row us)/\(∀g,a=some g->g.block<m)/\w.heap.size<=m/\zx m w' a' o.hs/\Below w.heap.size w w':=by
 have h:=zoV ⟨o.kd,o.nm,o.tm,us,o.en,o.hs,o.vr⟩ s ms fa ma ova oha fcap mcap cap cap' w hf hm ⟨⟨hsm.kd,hsm.nm,hsm.tm⟩,ho,ho'⟩ hA hA' (by show us.length<=_;omega) hl' (by show us.length=_;omega) hml hn hrd hwk;simp only[hnn]at h;exact h
def zbE (l:Lw)(o:Ob):List ByteArray:=zhv l.ss l.ms (zgo l.ss o)
theorem zcy {l:Lw}{o:Ob}(h:qI l.ss l.ms o=true):(zbE l o).length=o.vs.length:=by
 unfold zbE;rw[<- zoQ h];exact jS _ _ _
set_option maxRecDepth 20000 in
theorem zkJ (l:Lw)(a b c:Option Addr)(ca cb cc:Nat)(o:Ob)(va ha:Option Addr)(cap cap':Nat)(w:World)(hL:jh w l a b c)(hml:l.ms.length<=1048576)(ho:jK w o va ha)(hl:o.vs.length<=1048576)(hl':o.hs.length<=1048576)(hmd:qI l.ss l.ms o=true) :
 Calls Tryz.prog 198 #[.agg #[.slice a l.ss.length ca,.slice b l.ms.length cb,.slice c l.ts.length cc],.agg #[.string o.kd,.string o.nm,.string o.tm,.slice va o.vs.length cap,.bool o.en,.slice ha o.hs.length cap',.int .i64 o.vr]] w
  fun e w'=>∃e0 dap e1 dap',e=.returned (.agg #[.string o.kd,.string o.nm,.string o.tm,.slice e0 o.vs.length dap,.bool o.en,.slice e1 o.hs.length dap',.int .i64 o.vr])/\zx w.heap.size w' e0 (zbE l o)/\Below w.heap.size w w':=by
 have HH:=zc6 hL ho ho.vals.len;have HFA:=hid (zb0 hmd);clear hL ho hmd;go_enter Tryz.func198,Tryz.ntmps198;go_wp2_with fail
 have hb2:=jH w (.cells #[.slice a l.ss.length ca,.slice b l.ms.length cb,.slice c l.ts.length cc] 41) (.cells #[.string o.kd,.string o.nm,.string o.tm,.slice va o.vs.length cap,.bool o.en,.slice ha o.hs.length cap',.int .i64 o.vr] 123) (.cells #[.string ByteArray.empty,.string ByteArray.empty,.string ByteArray.empty,.slice none 0 0,.bool false,.slice none 0 0,.int .i64 0] 123);refine(qJ _ _ l.ss o.kd _ (HH.out.1.ss.mono hb2)).mono ?_;rintro e w1⟨fa,fcap,rfl,hfl0,hb1⟩;have HFL:=hid (hfl0.mono hb1);have hX0:∀j,w1.cell? ⟨w.heap.size,j,none⟩=(#[.slice a l.ss.length ca,.slice b l.ms.length cb,.slice c l.ts.length cc]:Array Value)[j]?:=fun j=>cell_of_block ((hb1.block w.heap.size (by simp;omega)).trans (zck _ _ _ _))
 have hX1:∀j,w1.cell? ⟨w.heap.size+1,j,none⟩=(#[.string o.kd,.string o.nm,.string o.tm,.slice va o.vs.length cap,.bool o.en,.slice ha o.hs.length cap',.int .i64 o.vr]:Array Value)[j]?:=fun j=>cell_of_block ((hb1.block (w.heap.size+1) (by simp)).trans (zgm _ _ _ _))
 have HR1:Hid (w1.heap[w.heap.size+1+1]?=some (.cells #[.string ByteArray.empty,.string ByteArray.empty,.string ByteArray.empty,.slice none 0 0,.bool false,.slice none 0 0,.int .i64 0] 123)):=(hb1.block (w.heap.size+1+1) (by simp)).trans (zcp _ _ _ _);have hz2:w.heap.size+1+1<w1.heap.size:=by have:=hb1.size;simp at this;omega
 have hz1:w.heap.size+1<w1.heap.size:=by omega
 have hz0:w.heap.size<w1.heap.size:=by omega
 have hB1:Below w.heap.size w w1:=hb2.trans (hb1.mono (by simp;omega));clear hb1 hfl0 hb2;go_wp2_with fail
 have hbs:=(bRf w1.heap.size w1).alloc (Nat.le_refl _) (.cells #[.string (shapeOf l.ss o.kd).kd,.slice fa (shapeOf l.ss o.kd).fs.length fcap] 131);have hRW:=(hbs.block _ hz2).trans HR1.out;have hzW:=nLt hz2 hbs.size;have hBW:=hB1.trans (hbs.mono hB1.size);have hFW:=HFL.out.mono hbs;clear hbs;obtain⟨W2,hW2⟩:∃W2,W2=(w1.alloc (.cells #[.string (shapeOf l.ss o.kd).kd,.slice fa (shapeOf l.ss o.kd).fs.length fcap] 131)):=⟨_,rfl⟩
 have hS2:∀j,W2.drew.cell? ⟨w1.heap.size,j,none⟩=(#[.string (shapeOf l.ss o.kd).kd,.slice fa (shapeOf l.ss o.kd).fs.length fcap]:Array Value)[j]?:=by rw[hW2];exact zl w1 _ _
 have hS1:∀j,W2.drew.cell? ⟨w.heap.size+1,j,none⟩=(#[.string o.kd,.string o.nm,.string o.tm,.slice va o.vs.length cap,.bool o.en,.slice ha o.hs.length cap',.int .i64 o.vr]:Array Value)[j]?:=by rw[hW2];exact za hX1 hz1 (bAl _ _).drew
 have hS0:∀j,W2.drew.cell? ⟨w.heap.size,j,none⟩=(#[.slice a l.ss.length ca,.slice b l.ms.length cb,.slice c l.ts.length cc]:Array Value)[j]?:=by rw[hW2];exact za hX0 hz0 (bAl _ _).drew
 have hzs:w1.heap.size<W2.drew.heap.size:=by rw[hW2];show w1.heap.size<(w1.alloc (.cells #[.string (shapeOf l.ss o.kd).kd,.slice fa (shapeOf l.ss o.kd).fs.length fcap] 131)).heap.size;simp
 rw[<- hW2]at hRW hzW hBW hFW ⊢;clear hW2 hX1 hX0;have hb:=(bRf W2.heap.size W2).drew;have hlW:W2.heap.size=W2.drew.heap.size:=rfl;have hzo:w.heap.size+1<W2.drew.heap.size:=by omega
 have hzl:w.heap.size<W2.drew.heap.size:=by omega
 go_region_held3 (fun w'=>(∀j,w'.cell? ⟨w.heap.size,j,none⟩=(#[.slice a l.ss.length ca,.slice b l.ms.length cb,.slice c l.ts.length cc]:Array Value)[j]?)/\(∀j,w'.cell? ⟨w.heap.size+1,j,none⟩=(#[.string o.kd,.string o.nm,.string o.tm,.slice va o.vs.length cap,.bool o.en,.slice ha o.hs.length cap',.int .i64 o.vr]:Array Value)[j]?)/\∀j,w'.cell? ⟨w1.heap.size,j,none⟩=(#[.string (shapeOf l.ss o.kd).kd,.slice fa (shapeOf l.ss o.kd).fs.length fcap]:Array Value)[j]?) (first|exact⟨fun j=>by rw[hS0],fun j=>by rw[hS1],fun j=>by rw[hS2]⟩|exact⟨fun j=>by rw[hS5],fun j=>by rw[hS3],fun j=>by rw[hS4]⟩) (first
  | (go_at_call 216;refine(zo4 o (shapeOf l.ss o.kd).kd (shapeOf l.ss o.kd).fs _ va ha _ cap cap' _ (by exact hFW.mono hb) (by exact HH.out.2.1.mono (hBW.trans (hb.mono hBW.size))) hl hl' HFA.out.1).mono ?_;rintro e w5⟨a5,dap5,a5',dap5',m5,rfl,ht5,hm5,hsm5,ht5',hb5⟩;have hS0:=za hS0 hzl hb5;have hS1:=za hS1 hzo hb5;have hS2:=za hS2 hzs hb5;have hb:=hb.trans (hb5.mono hb.size);have hO5:zD w5 a5 (zal (shapeOf l.ss o.kd).fs o.vs):=ht5.at (by rw[qR HFA.out.1];exact HH.out.2.2) (zgR hFW.smalls HH.out.2.1.vals.small HFA.out.1);have hO5':zD w5 a5' o.hs:=ht5'.at HH.out.2.1.holds.len HH.out.2.1.holds.small;have hA5:=ht5.zq9;have hA5':=ht5'.zq9;clear ht5 hm5 hsm5 ht5' hb5)
  | (go_at_call 215;refine(zpw o (zal (shapeOf l.ss o.kd).fs o.vs) (qR HFA.out.1) (shapeOf l.ss o.kd) l.ms _ _ _ _ _ _ _ _ _ (by exact hFW.mono hb) (by exact HH.out.1.ms.mono (hBW.trans (hb.mono hBW.size))) HH.out.2.1.small (by exact hO5) (by exact hO5') hA5 hA5' hl hl' HFA.out.1 hml HFA.out.2.1 HFA.out.2.2.1 HFA.out.2.2.2).mono ?_;rintro e w6⟨e0,dap,e1,dap',m,rfl,ht,hm,hsm,ht',hb6⟩;have hR6:w6.heap[w.heap.size+1+1]?=some (.cells #[.string ByteArray.empty,.string ByteArray.empty,.string ByteArray.empty,.slice none 0 0,.bool false,.slice none 0 0,.int .i64 0] 123):=((hb.trans (hb6.mono hb.size)).block (w.heap.size+1+1) hzW).trans hRW;have hS0:=fun j=>(hb6.cell (p:=⟨w.heap.size,j,none⟩) (nLt hzl hb.size)).trans (hS0 j);have hS1:=fun j=>(hb6.cell (p:=⟨w.heap.size+1,j,none⟩) (nLt hzo hb.size)).trans (hS1 j);have hS2:=fun j=>(hb6.cell (p:=⟨w1.heap.size,j,none⟩) (nLt hzs hb.size)).trans (hS2 j);have hS5:=fun j=>(zhD (g:=w.heap.size+1+1) (by omega:w.heap.size≠w.heap.size+1+1) (v0:=.string o.kd) (v1:=.string o.nm) (v2:=.string o.tm) (v3:=.slice e0 o.vs.length dap) (v4:=.bool o.en) (v5:=.slice e1 o.hs.length dap') (v6:=.int .i64 o.vr)).trans (hS0 j);have hS3:=fun j=>(zhD (g:=w.heap.size+1+1) (by omega:w.heap.size+1≠w.heap.size+1+1) (v0:=.string o.kd) (v1:=.string o.nm) (v2:=.string o.tm) (v3:=.slice e0 o.vs.length dap) (v4:=.bool o.en) (v5:=.slice e1 o.hs.length dap') (v6:=.int .i64 o.vr)).trans (hS1 j);have hS4:=fun j=>(zhD (g:=w.heap.size+1+1) (by omega:w1.heap.size≠w.heap.size+1+1) (v0:=.string o.kd) (v1:=.string o.nm) (v2:=.string o.tm) (v3:=.slice e0 o.vs.length dap) (v4:=.bool o.en) (v5:=.slice e1 o.hs.length dap') (v6:=.int .i64 o.vr)).trans (hS2 j);have hRc:=zaj hR6;have hRf:=zop hR6;have hsz5:=hb.size;have hb:=hb.trans (hb6.mono hb.size);clear hb6))
 go_wp2_with fail
 refine bodyPost_ret (v:=(.agg #[.string o.kd,.string o.nm,.string o.tm,.slice e0 o.vs.length dap,.bool o.en,.slice e1 o.hs.length dap',.int .i64 o.vr])) (by simp[results,Tryz.results198,go_sem,hRc]) rfl ?_;have hB:=hBW.trans (hb.mono hBW.size);have h2:=hzW;exact⟨e0,dap,e1,dap',rfl,(jT (ht.low (lo':=w.heap.size+1+1+1) (by omega)) _ (by omega) _ _ _ _ _ _ _).low (by omega),zaW hB _ (by omega) _ _ _ _ _ _ _⟩
theorem zoT {ss:List Shp}{v:ByteArray}(h:zG ss v=true):(shapeOf ss v).kd=v:=by
 unfold zG at h;rw[List.any_eq_true]at h;obtain⟨x,hx,he⟩:=h;unfold shapeOf
 cases hf:ss.find? (fun s=>decide (s.kd=v)) with
 | none=>rw[List.find?_eq_none]at hf;exact absurd he (hf x hx)
 | some y=>simpa using List.find?_some hf
theorem zaO {ss:List Shp}{ms:List Mnd}{o:Ob}(hm:yj ss ms=true):qI ss ms o=zy ss o:=by
 unfold qI zy;rw[hm,Bool.and_true]
structure zqZ (ss:List Shp)(ms:List Mnd)(o:Ob)(pl:List Nat):Prop where
 names:yh (shapeOf ss o.kd) ms (shapeOf ss o.kd).fs.length=pl.map (za8 (shapeOf ss o.kd))
 zpv:zkY (zn (shapeOf ss o.kd) ms) (shapeOf ss o.kd).fs.length pl
 place:∀q (h:q<(shapeOf ss o.kd).fs.length),zR (shapeOf ss o.kd).fs (shapeOf ss o.kd).fs[q].nm=(q:Int)
 kd:(shapeOf ss o.kd).kd=o.kd
 few:(shapeOf ss o.kd).fs.length<=6
 reads:∀q,q<(shapeOf ss o.kd).fs.length->∀x∈yC (shapeOf ss o.kd) ms q,0<=x/\x<(shapeOf ss o.kd).fs.length
 len:o.vs.length=(shapeOf ss o.kd).fs.length
 mends:ms.length<=12
 res:zhv ss ms o=z8 (decided (shapeOf ss o.kd) ms) pl o.vs
theorem rowOf {ss:List Shp}{ms:List Mnd}{o:Ob}(hm:yj ss ms=true)(hc:zy ss o=true):zqZ ss ms o (greedy (zn (shapeOf ss o.kd) ms) (shapeOf ss o.kd).fs.length (shapeOf ss o.kd).fs.length):=by
 have hmd:qI ss ms o=true:=by rw[zaO hm];exact hc
 obtain⟨hl,h6,hr,hw⟩:=zb0 hmd;unfold zy at hc;simp only[Bool.and_eq_true]at hc;obtain⟨i,hi,e⟩:=zco hc.1;have hkd:=zoT hc.1;unfold yj at hm;simp only[Bool.and_eq_true,decide_eq_true_eq]at hm;obtain⟨⟨⟨h12,hs⟩,ha⟩,_⟩:=hm
 have hrd:∀p,p<(shapeOf ss o.kd).fs.length->∀q∈zn (shapeOf ss o.kd) ms p,q<(shapeOf ss o.kd).fs.length:=by
  intro p hp q hq;unfold zn at hq;obtain⟨x,hx,rfl⟩:=List.mem_map.1 hq
  have:=hr p hp x hx
  omega
 have htw:=zdW hrd hw
 have htg:zkY (zn (shapeOf ss o.kd) ms) (shapeOf ss o.kd).fs.length (greedy (zn (shapeOf ss o.kd) ms) (shapeOf ss o.kd).fs.length (shapeOf ss o.kd).fs.length):=
  (zcq _ _ _).zpv (zh9 htw.zl1 _ (Nat.le_refl _))
 refine⟨?_,htg,?_,hkd,h6,hr,hl,h12,?_⟩
 ·rw[e];exact zeh hs ha i hi _
 ·rw[e]
  intro q hq;refine zer ss[i].fs _ q hq ?_ rfl;unfold hasName;rw[List.any_eq_false];intro x hx;obtain⟨j,hj,rfl⟩:=List.mem_iff_getElem.1 hx;have hjq:j<q:=by simp at hj;omega
  simp only[List.getElem_take,decide_eq_true_eq];exact ze0 hs i hi j q hjq hq
 ·exact zn6 htw htg (zkK _ _) o.vs hl
theorem zl7 {α:Type}(D:Nat->List α->α)(pl:List Nat)(vs:List α)(k:Nat)(h:k<pl.length):z8 D (pl.take (k+1)) vs=(z8 D (pl.take k) vs).set pl[k] (D pl[k] (z8 D (pl.take k) vs)):=by
 unfold z8;rw[tSe h,List.foldl_append];rfl
theorem zqF {lo:Nat}{w:World}{g:Nat}{us:List ByteArray}(h:zx lo w (some ⟨g,0,none⟩) us)(p:Nat)(hp:p<us.length):w.cell? ⟨g,p,none⟩=some (.string us[p]):=by
 rcases h with⟨h0,_⟩|⟨g',C,hg,_,hh,hc⟩
 ·cases h0
 ·cases hg;rw[cell_of_block hh,hc p hp]
theorem zqA {lo:Nat}{w:World}{g p:Nat}{us:List ByteArray}(h:zx lo w (some ⟨g,0,none⟩) us)(_hp:p<us.length):w.frozen? ⟨g,p,none⟩=false:=by
 rcases h with⟨h0,_⟩|⟨g',C,hg,_,hh,hc⟩
 ·cases h0
 ·cases hg;exact zh hh
theorem zqr {w:World}{lo:Nat}{v:Value}{row:List ByteArray}(h:w.ownsRow lo 9 1 v row.length (row.map Value.string)):∃ra rcap,v=.slice ra row.length rcap/\(row≠[]->∃rb,ra=some ⟨rb,0,none⟩/\lo<=rb/\rb<w.heap.size/\∀i (h:i<row.length),w.cell? ⟨rb,i,none⟩=some (.string row[i])):=by
 obtain⟨_,⟨h0,h1⟩|⟨g,cp,cur,h0,h1⟩⟩:=id h
 ·have e:=List.length_eq_zero_iff.1 h1
  subst e;exact⟨none,0,by rw[h0];rfl,fun hn=>absurd rfl hn⟩
 ·subst h0
  refine⟨some ⟨g,0,none⟩,cp,rfl,fun _=>⟨g,rfl,(h.lt g rfl).1,(h.lt g rfl).2,fun i hi=>?_⟩⟩;rw[h.cellAt i (by omega)]
  simp[hi]
theorem zkn (s:Shp)(ms:List Mnd)(o:Ob)(vs:List ByteArray)(n:Nat)(hn:vs.length=n)(p:Nat)(fa ma va ha:Option Addr)(fcap mcap vcap hcap:Nat)(w:World)(hf:zY w fa s.fs)(hm:qN w ma ms)(hv:zD w va vs)(hc:vs.length=s.fs.length)(hp:p<s.fs.length)(hix:zR s.fs s.fs[p].nm=(p:Int))(hkd:o.kd=s.kd)(hrd:∀x∈yC s ms p,0<=x/\x<s.fs.length) :
 Calls Tryz.prog 177 #[.slice fa s.fs.length fcap,.slice ma ms.length mcap,.agg #[.string o.kd,.string o.nm,.string o.tm,.slice va n vcap,.bool o.en,.slice ha o.hs.length hcap,.int .i64 o.vr],.string s.fs[p].nm] w fun e w'=>e=.returned (.string (decided s ms p vs))/\Below w.heap.size w w':=by
 subst hn;exact zk2 s ms o vs p fa ma va ha fcap mcap vcap hcap w hf hm hv hc hp hix hkd hrd
set_option maxRecDepth 20000 in
theorem zme (a0 ma:Option Addr)(cap0 mcap:Nat)(ss:List Shp)(ms:List Mnd)(o:Ob)(b off b' off' cap cap':Nat)(w:World)(hw:yU w a0 ss)(hm:qN w ma ms)(ho:jK w o (some ⟨b,off,none⟩) (some ⟨b',off',none⟩))(hl:o.vs.length<=1048576)(hl':o.hs.length<=1048576)(hok:yj ss ms=true) :
 Calls Tryz.prog 136 #[.slice a0 ss.length cap0,.slice ma ms.length mcap,.agg #[.string o.kd,.string o.nm,.string o.tm,.slice (some ⟨b,off,none⟩) o.vs.length cap,.bool o.en,.slice (some ⟨b',off',none⟩) o.hs.length cap',.int .i64 o.vr]] w (zgP o (zcz ss ms o) w):=by
 have hsl:=hw.len;unfold maxLen at hsl;have HW:=jC hw hm;clear hw hm
 by_cases hc:zy ss o=true
 rotate_left
 ·have HC:Hid (zy ss o=false):=by simpa[Hid] using hc
  have HRES:Hid (zcz ss ms o=o.vs):=by unfold Hid zcz;rw[if_neg (by rw[zaO hok];exact hc)]
  have HH:=hid ho;clear hc ho;go_enter Tryz.func136,Tryz.ntmps136;go_wp2_with fail
  refine(zkf o b off b' off' cap cap' _ (HH.out.mono (zw w (.cells #[.string o.kd,.string o.nm,.string o.tm,.slice (some ⟨b,off,none⟩) o.vs.length cap,.bool o.en,.slice (some ⟨b',off',none⟩) o.hs.length cap',.int .i64 o.vr] 123) (.cells #[.string ByteArray.empty,.string ByteArray.empty,.string ByteArray.empty,.slice none 0 0,.bool false,.slice none 0 0,.int .i64 0] 123))) hl hl').mono ?_;rintro e w1⟨a,dap,a',dap',m,rfl,ht,hm,hsm,ht',hb1⟩;have HO1:Hid (w1.heap[w.heap.size]?=some (.cells #[.string o.kd,.string o.nm,.string o.tm,.slice (some ⟨b,off,none⟩) o.vs.length cap,.bool o.en,.slice (some ⟨b',off',none⟩) o.hs.length cap',.int .i64 o.vr] 123)):=(hb1.block w.heap.size (by simp;omega)).trans (zT _ _ _).1;have HR1:Hid (w1.heap[w.heap.size+1]?=some (.cells #[.string ByteArray.empty,.string ByteArray.empty,.string ByteArray.empty,.slice none 0 0,.bool false,.slice none 0 0,.int .i64 0] 123)):=(hb1.block (w.heap.size+1) (by simp)).trans (zT _ _ _).2;have hX1:∀j,w1.cell? ⟨w.heap.size,j,none⟩=(#[.string o.kd,.string o.nm,.string o.tm,.slice (some ⟨b,off,none⟩) o.vs.length cap,.bool o.en,.slice (some ⟨b',off',none⟩) o.hs.length cap',.int .i64 o.vr]:Array Value)[j]?:=fun j=>cell_of_block HO1.out
  have hz1:w.heap.size+1<w1.heap.size:=by have:=hb1.size;simp at this;omega
  have hz0:w.heap.size<w1.heap.size:=by omega
  have hB1:Below w.heap.size w w1:=(zw _ _ _).trans (hb1.mono (by simp;omega))
  have HT:Hid (zx (w.heap.size+1+1) w1 a o.vs/\(∀g,a=some g->g.block<m)/\w.heap.size+1+1<=m/\zx m w1 a' o.hs):=by
   simp only[World.size_alloc]at ht hsm;exact⟨ht,hm,hsm,ht'⟩
  clear ht hm hsm ht' hb1;go_wp2_with fail
  have hbs:=(bRf w1.heap.size w1).alloc (Nat.le_refl _) (.cells #[.string o.kd,.string o.nm,.string o.tm,.slice a o.vs.length dap,.bool o.en,.slice a' o.hs.length dap',.int .i64 o.vr] 123);have hBs:=hB1.trans (hbs.mono hB1.size);refine(zdg a0 cap0 ss o _ _ cap cap' _ (HW.out.1.mono hBs) (HH.out.mono hBs) HC.out).mono ?_;rintro e w2⟨v,rfl,hb2⟩;have hba:=hbs.trans (hb2.mono hbs.size);have hR2:=(hba.block _ hz1).trans HR1.out;have hU2:∀j,w2.cell? ⟨w1.heap.size,j,none⟩=(#[.string o.kd,.string o.nm,.string o.tm,.slice a o.vs.length dap,.bool o.en,.slice a' o.hs.length dap',.int .i64 o.vr]:Array Value)[j]?:=za (zl w1 _ _) (by simp) hb2;have hRc:∀j,w2.cell? ⟨w.heap.size+1,j,none⟩=(#[.string ByteArray.empty,.string ByteArray.empty,.string ByteArray.empty,.slice none 0 0,.bool false,.slice none 0 0,.int .i64 0]:Array Value)[j]?:=fun j=>cell_of_block hR2
  have hRf:∀j,w2.frozen? ⟨w.heap.size+1,j,none⟩=false:=fun j=>zh hR2
  have HX:=zc6 (HT.out.1.mono hba) (HT.out.2.2.2.mono hba) (hB1.trans (hba.mono hB1.size));clear hbs hBs hb2 hba hR2 hX1;go_wp2_with fail
  refine bodyPost_ret (v:=(.agg #[.string o.kd,.string o.nm,.string o.tm,.slice a o.vs.length dap,.bool o.en,.slice a' o.hs.length dap',.int .i64 o.vr])) (by simp[results,Tryz.results136,go_sem,hRc]) rfl ?_;obtain⟨ht,ht',hB⟩:=HX.out;rw[HRES.out];exact⟨a,dap,a',dap',m,rfl,(jT ht _ (by omega) _ _ _ _ _ _ _).low (by omega),HT.out.2.1,by have:=HT.out.2.2.1;omega,jT ht' _ (by have:=HT.out.2.2.1;omega) _ _ _ _ _ _ _,zaW hB _ (by omega) _ _ _ _ _ _ _⟩
 have HC:=hid hc;have HRO:=hid (rowOf hok hc);have HRES:Hid (zcz ss ms o=zhv ss ms o):=by unfold Hid zcz;rw[if_pos (by rw[zaO hok];exact hc)]
 have HK:Hid (zG ss o.kd=true):=by unfold zy at hc;simp only[Bool.and_eq_true]at hc;exact hc.1
 have HH:=hid ho;clear hc ho;go_enter Tryz.func136,Tryz.ntmps136;go_wp2_with fail
 refine(zkf o b off b' off' cap cap' _ (HH.out.mono (zw w (.cells #[.string o.kd,.string o.nm,.string o.tm,.slice (some ⟨b,off,none⟩) o.vs.length cap,.bool o.en,.slice (some ⟨b',off',none⟩) o.hs.length cap',.int .i64 o.vr] 123) (.cells #[.string ByteArray.empty,.string ByteArray.empty,.string ByteArray.empty,.slice none 0 0,.bool false,.slice none 0 0,.int .i64 0] 123))) hl hl').mono ?_;rintro e w1⟨a,dap,a',dap',m,rfl,ht,hm,hsm,ht',hb1⟩;have HO1:Hid (w1.heap[w.heap.size]?=some (.cells #[.string o.kd,.string o.nm,.string o.tm,.slice (some ⟨b,off,none⟩) o.vs.length cap,.bool o.en,.slice (some ⟨b',off',none⟩) o.hs.length cap',.int .i64 o.vr] 123)):=(hb1.block w.heap.size (by simp;omega)).trans (zT _ _ _).1;have HR1:Hid (w1.heap[w.heap.size+1]?=some (.cells #[.string ByteArray.empty,.string ByteArray.empty,.string ByteArray.empty,.slice none 0 0,.bool false,.slice none 0 0,.int .i64 0] 123)):=(hb1.block (w.heap.size+1) (by simp)).trans (zT _ _ _).2;have hX1:∀j,w1.cell? ⟨w.heap.size,j,none⟩=(#[.string o.kd,.string o.nm,.string o.tm,.slice (some ⟨b,off,none⟩) o.vs.length cap,.bool o.en,.slice (some ⟨b',off',none⟩) o.hs.length cap',.int .i64 o.vr]:Array Value)[j]?:=fun j=>cell_of_block HO1.out
 have hz1:w.heap.size+1<w1.heap.size:=by have:=hb1.size;simp at this;omega
 have hz0:w.heap.size<w1.heap.size:=by omega
 have hB1:Below w.heap.size w w1:=(zw _ _ _).trans (hb1.mono (by simp;omega))
 have HT:Hid (zx (w.heap.size+1+1) w1 a o.vs/\(∀g,a=some g->g.block<m)/\w.heap.size+1+1<=m/\zx m w1 a' o.hs):=by
  simp only[World.size_alloc]at ht hsm;exact⟨ht,hm,hsm,ht'⟩
 clear ht hm hsm ht' hb1;go_wp2_with fail
 have hbs:=(bRf w1.heap.size w1).alloc (Nat.le_refl _) (.cells #[.string o.kd,.string o.nm,.string o.tm,.slice a o.vs.length dap,.bool o.en,.slice a' o.hs.length dap',.int .i64 o.vr] 123);have hBs:=hB1.trans (hbs.mono hB1.size);refine(zfQ a0 cap0 ss o _ _ cap cap' w _ HW.out.1 hBs HC.out).mono ?_;rintro e w2⟨fa,fcap,rfl,hf,hb2⟩;have HFA:=hid hf;have hba:=hbs.trans (hb2.mono hbs.size);have HR2:=hid ((hba.block _ hz1).trans HR1.out);have HO2:=hid ((hba.block _ hz0).trans HO1.out);have HU2:Hid (w2.heap[w1.heap.size]?=some (.cells #[.string o.kd,.string o.nm,.string o.tm,.slice a o.vs.length dap,.bool o.en,.slice a' o.hs.length dap',.int .i64 o.vr] 123)):=(hb2.block _ (by simp)).trans (alloc_at _ _);have HX2:=zc6 (HT.out.1.mono hba) (HT.out.2.2.2.mono hba) (hB1.trans (hba.mono hB1.size));have hz2:=(gES HU2.out).1;have hX2:∀j,w2.cell? ⟨w.heap.size,j,none⟩=(#[.string o.kd,.string o.nm,.string o.tm,.slice (some ⟨b,off,none⟩) o.vs.length cap,.bool o.en,.slice (some ⟨b',off',none⟩) o.hs.length cap',.int .i64 o.vr]:Array Value)[j]?:=fun j=>cell_of_block HO2.out
 have hzo2:w.heap.size<w2.heap.size:=by omega
 clear hbs hBs hb2 hba hX1 hf;go_wp2_with fail
 refine(jJ _ _ _ _ _ (HW.out.1.mono HX2.out.2.2) HK.out).mono ?_;rintro e w3⟨ix,hix,rfl,hsh,rfl⟩;have HSh:=hid hsh;clear hsh;obtain⟨sb,soff,rfl,hsb0,hsr⟩:=HW.out.1.rows (by rintro rfl;simp at hix);obtain⟨fa2,fcap2,hs0⟩:=hsr ix hix;have hs:=hs0.mono hsb0 HX2.out.2.2;have hck:=hs.kind;have hcl:=hs.list;have HF2:=hid hs0.zdk;have hixI:(ix:Int)<(ss.length:Int):=by omega
 have hsbw:=nLt hsb0 HX2.out.2.2.size;clear hsr hs hs0;go_wp2_with fail
 refine(zlC fa2 ma fcap2 mcap ss[ix] ms _ (HF2.out.mono HX2.out.2.2) (HW.out.2.mono HX2.out.2.2) HRO.out.mends (by have:=HRO.out.few;rw[HSh.out]at this;exact this)).mono ?_;rintro e w4⟨v,rfl,hrow,hb4⟩;rw[<- HSh.out,HRO.out.names]at hrow;obtain⟨ra,rcap,rfl,hrw⟩:=zqr (by rw[List.length_map];rw[List.length_map]at hrow;exact hrow);rw[List.length_map];have HRO2:=HRO.out;have HX4:Hid (zx (w.heap.size+1+1) w4 a o.vs/\zx m w4 a' o.hs/\Below w.heap.size w w4):=⟨HX2.out.1.mono hb4,HX2.out.2.1.mono hb4,HX2.out.2.2.trans (hb4.mono HX2.out.2.2.size)⟩
 have HR4:Hid (w4.heap[w.heap.size+1]?=some (.cells #[.string ByteArray.empty,.string ByteArray.empty,.string ByteArray.empty,.slice none 0 0,.bool false,.slice none 0 0,.int .i64 0] 123)):=(hb4.block _ (by omega)).trans HR2.out;have HU4:Hid (w4.heap[w1.heap.size]?=some (.cells #[.string o.kd,.string o.nm,.string o.tm,.slice a o.vs.length dap,.bool o.en,.slice a' o.hs.length dap',.int .i64 o.vr] 123)):=(hb4.block _ hz2).trans HU2.out;have HZ4:Hid (w3.heap.size<=w4.heap.size):=hb4.size;clear hb4 hX2 hck hcl HSh HF2 HRO hixI hrow
 revert HRO2 HFA hrw
 generalize greedy (zn (shapeOf ss o.kd) ms) (shapeOf ss o.kd).fs.length (shapeOf ss o.kd).fs.length=pl
 intro HFA hrw hro;have HRW:Hid (zqZ ss ms o pl):=hro;have HVS:Hid (zhv ss ms o=z8 (decided (shapeOf ss o.kd) ms) pl o.vs):=hro.res
 have hpl6:pl.length<=6:=by
  have h1:=zbS pl (List.range (shapeOf ss o.kd).fs.length) hro.zpv.nodup (fun x hx=>List.mem_range.2 ((hro.zpv.mem x).1 hx));rw[List.length_range]at h1
  have:=hro.few
  omega
 clear hro;go_wp2_with fail
 go_loopw [11] (fun i wr=>∃k:Nat,k<=pl.length/\i=.int .i64 k/\zx (w.heap.size+1+1) wr a (z8 (decided (shapeOf ss o.kd) ms) (pl.take k) o.vs)/\zx m wr a' o.hs/\wr.heap[w.heap.size+1]?=some (.cells #[.string ByteArray.empty,.string ByteArray.empty,.string ByteArray.empty,.slice none 0 0,.bool false,.slice none 0 0,.int .i64 0] 123)/\wr.heap[w1.heap.size]?=some (.cells #[.string o.kd,.string o.nm,.string o.tm,.slice a o.vs.length dap,.bool o.en,.slice a' o.hs.length dap',.int .i64 o.vr] 123)/\Below w.heap.size w wr/\w3.heap.size<=wr.heap.size/\(pl.map (za8 (shapeOf ss o.kd))≠[]->∃rb,ra=some ⟨rb,0,none⟩/\w3.heap.size<=rb/\rb<wr.heap.size/\∀i (h:i<(pl.map (za8 (shapeOf ss o.kd))).length),wr.cell? ⟨rb,i,none⟩=some (.string (pl.map (za8 (shapeOf ss o.kd)))[i]))) (fun i _=>pl.length-(intOf i).toNat)
 case atStart=>exact⟨0,Nat.zero_le _,rfl,HX4.out.1,HX4.out.2.1,HR4.out,HU4.out,HX4.out.2.2,HZ4.out,hrw⟩
 case round=>
  obtain⟨k,hk,rfl,ht,ht',hR,hO,hB,hz3,hrr⟩:=hrel
  by_cases hlt:k<pl.length
  ·obtain⟨rb,rfl,hrb0,hrbz,hrc⟩:=hrr (by intro h;have:=congrArg List.length h;simp at this;rw[this]at hlt;simp at hlt)
   have hpn:pl[k]<(shapeOf ss o.kd).fs.length:=(HRW.out.zpv.mem _).1 (List.getElem_mem hlt);have hck:=hrc k (by rw[List.length_map];exact hlt);rw[List.getElem_map]at hck;have hnm:za8 (shapeOf ss o.kd) pl[k]=(shapeOf ss o.kd).fs[pl[k]].nm:=by unfold za8;rw[getD_at _ _ _ hpn]
   rw[hnm]at hck;have HTS:Hid (z8 (decided (shapeOf ss o.kd) ms) (pl.take (k+1)) o.vs=(z8 (decided (shapeOf ss o.kd) ms) (pl.take k) o.vs).set pl[k] (decided (shapeOf ss o.kd) ms pl[k] (z8 (decided (shapeOf ss o.kd) ms) (pl.take k) o.vs))):=zl7 _ pl o.vs k hlt;have HUS:Hid (∀x∈z8 (decided (shapeOf ss o.kd) ms) (pl.take k) o.vs,x.size<=maxLen):=zcf HW.out.2.small _ _ HH.out.vals.small;have HLV:Hid ((z8 (decided (shapeOf ss o.kd) ms) (pl.take k) o.vs).length=o.vs.length):=jS _ _ _;have HRR:Hid (∀i (h:i<(pl.map (za8 (shapeOf ss o.kd))).length),wr.cell? ⟨rb,i,none⟩=some (.string (pl.map (za8 (shapeOf ss o.kd)))[i])):=hrc;clear hrr hrc hnm
   revert hck HTS hpn
   generalize pl[k]=p
   intro hpn hck HTS
   revert HTS HLV HUS ht
   generalize z8 (decided (shapeOf ss o.kd) ms) (pl.take k) o.vs=us
   intro ht HUS HLV HTS;have hltI:(k:Int)<(pl.length:Int):=by omega
   have hpv:p<us.length:=by rw[HLV.out,HRW.out.len];exact hpn
   have hpI:(p:Int)<(o.vs.length:Int):=by have:=HRW.out.len;omega
   obtain⟨g,C,hga,hgl,hgh,hgc⟩:∃g C,a=some ⟨g,0,none⟩/\w.heap.size+1+1<=g/\wr.heap[g]?=some (.cells C 9)/\∀i (h:i<us.length),C[i]?=some (.string us[i]):=by
    rcases ht with⟨_,h0⟩|h0
    ·rw[h0]at hpv;simp at hpv
    ·exact h0
   have hgm:g<m:=HT.out.2.1 _ hga;have hgw1:g<w1.heap.size:=HT.out.1.lt _ hga;have hgw:g<wr.heap.size:=by omega
   subst hga;have hUS:zD wr (some ⟨g,0,none⟩) us:=ht.at (by rw[HLV.out];exact HH.out.vals.len) HUS.out;have HJP:Hid (zR (shapeOf ss o.kd).fs (shapeOf ss o.kd).fs[p].nm=(p:Int)):=HRW.out.place p hpn;have hOc:∀j,wr.cell? ⟨w1.heap.size,j,none⟩=(#[.string o.kd,.string o.nm,.string o.tm,.slice (some ⟨g,0,none⟩) o.vs.length dap,.bool o.en,.slice a' o.hs.length dap',.int .i64 o.vr]:Array Value)[j]?:=fun j=>cell_of_block hO
   have hOz:w1.heap.size<wr.heap.size:=(gES hO).1;have hRk:(k:Int)<((pl.map (za8 (shapeOf ss o.kd))).length:Int):=by rw[List.length_map];exact hltI
   have hkr:wr.cell? ⟨rb,0+k,none⟩=some (.string (shapeOf ss o.kd).fs[p].nm):=by rw[Nat.zero_add];exact hck
   have HX:Hid (zx (w.heap.size+1+1) wr (some ⟨g,0,none⟩) us/\zx m wr a' o.hs/\wr.heap[w.heap.size+1]?=some (.cells #[.string ByteArray.empty,.string ByteArray.empty,.string ByteArray.empty,.slice none 0 0,.bool false,.slice none 0 0,.int .i64 0] 123)/\wr.heap[w1.heap.size]?=some (.cells #[.string o.kd,.string o.nm,.string o.tm,.slice (some ⟨g,0,none⟩) o.vs.length dap,.bool o.en,.slice a' o.hs.length dap',.int .i64 o.vr] 123)/\Below w.heap.size w wr/\w3.heap.size<=wr.heap.size):=⟨ht,ht',hR,hO,hB,hz3⟩
   clear ht ht' hR hO hB hz3 hgh hgc;go_wp2_with fail
   have hb:=(bRf wr.heap.size wr).drew;have hS1:∀j,wr.drew.cell? ⟨w1.heap.size,j,none⟩=(#[.string o.kd,.string o.nm,.string o.tm,.slice (some ⟨g,0,none⟩) o.vs.length dap,.bool o.en,.slice a' o.hs.length dap',.int .i64 o.vr]:Array Value)[j]?:=hOc;have hS2:wr.drew.cell? ⟨rb,k,none⟩=some (.string (shapeOf ss o.kd).fs[p].nm):=hck;have hrg:rb≠g:=by omega
   have how:w1.heap.size≠g:=by omega
   clear hOc hck hkr
   go_region_held3 (fun w'=>(∀j,w'.cell? ⟨w1.heap.size,j,none⟩=(#[.string o.kd,.string o.nm,.string o.tm,.slice (some ⟨g,0,none⟩) o.vs.length dap,.bool o.en,.slice a' o.hs.length dap',.int .i64 o.vr]:Array Value)[j]?)/\w'.cell? ⟨rb,k,none⟩=some (.string (shapeOf ss o.kd).fs[p].nm)) (first|exact⟨hS1,hS2⟩|exact⟨hS3,hS4⟩) (first
    | (go_at_call 172;refine(zdw HJP.out (qp _ _ (shapeOf ss o.kd).fs _ _ (by exact HFA.out.mono (HX.out.2.2.2.2.1.trans (hb.mono HX.out.2.2.2.2.1.size))))).mono ?_;rintro e w5⟨rfl,rfl⟩)
    | (go_at_call 177;refine(zkn (shapeOf ss o.kd) ms o us _ HLV.out p _ _ _ _ _ _ _ _ _ (by exact HFA.out.mono (HX.out.2.2.2.2.1.trans (hb.mono HX.out.2.2.2.2.1.size))) (by exact HW.out.2.mono (HX.out.2.2.2.2.1.trans (hb.mono HX.out.2.2.2.2.1.size))) (by exact hUS.mono hb) (by rw[HLV.out];exact HRW.out.len) hpn HJP.out HRW.out.kd.symm (HRW.out.reads p hpn)).mono ?_;rintro e w6⟨rfl,hb6⟩;have hb:=hb.trans (hb6.mono hb.size);have hS1:=za hS1 hOz hb6;have hS2:=(hb6.cell (p:=⟨rb,k,none⟩) hrbz).trans hS2;have hU6:=hUS.mono hb;have hG:=HX.out.1.mono hb;clear hb6;have hS3:∀j,(w6.setCell ⟨g,p,none⟩ (.string (decided (shapeOf ss o.kd) ms p us))).cell? ⟨w1.heap.size,j,none⟩=(#[.string o.kd,.string o.nm,.string o.tm,.slice (some ⟨g,0,none⟩) o.vs.length dap,.bool o.en,.slice a' o.hs.length dap',.int .i64 o.vr]:Array Value)[j]?:=fun j=>(yg how).trans (hS1 j);have hS4:(w6.setCell ⟨g,p,none⟩ (.string (decided (shapeOf ss o.kd) ms p us))).cell? ⟨rb,k,none⟩=some (.string (shapeOf ss o.kd).fs[p].nm):=(yg hrg).trans hS2;have hgc6:w6.cell? ⟨g,p,none⟩=some (.string us[p]):=zqF hG p hpv;have hgf6:w6.frozen? ⟨g,p,none⟩=false:=zqA hG hpv))
   go_wp2_with fail
   obtain⟨ht,ht',hR,hO,hB,hz3⟩:=HX.out;exact⟨⟨k+1,by omega,by go_num,by rw[HTS.out];exact(ht.mono hb).set p _,(ht'.mono hb).setCell _ hgm _,(Below.heap_setCell _ _ _ _ (by show w.heap.size+1≠g;omega)).trans ((hb.block _ (by omega)).trans hR),(Below.heap_setCell _ _ _ _ (by show w1.heap.size≠g;omega)).trans ((hb.block _ hOz).trans hO),(hB.trans (hb.mono hB.size)).setCell (p:=⟨g,p,none⟩) (by show w.heap.size<=g;omega) _,by rw[World.size_setCell];exact Nat.le_trans hz3 hb.size,fun _=>⟨rb,rfl,hrb0,by rw[World.size_setCell];exact nLt hrbz hb.size,fun i hi=>(yg hrg).trans ((hb.cell (p:=⟨rb,i,none⟩) hrbz).trans (HRR.out i hi))⟩⟩,zm hlt⟩
  ·have e:k=pl.length:=by omega
   subst e;rw[tOl (Nat.le_refl _),<- HVS.out]at ht;have hRc:∀j,wr.cell? ⟨w.heap.size+1,j,none⟩=(#[.string ByteArray.empty,.string ByteArray.empty,.string ByteArray.empty,.slice none 0 0,.bool false,.slice none 0 0,.int .i64 0]:Array Value)[j]?:=fun j=>cell_of_block hR
   have hRf:∀j,wr.frozen? ⟨w.heap.size+1,j,none⟩=false:=fun j=>zh hR
   have hOc:∀j,wr.cell? ⟨w1.heap.size,j,none⟩=(#[.string o.kd,.string o.nm,.string o.tm,.slice a o.vs.length dap,.bool o.en,.slice a' o.hs.length dap',.int .i64 o.vr]:Array Value)[j]?:=fun j=>cell_of_block hO
   have hOz:=(gES hO).1;have HX:=zc6 ht ht' hB;clear ht ht' hB hR hO hrr;go_wp2_with fail
   refine bodyPost_ret (v:=(.agg #[.string o.kd,.string o.nm,.string o.tm,.slice a o.vs.length dap,.bool o.en,.slice a' o.hs.length dap',.int .i64 o.vr])) (by simp[results,Tryz.results136,go_sem,hRc]) rfl ?_;obtain⟨ht,ht',hB⟩:=HX.out;rw[HRES.out];exact⟨a,dap,a',dap',m,rfl,(jT ht _ (by omega) _ _ _ _ _ _ _).low (by omega),HT.out.2.1,by have:=HT.out.2.2.1;omega,jT ht' _ (by have:=HT.out.2.2.1;omega) _ _ _ _ _ _ _,zaW hB _ (by omega) _ _ _ _ _ _ _⟩
end Go.Proofs.YtnapmdofidgliaaGreat
