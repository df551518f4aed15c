import Derived.Test.YtjnpjkigofldlaaGreatM23
import Derived.Test.YtjnpjkigofldlaaGreatM22
import Derived.Test.YtjnpjkigofldlaaGreatM24
set_option maxHeartbeats 4000000
namespace Go.Proofs.YtjnpjkigofldlaaGreat
open Go.RowKit
theorem zjw (a:OA)(cap:Nat)(w:World) :
 Calls Tryz.prog 146 #[.l a 0 cap] w fun e w'=>∃v,e=.returned v/\w'.ownsRow w.heap.size 9 1 v 0 []/\Bw w w':=by
 cases a with
 | none=>exact zfg cap w
 | some g=>
  go_in;go_wp2
  go_ret;exact⟨_,rfl,World.ownsRow_nil _ _ _ _,bRf _ _⟩
theorem zgk (a:OA)(cap:Nat)(ws:List BA)(w:World)(hw:zD w a ws)(hl:ws.length<=1048576) :
 Calls Tryz.prog 146 #[.l a ws.length cap] w
  fun e w'=>∃v,e=.returned v/\w'.ownsRow w.heap.size 9 1 v ws.length (ws.map Value.string)/\Bw w w':=by
 by_cases h:ws=[]
 ·subst h
  exact zjw a cap w
 ·obtain⟨b,off,rfl,_⟩:=hw.cells h
  exact zgf b off cap ws w hw hl
theorem zft (o:Ob)(va ha:OA)(cap cap':Nat)(w:World)(ho:qY w o va ha)(hl:o.vs.length<=1048576)(hl':o.hs.length<=1048576) :
 Calls Tryz.prog 87 #[.agg (oC o va ha cap cap')] w
  fun e w'=>∃a dap a' dap' m,e=.returned (.agg (oC o a a' dap dap'))/\zk w.heap.size w' a o.vs/\(∀g,a=some g->g.block<m)/\w.heap.size<=m/\zk m w' a' o.hs/\Bw w w':=by
 go_in;go_wp2_with fail
 refine(zgk _ _ _ _ (ho.vals.mono (zo _ _ _)) hl).mono ?_;rintro e w1⟨v,rfl,hown1,hb1⟩;obtain⟨a,dap,rfl,ht1⟩:=zk.zbC hown1;have hk1:=(hb1.block w.heap.size (by simp;omega)).trans (zK _ _ _).1;have hr1:=(hb1.block (w.heap.size+1) (by simp)).trans (zK _ _ _).2;have HT:Hid (zk (w.heap.size+1+1) w1 a o.vs):=by unfold Hid;simpa using ht1
 have hz1:w.heap.size+1<w1.heap.size:=by have:=hb1.size;simp at this;omega
 have hB1:=(zo _ _ _).trans (hb1.mono (by simp;omega));have HK:=hid hk1;have HRR:=hid hr1;have hX1:∀j,w1.cell? (aD w.heap.size j)=(oC o va ha cap cap')[j]?:=fun j=>cell_of_block hk1
 have hF1:∀j,w1.frozen? (aD w.heap.size j)=false:=fun j=>zf hk1
 clear hb1 hown1 ht1 hk1 hr1;go_wp2_with fail
 have hB1':=hB1.setCell (p:=(aD w.heap.size 3)) (Nat.le_refl _) (.l a o.vs.length dap);refine(zgk _ _ _ _ (ho.holds.mono hB1') hl').mono ?_;rintro e w2⟨v,rfl,hown2,hb2⟩;obtain⟨a',dap',rfl,ht2⟩:=zk.zbC hown2;have hk2:=(hb2.block w.heap.size (by simp[World.setCell];omega)).trans (zh HK.o _);have hr2:=(hb2.block (w.heap.size+1) (by simp[World.setCell];omega)).trans ((Below.heap_setCell _ _ _ _ (by simp)).trans HRR.o);have HT2:=hid ((HT.o.setCell _ (by simp;omega) _).mono hb2);have HU2:Hid (zk w1.heap.size w2 a' o.hs):=by unfold Hid;simpa[World.setCell] using ht2
 have HM:Hid (∀g,a=some g->g.block<w1.heap.size):=by
  intro g hg
  rcases HT.o with⟨h0,_⟩|⟨g',C,h0,_,hh,_⟩
  ·rw[h0]at hg;cases hg
  ·rw[h0]at hg;cases hg;exact(gES hh).1
 have hz2:w.heap.size+1<w2.heap.size:=by have:=hb2.size;simp[World.setCell]at this;omega
 have hB2:=hB1'.trans (hb2.mono hB1'.size);have hX2:∀j,w2.cell? (aD w.heap.size j)=(oC o a ha dap cap')[j]?:=fun j=>cell_of_block hk2
 have hF2:∀j,w2.frozen? (aD w.heap.size j)=false:=fun j=>zf hk2
 have hY2:∀j,w2.cell? (aD (w.heap.size+1) j)=oZ[j]?:=fun j=>cell_of_block hr2
 have hG2:∀j,w2.frozen? (aD (w.heap.size+1) j)=false:=fun j=>zf hr2
 have hzz:w.heap.size<=w1.heap.size:=by omega
 clear hb2 hown2 ht2 hX1 hF1 hB1 hB1' hk2 hr2;go_wp2
 refine bodyPost_ret (v:=(.agg (oC o a a' dap dap'))) (by simp[results,Tryz.results87,go_sem,hY2]) rfl ⟨a,dap,a',dap',w1.heap.size,rfl,((((((((HT2.o.setCell _ (by simp;omega) _).setCell _ (by simp) _).setCell _ (by simp) _).setCell _ (by simp) _).setCell _ (by simp) _).setCell _ (by simp) _).setCell _ (by simp) _).setCell _ (by simp) _).low (by omega),HM.o,hzz,((((((((HU2.o.setCell _ (by simp;omega) _).setCell _ (by simp;omega) _).setCell _ (by simp;omega) _).setCell _ (by simp;omega) _).setCell _ (by simp;omega) _).setCell _ (by simp;omega) _).setCell _ (by simp;omega) _).setCell _ (by simp;omega) _),((((((((hB2.setCell (Nat.le_refl _) _).setCell (by simp) _).setCell (by simp) _).setCell (by simp) _).setCell (by simp) _).setCell (by simp) _).setCell (by simp) _).setCell (by simp) _)⟩
theorem zrm (o:Ob)(kd:BA)(fs:List Fld)(fa:OA)(va ha:OA)(fcap cap cap':Nat)(w:World)(hf:yw w fa fs)(ho:qY w o va ha)(hl:o.vs.length<=1048576)(hl':o.hs.length<=1048576)(hc:o.vs.length=fs.length) :
 Calls Tryz.prog 245 #[.agg #[.s kd,.l fa fs.length fcap],.agg (oC o va ha cap cap')] w
  fun e w'=>∃a dap a' dap' m,e=.returned (.agg (oC o a a' dap dap'))/\zk w.heap.size w' a (zal fs o.vs)/\(∀g,a=some g->g.block<m)/\w.heap.size<=m/\zk m w' a' o.hs/\Bw w w':=by
 have HC:=hid hc;clear hc;go_in;go_wp2_with fail
 refine(zft o va ha cap cap' _ (ho.mono (jc _ _ _ _)) hl hl').mono ?_;rintro e w1⟨a,dap,a',dap',m,rfl,ht,hm,hsm,ht',hb1⟩;have hX1:∀j,w1.cell? (aD w.heap.size j)=(#[.s kd,.l fa fs.length fcap]:AV)[j]?:=fun j=>cell_of_block ((hb1.block w.heap.size (by simp;omega)).trans (zcq _ _ _ _))
 have HR1:=hid ((hb1.block (w.heap.size+1+1) (by simp)).trans (zdv _ _ _ _));have hB1:=(jc _ _ _ _).trans (hb1.mono (by simp;omega));have hz1:w.heap.size+1+1<w1.heap.size:=by have:=hb1.size;simp at this;omega
 have HT:Hid (zk (w.heap.size+1+1+1) w1 a o.vs/\(∀g,a=some g->g.block<m)/\w.heap.size+1+1+1<=m/\zk m w1 a' o.hs):=by
  simp only[World.size_alloc]at ht hsm;exact⟨ht,hm,hsm,ht'⟩
 have hz0:w.heap.size<w1.heap.size:=by omega
 clear ht hm hsm ht' hb1 ho;have hlen:=hf.len;unfold maxLen at hlen;go_wp2_with fail
 clear hX1
 go_loopw [13] (fun i wr=>∃k:Nat,k<=fs.length/\i=.i k/\zk (w.heap.size+1+1+1) wr a (je fs o.vs k)/\zk m wr a' o.hs/\wr.heap[w.heap.size+1+1]?=some (.cells oZ 116)/\wr.heap[w1.heap.size]?=some (.cells (oC o a a' dap dap') 116)/\Bw w wr) (fun i _=>fs.length-(intOf i).toNat)
 case atStart=>
  have hba:=(bRf w1.heap.size w1).alloc (Nat.le_refl _) (.cells (oC o a a' dap dap') 116);exact⟨0,Nat.zero_le _,rfl,by rw[zi4];exact HT.o.1.mono hba,HT.o.2.2.2.mono hba,(hba.block _ hz1).trans HR1.o,alloc_at _ _,hB1.alloc hB1.size _⟩
 case round=>
  obtain⟨k,hk,rfl,ht,ht',hR,hO,hB⟩:=hrel;have hOc:∀j,wr.cell? (aD w1.heap.size j)=(oC o a a' dap dap')[j]?:=fun j=>cell_of_block hO
  have hOz:=(gES hO).1
  by_cases hlt:k<fs.length
  ·have hltv:k<o.vs.length:=by rw[HC.o];exact hlt
   obtain⟨fb,foff,rfl,hfb,hr⟩:=hf.rows (by rintro rfl;simp at hlt);obtain⟨wa,wcap,hf0⟩:=hr k hlt;have hf1:=hf0.mono hfb hB;obtain⟨c0,c1,c2,c3,c4,c5,c6,c7,c8,c9,c10⟩:=hf1.load;have hltI:(k:Int)<(fs.length:Int):=by omega
   have hltV:(k:Int)<(o.vs.length:Int):=by omega
   have hfbw:=nLt hfb hB.size
   obtain⟨g,C,hga,hgl,hgh,hgc⟩:∃g C,a=some (aD g 0)/\w.heap.size+1+1+1<=g/\wr.heap[g]?=some (.cells C 9)/\∀i (h:i<(je fs o.vs k).length),C[i]?=some (.s (je fs o.vs k)[i]):=by
    rcases ht with⟨_,h0⟩|h0
    ·have:=zaF HC.o k;rw[h0]at this;simp at this;omega
    ·exact h0
   have hgm:g<m:=HT.o.2.1 _ hga;have hgw1:g<w1.heap.size:=by have:=HT.o.1.lt _ hga;exact this
   have hgw:g<wr.heap.size:=by omega
   subst hga
   have hcell:wr.cell? (aD g k)=some (.s o.vs[k]):=by
    have h1:=zfT HC.o k hlt;have hkl:k<(je fs o.vs k).length:=by rw[zaF HC.o];exact hltv
    rw[List.getElem?_eq_getElem hkl,List.getElem?_eq_getElem hltv]at h1;rw[cell_of_block hgh,hgc k hkl,Option.some.inj h1]
   have hgf:wr.frozen? (aD g k)=false:=zf hgh;have HX:=zkq ht ht' hR hO hB;clear ht ht' hR hO hB hf hr hf0 hf1 hgh hgc
   by_cases hv:o.vs[k].toList.isEmpty=true
   ·have HV:Hid (zax fs[k] o.vs[k]=fs[k].df):=by unfold Hid zax;rw[if_pos hv]
    go_wp2_with fail
    obtain⟨ht,ht',hR,hO,hB⟩:=HX.o;have hba:=(bRf (wr.setCell (aD g k) (.s fs[k].df)).heap.size (wr.setCell (aD g k) (.s fs[k].df))).alloc (Nat.le_refl _) (.cells #[.s fs[k].nm,.i fs[k].kd,.i fs[k].ls,.i fs[k].ms,.l wa fs[k].ws.length wcap,.s fs[k].to,.i fs[k].rl,.bool fs[k].mu,.bool fs[k].fx,.s fs[k].df,.s fs[k].wg] 183);have hs0:(wr.setCell (aD g k) (.s fs[k].df)).heap.size=wr.heap.size:=by simp[World.setCell]
    exact⟨⟨k+1,by omega,by go_num,by rw[zdy HC.o k hlt,HV.o];exact(ht.set k _).mono hba,(ht'.setCell _ hgm _).mono hba,(hba.block _ (by rw[hs0];omega)).trans ((Below.heap_setCell _ _ _ _ (by show w.heap.size+1+1≠g;omega)).trans hR),(hba.block _ (by rw[hs0];exact hOz)).trans ((Below.heap_setCell _ _ _ _ (by show w1.heap.size≠g;omega)).trans hO),(hB.setCell (p:=(aD g k)) (by show w.heap.size<=g;omega) _).alloc (by rw[hs0];exact hB.size) _⟩,zi hlt⟩
   ·have HV:Hid (zax fs[k] o.vs[k]=o.vs[k]):=by unfold Hid zax;rw[if_neg hv]
    go_wp2_with fail
    obtain⟨ht,ht',hR,hO,hB⟩:=HX.o;have hba:=(bRf wr.heap.size wr).alloc (Nat.le_refl _) (.cells #[.s fs[k].nm,.i fs[k].kd,.i fs[k].ls,.i fs[k].ms,.l wa fs[k].ws.length wcap,.s fs[k].to,.i fs[k].rl,.bool fs[k].mu,.bool fs[k].fx,.s fs[k].df,.s fs[k].wg] 183)
    have hsame:(je fs o.vs k).set k o.vs[k]=je fs o.vs k:=by
     have h1:=zfT HC.o k hlt;have hkl:k<(je fs o.vs k).length:=by rw[zaF HC.o];exact hltv
     rw[List.getElem?_eq_getElem hkl,List.getElem?_eq_getElem hltv]at h1;rw[<- Option.some.inj h1,List.set_getElem_self]
    exact⟨⟨k+1,by omega,by go_num,by rw[zdy HC.o k hlt,HV.o,hsame];exact ht.mono hba,ht'.mono hba,(hba.block _ (by omega)).trans hR,(hba.block _ hOz).trans hO,hB.alloc hB.size _⟩,zi hlt⟩
  ·have e:k=fs.length:=by omega
   subst e;rw[zkD HC.o]at ht;have hRc:∀j,wr.cell? (aD (w.heap.size+1+1) j)=oZ[j]?:=fun j=>cell_of_block hR
   have hRf:∀j,wr.frozen? (aD (w.heap.size+1+1) j)=false:=fun j=>zf hR
   have HX:=zao ht ht' hB;have HM:=yB HT.o.2.2.1 HT.o.2.1;clear ht ht' hB hR hO hf;go_wp2
   refine bodyPost_ret (v:=(.agg (oC o a a' dap dap'))) (by simp[results,Tryz.results245,go_sem,hRc]) rfl ?_;obtain⟨ht,ht',hB⟩:=HX.o;exact⟨a,dap,a',dap',m,rfl,(jF ht _ (by omega) _ _ _ _ _ _ _).low (by omega),HM.o.2,by have:=HM.o.1;omega,jF ht' _ (by have:=HM.o.1;omega) _ _ _ _ _ _ _,qI hB _ (by omega) _ _ _ _ _ _ _⟩
def znw (c p:Int):Value:=if c=0 then .nilIface else .iface 296 (.agg #[.i c,.i p])
theorem zj1 (w:World):Calls Tryz.prog 249 #[.bool true] w fun e w'=>e=.returned .nilIface/\w'=w:=by
 go_in
 go_wp2
 go_ret;exact⟨rfl,rfl⟩
theorem zlm (w:World):Calls Tryz.prog 249 #[.bool false] w fun e w'=>e=.returned (.iface 296 (.agg #[.i 1,.i 0]))/\w'=w:=by
 go_in
 go_wp2
 go_ret;exact⟨rfl,rfl⟩
def jE (b:Bool):Value:=if b then .nilIface else .iface 296 (.agg #[.i 1,.i 0])
theorem jk (b:Bool)(w:World):Calls Tryz.prog 249 #[.bool b] w fun e w'=>e=.returned (jE b)/\w'=w:=by
 cases b
 ·exact zlm w
 ·exact zj1 w
theorem zdp {a b:Bool}(h:a=b):Ending.returned (jE a)=.returned (jE b):=by rw[h]
theorem zfE (a0:OA)(cap0:Nat)(ss:List Shp)(o:Ob)(a a':OA)(cap cap':Nat)(w:World)(ho:qY w o a a') :
 Calls Tryz.prog 239 #[.l a0 ss.length cap0,.agg (oC o a a' cap cap')] w fun e w'=>e=.returned (jE (qH o))/\Bw w w':=by
 have h1:=ho.small.nm;have h2:=ho.small.tm
 by_cases hn:zC o.nm=true
 ·have HN:Hid (zC o.nm=true):=hn
  clear hn ho;go_in;go_wp2_with fail
  refine(zw HN.o (zZ _ _ h1)).mono ?_;rintro e w1⟨rfl,rfl⟩;go_wp2_with fail
  refine(zZ _ _ h2).mono ?_;rintro e w1⟨rfl,rfl⟩;go_wp2_with fail
  refine(jk _ _).mono ?_;rintro e w1⟨rfl,rfl⟩;go_wp2
  go_ret;exact⟨zdp (by unfold qH;rw[HN.o];rfl),bAl _ _⟩
 ·have HN:Hid (zC o.nm=false):=by simpa[Hid] using hn
  clear hn ho;go_in;go_wp2_with fail
  refine(zw HN.o (zZ _ _ h1)).mono ?_;rintro e w1⟨rfl,rfl⟩;go_wp2_with fail
  refine(jk _ _).mono ?_;rintro e w1⟨rfl,rfl⟩;go_wp2
  go_ret;exact⟨zdp (a:=false) (b:=qH o) (by unfold qH;rw[HN.o];rfl),bAl _ _⟩
theorem zfD (a0:OA)(cap0:Nat)(ss:List Shp)(o:Ob)(a a':OA)(cap cap':Nat)(w:World)(ho:qY w o a a') :
 Calls Tryz.prog 240 #[.l a0 ss.length cap0,.agg (oC o a a' cap cap')] w fun e w'=>e=.returned (jE (qP o))/\Bw w w':=by
 have hl:=ho.holds.len;unfold maxLen at hl
 by_cases h3:o.hs.length<=3
 ·go_in
  go_wp2_with fail
  refine(zlH _ _ _ _ (ho.holds.mono (bAl _ _))).mono ?_;rintro e w1⟨rfl,rfl⟩;go_wp2_with fail
  refine(jk _ _).mono ?_;rintro e w1⟨rfl,rfl⟩;go_wp2
  go_ret;exact⟨zdp (by unfold qP;rw[decide_eq_true h3];rfl),bAl _ _⟩
 ·go_in
  go_wp2_with fail
  refine(jk _ _).mono ?_;rintro e w1⟨rfl,rfl⟩;go_wp2
  go_ret;exact⟨zdp (a:=false) (b:=qP o) (by unfold qP;rw[decide_eq_false (show ¬o.hs.length<=3 by omega)];rfl),bAl _ _⟩
theorem zdU (a0:OA)(cap0:Nat)(ss:List Shp)(o:Ob)(a a':OA)(cap cap':Nat)(w:World) :
 Calls Tryz.prog 241 #[.l a0 ss.length cap0,.agg (oC o a a' cap cap')] w fun e w'=>e=.returned (jE (qw o))/\Bw w w':=by
 by_cases h0:0<=o.vr
 ·have HV:Hid (qw o=decide (o.vr<=1000000)):=by unfold Hid qw;rw[decide_eq_true h0];rfl
  go_in
  go_wp2_with (go_at_call 249;refine(jk _ _).mono ?_;rintro e w1⟨rfl,rfl⟩)
  go_ret;exact⟨zdp HV.o.symm,bAl _ _⟩
 ·have HV:Hid (qw o=false):=by unfold Hid qw;rw[decide_eq_false h0];rfl
  go_in
  go_wp2_with (go_at_call 249;refine(jk _ _).mono ?_;rintro e w1⟨rfl,rfl⟩)
  go_ret;exact⟨zdp HV.o.symm,bAl _ _⟩
theorem zfC (a0:OA)(cap0:Nat)(ss:List Shp)(o:Ob)(a a':OA)(cap cap':Nat)(w:World)(hw:yU w a0 ss)(_ho:qY w o a a') :
 Calls Tryz.prog 242 #[.l a0 ss.length cap0,.agg (oC o a a' cap cap')] w fun e w'=>e=.returned (jE (zq ss o))/\Bw w w':=by
 by_cases hk:zF ss o.kd=true
 all_goals
  first
   | (have HK:Hid (zF ss o.kd=true):=hk)
   | (have HK:Hid (zF ss o.kd=false):=by simpa[Hid] using hk)
  clear hk;go_in;go_wp2_with fail
  refine(qV _ _ _ _ _ (hw.mono (bAl _ _))).mono ?_;rintro e w1⟨fa,fcap,rfl,_,hb1⟩;rw[HK.o];have hX1:=za (zI w _ _) (by simp) hb1;have hz1:w.heap.size<w1.heap.size:=by have:=hb1.size;simp at this;omega
  have hB1:Bw w w1:=(bAl _ _).trans (hb1.mono (by simp));clear hb1
  go_wp2_with (go_at_call 249;refine(jk _ _).mono ?_;rintro e w2⟨rfl,rfl⟩)
  go_ret
 ·refine⟨zdp ?_,hB1.alloc (by omega) _⟩
  unfold zq;rw[HK.o];rw[Bool.eq_iff_iff];simp;omega
 ·refine⟨zdp (a:=false) (b:=zq ss o) ?_,hB1.alloc (by omega) _⟩
  unfold zq;rw[HK.o];rfl
def za1 {α:Type}(key:α->α->Int)(ms:List α)(k:Nat):Prop:=∀i (h:i+1<ms.length),i+1<k->key ms[i] ms[i+1]<0
def rising {α:Type}(key:α->α->Int)(ms:List α):Prop:=∀i (h:i+1<ms.length),key ms[i] ms[i+1]<0
noncomputable def zb0 {α:Type}(key:α->α->Int)(ms:List α):Bool:=@decide (rising key ms) (Classical.propDecidable _)
theorem zeS {α:Type}{key:α->α->Int}{ms:List α}{m:Nat}(h:za1 key ms (m+1))(hl:m+1<ms.length)(hk:key ms[m] ms[m+1]<0):za1 key ms (m+1+1):=by
 intro i hi hik
 rcases Nat.lt_or_ge i m with hlt|hge
 ·exact h i hi (by omega)
 ·have e:i=m:=by omega
  subst e;exact hk
theorem zhz {α:Type}{key:α->α->Int}{ms:List α}{m:Nat}(hl:m+1<ms.length)(hk:¬key ms[m] ms[m+1]<0):zb0 key ms=false:=by
 unfold zb0;simp only[decide_eq_false_iff_not];exact fun h=>hk (h m hl)
theorem zhL {α:Type}{key:α->α->Int}{ms:List α}{m:Nat}(h:za1 key ms (m+1))(hl:ms.length<=m+1):zb0 key ms=true:=by
 unfold zb0;simp only[decide_eq_true_eq];exact fun i hi=>h i hi (by omega)
theorem zkg {α:Type}(key:α->α->Int)(ms:List α):zb0 key ms=true↔rising key ms:=by
 unfold zb0;simp only[decide_eq_true_eq]
def zdI (a b:Int):Int:=if a<b then -1 else if b<a then 1 else 0
def zcT (a b:Gr):Int:=zdI a.no b.no
theorem zhQ {n m:Nat}(h:m+1<n):n+1-(intOf (Value.int IntKind.i64 ((m:Int)+1+1))).toNat<n+1-(intOf (Value.int IntKind.i64 ((m:Int)+1))).toNat:=by
 show n+1-((m:Int)+1+1).toNat<n+1-((m:Int)+1).toNat
 omega
theorem zsj (x:Int)(w:World):Calls Tryz.prog 246 #[.i x] w fun e w'=>e=.returned (.bool false)/\w'=w:=by
 have h:(x != x)=false:=by simp
 go_in;go_wp2
 go_ret;exact⟨rfl,rfl⟩
theorem zkU (x y:Int)(w:World):Calls Tryz.prog 228 #[.i x,.i y] w fun e w'=>e=.returned (.i (zdI x y))/\w'=w:=by
 have HN:=hid zsj
 by_cases h1:x<y
 ·have HF:Hid (zdI x y=-1):=by unfold Hid zdI;rw[if_pos h1]
  go_in
  go_wp2_with (go_at_call 246;refine(HN.o _ _).mono ?_;rintro e w2⟨rfl,rfl⟩)
  go_ret;exact⟨zm HF.o.symm,rfl⟩
 ·by_cases h2:y<x
  ·have HF:Hid (zdI x y=1):=by unfold Hid zdI;rw[if_neg h1,if_pos h2]
   go_in
   go_wp2_with (go_at_call 246;refine(HN.o _ _).mono ?_;rintro e w2⟨rfl,rfl⟩)
   go_ret;exact⟨zm HF.o.symm,rfl⟩
  ·have HF:Hid (zdI x y=0):=by unfold Hid zdI;rw[if_neg h1,if_neg h2]
   go_in
   go_wp2_with (go_at_call 246;refine(HN.o _ _).mono ?_;rintro e w2⟨rfl,rfl⟩)
   go_ret;exact⟨zm HF.o.symm,rfl⟩
theorem zkw (g h:Gr)(a b:OA)(c d:Nat)(w:World) :
 Calls Tryz.prog 186 #[.agg (g.cells a c),.agg (h.cells b d)] w fun e w'=>e=.returned (.i (zcT g h))/\Bw w w':=by
 unfold Gr.cells;go_in
 go_wp2_with (go_at_call 228;refine(zkU _ _ _).mono ?_;rintro e w2⟨rfl,rfl⟩)
 go_ret;exact⟨rfl,zo _ _ _⟩
theorem zjC (a:OA)(cap:Nat)(ms:List Ob)(w:World)(hw:zby w a ms) :
 Calls Tryz.prog 181 #[.l a ms.length cap,.func (.func 182) #[] #[]] w fun e w'=>e=.returned (.bool (zb0 zbG ms))/\Bw w w':=by
 have hl:=hw.len;unfold maxLen at hl;have HW:=hid hw;clear hw;go_in;go_wp2
 go_loopw [5] (fun iv wr=>∃m:Nat,iv=.i ((m:Int)+1)/\m<=ms.length/\Hid (za1 zbG ms (m+1)/\Bw w wr)) (fun iv _=>ms.length+1-(intOf iv).toNat)
 case atStart=>exact⟨0,rfl,Nat.zero_le _,fun i h h'=>by omega,bRf _ _⟩
 case round=>
  obtain⟨m,rfl,hml,HQ⟩:=hrel
  by_cases hlt:m+1<ms.length
  ·have hm:m<ms.length:=by omega
   obtain⟨b,off,p0,p1,p2,p3,rfl,hb,_,_,_,d0,d1,d2,d3,d4,d5,d6⟩:=HW.o.load HQ.o.2 m hm;obtain⟨b2,off2,q0,q1,q2,q3,ha2,hbq,_,_,_,e0,e1,e2,e3,e4,e5,e6⟩:=HW.o.load HQ.o.2 (m+1) hlt
   obtain⟨rfl,rfl⟩:b=b2/\off=off2:=by
    have h:=ha2
    simpa using h
   have hb':=nLt hb HQ.o.2.size;have hltI:(m:Int)+1<(ms.length:Int):=by omega
   have h0m:(0:Int)<=(m:Int):=by omega
   have h01:(0:Int)<=(m:Int)+1:=by omega
   have hsub:IntKind.i64.wrap ((m:Int)+1-1)=(m:Int):=by rw[IntKind.wrap_i64];omega
   have hsub2:IntKind.i64.wrap (m:Int)=(m:Int):=by rw[IntKind.wrap_i64];omega
   have hsub3:wrap64 (m:Int)=(m:Int):=by unfold wrap64;omega
   have htn:((m:Int)+1).toNat=m+1:=by omega
   have hlmI:(m:Int)<(ms.length:Int):=by omega
   have HBr:=hid HQ.o.2;have hS:wr.drew.cell? (aD b (off+m*7))=some (.s ms[m].kd)/\wr.drew.cell? (aD b (off+m*7+1))=some (.s ms[m].nm)/\wr.drew.cell? (aD b (off+m*7+2))=some (.s ms[m].tm)/\wr.drew.cell? (aD b (off+m*7+3))=some (.l p0 ms[m].vs.length p2)/\wr.drew.cell? (aD b (off+m*7+4))=some (.bool ms[m].en)/\wr.drew.cell? (aD b (off+m*7+5))=some (.l p1 ms[m].hs.length p3)/\wr.drew.cell? (aD b (off+m*7+6))=some (.i ms[m].vr)/\wr.drew.cell? (aD b (off+(m+1)*7))=some (.s ms[m+1].kd)/\wr.drew.cell? (aD b (off+(m+1)*7+1))=some (.s ms[m+1].nm)/\wr.drew.cell? (aD b (off+(m+1)*7+2))=some (.s ms[m+1].tm)/\wr.drew.cell? (aD b (off+(m+1)*7+3))=some (.l q0 ms[m+1].vs.length q2)/\wr.drew.cell? (aD b (off+(m+1)*7+4))=some (.bool ms[m+1].en)/\wr.drew.cell? (aD b (off+(m+1)*7+5))=some (.l q1 ms[m+1].hs.length q3)/\wr.drew.cell? (aD b (off+(m+1)*7+6))=some (.i ms[m+1].vr):=⟨d0,d1,d2,d3,d4,d5,d6,e0,e1,e2,e3,e4,e5,e6⟩
   clear d0 d1 d2 d3 d4 d5 d6 e0 e1 e2 e3 e4 e5 e6;have HM:=hid HQ.o.1;clear HQ;go_wp2_with fail
   go_region_held3 (fun w'=>w'.cell? (aD b (off+m*7))=some (.s ms[m].kd)/\w'.cell? (aD b (off+m*7+1))=some (.s ms[m].nm)/\w'.cell? (aD b (off+m*7+2))=some (.s ms[m].tm)/\w'.cell? (aD b (off+m*7+3))=some (.l p0 ms[m].vs.length p2)/\w'.cell? (aD b (off+m*7+4))=some (.bool ms[m].en)/\w'.cell? (aD b (off+m*7+5))=some (.l p1 ms[m].hs.length p3)/\w'.cell? (aD b (off+m*7+6))=some (.i ms[m].vr)/\w'.cell? (aD b (off+(m+1)*7))=some (.s ms[m+1].kd)/\w'.cell? (aD b (off+(m+1)*7+1))=some (.s ms[m+1].nm)/\w'.cell? (aD b (off+(m+1)*7+2))=some (.s ms[m+1].tm)/\w'.cell? (aD b (off+(m+1)*7+3))=some (.l q0 ms[m+1].vs.length q2)/\w'.cell? (aD b (off+(m+1)*7+4))=some (.bool ms[m+1].en)/\w'.cell? (aD b (off+(m+1)*7+5))=some (.l q1 ms[m+1].hs.length q3)/\w'.cell? (aD b (off+(m+1)*7+6))=some (.i ms[m+1].vr)) (exact hS) (first|(go_at_call 182;refine(zjL ms[m] ms[m+1] p0 p1 q0 q1 p2 p3 q2 q3 _).mono ?_;rintro e w2⟨rfl,hb2⟩;have hS:=(⟨(hb2.cell (p:=(aD b _)) hb').trans hS.1,(hb2.cell (p:=(aD b _)) hb').trans hS.2.1,(hb2.cell (p:=(aD b _)) hb').trans hS.2.2.1,(hb2.cell (p:=(aD b _)) hb').trans hS.2.2.2.1,(hb2.cell (p:=(aD b _)) hb').trans hS.2.2.2.2.1,(hb2.cell (p:=(aD b _)) hb').trans hS.2.2.2.2.2.1,(hb2.cell (p:=(aD b _)) hb').trans hS.2.2.2.2.2.2.1,(hb2.cell (p:=(aD b _)) hb').trans hS.2.2.2.2.2.2.2.1,(hb2.cell (p:=(aD b _)) hb').trans hS.2.2.2.2.2.2.2.2.1,(hb2.cell (p:=(aD b _)) hb').trans hS.2.2.2.2.2.2.2.2.2.1,(hb2.cell (p:=(aD b _)) hb').trans hS.2.2.2.2.2.2.2.2.2.2.1,(hb2.cell (p:=(aD b _)) hb').trans hS.2.2.2.2.2.2.2.2.2.2.2.1,(hb2.cell (p:=(aD b _)) hb').trans hS.2.2.2.2.2.2.2.2.2.2.2.2.1,(hb2.cell (p:=(aD b _)) hb').trans hS.2.2.2.2.2.2.2.2.2.2.2.2.2⟩:_/\_/\_/\_/\_/\_/\_/\_/\_/\_/\_/\_/\_/\_);have hB2:=HBr.o.drew.trans (hb2.mono HBr.o.drew.size);clear hb2))
   by_cases hk:zbG ms[m] ms[m+1]<0
   ·have HA:=hid (zeS HM.o hlt hk)
    have hd:decide (0<=zbG ms[m] ms[m+1])=false:=by simp;omega
    rw[hd];clear hk hd;go_wp2
    exact⟨⟨m+1,by go_num,by omega,HA.o,hB2⟩,zhQ (by omega)⟩
   ·have HA:=hid (zhz hlt hk)
    have hd:decide (0<=zbG ms[m] ms[m+1])=true:=by simp;omega
    rw[hd];clear hk hd;go_wp2
    go_ret;exact⟨ze HA.o.symm,hB2⟩
  ·have HA:Hid (zb0 zbG ms=true):=zhL HQ.o.1 (by omega)
   have HB:=hid HQ.o.2;clear HQ;go_wp2
   go_ret;exact⟨ze HA.o.symm,HB.o⟩
theorem zjX (a:OA)(cap:Nat)(ms:List Gr)(w:World)(hw:zcs w a ms) :
 Calls Tryz.prog 185 #[.l a ms.length cap,.func (.func 186) #[] #[]] w fun e w'=>e=.returned (.bool (zb0 zcT ms))/\Bw w w':=by
 have hl:=hw.len;unfold maxLen at hl;have HW:=hid hw;clear hw;go_in;go_wp2
 go_loopw [5] (fun iv wr=>∃m:Nat,iv=.i ((m:Int)+1)/\m<=ms.length/\Hid (za1 zcT ms (m+1)/\Bw w wr)) (fun iv _=>ms.length+1-(intOf iv).toNat)
 case atStart=>exact⟨0,rfl,Nat.zero_le _,fun i h h'=>by omega,bRf _ _⟩
 case round=>
  obtain⟨m,rfl,hml,HQ⟩:=hrel
  by_cases hlt:m+1<ms.length
  ·have hm:m<ms.length:=by omega
   obtain⟨b,off,p0,p1,rfl,hb,_,_,d0,d1,d2,d3,d4,d5,d6⟩:=HW.o.load HQ.o.2 m hm;obtain⟨b2,off2,q0,q1,ha2,hbq,_,_,e0,e1,e2,e3,e4,e5,e6⟩:=HW.o.load HQ.o.2 (m+1) hlt
   obtain⟨rfl,rfl⟩:b=b2/\off=off2:=by
    have h:=ha2
    simpa using h
   have hb':=nLt hb HQ.o.2.size;have hltI:(m:Int)+1<(ms.length:Int):=by omega
   have h0m:(0:Int)<=(m:Int):=by omega
   have h01:(0:Int)<=(m:Int)+1:=by omega
   have hsub:IntKind.i64.wrap ((m:Int)+1-1)=(m:Int):=by rw[IntKind.wrap_i64];omega
   have hsub2:IntKind.i64.wrap (m:Int)=(m:Int):=by rw[IntKind.wrap_i64];omega
   have hsub3:wrap64 (m:Int)=(m:Int):=by unfold wrap64;omega
   have htn:((m:Int)+1).toNat=m+1:=by omega
   have hlmI:(m:Int)<(ms.length:Int):=by omega
   have HBr:=hid HQ.o.2;have hS:wr.drew.cell? (aD b (off+m*7))=some (.i ms[m].no)/\wr.drew.cell? (aD b (off+m*7+1))=some (.s ms[m].to)/\wr.drew.cell? (aD b (off+m*7+2))=some (.s ms[m].gb)/\wr.drew.cell? (aD b (off+m*7+3))=some (.l p0 ms[m].r.vs.length p1)/\wr.drew.cell? (aD b (off+m*7+4))=some (.s ms[m].r.kd)/\wr.drew.cell? (aD b (off+m*7+5))=some (.s ms[m].r.tm)/\wr.drew.cell? (aD b (off+m*7+6))=some (.s ms[m].r.px)/\wr.drew.cell? (aD b (off+(m+1)*7))=some (.i ms[m+1].no)/\wr.drew.cell? (aD b (off+(m+1)*7+1))=some (.s ms[m+1].to)/\wr.drew.cell? (aD b (off+(m+1)*7+2))=some (.s ms[m+1].gb)/\wr.drew.cell? (aD b (off+(m+1)*7+3))=some (.l q0 ms[m+1].r.vs.length q1)/\wr.drew.cell? (aD b (off+(m+1)*7+4))=some (.s ms[m+1].r.kd)/\wr.drew.cell? (aD b (off+(m+1)*7+5))=some (.s ms[m+1].r.tm)/\wr.drew.cell? (aD b (off+(m+1)*7+6))=some (.s ms[m+1].r.px):=⟨d0,d1,d2,d3,d4,d5,d6,e0,e1,e2,e3,e4,e5,e6⟩
   clear d0 d1 d2 d3 d4 d5 d6 e0 e1 e2 e3 e4 e5 e6;have HM:=hid HQ.o.1;clear HQ;go_wp2_with fail
   go_region_held3 (fun w'=>w'.cell? (aD b (off+m*7))=some (.i ms[m].no)/\w'.cell? (aD b (off+m*7+1))=some (.s ms[m].to)/\w'.cell? (aD b (off+m*7+2))=some (.s ms[m].gb)/\w'.cell? (aD b (off+m*7+3))=some (.l p0 ms[m].r.vs.length p1)/\w'.cell? (aD b (off+m*7+4))=some (.s ms[m].r.kd)/\w'.cell? (aD b (off+m*7+5))=some (.s ms[m].r.tm)/\w'.cell? (aD b (off+m*7+6))=some (.s ms[m].r.px)/\w'.cell? (aD b (off+(m+1)*7))=some (.i ms[m+1].no)/\w'.cell? (aD b (off+(m+1)*7+1))=some (.s ms[m+1].to)/\w'.cell? (aD b (off+(m+1)*7+2))=some (.s ms[m+1].gb)/\w'.cell? (aD b (off+(m+1)*7+3))=some (.l q0 ms[m+1].r.vs.length q1)/\w'.cell? (aD b (off+(m+1)*7+4))=some (.s ms[m+1].r.kd)/\w'.cell? (aD b (off+(m+1)*7+5))=some (.s ms[m+1].r.tm)/\w'.cell? (aD b (off+(m+1)*7+6))=some (.s ms[m+1].r.px)) (exact hS) (first|(go_at_call 186;refine(zkw ms[m] ms[m+1] p0 q0 p1 q1 _).mono ?_;rintro e w2⟨rfl,hb2⟩;have hS:=(⟨(hb2.cell (p:=(aD b _)) hb').trans hS.1,(hb2.cell (p:=(aD b _)) hb').trans hS.2.1,(hb2.cell (p:=(aD b _)) hb').trans hS.2.2.1,(hb2.cell (p:=(aD b _)) hb').trans hS.2.2.2.1,(hb2.cell (p:=(aD b _)) hb').trans hS.2.2.2.2.1,(hb2.cell (p:=(aD b _)) hb').trans hS.2.2.2.2.2.1,(hb2.cell (p:=(aD b _)) hb').trans hS.2.2.2.2.2.2.1,(hb2.cell (p:=(aD b _)) hb').trans hS.2.2.2.2.2.2.2.1,(hb2.cell (p:=(aD b _)) hb').trans hS.2.2.2.2.2.2.2.2.1,(hb2.cell (p:=(aD b _)) hb').trans hS.2.2.2.2.2.2.2.2.2.1,(hb2.cell (p:=(aD b _)) hb').trans hS.2.2.2.2.2.2.2.2.2.2.1,(hb2.cell (p:=(aD b _)) hb').trans hS.2.2.2.2.2.2.2.2.2.2.2.1,(hb2.cell (p:=(aD b _)) hb').trans hS.2.2.2.2.2.2.2.2.2.2.2.2.1,(hb2.cell (p:=(aD b _)) hb').trans hS.2.2.2.2.2.2.2.2.2.2.2.2.2⟩:_/\_/\_/\_/\_/\_/\_/\_/\_/\_/\_/\_/\_/\_);have hB2:=HBr.o.drew.trans (hb2.mono HBr.o.drew.size);clear hb2))
   by_cases hk:zcT ms[m] ms[m+1]<0
   ·have HA:=hid (zeS HM.o hlt hk)
    have hd:decide (0<=zcT ms[m] ms[m+1])=false:=by simp;omega
    rw[hd];clear hk hd;go_wp2
    exact⟨⟨m+1,by go_num,by omega,HA.o,hB2⟩,zhQ (by omega)⟩
   ·have HA:=hid (zhz hlt hk)
    have hd:decide (0<=zcT ms[m] ms[m+1])=true:=by simp;omega
    rw[hd];clear hk hd;go_wp2
    go_ret;exact⟨ze HA.o.symm,hB2⟩
  ·have HA:Hid (zb0 zcT ms=true):=zhL HQ.o.1 (by omega)
   have HB:=hid HQ.o.2;clear HQ;go_wp2
   go_ret;exact⟨ze HA.o.symm,HB.o⟩
theorem zjG (a:OA)(cap:Nat)(ms:List Lg)(w:World)(hw:zbU w a ms) :
 Calls Tryz.prog 188 #[.l a ms.length cap,.func (.func 189) #[] #[]] w fun e w'=>e=.returned (.bool (zb0 qz ms))/\Bw w w':=by
 have hl:=hw.len;unfold maxLen at hl;have HW:=hid hw;clear hw;go_in;go_wp2
 go_loopw [5] (fun iv wr=>∃m:Nat,iv=.i ((m:Int)+1)/\m<=ms.length/\Hid (za1 qz ms (m+1)/\Bw w wr)) (fun iv _=>ms.length+1-(intOf iv).toNat)
 case atStart=>exact⟨0,rfl,Nat.zero_le _,fun i h h'=>by omega,bRf _ _⟩
 case round=>
  obtain⟨m,rfl,hml,HQ⟩:=hrel
  by_cases hlt:m+1<ms.length
  ·have hm:m<ms.length:=by omega
   obtain⟨b,off,rfl,hb,d0,d1,d2,d3⟩:=HW.o.load HQ.o.2 m hm;obtain⟨b2,off2,ha2,hbq,e0,e1,e2,e3⟩:=HW.o.load HQ.o.2 (m+1) hlt
   obtain⟨rfl,rfl⟩:b=b2/\off=off2:=by
    have h:=ha2
    simpa using h
   have hb':=nLt hb HQ.o.2.size;have hltI:(m:Int)+1<(ms.length:Int):=by omega
   have h0m:(0:Int)<=(m:Int):=by omega
   have h01:(0:Int)<=(m:Int)+1:=by omega
   have hsub:IntKind.i64.wrap ((m:Int)+1-1)=(m:Int):=by rw[IntKind.wrap_i64];omega
   have hsub2:IntKind.i64.wrap (m:Int)=(m:Int):=by rw[IntKind.wrap_i64];omega
   have hsub3:wrap64 (m:Int)=(m:Int):=by unfold wrap64;omega
   have htn:((m:Int)+1).toNat=m+1:=by omega
   have hlmI:(m:Int)<(ms.length:Int):=by omega
   have HBr:=hid HQ.o.2;have hS:wr.drew.cell? (aD b (off+m*4))=some (.s ms[m].tm)/\wr.drew.cell? (aD b (off+m*4+1))=some (.s ms[m].rs)/\wr.drew.cell? (aD b (off+m*4+2))=some (.i ms[m].mo)/\wr.drew.cell? (aD b (off+m*4+3))=some (.i ms[m].fr)/\wr.drew.cell? (aD b (off+(m+1)*4))=some (.s ms[m+1].tm)/\wr.drew.cell? (aD b (off+(m+1)*4+1))=some (.s ms[m+1].rs)/\wr.drew.cell? (aD b (off+(m+1)*4+2))=some (.i ms[m+1].mo)/\wr.drew.cell? (aD b (off+(m+1)*4+3))=some (.i ms[m+1].fr):=⟨d0,d1,d2,d3,e0,e1,e2,e3⟩
   clear d0 d1 d2 d3 e0 e1 e2 e3;have HM:=hid HQ.o.1;clear HQ;go_wp2_with fail
   go_region_held3 (fun w'=>w'.cell? (aD b (off+m*4))=some (.s ms[m].tm)/\w'.cell? (aD b (off+m*4+1))=some (.s ms[m].rs)/\w'.cell? (aD b (off+m*4+2))=some (.i ms[m].mo)/\w'.cell? (aD b (off+m*4+3))=some (.i ms[m].fr)/\w'.cell? (aD b (off+(m+1)*4))=some (.s ms[m+1].tm)/\w'.cell? (aD b (off+(m+1)*4+1))=some (.s ms[m+1].rs)/\w'.cell? (aD b (off+(m+1)*4+2))=some (.i ms[m+1].mo)/\w'.cell? (aD b (off+(m+1)*4+3))=some (.i ms[m+1].fr)) (exact hS) (first|(go_at_call 189;refine(zcC ms[m] ms[m+1] _).mono ?_;rintro e w2⟨rfl,hb2⟩;have hS:=(⟨(hb2.cell (p:=(aD b _)) hb').trans hS.1,(hb2.cell (p:=(aD b _)) hb').trans hS.2.1,(hb2.cell (p:=(aD b _)) hb').trans hS.2.2.1,(hb2.cell (p:=(aD b _)) hb').trans hS.2.2.2.1,(hb2.cell (p:=(aD b _)) hb').trans hS.2.2.2.2.1,(hb2.cell (p:=(aD b _)) hb').trans hS.2.2.2.2.2.1,(hb2.cell (p:=(aD b _)) hb').trans hS.2.2.2.2.2.2.1,(hb2.cell (p:=(aD b _)) hb').trans hS.2.2.2.2.2.2.2⟩:_/\_/\_/\_/\_/\_/\_/\_);have hB2:=HBr.o.drew.trans (hb2.mono HBr.o.drew.size);clear hb2))
   by_cases hk:qz ms[m] ms[m+1]<0
   ·have HA:=hid (zeS HM.o hlt hk)
    have hd:decide (0<=qz ms[m] ms[m+1])=false:=by simp;omega
    rw[hd];clear hk hd;go_wp2
    exact⟨⟨m+1,by go_num,by omega,HA.o,hB2⟩,zhQ (by omega)⟩
   ·have HA:=hid (zhz hlt hk)
    have hd:decide (0<=qz ms[m] ms[m+1])=true:=by simp;omega
    rw[hd];clear hk hd;go_wp2
    go_ret;exact⟨ze HA.o.symm,hB2⟩
  ·have HA:Hid (zb0 qz ms=true):=zhL HQ.o.1 (by omega)
   have HB:=hid HQ.o.2;clear HQ;go_wp2
   go_ret;exact⟨ze HA.o.symm,HB.o⟩
theorem zjY (a:OA)(cap:Nat)(ms:List Pu)(w:World)(hw:zcp w a ms) :
 Calls Tryz.prog 191 #[.l a ms.length cap,.func (.func 192) #[] #[]] w fun e w'=>e=.returned (.bool (zb0 zan ms))/\Bw w w':=by
 have hl:=hw.len;unfold maxLen at hl;have HW:=hid hw;clear hw;go_in;go_wp2
 go_loopw [5] (fun iv wr=>∃m:Nat,iv=.i ((m:Int)+1)/\m<=ms.length/\Hid (za1 zan ms (m+1)/\Bw w wr)) (fun iv _=>ms.length+1-(intOf iv).toNat)
 case atStart=>exact⟨0,rfl,Nat.zero_le _,fun i h h'=>by omega,bRf _ _⟩
 case round=>
  obtain⟨m,rfl,hml,HQ⟩:=hrel
  by_cases hlt:m+1<ms.length
  ·have hm:m<ms.length:=by omega
   obtain⟨b,off,rfl,hb,d0,d1,d2,d3,d4⟩:=HW.o.load HQ.o.2 m hm;obtain⟨b2,off2,ha2,hbq,e0,e1,e2,e3,e4⟩:=HW.o.load HQ.o.2 (m+1) hlt
   obtain⟨rfl,rfl⟩:b=b2/\off=off2:=by
    have h:=ha2
    simpa using h
   have hb':=nLt hb HQ.o.2.size;have hltI:(m:Int)+1<(ms.length:Int):=by omega
   have h0m:(0:Int)<=(m:Int):=by omega
   have h01:(0:Int)<=(m:Int)+1:=by omega
   have hsub:IntKind.i64.wrap ((m:Int)+1-1)=(m:Int):=by rw[IntKind.wrap_i64];omega
   have hsub2:IntKind.i64.wrap (m:Int)=(m:Int):=by rw[IntKind.wrap_i64];omega
   have hsub3:wrap64 (m:Int)=(m:Int):=by unfold wrap64;omega
   have htn:((m:Int)+1).toNat=m+1:=by omega
   have hlmI:(m:Int)<(ms.length:Int):=by omega
   have HBr:=hid HQ.o.2;have hS:wr.drew.cell? (aD b (off+m*5))=some (.s ms[m].dr)/\wr.drew.cell? (aD b (off+m*5+1))=some (.s ms[m].tm)/\wr.drew.cell? (aD b (off+m*5+2))=some (.s ms[m].rs)/\wr.drew.cell? (aD b (off+m*5+3))=some (.i ms[m].am)/\wr.drew.cell? (aD b (off+m*5+4))=some (.i ms[m].un)/\wr.drew.cell? (aD b (off+(m+1)*5))=some (.s ms[m+1].dr)/\wr.drew.cell? (aD b (off+(m+1)*5+1))=some (.s ms[m+1].tm)/\wr.drew.cell? (aD b (off+(m+1)*5+2))=some (.s ms[m+1].rs)/\wr.drew.cell? (aD b (off+(m+1)*5+3))=some (.i ms[m+1].am)/\wr.drew.cell? (aD b (off+(m+1)*5+4))=some (.i ms[m+1].un):=⟨d0,d1,d2,d3,d4,e0,e1,e2,e3,e4⟩
   clear d0 d1 d2 d3 d4 e0 e1 e2 e3 e4;have HM:=hid HQ.o.1;clear HQ;go_wp2_with fail
   go_region_held3 (fun w'=>w'.cell? (aD b (off+m*5))=some (.s ms[m].dr)/\w'.cell? (aD b (off+m*5+1))=some (.s ms[m].tm)/\w'.cell? (aD b (off+m*5+2))=some (.s ms[m].rs)/\w'.cell? (aD b (off+m*5+3))=some (.i ms[m].am)/\w'.cell? (aD b (off+m*5+4))=some (.i ms[m].un)/\w'.cell? (aD b (off+(m+1)*5))=some (.s ms[m+1].dr)/\w'.cell? (aD b (off+(m+1)*5+1))=some (.s ms[m+1].tm)/\w'.cell? (aD b (off+(m+1)*5+2))=some (.s ms[m+1].rs)/\w'.cell? (aD b (off+(m+1)*5+3))=some (.i ms[m+1].am)/\w'.cell? (aD b (off+(m+1)*5+4))=some (.i ms[m+1].un)) (exact hS) (first|(go_at_call 192;refine(zkZ ms[m] ms[m+1] _).mono ?_;rintro e w2⟨rfl,hb2⟩;have hS:=(⟨(hb2.cell (p:=(aD b _)) hb').trans hS.1,(hb2.cell (p:=(aD b _)) hb').trans hS.2.1,(hb2.cell (p:=(aD b _)) hb').trans hS.2.2.1,(hb2.cell (p:=(aD b _)) hb').trans hS.2.2.2.1,(hb2.cell (p:=(aD b _)) hb').trans hS.2.2.2.2.1,(hb2.cell (p:=(aD b _)) hb').trans hS.2.2.2.2.2.1,(hb2.cell (p:=(aD b _)) hb').trans hS.2.2.2.2.2.2.1,(hb2.cell (p:=(aD b _)) hb').trans hS.2.2.2.2.2.2.2.1,(hb2.cell (p:=(aD b _)) hb').trans hS.2.2.2.2.2.2.2.2.1,(hb2.cell (p:=(aD b _)) hb').trans hS.2.2.2.2.2.2.2.2.2⟩:_/\_/\_/\_/\_/\_/\_/\_/\_/\_);have hB2:=HBr.o.drew.trans (hb2.mono HBr.o.drew.size);clear hb2))
   by_cases hk:zan ms[m] ms[m+1]<0
   ·have HA:=hid (zeS HM.o hlt hk)
    have hd:decide (0<=zan ms[m] ms[m+1])=false:=by simp;omega
    rw[hd];clear hk hd;go_wp2
    exact⟨⟨m+1,by go_num,by omega,HA.o,hB2⟩,zhQ (by omega)⟩
   ·have HA:=hid (zhz hlt hk)
    have hd:decide (0<=zan ms[m] ms[m+1])=true:=by simp;omega
    rw[hd];clear hk hd;go_wp2
    go_ret;exact⟨ze HA.o.symm,hB2⟩
  ·have HA:Hid (zb0 zan ms=true):=zhL HQ.o.1 (by omega)
   have HB:=hid HQ.o.2;clear HQ;go_wp2
   go_ret;exact⟨ze HA.o.symm,HB.o⟩
def zug:Ob:=⟨ByteArray.empty,ByteArray.empty,ByteArray.empty,[],false,[],0⟩
def zbY (l:Lw)(team res:BA)(o:Ob):Int:=if under l.ts 4 o.tm team=true then qm l.ss o res else 0
def zaP (l:Lw)(os:List Ob)(team res:BA):Nat->Int
 | 0=>0
 | k+1=>zaP l os team res k+zbY l team res (os.getD k zug)
def used (l:Lw)(os:List Ob)(team res:BA):Int:=zaP l os team res os.length
theorem zrZ (ss:List Shp)(o:Ob)(res:BA):0<=qm ss o res/\qm ss o res<=1+o.sz*10000000:=by
 have h0:o.vs.length<=o.sz:=by unfold Ob.sz zd4 qN;omega
 unfold qm
 split
 ·rename_i hc
  have hc1:=hc.1;unfold zq at hc1;simp only[Bool.and_eq_true,decide_eq_true_eq]at hc1
  have:=zdg (shapeOf ss o.kd).fs o.vs res (shapeOf ss o.kd).fs.length
  have h3:=hc1.2
  split <;> omega
 ·omega
theorem znn (l:Lw)(team res:BA)(o:Ob):0<=zbY l team res o/\zbY l team res o<=1+o.sz*10000000:=by
 unfold zbY
 split
 ·exact zrZ _ _ _
 ·omega
theorem zgJ (l:Lw)(os:List Ob)(team res:BA)(k:Nat)(h:k<os.length):zaP l os team res (k+1)=zaP l os team res k+zbY l team res os[k]:=by
 have e1:os.getD k zug=os[k]:=by simp[List.getD,h]
 simp only[zaP];rw[e1]
theorem zcg (l:Lw)(os:List Ob)(team res:BA):∀k,k<=os.length->0<=zaP l os team res k/\zaP l os team res k<=k+za8 (os.take k)*10000000
 | 0,_=>by simp[zaP,za8]
 | k+1,h=>by
  have h1:=zcg l os team res k (by omega);have h2:=znn l team res os[k];have h3:za8 (os.take (k+1))=za8 (os.take k)+os[k].sz:=za6 Ob.sz os k h;rw[zgJ l os team res k h,h3];omega
theorem zny (l:Lw)(la lb lc:OA)(lca lcb lcc:Nat)(b:Bk)(a0 a1 a2 a3:OA)(c0 c1 c2 c3:Nat)(team res:BA)(w:World)(hl:qp w l la lb lc)(hb:qj w b a0 a1 a2 a3)(hz:qK b.os<=1048576) :
 Calls Tryz.prog 231 #[.agg (l.cells la lb lc lca lcb lcc),.agg (b.cells a0 a1 a2 a3 c0 c1 c2 c3),.s team,.s res] w fun e w'=>e=.returned (.i (used l b.os team res))/\Bw w w':=by
 have HL:Hid (qp w l la lb lc):=hl;have HK:Hid (qj w b a0 a1 a2 a3):=hb;have HZ:Hid (qK b.os<=1048576/\b.os.length<=1048576):=⟨hz,by unfold qK at hz;omega⟩
 clear hl hb hz;unfold Lw.cells Bk.cells;go_in;go_wp2_with fail
 obtain⟨hX0,hY0⟩:=qB w (lC l la lb lc lca lcb lcc) (bC b a0 a1 a2 a3 c0 c1 c2 c3) 47 40;have HB0:Hid (Bw w ((w.alloc (.cells (lC l la lb lc lca lcb lcc) 47)).alloc (.cells (bC b a0 a1 a2 a3 c0 c1 c2 c3) 40))):=zo w _ _;obtain⟨W0,hW0⟩:=xN ((w.alloc (.cells (lC l la lb lc lca lcb lcc) 47)).alloc (.cells (bC b a0 a1 a2 a3 c0 c1 c2 c3) 40));have hz0:w.heap.size+1<W0.heap.size:=by rw[hW0];simp
 rw[<- hW0]at HB0 hX0 hY0 ⊢;clear hW0
 go_loopw [9,15] (fun nv iv wr=>∃(k:Nat) (s:Int),k<=b.os.length/\iv=.i k/\nv=.i s/\Hid (s=zaP l b.os team res k/\Bw W0 wr)) (fun _ iv _=>b.os.length-(intOf iv).toNat)
 case atStart=>exact⟨0,0,Nat.zero_le _,rfl,rfl,by simp[zaP],bRf _ _⟩
 case round=>
  obtain⟨k,s,hk,rfl,rfl,HQ⟩:=hrel
  have hsb:0<=s/\s<=20000000000000:=by
   have h1:=HQ.o.1;have h2:=zcg l b.os team res k hk;have h3:=HZ.o;have h4:za8 (b.os.take k)<=za8 b.os:=zc5 Ob.sz b.os k;unfold qK at h3;omega
  have hkn:k<=1048576:=by have:=HZ.o.2;omega
  by_cases hlt:k<b.os.length
  ·obtain⟨ob,off,v0,v1,q0,q1,rfl,hob,hsm,hl0,hl1,d0,d1,d2,d3,d4,d5,d6⟩:=HK.o.os.load (HB0.o.trans (HQ.o.2.mono HB0.o.size)) k hlt
   have hob':=nLt hob (HB0.o.trans (HQ.o.2.mono HB0.o.size)).size;have hltI:(k:Int)<(b.os.length:Int):=by omega
   have hX:=za hX0 (nSl hz0) HQ.o.2;have hz:=nLt hz0 HQ.o.2.size;have hzX:=nSl hz;have HSt:=hid (zgJ l b.os team res k hlt);have HOo:Hid (qY wr b.os[k] v0 v1):=⟨hsm,hl0,hl1⟩
   have HOl:Hid (b.os[k].vs.length<=1048576):=by
    have h3:=HZ.o.1
    have:=(znJ (left:=1048576) (ms:=b.os) (by omega) (by omega)).2 k hlt
    exact this.1
   have hub:=znn l team res b.os[k];have hwb:=zhH l.ss b.os[k] res HOl.o;clear hsm hl0 hl1 hub;go_wp2_with fail
   have hb1:Bw wr (wr.alloc (.cells (oC b.os[k] v0 v1 q0 q1) 116)):=bAl _ _;have hN:=zI wr (oC b.os[k] v0 v1 q0 q1) 116;obtain⟨w1,hw1⟩:=xN (wr.alloc (.cells (oC b.os[k] v0 v1 q0 q1) 116));have hn1:wr.heap.size<w1.heap.size:=by rw[hw1];simp
   rw[<- hw1]at hb1 hN ⊢;clear hw1 d0 d1 d2 d3 d4 d5 d6;have HB1:=hid (HQ.o.2.trans (hb1.mono HQ.o.2.size));have hX1:=za hX (nSl hz) hb1;have HO1:=hid (HOo.o.mono hb1);have hz1:=Nat.lt_trans hz hn1;clear hb1 hX;refine(zf8 _ _ l.ts b.os[k].tm team _ (HL.o.ts.mono (HB0.o.trans (HB1.o.mono HB0.o.size)))).mono ?_;rintro e w2⟨rfl,hb2⟩;have HB2:=hid (HB1.o.trans (hb2.mono HB1.o.size));have hX2:=za hX1 (nSl hz1) hb2;have hN2:=za hN hn1 hb2;have HO2:=hid (HO1.o.mono hb2);have hz2:=nLt hz1 hb2.size;have hn2:=nLt hn1 hb2.size;clear hb2 hX1 hN
   by_cases hu:under l.ts 4 b.os[k].tm team=true
   ·have HU:Hid (zbY l team res b.os[k]=qm l.ss b.os[k] res):=by unfold Hid zbY;rw[if_pos hu]
    rw[hu];clear hu;go_wp2_with fail
    refine(zfs l _ _ _ _ _ _ b.os[k] _ _ _ _ res _ (HL.o.mono (HB0.o.trans (HB2.o.mono HB0.o.size))) HO2.o HOl.o).mono ?_;rintro e w3⟨rfl,hb3⟩;have HB3:=hid (HB2.o.trans (hb3.mono HB2.o.size));clear hb3;go_wp2
    exact⟨⟨k+1,s+qm l.ss b.os[k] res,by omega,by go_num,by go_num,by rw[HSt.o,HU.o,HQ.o.1],HB3.o⟩,zi hlt⟩
   ·have hu':under l.ts 4 b.os[k].tm team=false:=by simpa using hu
    have HU:Hid (zbY l team res b.os[k]=0):=by unfold Hid zbY;rw[if_neg hu]
    rw[hu'];clear hu hu';go_wp2
    exact⟨⟨k+1,s,by omega,by go_num,rfl,by rw[HSt.o,HU.o,HQ.o.1];omega,HB2.o⟩,zi hlt⟩
  ·have e:k=b.os.length:=by omega
   subst e;have HE:Hid (used l b.os team res=s):=by unfold Hid used;rw[HQ.o.1]
   clear hlt hk;go_wp2
   go_ret;exact⟨zm HE.o.symm,HB0.o.trans (HQ.o.2.mono HB0.o.size)⟩
def zj9 (ss:List Shp)(o:Ob):List BA:=if zF ss o.kd=true/\zQ ss=true/\o.vs.length=(shapeOf ss o.kd).fs.length then zal (shapeOf ss o.kd).fs o.vs else o.vs
def zhB (o:Ob)(vs:List BA)(w:World)(e:Ending)(w':World):Prop:=
 ∃a dap a' dap' m,e=.returned (.agg (oC o a a' dap dap'))/\zk w.heap.size w' a vs/\(∀g,a=some g->g.block<m)/\w.heap.size<=m/\zk m w' a' o.hs/\Bw w w'
theorem zua {fs:List Fld}(h:zb6 fs):∀f∈fs,f.df.size<=maxLen:=by
 intro f hf;obtain⟨i,hi,rfl⟩:=List.mem_iff_getElem.1 hf;exact(h.small i hi).1.df
theorem zqZ {ss:List Shp}{o:Ob}(hs:zea ss)(ho:∀s∈o.vs,s.size<=maxLen):∀s∈zj9 ss o,s.size<=maxLen:=by
 unfold zj9
 split
 ·rename_i h
  have hf:zb6 (shapeOf ss o.kd).fs:=by
   obtain⟨hk,_,_⟩:=h;unfold zF at hk;rw[List.any_eq_true]at hk;obtain⟨x,hx,he⟩:=hk;unfold shapeOf
   cases hfi:ss.find? (fun s=>decide (s.kd=o.kd)) with
   | none=>rw[List.find?_eq_none]at hfi;exact absurd he (hfi x hx)
   | some y=>
    obtain⟨i,hi,rfl⟩:=List.mem_iff_getElem.1 (List.mem_of_find?_eq_some hfi);exact(hs.small i hi).2.2
  intro s hm;obtain⟨i,hi,rfl⟩:=List.mem_iff_getElem.1 hm;have hl:=qL h.2.2;have e:(zal (shapeOf ss o.kd).fs o.vs)[i]=zax ((shapeOf ss o.kd).fs[i]'(by have:=h.2.2;omega)) (o.vs[i]'(by omega)):=by simp[zal]
  rw[e];unfold zax
  split
  ·exact zua hf _ (List.getElem_mem _)
  ·exact ho _ (List.getElem_mem _)
 ·exact ho
end Go.Proofs.YtjnpjkigofldlaaGreat
