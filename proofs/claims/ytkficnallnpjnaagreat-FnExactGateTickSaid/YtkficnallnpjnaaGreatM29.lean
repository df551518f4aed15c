import Derived.Test.YtkficnallnpjnaaGreatM27
set_option maxHeartbeats 4000000
namespace Go.Proofs.YtkficnallnpjnaaGreat
open Go.RowKit
structure za5 (lo hi:Nat)(w:World)(b n:Nat):Prop where
 low:lo<=b
 high:b<hi
 rows:∃C,w.heap[b]?=some (.cells C 3)/\n<=C.size/\∀j,j<n->zaW C j
theorem za5.mono {lo hi:Nat}{w w':World}{b n:Nat}(h:za5 lo hi w b n)(hM:Marked lo hi w w'):za5 lo hi w' b n:=by
 obtain⟨C,hC,hs,hn⟩:=h.rows;obtain⟨C',hC',hs',hk⟩:=hM.inn b C _ h.low h.high hC;exact⟨h.low,h.high,C',hC',by omega,fun j hj a m c he=>hn j hj a m c ((hk j a m c).1 he)⟩
theorem zgU (g n cap:Nat)(C:Array Value)(k:Nat)(w:World)(hC:w.heap[g]?=some (.cells C 3))(hn:n<=C.size)(hns:∀i,i<n->∀a m c,C[i]?≠some (Value.slice a m c))(hk:0<k)(hkn:k+n<9000000000000000000) :
 Calls Tryz.prog 94 #[.slice (some ⟨g,0,none⟩) n cap,.int .i64 k] w fun e w'=>e=.returned (.int .i64 ((k+n:Nat):Int))/\Marked g (g+1) w w'/\∃C',w'.heap[g]?=some (.cells C' 3)/\C'.size=C.size/\∀i,i<n->C'[i]?=some (.int .i64 ((k+i:Nat):Int)):=by
 have HS:=hid hns;have HC:=hid hC;have HN:=hid hn;have HKN:=hid hkn;clear hC hn hns hkn;go_enter Tryz.func94,Tryz.ntmps94;go_wp2_with fail
 go_loopw [1,5] (fun kv iv wr=>∃i:Nat,i<=n/\kv=.int .i64 ((k+i:Nat):Int)/\iv=.int .i64 i/\Hid (Marked g (g+1) w wr/\∃C',wr.heap[g]?=some (.cells C' 3)/\C'.size=C.size/\∀j,j<i->C'[j]?=some (.int .i64 ((k+j:Nat):Int)))) (fun _ iv _=>n-(intOf iv).toNat)
 case atStart=>exact⟨0,Nat.zero_le _,rfl,rfl,Marked.refl _ _ _,C,HC.out,rfl,fun j h=>absurd h (Nat.not_lt_zero _)⟩
 case round=>
  obtain⟨i,hi,rfl,rfl,HQ⟩:=hrel;obtain⟨hM,C',hC',hs',hc'⟩:=HQ.out
  by_cases hlt:i<n
  ·have hltI:(i:Int)<(n:Int):=by omega
   have hgw:=(gES hC').1;obtain⟨cv,hce⟩:∃cv,wr.cell? ⟨g,i,none⟩=some cv:=⟨C'[i]'(by have:=HN.out;omega),by rw[cell_of_block hC'];exact Array.getElem?_eq_getElem (by have:=HN.out;omega)⟩
   have hfz:∀o,wr.frozen? ⟨g,o,none⟩=false:=fun o=>zh hC'
   have HE:Hid (Marked g (g+1) w (wr.setCell ⟨g,i,none⟩ (.int .i64 ((k+i:Nat):Int)))/\∃C',(wr.setCell ⟨g,i,none⟩ (.int .i64 ((k+i:Nat):Int))).heap[g]?=some (.cells C' 3)/\C'.size=C.size/\∀j,j<i+1->C'[j]?=some (.int .i64 ((k+j:Nat):Int))):=by
    refine⟨hM.put (Nat.le_refl _) (Nat.lt_succ_self _) HC.out (HS.out i hlt) _ (fun _ _ _ h=>by cases h),_,zi hC' _,by simpa using hs',fun j hj=>?_⟩
    by_cases e:j=i
    ·subst e;rw[Array.getElem?_setIfInBounds_self_of_lt (by have:=HN.out;omega)]
    ·rw[Array.getElem?_setIfInBounds_ne (by omega)];exact hc' j (by omega)
   have hw1:wrap64 ((k+i:Nat)+1:Int)=((k+(i+1):Nat):Int):=by rw[zy _ ⟨by omega,by have:=HKN.out;omega⟩];omega
   clear HQ hM hC' hs' hc';obtain⟨kk,hkk⟩:∃kk:Int,kk=((k+i:Nat):Int):=⟨_,rfl⟩
   rw[<- hkk]at HE hw1 ⊢;clear hkk;go_wp2_with fail
   go_roundw
   case rel=>exact⟨i+1,by omega,by rw[hw1],by rw[wrap_one (by have:=HKN.out;omega)],HE.out⟩
   case measure=>exact yP hlt (by have:=HKN.out;omega)
  ·have e:i=n:=by omega
   subst e;have HE:=hid HQ.out;clear HQ hM hC' hs' hc';go_wp2_with fail
   go_ret;exact⟨rfl,HE.out⟩
theorem zkK (lo hi b n cap:Nat)(k:Int)(w:World)(h:za5 lo hi w b n)(hn:n<=1048576)(hk:0<k)(hk2:k<8000000000000000000) :
 Calls Tryz.prog 94 #[.slice (some ⟨b,0,none⟩) n cap,.int .i64 k] w fun e w'=>∃k',e=.returned (.int .i64 k')/\k'=k+n/\Marked lo hi w w':=by
 obtain⟨m,rfl⟩:∃m:Nat,k=m:=⟨k.toNat,by omega⟩
 obtain⟨C,hC,hs,hns⟩:=h.rows;refine(zgU b n cap C m w hC hs hns (by omega) (by omega)).mono fun e w' ⟨h1,h2,_⟩=>⟨_,h1,Int.natCast_add _ _,h2.wide h.low h.high⟩
def zb7 (k n:Nat):List ByteArray:=(List.range n).map fun i=>zaz (k+i)
theorem zew (k n:Nat):(zb7 k n).length=n:=by simp[zb7]
theorem zhQ (k n i:Nat)(h:i<(zb7 k n).length):(zb7 k n)[i]=zaz (k+i):=by simp[zb7]
theorem zn.form {lo:Nat}{w:World}{g:Addr}{ws:List ByteArray}(h:zn lo w (some g) ws):∃b C,g=⟨b,0,none⟩/\lo<=b/\w.heap[b]?=some (.cells C 9)/\ws.length<=C.size/\∀j,j<ws.length->zaW C j:=by
 rcases h with⟨h0,_⟩|⟨b,C,h0,hg,hh,hc⟩
 ·cases h0
 ·cases h0
  refine⟨b,C,rfl,hg,hh,?_,fun j hj a n c he=>by rw[hc j hj]at he;cases he⟩
  rcases Nat.lt_or_ge C.size ws.length with hlt|hge
  ·have:=hc C.size hlt
   rw[Array.getElem?_eq_none (Nat.le_refl _)]at this;cases this
  ·exact hge
theorem zir (lo cap:Nat)(a:Option Addr)(vs:List ByteArray)(k:Nat)(w:World)(h:zn lo w a vs)(hk:0<k)(hkn:k+vs.length<9000000000000000000) :
 Calls Tryz.prog 93 #[.slice a vs.length cap,.int .i64 k] w fun e w'=>e=.returned (.int .i64 ((k+vs.length:Nat):Int))/\zn lo w' a (zb7 k vs.length)/\Marked lo w.heap.size w w'/\(a=none->w'=w)/\∀g,a=some g->Marked g.block (g.block+1) w w':=by
 rcases a with _|g
 ·rcases h with⟨_,rfl⟩|⟨_,_,h0,_⟩
  ·exact(zg5 (k:Int) none cap w).mono fun e w' ⟨h1,h2⟩=>⟨by simpa using h1,by subst h2;exact Or.inl ⟨rfl,rfl⟩,by subst h2;exact Marked.refl _ _ _,fun _=>h2,fun g hg=>by cases hg⟩
  ·cases h0
 ·obtain⟨b,C,rfl,hlo,hC,hs,hns⟩:=h.form
  refine(zev b vs.length cap C k w hC hs hns hk hkn).mono fun e w' ⟨h1,h2,C',hC',hs',hc'⟩=>⟨h1,Or.inr ⟨b,C',rfl,hlo,hC',fun i hi=>?_⟩,h2.wide hlo (gES hC).1,fun h0=>(by cases h0),fun g hg=>by cases hg;exact h2⟩
  rw[zew]at hi;rw[hc' i hi,zhQ]
theorem ziL (a:Option Addr)(cap:Nat)(w:World) :
 Calls Tryz.prog 125 #[.slice a 0 cap] w fun e w'=>∃v,e=.returned v/\w'.ownsRow w.heap.size 9 1 v 0 []/\Below w.heap.size w w':=by
 cases a with
 | none=>exact zeS cap w
 | some g=>
  go_enter Tryz.func125,Tryz.ntmps125;go_wp2_with fail
  go_ret;exact⟨_,rfl,World.ownsRow_nil _ _ _ _,bRf _ _⟩
theorem zfz (a:Option Addr)(cap:Nat)(ws:List ByteArray)(w:World)(hw:zF w a ws)(hl:ws.length<=1048576) :
 Calls Tryz.prog 125 #[.slice a ws.length cap] w
  fun e w'=>∃v,e=.returned v/\w'.ownsRow w.heap.size 9 1 v ws.length (ws.map Value.string)/\Below w.heap.size w w':=by
 by_cases h:ws=[]
 ·subst h
  exact ziL a cap w
 ·obtain⟨b,off,rfl,_⟩:=hw.cells h
  exact zfy b off cap ws w hw hl
theorem zeL (o:Ob)(va ha:Option Addr)(cap cap':Nat)(w:World)(ho:jP w o va ha)(hl:o.vs.length<=1048576)(hl':o.hs.length<=1048576) :
 Calls Tryz.prog 79 #[.agg #[.string o.kd,.string o.nm,.string o.tm,.slice va o.vs.length cap,.bool o.en,.slice ha o.hs.length cap',.int .i64 o.vr]] w
  fun e w'=>∃a dap a' dap' m,e=.returned (.agg #[.string o.kd,.string o.nm,.string o.tm,.slice a o.vs.length dap,.bool o.en,.slice a' o.hs.length dap',.int .i64 o.vr])/\zn w.heap.size w' a o.vs/\(∀g,a=some g->g.block<m)/\w.heap.size<=m/\zn m w' a' o.hs/\Below w.heap.size w w':=by
 go_enter Tryz.func79,Tryz.ntmps79;go_wp2_with fail
 refine(zfz _ _ _ _ (ho.vals.mono (zw _ _ _)) hl).mono ?_;rintro e w1⟨v,rfl,hown1,hb1⟩;obtain⟨a,dap,rfl,ht1⟩:=zn.zdo hown1;have hk1:=(hb1.block w.heap.size (by simp;omega)).trans (zT _ _ _).1;have hr1:=(hb1.block (w.heap.size+1) (by simp)).trans (zT _ _ _).2;have HT:Hid (zn (w.heap.size+1+1) w1 a o.vs):=by unfold Hid;simpa using ht1
 have hz1:w.heap.size+1<w1.heap.size:=by have:=hb1.size;simp at this;omega
 have hB1:=(zw _ _ _).trans (hb1.mono (by simp;omega));have HK:=hid hk1;have HRR:=hid hr1;have hX1:∀j,w1.cell? ⟨w.heap.size,j,none⟩=((oC o va ha cap cap'):Array Value)[j]?:=fun j=>cell_of_block hk1
 have hF1:∀j,w1.frozen? ⟨w.heap.size,j,none⟩=false:=fun j=>zh hk1
 clear hb1 hown1 ht1 hk1 hr1;go_wp2_with fail
 have hB1':=hB1.setCell (p:=⟨w.heap.size,3,none⟩) (Nat.le_refl _) (.slice a o.vs.length dap);refine(zfz _ _ _ _ (ho.holds.mono hB1') hl').mono ?_;rintro e w2⟨v,rfl,hown2,hb2⟩;obtain⟨a',dap',rfl,ht2⟩:=zn.zdo hown2;have hk2:=(hb2.block w.heap.size (by simp[World.setCell];omega)).trans (zi HK.out _);have hr2:=(hb2.block (w.heap.size+1) (by simp[World.setCell];omega)).trans ((Below.heap_setCell _ _ _ _ (by simp)).trans HRR.out);have HT2:=hid ((HT.out.setCell _ (by simp;omega) _).mono hb2);have HU2:Hid (zn w1.heap.size w2 a' o.hs):=by unfold Hid;simpa[World.setCell] using ht2
 have HM:Hid (∀g,a=some g->g.block<w1.heap.size):=by
  intro g hg
  rcases HT.out with⟨h0,_⟩|⟨g',C,h0,_,hh,_⟩
  ·rw[h0]at hg;cases hg
  ·rw[h0]at hg;cases hg;exact(gES hh).1
 have hz2:w.heap.size+1<w2.heap.size:=by have:=hb2.size;simp[World.setCell]at this;omega
 have hB2:=hB1'.trans (hb2.mono hB1'.size);have hX2:∀j,w2.cell? ⟨w.heap.size,j,none⟩=((oC o a ha dap cap'):Array Value)[j]?:=fun j=>cell_of_block hk2
 have hF2:∀j,w2.frozen? ⟨w.heap.size,j,none⟩=false:=fun j=>zh hk2
 have hY2:∀j,w2.cell? ⟨w.heap.size+1,j,none⟩=(oZ:Array Value)[j]?:=fun j=>cell_of_block hr2
 have hG2:∀j,w2.frozen? ⟨w.heap.size+1,j,none⟩=false:=fun j=>zh hr2
 have hzz:w.heap.size<=w1.heap.size:=by omega
 clear hb2 hown2 ht2 hX1 hF1 hB1 hB1' hk2 hr2;go_wp2_with fail
 refine bodyPost_ret (v:=(.agg #[.string o.kd,.string o.nm,.string o.tm,.slice a o.vs.length dap,.bool o.en,.slice a' o.hs.length dap',.int .i64 o.vr])) (by simp[results,Tryz.results79,go_sem,hY2]) rfl ⟨a,dap,a',dap',w1.heap.size,rfl,((((((((HT2.out.setCell _ (by simp;omega) _).setCell _ (by simp) _).setCell _ (by simp) _).setCell _ (by simp) _).setCell _ (by simp) _).setCell _ (by simp) _).setCell _ (by simp) _).setCell _ (by simp) _).low (by omega),HM.out,hzz,((((((((HU2.out.setCell _ (by simp;omega) _).setCell _ (by simp;omega) _).setCell _ (by simp;omega) _).setCell _ (by simp;omega) _).setCell _ (by simp;omega) _).setCell _ (by simp;omega) _).setCell _ (by simp;omega) _).setCell _ (by simp;omega) _),((((((((hB2.setCell (Nat.le_refl _) _).setCell (by simp) _).setCell (by simp) _).setCell (by simp) _).setCell (by simp) _).setCell (by simp) _).setCell (by simp) _).setCell (by simp) _)⟩
theorem zou (o:Ob)(kd:ByteArray)(fs:List Fld)(fa:Option Addr)(va ha:Option Addr)(fcap cap cap':Nat)(w:World)(hf:yc w fa fs)(ho:jP w o va ha)(hl:o.vs.length<=1048576)(hl':o.hs.length<=1048576)(hc:o.vs.length=fs.length) :
 Calls Tryz.prog 222 #[.agg #[.string kd,.slice fa fs.length fcap],.agg #[.string o.kd,.string o.nm,.string o.tm,.slice va o.vs.length cap,.bool o.en,.slice ha o.hs.length cap',.int .i64 o.vr]] w
  fun e w'=>∃a dap a' dap' m,e=.returned (.agg #[.string o.kd,.string o.nm,.string o.tm,.slice a o.vs.length dap,.bool o.en,.slice a' o.hs.length dap',.int .i64 o.vr])/\zn w.heap.size w' a (zai fs o.vs)/\(∀g,a=some g->g.block<m)/\w.heap.size<=m/\zn m w' a' o.hs/\Below w.heap.size w w':=by
 have HC:=hid hc;clear hc;go_enter Tryz.func222,Tryz.ntmps222;go_wp2_with fail
 refine(zeL o va ha cap cap' _ (ho.mono (jD _ _ _ _)) hl hl').mono ?_;rintro e w1⟨a,dap,a',dap',m,rfl,ht,hm,hsm,ht',hb1⟩;have hX1:∀j,w1.cell? ⟨w.heap.size,j,none⟩=(#[.string kd,.slice fa fs.length fcap]:Array Value)[j]?:=fun j=>cell_of_block ((hb1.block w.heap.size (by simp;omega)).trans (zch _ _ _ _))
 have HR1:=hid ((hb1.block (w.heap.size+1+1) (by simp)).trans (zca _ _ _ _));have hB1:=(jD _ _ _ _).trans (hb1.mono (by simp;omega));have hz1:w.heap.size+1+1<w1.heap.size:=by have:=hb1.size;simp at this;omega
 have HT:Hid (zn (w.heap.size+1+1+1) w1 a o.vs/\(∀g,a=some g->g.block<m)/\w.heap.size+1+1+1<=m/\zn m w1 a' o.hs):=by
  simp only[World.size_alloc]at ht hsm;exact⟨ht,hm,hsm,ht'⟩
 have hz0:w.heap.size<w1.heap.size:=by omega
 clear ht hm hsm ht' hb1 ho;have hlen:=hf.len;unfold maxLen at hlen;go_wp2_with fail
 clear hX1
 go_loopw [13] (fun i wr=>∃k:Nat,k<=fs.length/\i=.int .i64 k/\zn (w.heap.size+1+1+1) wr a (jk fs o.vs k)/\zn m wr a' o.hs/\wr.heap[w.heap.size+1+1]?=some (.cells #[.string ByteArray.empty,.string ByteArray.empty,.string ByteArray.empty,.slice none 0 0,.bool false,.slice none 0 0,.int .i64 0] 117)/\wr.heap[w1.heap.size]?=some (.cells #[.string o.kd,.string o.nm,.string o.tm,.slice a o.vs.length dap,.bool o.en,.slice a' o.hs.length dap',.int .i64 o.vr] 117)/\Below w.heap.size w wr) (fun i _=>fs.length-(intOf i).toNat)
 case atStart=>
  have hba:=(bRf w1.heap.size w1).alloc (Nat.le_refl _) (.cells (oC o a a' dap dap') 117);exact⟨0,Nat.zero_le _,rfl,by rw[zh9];exact HT.out.1.mono hba,HT.out.2.2.2.mono hba,(hba.block _ hz1).trans HR1.out,alloc_at _ _,hB1.alloc hB1.size _⟩
 case round=>
  obtain⟨k,hk,rfl,ht,ht',hR,hO,hB⟩:=hrel;have hOc:∀j,wr.cell? ⟨w1.heap.size,j,none⟩=((oC o a a' dap dap'):Array Value)[j]?:=fun j=>cell_of_block hO
  have hOz:=(gES hO).1
  by_cases hlt:k<fs.length
  ·have hltv:k<o.vs.length:=by rw[HC.out];exact hlt
   obtain⟨fb,foff,rfl,hfb,hr⟩:=hf.rows (by rintro rfl;simp at hlt);obtain⟨wa,wcap,hf0⟩:=hr k hlt;have hf1:=hf0.mono hfb hB;obtain⟨c0,c1,c2,c3,c4,c5,c6,c7,c8,c9,c10⟩:=hf1.load;have hltI:(k:Int)<(fs.length:Int):=by omega
   have hltV:(k:Int)<(o.vs.length:Int):=by omega
   have hfbw:=nLt hfb hB.size
   obtain⟨g,C,hga,hgl,hgh,hgc⟩:∃g C,a=some ⟨g,0,none⟩/\w.heap.size+1+1+1<=g/\wr.heap[g]?=some (.cells C 9)/\∀i (h:i<(jk fs o.vs k).length),C[i]?=some (.string (jk fs o.vs k)[i]):=by
    rcases ht with⟨_,h0⟩|h0
    ·have:=zav HC.out k;rw[h0]at this;simp at this;omega
    ·exact h0
   have hgm:g<m:=HT.out.2.1 _ hga;have hgw1:g<w1.heap.size:=by have:=HT.out.1.lt _ hga;exact this
   have hgw:g<wr.heap.size:=by omega
   subst hga
   have hcell:wr.cell? ⟨g,k,none⟩=some (.string o.vs[k]):=by
    have h1:=zfe HC.out k hlt;have hkl:k<(jk fs o.vs k).length:=by rw[zav HC.out];exact hltv
    rw[List.getElem?_eq_getElem hkl,List.getElem?_eq_getElem hltv]at h1;rw[cell_of_block hgh,hgc k hkl,Option.some.inj h1]
   have hgf:wr.frozen? ⟨g,k,none⟩=false:=zh hgh;have HX:=zrd ht ht' hR hO hB;clear ht ht' hR hO hB hf hr hf0 hf1 hgh hgc
   by_cases hv:o.vs[k].toList.isEmpty=true
   ·have HV:Hid (zao fs[k] o.vs[k]=fs[k].df):=by unfold Hid zao;rw[if_pos hv]
    go_wp2_with fail
    obtain⟨ht,ht',hR,hO,hB⟩:=HX.out;have hba:=(bRf (wr.setCell ⟨g,k,none⟩ (.string fs[k].df)).heap.size (wr.setCell ⟨g,k,none⟩ (.string fs[k].df))).alloc (Nat.le_refl _) (.cells #[.string fs[k].nm,.int .i64 fs[k].kd,.int .i64 fs[k].ls,.int .i64 fs[k].ms,.slice wa fs[k].ws.length wcap,.string fs[k].to,.int .i64 fs[k].rl,.bool fs[k].mu,.bool fs[k].fx,.string fs[k].df,.string fs[k].wg] 171);have hs0:(wr.setCell ⟨g,k,none⟩ (.string fs[k].df)).heap.size=wr.heap.size:=by simp[World.setCell]
    exact⟨⟨k+1,by omega,by go_num,by rw[zc5 HC.out k hlt,HV.out];exact(ht.set k _).mono hba,(ht'.setCell _ hgm _).mono hba,(hba.block _ (by rw[hs0];omega)).trans ((Below.heap_setCell _ _ _ _ (by show w.heap.size+1+1≠g;omega)).trans hR),(hba.block _ (by rw[hs0];exact hOz)).trans ((Below.heap_setCell _ _ _ _ (by show w1.heap.size≠g;omega)).trans hO),(hB.setCell (p:=⟨g,k,none⟩) (by show w.heap.size<=g;omega) _).alloc (by rw[hs0];exact hB.size) _⟩,zq hlt⟩
   ·have HV:Hid (zao fs[k] o.vs[k]=o.vs[k]):=by unfold Hid zao;rw[if_neg hv]
    go_wp2_with fail
    obtain⟨ht,ht',hR,hO,hB⟩:=HX.out;have hba:=(bRf wr.heap.size wr).alloc (Nat.le_refl _) (.cells #[.string fs[k].nm,.int .i64 fs[k].kd,.int .i64 fs[k].ls,.int .i64 fs[k].ms,.slice wa fs[k].ws.length wcap,.string fs[k].to,.int .i64 fs[k].rl,.bool fs[k].mu,.bool fs[k].fx,.string fs[k].df,.string fs[k].wg] 171)
    have hsame:(jk fs o.vs k).set k o.vs[k]=jk fs o.vs k:=by
     have h1:=zfe HC.out k hlt;have hkl:k<(jk fs o.vs k).length:=by rw[zav HC.out];exact hltv
     rw[List.getElem?_eq_getElem hkl,List.getElem?_eq_getElem hltv]at h1;rw[<- Option.some.inj h1,List.set_getElem_self]
    exact⟨⟨k+1,by omega,by go_num,by rw[zc5 HC.out k hlt,HV.out,hsame];exact ht.mono hba,ht'.mono hba,(hba.block _ (by omega)).trans hR,(hba.block _ hOz).trans hO,hB.alloc hB.size _⟩,zq hlt⟩
  ·have e:k=fs.length:=by omega
   subst e;rw[zjB HC.out]at ht;have hRc:∀j,wr.cell? ⟨w.heap.size+1+1,j,none⟩=(oZ:Array Value)[j]?:=fun j=>cell_of_block hR
   have hRf:∀j,wr.frozen? ⟨w.heap.size+1+1,j,none⟩=false:=fun j=>zh hR
   have HX:=zdp ht ht' hB;have HM:=qE HT.out.2.2.1 HT.out.2.1;clear ht ht' hB hR hO hf;go_wp2_with fail
   refine bodyPost_ret (v:=(.agg #[.string o.kd,.string o.nm,.string o.tm,.slice a o.vs.length dap,.bool o.en,.slice a' o.hs.length dap',.int .i64 o.vr])) (by simp[results,Tryz.results222,go_sem,hRc]) rfl ?_;obtain⟨ht,ht',hB⟩:=HX.out;exact⟨a,dap,a',dap',m,rfl,(jL ht _ (by omega) _ _ _ _ _ _ _).low (by omega),HM.out.2,by have:=HM.out.1;omega,jL ht' _ (by have:=HM.out.1;omega) _ _ _ _ _ _ _,jZ hB _ (by omega) _ _ _ _ _ _ _⟩
theorem zpr (k:Nat):zeA (List.range (k+1))=zeA (List.range k)++[.int .i64 (k:Int)]:=by simp[zeA,List.range_succ]
set_option maxRecDepth 20000 in
theorem zh2 (s:Shp)(ms:List Mnd)(ma fa:Option Addr)(mcap fcap:Nat)(w:World)(hm:qK w ma ms)(hf:yc w fa s.fs)(hl:ms.length<=1048576)(hn:s.fs.length<=6)
 (hrd:∀q,q<s.fs.length->∀x∈yw s ms q,0<=x/\x<s.fs.length) :
 Calls Tryz.prog 153 #[.agg #[.string s.kd,.slice fa s.fs.length fcap],.slice ma ms.length mcap] w
  fun e w'=>∃v,e=.returned (.tuple #[v,.bool (zI (zm s ms) s.fs.length).1])/\Below w.heap.size w w'/\((zI (zm s ms) s.fs.length).1=true->w'.ownsRow w.heap.size 3 1 v (zI (zm s ms) s.fs.length).2.row.length (zeA (zI (zm s ms) s.fs.length).2.row)):=by
 obtain⟨i0,hi0,hz0,hz1',hz2⟩:=info_parts Tryz.zgE;have HH:=zrd hm hf hl hn hrd;clear hm hf hl hrd;go_enter Tryz.func153,Tryz.ntmps153;go_wp2_with fail
 go_loopw [6,11] (fun v0 iv wr=>∃(k:Nat) (v:Value),v=v0/\k<=s.fs.length/\iv=.int .i64 k/\wr.ownsRow (w.heap.size+2) 3 1 v k (zeA (List.range k))/\wr.heap[w.heap.size]?=some (.cells #[.string s.kd,.slice fa s.fs.length fcap] 128)/\wr.heap[w.heap.size+1]?=some (.cells #[.slice ma ms.length mcap] 44)/\Below w.heap.size w wr) (fun _ iv _=>s.fs.length-(intOf iv).toNat)
 case atStart=>exact⟨0,_,rfl,Nat.zero_le _,rfl,World.ownsRow_nil _ _ _ _,(zT _ _ _).1,(zT _ _ _).2,zw _ _ _⟩
 case round=>
  obtain⟨k,v,hv,hk,rfl,hown,hs,hmm,hB⟩:=hrel;subst hv;have HX:=zbJ hown hs hmm hB;have hzz:=(gES hmm).1;clear hown hs hmm hB
  by_cases hlt:k<s.fs.length
  ·have hltI:(k:Int)<(s.fs.length:Int):=by omega
   have hgb:∀g,v.ownBlock=some g->w.heap.size+2<=g:=fun g hg=>(HX.out.1.lt g hg).1
   have HGB:=hid hgb;clear hgb
   go_wp2_with (at_builtin;refine zhy ?_)
   show wpList _ _ _ _ _ _
   refine wpList_append_own _ rfl (.tmp 14) (.tmp 16) 104 rfl (w.heap.size+2) 3 i0 (.int .i64 0) 1 8 Tryz.underlying104 hi0 hz0 hz1' hz2 rfl (by decide) v _ _ rfl (HX.out.1.alloc _) ⟨wr.heap.size,0,none⟩ 1 1 [.int .i64 (k:Int)] rfl rfl (ze0 _ _ _) (by intro u hu;simp at hu;subst hu;rfl) (by unfold maxLen;omega) (by omega) (by simp;omega) ?_;intro v' w1 hown' hgr _;obtain⟨va,vcap,rfl⟩:=qC hown';go_wp2_with fail
   refine⟨⟨k+1,_,rfl,by omega,by go_num,by rw[zpr];exact hown',?_,?_,zc8 HX.out.2.2.2 HX.out.2.2.2.size hgr (fun g hg=>by have:=HGB.out g hg;omega)⟩,zq hlt⟩
   ·exact(zaL hgr (by simp;omega) (fun g hg=>by have:=HGB.out g hg;omega)).trans ((Below.heap_alloc _ _ _ (by omega)).trans HX.out.2.1)
   ·exact(zaL hgr (by simp;omega) (fun g hg=>by have:=HGB.out g hg;omega)).trans ((Below.heap_alloc _ _ _ hzz).trans HX.out.2.2.1)
  ·have e:k=s.fs.length:=by omega
   subst e;obtain⟨va,vcap,rfl⟩:=qC HX.out.1
   have HPL:Hid (znr wr va s.fs.length):=by
    intro hpos;obtain⟨_,⟨h0,h1⟩|⟨g,cap,cur,h0,h1⟩⟩:=id HX.out.1
    ·omega
    ·cases h0
     refine⟨g,rfl,(HX.out.1.lt g rfl).2,fun q hq=>?_⟩;rw[HX.out.1.cellAt q (by omega)]
     simp[zeA,hq]
   go_wp2_with fail
   refine(zpO s ms w ma fa va mcap fcap vcap (w.heap.size+1) w.heap.size wr HH.out.1 HH.out.2.1 HH.out.2.2.1 HH.out.2.2.2.1 HH.out.2.2.2.2 HX.out.2.2.2 hzz (by omega) (by rw[cell_of_block HX.out.2.2.1];rfl) (fun j=>cell_of_block HX.out.2.1) HPL.out).mono ?_;rintro e w2⟨v2,rfl,hb2,hyes⟩;have HY:Hid (Below w.heap.size w w2/\((zI (zm s ms) s.fs.length).1=true->w2.ownsRow w.heap.size 3 1 v2 (zI (zm s ms) s.fs.length).2.row.length (zeA (zI (zm s ms) s.fs.length).2.row))):=⟨hb2,fun h=>zc1 (hyes h) (by omega)⟩
   clear hb2 hyes;go_wp2_with fail
   go_ret2
   exact⟨v2,rfl,HY.out⟩
theorem zmf {c p:Int}(h:c≠0):zmd c p=.iface 277 (.agg #[.int .i64 c,.int .i64 p]):=by simp[zmd,h]
theorem zeq (a0:Option Addr)(cap0:Nat)(ss:List Shp)(o:Ob)(a a':Option Addr)(cap cap':Nat)(w:World)(hw:yT w a0 ss)(ho:jP w o a a')(hcnt:o.vs.length=(shapeOf ss o.kd).fs.length) :
 Calls Tryz.prog 220 #[.slice a0 ss.length cap0,.agg #[.string o.kd,.string o.nm,.string o.tm,.slice a o.vs.length cap,.bool o.en,.slice a' o.hs.length cap',.int .i64 o.vr]] w
  fun e w'=>e=.returned (zmd (jJ (shapeOf ss o.kd).fs o.vs).1 (jJ (shapeOf ss o.kd).fs o.vs).2)/\Below w.heap.size w w':=by
 have HC:=hid hcnt;clear hcnt;go_enter Tryz.func220,Tryz.ntmps220;go_wp2_with fail
 refine(zcT _).mono ?_;rintro e w0⟨rfl,hw0⟩
 have hX0:∀j,w0.cell? ⟨w.heap.size,j,none⟩=((oC o a a' cap cap'):Array Value)[j]?:=fun j=>by
  rw[hw0,World.cell?_alloc_lt _ _ ⟨w.heap.size,j,none⟩ (by simp)];exact zl w _ _ j
 have hm0:w0.heap[w.heap.size+1]?=some (.map yN 4):=by
  rw[hw0];have:=alloc_at (w.alloc (.cells #[.string o.kd,.string o.nm,.string o.tm,.slice a o.vs.length cap,.bool o.en,.slice a' o.hs.length cap',.int .i64 o.vr] 117)) (.map yN 4);simpa using this
 have hB00:Below w.heap.size w w0:=by rw[hw0];exact zw _ _ _
 have hz0:w.heap.size+1<w0.heap.size:=by rw[hw0];simp
 clear hw0;simp only[World.size_alloc];have hzz:w.heap.size<w0.heap.size:=by omega
 go_wp2_with fail
 refine(qI _ _ _ _ _ (hw.mono hB00)).mono ?_;rintro e w1⟨fa,fcap,rfl,hfl0,hb1⟩;have hX1:=za hX0 hzz hb1;have hm1:=(hb1.block _ hz0).trans hm0;have hz1:w.heap.size+1<w1.heap.size:=by have:=hb1.size;omega
 have hB01:=hB00.trans (hb1.mono (by omega));have hfl1:=hfl0.mono hb1;clear hX0 hm0 hb1 hfl0 hz0 hzz
 generalize hfs:(shapeOf ss o.kd).fs=fs at *
 have hlen:=hfl1.len;unfold maxLen at hlen;go_wp2_with fail
 go_loopw [22] (fun i wr=>∃k:Nat,k<=fs.length/\i=.int .i64 k/\up (za9 fs o.vs) k=true/\Below w1.heap.size w1 wr) (fun i _=>fs.length-(intOf i).toNat)
 case atStart=>exact⟨0,Nat.zero_le _,rfl,rfl,bAl _ _⟩
 case round=>
  obtain⟨k,hk,rfl,hup,hBr⟩:=hrel;have hszr:=hBr.size;have hB:Below w.heap.size w wr:=hB01.trans (hBr.mono (by omega))
  by_cases hlt:k<fs.length
  ·have hXr:=za hX1 (by omega) hBr
   have hmr:=(hBr.block _ hz1).trans hm1;obtain⟨b,off,rfl,hb,hr⟩:=hfl1.rows (by rintro rfl;simp at hlt);obtain⟨wa,wcap,hf0⟩:=hr k hlt;have hf:=hf0.mono hb hBr;obtain⟨c0,c1,c2,c3,c4,c5,c6,c7,c8,c9,c10⟩:=hf.load;have hst:=hf.strs;have hltv:k<o.vs.length:=by rw[HC.out];exact hlt
   obtain⟨vb,voff,rfl,hvb,hvc⟩:=ho.vals.cells (by intro h;rw[h]at hltv;simp at hltv);have hcv:=(hB.cell (p:=⟨vb,voff+k,none⟩) hvb).trans (hvc k hltv);have hvs:=ho.vals.small _ (List.getElem_mem hltv);have hltI:(k:Int)<(fs.length:Int):=by omega
   have hltV:(k:Int)<(o.vs.length:Int):=by omega
   have hbr:b<wr.heap.size:=by omega
   have hvbr:vb<wr.heap.size:=by omega
   have hwr1:w.heap.size<wr.heap.size:=by omega
   have HFX:=hid (zjb hlt hltv)
   have HS:Hid (zaC fs[k] o.vs[k]=0->up (za9 fs o.vs) (k+1)=true):=fun h=>by
    rw[qZ,hup];unfold za9;rw[HFX.out,h];rfl
   have HN:Hid (∀n:Int,n≠0->zaC fs[k] o.vs[k]=n->zmd (jJ fs o.vs).1 (jJ fs o.vs).2=.iface 277 (.agg #[.int .i64 n,.int .i64 k])):=fun n hn0 h=>by
    rw[zlp hlt hup (by unfold za9;rw[HFX.out,h];simp[hn0]),HFX.out,h];exact zmf hn0
   clear hX1 hm1 hr hf0 hf hup
   by_cases he:o.vs[k].size=0
   ·have hne:o.vs[k].toList.isEmpty=true:=by rw[zx];simp[he]
    have HE:=hid he;clear he
    by_cases hmu:fs[k].mu=true
    ·have HM:=hid hmu
     go_wp2_with fail
     go_ret;have hv:=HN.out 2 (by decide) (by unfold zaC;rw[if_pos HE.out,if_pos HM.out]);exact⟨by rw[hfs,hv];rfl,hB.alloc (by omega) _⟩
    ·have hmu':fs[k].mu=false:=by simpa using hmu
     have HM:=hid hmu';clear hmu;go_wp2_with fail
     go_quiet (fail)
     go_wp2_with fail
     exact⟨⟨k+1,by omega,by go_num,HS.out (by unfold zaC;rw[if_pos HE.out,HM.out];rfl),below_drewN (hBr.alloc (by omega) _) _⟩,by simp[intOf];omega⟩
   ·have hne:o.vs[k].toList.isEmpty=false:=by rw[zx];simp[he]
    have HE:Hid (¬o.vs[k].size=0):=he;clear he
    by_cases hfit:fits fs[k].kd fs[k].ls fs[k].ms fs[k].ws o.vs[k]=true
    all_goals
     first
      | (have HFT:Hid (fits fs[k].kd fs[k].ls fs[k].ms fs[k].ws o.vs[k]=true):=hfit)
      | (have HFT:Hid (fits fs[k].kd fs[k].ls fs[k].ms fs[k].ws o.vs[k]=false):=by simpa[Hid] using hfit)
     clear hfit;go_wp2_with fail
     have hbx:Below wr.heap.size wr ((wr.alloc (.cells #[.string fs[k].nm,.int .i64 fs[k].kd,.int .i64 fs[k].ls,.int .i64 fs[k].ms,.slice wa fs[k].ws.length wcap,.string fs[k].to,.int .i64 fs[k].rl,.bool fs[k].mu,.bool fs[k].fx,.string fs[k].df,.string fs[k].wg] 171)).drew):=(bAl _ _).drew;have hmx:=(hbx.block _ (by omega)).trans hmr;have hstx:=hst.mono hbx
     go_region_with (go_at_call 192;refine(zf HFT.out (zfF _ _ _ _ _ _ _ _ _ _ _ _ _ _ _ _ (by exact hmx) hvs (by exact hstx))).mono ?_;rintro e w3⟨rfl,hb3⟩)
     all_goals go_wp2_with fail
    all_goals have hB3:Below wr.heap.size wr w3:=hbx.trans (hb3.mono (by simp))
    all_goals first
     | (have hft:fits fs[k].kd fs[k].ls fs[k].ms fs[k].ws o.vs[k]=true:=HFT.out
        exact⟨⟨k+1,by omega,by go_num,HS.out (by unfold zaC;rw[if_neg HE.out];unfold zfx;rw[hft];rfl),hBr.trans (hB3.mono hszr)⟩,by simp[intOf];omega⟩)
     | (have hft:fits fs[k].kd fs[k].ls fs[k].ms fs[k].ws o.vs[k]=false:=HFT.out
        go_ret;have hv:=HN.out 3 (by decide) (by unfold zaC;rw[if_neg HE.out];unfold zfx;rw[hft];rfl);exact⟨by rw[hfs,hv];rfl,hB.trans (hB3.mono (by omega))⟩)
  ·have HF:Hid (jJ fs o.vs=(0,0)):=by
    have e:k=fs.length:=by omega
    subst e;exact zic hup
   clear hup;go_wp2_with fail
   go_ret;exact⟨by rw[hfs,HF.out];rfl,hB⟩
end Go.Proofs.YtkficnallnpjnaaGreat
