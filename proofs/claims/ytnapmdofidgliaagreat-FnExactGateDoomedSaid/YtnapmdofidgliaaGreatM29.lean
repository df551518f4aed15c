import Derived.Test.YtnapmdofidgliaaGreatM28
set_option maxHeartbeats 4000000
namespace Go.Proofs.YtnapmdofidgliaaGreat
open Go.RowKit
theorem zpU (k:Nat):zeJ (List.range (k+1))=zeJ (List.range k)++[.int .i64 (k:Int)]:=by simp[zeJ,List.range_succ]
set_option maxRecDepth 20000 in
theorem zh2 (s:Shp)(ms:List Mnd)(ma fa:Option Addr)(mcap fcap:Nat)(w:World)(hm:qN w ma ms)(hf:zY w fa s.fs)(hl:ms.length<=1048576)(hn:s.fs.length<=6)
 (hrd:∀q,q<s.fs.length->∀x∈yC s ms q,0<=x/\x<s.fs.length) :
 Calls Tryz.prog 146 #[.agg #[.string s.kd,.slice fa s.fs.length fcap],.slice ma ms.length mcap] w
  fun e w'=>∃v,e=.returned (.tuple #[v,.bool (zH (zn s ms) s.fs.length).1])/\Below w.heap.size w w'/\((zH (zn s ms) s.fs.length).1=true->w'.ownsRow w.heap.size 3 1 v (zH (zn s ms) s.fs.length).2.row.length (zeJ (zH (zn s ms) s.fs.length).2.row)):=by
 obtain⟨i0,hi0,hz0,hz1',hz2⟩:=info_parts Tryz.zfu;have HH:=zpx hm hf hl hn hrd;clear hm hf hl hrd;go_enter Tryz.func146,Tryz.ntmps146;go_wp2_with fail
 go_loopw [6,11] (fun v0 iv wr=>∃(k:Nat) (v:Value),v=v0/\k<=s.fs.length/\iv=.int .i64 k/\wr.ownsRow (w.heap.size+2) 3 1 v k (zeJ (List.range k))/\wr.heap[w.heap.size]?=some (.cells #[.string s.kd,.slice fa s.fs.length fcap] 131)/\wr.heap[w.heap.size+1]?=some (.cells #[.slice ma ms.length mcap] 38)/\Below w.heap.size w wr) (fun _ iv _=>s.fs.length-(intOf iv).toNat)
 case atStart=>exact⟨0,_,rfl,Nat.zero_le _,rfl,World.ownsRow_nil _ _ _ _,(zT _ _ _).1,(zT _ _ _).2,zw _ _ _⟩
 case round=>
  obtain⟨k,v,hv,hk,rfl,hown,hs,hmm,hB⟩:=hrel;subst hv;have HX:=zkC hown hs hmm hB;have hzz:=(gES hmm).1;clear hown hs hmm hB
  by_cases hlt:k<s.fs.length
  ·have hltI:(k:Int)<(s.fs.length:Int):=by omega
   have hgb:∀g,v.ownBlock=some g->w.heap.size+2<=g:=fun g hg=>(HX.out.1.lt g hg).1
   have HGB:=hid hgb;clear hgb
   go_wp2_with (at_builtin;refine zhM ?_)
   show wpList _ _ _ _ _ _
   refine wpList_append_own _ rfl (.tmp 14) (.tmp 16) 35 rfl (w.heap.size+2) 3 i0 (.int .i64 0) 1 8 Tryz.underlying35 hi0 hz0 hz1' hz2 rfl (by decide) v _ _ rfl (HX.out.1.alloc _) ⟨wr.heap.size,0,none⟩ 1 1 [.int .i64 (k:Int)] rfl rfl (zci _ _ _) (by intro u hu;simp at hu;subst hu;rfl) (by unfold maxLen;omega) (by omega) (by simp;omega) ?_;intro v' w1 hown' hgr _;obtain⟨va,vcap,rfl⟩:=yY hown';go_wp2_with fail
   refine⟨⟨k+1,_,rfl,by omega,by go_num,by rw[zpU];exact hown',?_,?_,zaQ HX.out.2.2.2 HX.out.2.2.2.size hgr (fun g hg=>by have:=HGB.out g hg;omega)⟩,zm hlt⟩
   ·exact(zaM hgr (by simp;omega) (fun g hg=>by have:=HGB.out g hg;omega)).trans ((Below.heap_alloc _ _ _ (by omega)).trans HX.out.2.1)
   ·exact(zaM hgr (by simp;omega) (fun g hg=>by have:=HGB.out g hg;omega)).trans ((Below.heap_alloc _ _ _ hzz).trans HX.out.2.2.1)
  ·have e:k=s.fs.length:=by omega
   subst e;obtain⟨va,vcap,rfl⟩:=yY HX.out.1
   have HPL:Hid (znL wr va s.fs.length):=by
    intro hpos;obtain⟨_,⟨h0,h1⟩|⟨g,cap,cur,h0,h1⟩⟩:=id HX.out.1
    ·omega
    ·cases h0
     refine⟨g,rfl,(HX.out.1.lt g rfl).2,fun q hq=>?_⟩;rw[HX.out.1.cellAt q (by omega)]
     simp[zeJ,hq]
   go_wp2_with fail
   refine(zp4 s ms w ma fa va mcap fcap vcap (w.heap.size+1) w.heap.size wr HH.out.1 HH.out.2.1 HH.out.2.2.1 HH.out.2.2.2.1 HH.out.2.2.2.2 HX.out.2.2.2 hzz (by omega) (by rw[cell_of_block HX.out.2.2.1];rfl) (fun j=>cell_of_block HX.out.2.1) HPL.out).mono ?_;rintro e w2⟨v2,rfl,hb2,hyes⟩;have HY:Hid (Below w.heap.size w w2/\((zH (zn s ms) s.fs.length).1=true->w2.ownsRow w.heap.size 3 1 v2 (zH (zn s ms) s.fs.length).2.row.length (zeJ (zH (zn s ms) s.fs.length).2.row))):=⟨hb2,fun h=>zaq (hyes h) (by omega)⟩
   clear hb2 hyes;go_wp2_with fail
   go_ret2
   exact⟨v2,rfl,HY.out⟩
theorem ziM (a:Option Addr)(cap:Nat)(w:World) :
 Calls Tryz.prog 227 #[.slice a 0 cap] w fun e w'=>∃v,e=.returned v/\w'.ownsRow w.heap.size 9 1 v 0 []/\Below w.heap.size w w':=by
 cases a with
 | none=>exact zeQ cap w
 | some g=>
  go_enter Tryz.func227,Tryz.ntmps227;go_wp2_with fail
  go_ret;exact⟨_,rfl,World.ownsRow_nil _ _ _ _,bRf _ _⟩
theorem zfL (a:Option Addr)(cap:Nat)(ws:List ByteArray)(w:World)(hw:zD w a ws)(hl:ws.length<=1048576) :
 Calls Tryz.prog 227 #[.slice a ws.length cap] w
  fun e w'=>∃v,e=.returned v/\w'.ownsRow w.heap.size 9 1 v ws.length (ws.map Value.string)/\Below w.heap.size w w':=by
 by_cases h:ws=[]
 ·subst h
  exact ziM a cap w
 ·obtain⟨b,off,rfl,_⟩:=hw.cells h
  exact zfF b off cap ws w hw hl
theorem zj9 (o:Ob)(va ha:Option Addr)(cap cap':Nat)(w:World)(ho:jK w o va ha)(hl:o.vs.length<=1048576)(hl':o.hs.length<=1048576) :
 Calls Tryz.prog 224 #[.agg #[.string o.kd,.string o.nm,.string o.tm,.slice va o.vs.length cap,.bool o.en,.slice ha o.hs.length cap',.int .i64 o.vr]] w
  fun e w'=>∃a dap a' dap' m,e=.returned (.agg #[.string o.kd,.string o.nm,.string o.tm,.slice a o.vs.length dap,.bool o.en,.slice a' o.hs.length dap',.int .i64 o.vr])/\zx w.heap.size w' a o.vs/\(∀g,a=some g->g.block<m)/\w.heap.size<=m/\zx m w' a' o.hs/\Below w.heap.size w w':=by
 go_enter Tryz.func224,Tryz.ntmps224;go_wp2_with fail
 refine(zfL _ _ _ _ (ho.vals.mono (zw _ _ _)) hl).mono ?_;rintro e w1⟨v,rfl,hown1,hb1⟩;obtain⟨a,dap,rfl,ht1⟩:=zx.zf1 hown1;have hk1:=(hb1.block w.heap.size (by simp;omega)).trans (zT _ _ _).1;have hr1:=(hb1.block (w.heap.size+1) (by simp)).trans (zT _ _ _).2;have HT:Hid (zx (w.heap.size+1+1) w1 a o.vs):=by unfold Hid;simpa using ht1
 have hz1:w.heap.size+1<w1.heap.size:=by have:=hb1.size;simp at this;omega
 have hB1:=(zw _ _ _).trans (hb1.mono (by simp;omega));have HK:=hid hk1;have HRR:=hid hr1;have hX1:∀j,w1.cell? ⟨w.heap.size,j,none⟩=(#[.string o.kd,.string o.nm,.string o.tm,.slice va o.vs.length cap,.bool o.en,.slice ha o.hs.length cap',.int .i64 o.vr]:Array Value)[j]?:=fun j=>cell_of_block hk1
 have hF1:∀j,w1.frozen? ⟨w.heap.size,j,none⟩=false:=fun j=>zh hk1
 clear hb1 hown1 ht1 hk1 hr1;go_wp2_with fail
 have hB1':=hB1.setCell (p:=⟨w.heap.size,3,none⟩) (Nat.le_refl _) (.slice a o.vs.length dap);refine(zfL _ _ _ _ (ho.holds.mono hB1') hl').mono ?_;rintro e w2⟨v,rfl,hown2,hb2⟩;obtain⟨a',dap',rfl,ht2⟩:=zx.zf1 hown2;have hk2:=(hb2.block w.heap.size (by simp[World.setCell];omega)).trans (zk HK.out _);have hr2:=(hb2.block (w.heap.size+1) (by simp[World.setCell];omega)).trans ((Below.heap_setCell _ _ _ _ (by simp)).trans HRR.out);have HT2:=hid ((HT.out.setCell _ (by simp;omega) _).mono hb2);have HU2:Hid (zx w1.heap.size w2 a' o.hs):=by unfold Hid;simpa[World.setCell] using ht2
 have HM:Hid (∀g,a=some g->g.block<w1.heap.size):=by
  intro g hg
  rcases HT.out with⟨h0,_⟩|⟨g',C,h0,_,hh,_⟩
  ·rw[h0]at hg;cases hg
  ·rw[h0]at hg;cases hg;exact(gES hh).1
 have hz2:w.heap.size+1<w2.heap.size:=by have:=hb2.size;simp[World.setCell]at this;omega
 have hB2:=hB1'.trans (hb2.mono hB1'.size);have hX2:∀j,w2.cell? ⟨w.heap.size,j,none⟩=(#[.string o.kd,.string o.nm,.string o.tm,.slice a o.vs.length dap,.bool o.en,.slice ha o.hs.length cap',.int .i64 o.vr]:Array Value)[j]?:=fun j=>cell_of_block hk2
 have hF2:∀j,w2.frozen? ⟨w.heap.size,j,none⟩=false:=fun j=>zh hk2
 have hY2:∀j,w2.cell? ⟨w.heap.size+1,j,none⟩=(#[.string ByteArray.empty,.string ByteArray.empty,.string ByteArray.empty,.slice none 0 0,.bool false,.slice none 0 0,.int .i64 0]:Array Value)[j]?:=fun j=>cell_of_block hr2
 have hG2:∀j,w2.frozen? ⟨w.heap.size+1,j,none⟩=false:=fun j=>zh hr2
 have hzz:w.heap.size<=w1.heap.size:=by omega
 clear hb2 hown2 ht2 hX1 hF1 hB1 hB1' hk2 hr2;go_wp2_with fail
 refine bodyPost_ret (v:=(.agg #[.string o.kd,.string o.nm,.string o.tm,.slice a o.vs.length dap,.bool o.en,.slice a' o.hs.length dap',.int .i64 o.vr])) (by simp[results,Tryz.results224,go_sem,hY2]) rfl ⟨a,dap,a',dap',w1.heap.size,rfl,((((((((HT2.out.setCell _ (by simp;omega) _).setCell _ (by simp) _).setCell _ (by simp) _).setCell _ (by simp) _).setCell _ (by simp) _).setCell _ (by simp) _).setCell _ (by simp) _).setCell _ (by simp) _).low (by omega),HM.out,hzz,((((((((HU2.out.setCell _ (by simp;omega) _).setCell _ (by simp;omega) _).setCell _ (by simp;omega) _).setCell _ (by simp;omega) _).setCell _ (by simp;omega) _).setCell _ (by simp;omega) _).setCell _ (by simp;omega) _).setCell _ (by simp;omega) _),((((((((hB2.setCell (Nat.le_refl _) _).setCell (by simp) _).setCell (by simp) _).setCell (by simp) _).setCell (by simp) _).setCell (by simp) _).setCell (by simp) _).setCell (by simp) _)⟩
theorem zo4 (o:Ob)(kd:ByteArray)(fs:List Fld)(fa:Option Addr)(va ha:Option Addr)(fcap cap cap':Nat)(w:World)(hf:zY w fa fs)(ho:jK w o va ha)(hl:o.vs.length<=1048576)(hl':o.hs.length<=1048576)(hc:o.vs.length=fs.length) :
 Calls Tryz.prog 216 #[.agg #[.string kd,.slice fa fs.length fcap],.agg #[.string o.kd,.string o.nm,.string o.tm,.slice va o.vs.length cap,.bool o.en,.slice ha o.hs.length cap',.int .i64 o.vr]] w
  fun e w'=>∃a dap a' dap' m,e=.returned (.agg #[.string o.kd,.string o.nm,.string o.tm,.slice a o.vs.length dap,.bool o.en,.slice a' o.hs.length dap',.int .i64 o.vr])/\zx w.heap.size w' a (zal fs o.vs)/\(∀g,a=some g->g.block<m)/\w.heap.size<=m/\zx m w' a' o.hs/\Below w.heap.size w w':=by
 have HC:=hid hc;clear hc;go_enter Tryz.func216,Tryz.ntmps216;go_wp2_with fail
 refine(zj9 o va ha cap cap' _ (ho.mono (jH _ _ _ _)) hl hl').mono ?_;rintro e w1⟨a,dap,a',dap',m,rfl,ht,hm,hsm,ht',hb1⟩;have hX1:∀j,w1.cell? ⟨w.heap.size,j,none⟩=(#[.string kd,.slice fa fs.length fcap]:Array Value)[j]?:=fun j=>cell_of_block ((hb1.block w.heap.size (by simp;omega)).trans (zck _ _ _ _))
 have HR1:=hid ((hb1.block (w.heap.size+1+1) (by simp)).trans (zcp _ _ _ _));have hB1:=(jH _ _ _ _).trans (hb1.mono (by simp;omega));have hz1:w.heap.size+1+1<w1.heap.size:=by have:=hb1.size;simp at this;omega
 have HT:Hid (zx (w.heap.size+1+1+1) w1 a o.vs/\(∀g,a=some g->g.block<m)/\w.heap.size+1+1+1<=m/\zx m w1 a' o.hs):=by
  simp only[World.size_alloc]at ht hsm;exact⟨ht,hm,hsm,ht'⟩
 have hz0:w.heap.size<w1.heap.size:=by omega
 clear ht hm hsm ht' hb1 ho;have hlen:=hf.len;unfold maxLen at hlen;go_wp2_with fail
 clear hX1
 go_loopw [13] (fun i wr=>∃k:Nat,k<=fs.length/\i=.int .i64 k/\zx (w.heap.size+1+1+1) wr a (jo fs o.vs k)/\zx m wr a' o.hs/\wr.heap[w.heap.size+1+1]?=some (.cells #[.string ByteArray.empty,.string ByteArray.empty,.string ByteArray.empty,.slice none 0 0,.bool false,.slice none 0 0,.int .i64 0] 123)/\wr.heap[w1.heap.size]?=some (.cells #[.string o.kd,.string o.nm,.string o.tm,.slice a o.vs.length dap,.bool o.en,.slice a' o.hs.length dap',.int .i64 o.vr] 123)/\Below w.heap.size w wr) (fun i _=>fs.length-(intOf i).toNat)
 case atStart=>
  have hba:=(bRf w1.heap.size w1).alloc (Nat.le_refl _) (.cells #[.string o.kd,.string o.nm,.string o.tm,.slice a o.vs.length dap,.bool o.en,.slice a' o.hs.length dap',.int .i64 o.vr] 123);exact⟨0,Nat.zero_le _,rfl,by rw[zii];exact HT.out.1.mono hba,HT.out.2.2.2.mono hba,(hba.block _ hz1).trans HR1.out,alloc_at _ _,hB1.alloc hB1.size _⟩
 case round=>
  obtain⟨k,hk,rfl,ht,ht',hR,hO,hB⟩:=hrel;have hOc:∀j,wr.cell? ⟨w1.heap.size,j,none⟩=(#[.string o.kd,.string o.nm,.string o.tm,.slice a o.vs.length dap,.bool o.en,.slice a' o.hs.length dap',.int .i64 o.vr]:Array Value)[j]?:=fun j=>cell_of_block hO
  have hOz:=(gES hO).1
  by_cases hlt:k<fs.length
  ·have hltv:k<o.vs.length:=by rw[HC.out];exact hlt
   obtain⟨fb,foff,rfl,hfb,hr⟩:=hf.rows (by rintro rfl;simp at hlt);obtain⟨wa,wcap,hf0⟩:=hr k hlt;have hf1:=hf0.mono hfb hB;obtain⟨c0,c1,c2,c3,c4,c5,c6,c7,c8,c9,c10⟩:=hf1.load;have hltI:(k:Int)<(fs.length:Int):=by omega
   have hltV:(k:Int)<(o.vs.length:Int):=by omega
   have hfbw:=nLt hfb hB.size
   obtain⟨g,C,hga,hgl,hgh,hgc⟩:∃g C,a=some ⟨g,0,none⟩/\w.heap.size+1+1+1<=g/\wr.heap[g]?=some (.cells C 9)/\∀i (h:i<(jo fs o.vs k).length),C[i]?=some (.string (jo fs o.vs k)[i]):=by
    rcases ht with⟨_,h0⟩|h0
    ·have:=zaE HC.out k;rw[h0]at this;simp at this;omega
    ·exact h0
   have hgm:g<m:=HT.out.2.1 _ hga;have hgw1:g<w1.heap.size:=by have:=HT.out.1.lt _ hga;exact this
   have hgw:g<wr.heap.size:=by omega
   subst hga
   have hcell:wr.cell? ⟨g,k,none⟩=some (.string o.vs[k]):=by
    have h1:=zft HC.out k hlt;have hkl:k<(jo fs o.vs k).length:=by rw[zaE HC.out];exact hltv
    rw[List.getElem?_eq_getElem hkl,List.getElem?_eq_getElem hltv]at h1;rw[cell_of_block hgh,hgc k hkl,Option.some.inj h1]
   have hgf:wr.frozen? ⟨g,k,none⟩=false:=zh hgh;have HX:=zpx ht ht' hR hO hB;clear ht ht' hR hO hB hf hr hf0 hf1 hgh hgc
   by_cases hv:o.vs[k].toList.isEmpty=true
   ·have HV:Hid (zas fs[k] o.vs[k]=fs[k].df):=by unfold Hid zas;rw[if_pos hv]
    go_wp2_with fail
    obtain⟨ht,ht',hR,hO,hB⟩:=HX.out;have hba:=(bRf (wr.setCell ⟨g,k,none⟩ (.string fs[k].df)).heap.size (wr.setCell ⟨g,k,none⟩ (.string fs[k].df))).alloc (Nat.le_refl _) (.cells #[.string fs[k].nm,.int .i64 fs[k].kd,.int .i64 fs[k].ls,.int .i64 fs[k].ms,.slice wa fs[k].ws.length wcap,.string fs[k].to,.int .i64 fs[k].rl,.bool fs[k].mu,.bool fs[k].fx,.string fs[k].df,.string fs[k].wg] 128);have hs0:(wr.setCell ⟨g,k,none⟩ (.string fs[k].df)).heap.size=wr.heap.size:=by simp[World.setCell]
    exact⟨⟨k+1,by omega,by go_num,by rw[zde HC.out k hlt,HV.out];exact(ht.set k _).mono hba,(ht'.setCell _ hgm _).mono hba,(hba.block _ (by rw[hs0];omega)).trans ((Below.heap_setCell _ _ _ _ (by show w.heap.size+1+1≠g;omega)).trans hR),(hba.block _ (by rw[hs0];exact hOz)).trans ((Below.heap_setCell _ _ _ _ (by show w1.heap.size≠g;omega)).trans hO),(hB.setCell (p:=⟨g,k,none⟩) (by show w.heap.size<=g;omega) _).alloc (by rw[hs0];exact hB.size) _⟩,zm hlt⟩
   ·have HV:Hid (zas fs[k] o.vs[k]=o.vs[k]):=by unfold Hid zas;rw[if_neg hv]
    go_wp2_with fail
    obtain⟨ht,ht',hR,hO,hB⟩:=HX.out;have hba:=(bRf wr.heap.size wr).alloc (Nat.le_refl _) (.cells #[.string fs[k].nm,.int .i64 fs[k].kd,.int .i64 fs[k].ls,.int .i64 fs[k].ms,.slice wa fs[k].ws.length wcap,.string fs[k].to,.int .i64 fs[k].rl,.bool fs[k].mu,.bool fs[k].fx,.string fs[k].df,.string fs[k].wg] 128)
    have hsame:(jo fs o.vs k).set k o.vs[k]=jo fs o.vs k:=by
     have h1:=zft HC.out k hlt;have hkl:k<(jo fs o.vs k).length:=by rw[zaE HC.out];exact hltv
     rw[List.getElem?_eq_getElem hkl,List.getElem?_eq_getElem hltv]at h1;rw[<- Option.some.inj h1,List.set_getElem_self]
    exact⟨⟨k+1,by omega,by go_num,by rw[zde HC.out k hlt,HV.out,hsame];exact ht.mono hba,ht'.mono hba,(hba.block _ (by omega)).trans hR,(hba.block _ hOz).trans hO,hB.alloc hB.size _⟩,zm hlt⟩
  ·have e:k=fs.length:=by omega
   subst e;rw[zjz HC.out]at ht;have hRc:∀j,wr.cell? ⟨w.heap.size+1+1,j,none⟩=(#[.string ByteArray.empty,.string ByteArray.empty,.string ByteArray.empty,.slice none 0 0,.bool false,.slice none 0 0,.int .i64 0]:Array Value)[j]?:=fun j=>cell_of_block hR
   have hRf:∀j,wr.frozen? ⟨w.heap.size+1+1,j,none⟩=false:=fun j=>zh hR
   have HX:=zc6 ht ht' hB;have HM:=jC HT.out.2.2.1 HT.out.2.1;clear ht ht' hB hR hO hf;go_wp2_with fail
   refine bodyPost_ret (v:=(.agg #[.string o.kd,.string o.nm,.string o.tm,.slice a o.vs.length dap,.bool o.en,.slice a' o.hs.length dap',.int .i64 o.vr])) (by simp[results,Tryz.results216,go_sem,hRc]) rfl ?_;obtain⟨ht,ht',hB⟩:=HX.out;exact⟨a,dap,a',dap',m,rfl,(jT ht _ (by omega) _ _ _ _ _ _ _).low (by omega),HM.out.2,by have:=HM.out.1;omega,jT ht' _ (by have:=HM.out.1;omega) _ _ _ _ _ _ _,zaW hB _ (by omega) _ _ _ _ _ _ _⟩
theorem zmr {c p:Int}(h:c≠0):zlK c p=.iface 281 (.agg #[.int .i64 c,.int .i64 p]):=by simp[zlK,h]
theorem zeH (a0:Option Addr)(cap0:Nat)(ss:List Shp)(o:Ob)(a a':Option Addr)(cap cap':Nat)(w:World)(hw:yU w a0 ss)(ho:jK w o a a')(hcnt:o.vs.length=(shapeOf ss o.kd).fs.length) :
 Calls Tryz.prog 214 #[.slice a0 ss.length cap0,.agg #[.string o.kd,.string o.nm,.string o.tm,.slice a o.vs.length cap,.bool o.en,.slice a' o.hs.length cap',.int .i64 o.vr]] w
  fun e w'=>e=.returned (zlK (jN (shapeOf ss o.kd).fs o.vs).1 (jN (shapeOf ss o.kd).fs o.vs).2)/\Below w.heap.size w w':=by
 have HC:=hid hcnt;clear hcnt;go_enter Tryz.func214,Tryz.ntmps214;go_wp2_with fail
 refine(zcS _).mono ?_;rintro e w0⟨rfl,hw0⟩
 have hX0:∀j,w0.cell? ⟨w.heap.size,j,none⟩=(#[.string o.kd,.string o.nm,.string o.tm,.slice a o.vs.length cap,.bool o.en,.slice a' o.hs.length cap',.int .i64 o.vr]:Array Value)[j]?:=fun j=>by
  rw[hw0,World.cell?_alloc_lt _ _ ⟨w.heap.size,j,none⟩ (by simp)];exact zl w _ _ j
 have hm0:w0.heap[w.heap.size+1]?=some (.map yQ 4):=by
  rw[hw0];have:=alloc_at (w.alloc (.cells #[.string o.kd,.string o.nm,.string o.tm,.slice a o.vs.length cap,.bool o.en,.slice a' o.hs.length cap',.int .i64 o.vr] 123)) (.map yQ 4);simpa using this
 have hB00:Below w.heap.size w w0:=by rw[hw0];exact zw _ _ _
 have hz0:w.heap.size+1<w0.heap.size:=by rw[hw0];simp
 clear hw0;simp only[World.size_alloc];have hzz:w.heap.size<w0.heap.size:=by omega
 go_wp2_with fail
 refine(qJ _ _ _ _ _ (hw.mono hB00)).mono ?_;rintro e w1⟨fa,fcap,rfl,hfl0,hb1⟩;have hX1:=za hX0 hzz hb1;have hm1:=(hb1.block _ hz0).trans hm0;have hz1:w.heap.size+1<w1.heap.size:=by have:=hb1.size;omega
 have hB01:=hB00.trans (hb1.mono (by omega));have hfl1:=hfl0.mono hb1;clear hX0 hm0 hb1 hfl0 hz0 hzz
 generalize hfs:(shapeOf ss o.kd).fs=fs at *
 have hlen:=hfl1.len;unfold maxLen at hlen;go_wp2_with fail
 go_loopw [22] (fun i wr=>∃k:Nat,k<=fs.length/\i=.int .i64 k/\up (zbg fs o.vs) k=true/\Below w1.heap.size w1 wr) (fun i _=>fs.length-(intOf i).toNat)
 case atStart=>exact⟨0,Nat.zero_le _,rfl,rfl,bAl _ _⟩
 case round=>
  obtain⟨k,hk,rfl,hup,hBr⟩:=hrel;have hszr:=hBr.size;have hB:Below w.heap.size w wr:=hB01.trans (hBr.mono (by omega))
  by_cases hlt:k<fs.length
  ·have hXr:=za hX1 (by omega) hBr
   have hmr:=(hBr.block _ hz1).trans hm1;obtain⟨b,off,rfl,hb,hr⟩:=hfl1.rows (by rintro rfl;simp at hlt);obtain⟨wa,wcap,hf0⟩:=hr k hlt;have hf:=hf0.mono hb hBr;obtain⟨c0,c1,c2,c3,c4,c5,c6,c7,c8,c9,c10⟩:=hf.load;have hst:=hf.strs;have hltv:k<o.vs.length:=by rw[HC.out];exact hlt
   obtain⟨vb,voff,rfl,hvb,hvc⟩:=ho.vals.cells (by intro h;rw[h]at hltv;simp at hltv);have hcv:=(hB.cell (p:=⟨vb,voff+k,none⟩) hvb).trans (hvc k hltv);have hvs:=ho.vals.small _ (List.getElem_mem hltv);have hltI:(k:Int)<(fs.length:Int):=by omega
   have hltV:(k:Int)<(o.vs.length:Int):=by omega
   have hbr:b<wr.heap.size:=by omega
   have hvbr:vb<wr.heap.size:=by omega
   have hwr1:w.heap.size<wr.heap.size:=by omega
   have HFX:=hid (zjq hlt hltv)
   have HS:Hid (zaH fs[k] o.vs[k]=0->up (zbg fs o.vs) (k+1)=true):=fun h=>by
    rw[q9,hup];unfold zbg;rw[HFX.out,h];rfl
   have HN:Hid (∀n:Int,n≠0->zaH fs[k] o.vs[k]=n->zlK (jN fs o.vs).1 (jN fs o.vs).2=.iface 281 (.agg #[.int .i64 n,.int .i64 k])):=fun n hn0 h=>by
    rw[zls hlt hup (by unfold zbg;rw[HFX.out,h];simp[hn0]),HFX.out,h];exact zmr hn0
   clear hX1 hm1 hr hf0 hf hup
   by_cases he:o.vs[k].size=0
   ·have hne:o.vs[k].toList.isEmpty=true:=by rw[zq];simp[he]
    have HE:=hid he;clear he
    by_cases hmu:fs[k].mu=true
    ·have HM:=hid hmu
     go_wp2_with fail
     go_ret;have hv:=HN.out 2 (by decide) (by unfold zaH;rw[if_pos HE.out,if_pos HM.out]);exact⟨by rw[hfs,hv];rfl,hB.alloc (by omega) _⟩
    ·have hmu':fs[k].mu=false:=by simpa using hmu
     have HM:=hid hmu';clear hmu;go_wp2_with fail
     go_quiet (fail)
     go_wp2_with fail
     exact⟨⟨k+1,by omega,by go_num,HS.out (by unfold zaH;rw[if_pos HE.out,HM.out];rfl),below_drewN (hBr.alloc (by omega) _) _⟩,by simp[intOf];omega⟩
   ·have hne:o.vs[k].toList.isEmpty=false:=by rw[zq];simp[he]
    have HE:Hid (¬o.vs[k].size=0):=he;clear he
    by_cases hfit:fits fs[k].kd fs[k].ls fs[k].ms fs[k].ws o.vs[k]=true
    all_goals
     first
      | (have HFT:Hid (fits fs[k].kd fs[k].ls fs[k].ms fs[k].ws o.vs[k]=true):=hfit)
      | (have HFT:Hid (fits fs[k].kd fs[k].ls fs[k].ms fs[k].ws o.vs[k]=false):=by simpa[Hid] using hfit)
     clear hfit;go_wp2_with fail
     have hbx:Below wr.heap.size wr ((wr.alloc (.cells #[.string fs[k].nm,.int .i64 fs[k].kd,.int .i64 fs[k].ls,.int .i64 fs[k].ms,.slice wa fs[k].ws.length wcap,.string fs[k].to,.int .i64 fs[k].rl,.bool fs[k].mu,.bool fs[k].fx,.string fs[k].df,.string fs[k].wg] 128)).drew):=(bAl _ _).drew;have hmx:=(hbx.block _ (by omega)).trans hmr;have hstx:=hst.mono hbx
     go_region_with (go_at_call 185;refine(zf HFT.out (zfA _ _ _ _ _ _ _ _ _ _ _ _ _ _ _ _ (by exact hmx) hvs (by exact hstx))).mono ?_;rintro e w3⟨rfl,hb3⟩)
     all_goals go_wp2_with fail
    all_goals have hB3:Below wr.heap.size wr w3:=hbx.trans (hb3.mono (by simp))
    all_goals first
     | (have hft:fits fs[k].kd fs[k].ls fs[k].ms fs[k].ws o.vs[k]=true:=HFT.out
        exact⟨⟨k+1,by omega,by go_num,HS.out (by unfold zaH;rw[if_neg HE.out];unfold ze1;rw[hft];rfl),hBr.trans (hB3.mono hszr)⟩,by simp[intOf];omega⟩)
     | (have hft:fits fs[k].kd fs[k].ls fs[k].ms fs[k].ws o.vs[k]=false:=HFT.out
        go_ret;have hv:=HN.out 3 (by decide) (by unfold zaH;rw[if_neg HE.out];unfold ze1;rw[hft];rfl);exact⟨by rw[hfs,hv];rfl,hB.trans (hB3.mono (by omega))⟩)
  ·have HF:Hid (jN fs o.vs=(0,0)):=by
    have e:k=fs.length:=by omega
    subst e;exact zh0 hup
   clear hup;go_wp2_with fail
   go_ret;exact⟨by rw[hfs,HF.out];rfl,hB⟩
theorem zjY (l:Lw)(la lb lc:Option Addr)(lca lcb lcc:Nat)(b:Bk)(a0 a1 a2 a3:Option Addr)(c0 c1 c2 c3:Nat)(w:World)(hb:jk w b a0 a1 a2 a3)(hl:jh w l la lb lc) :
 Calls Tryz.prog 119 #[.agg (l.cells la lb lc lca lcb lcc),.agg (b.cells a0 a1 a2 a3 c0 c1 c2 c3)] w fun e w'=>e=.returned (.bool (yV l.ts b))/\Below w.heap.size w w':=by
 have HK:=hid hb;have HL:=hid hl;clear hb hl;unfold Lw.cells Bk.cells
 by_cases hln:b.ls.length<=10
 rotate_left
 ·have HF:Hid (yV l.ts b=false):=by unfold Hid yV;rw[decide_eq_false hln];rfl
  have hg:(10:Int)<(b.ls.length:Int):=by omega
  go_enter Tryz.func119,Tryz.ntmps119;go_wp2_with fail
  go_ret;exact⟨ze HF.out.symm,zw _ _ _⟩
 have hg:decide ((10:Int)<(b.ls.length:Int))=false:=by simp;omega
 have HLN:Hid (b.ls.length<=10):=hln;clear hln;go_enter Tryz.func119,Tryz.ntmps119;go_wp2_with fail
 obtain⟨hL0,hX0⟩:=qx w #[.slice la l.ss.length lca,.slice lb l.ms.length lcb,.slice lc l.ts.length lcc] #[.int .i64 b.now,.int .i64 b.tick,.int .i64 b.given,.slice a0 b.os.length c0,.slice a1 b.gs.length c1,.slice a2 b.ls.length c2,.slice a3 b.ps.length c3] 41 48;have HB0:Hid (Below w.heap.size w ((w.alloc (.cells #[.slice la l.ss.length lca,.slice lb l.ms.length lcb,.slice lc l.ts.length lcc] 41)).alloc (.cells #[.int .i64 b.now,.int .i64 b.tick,.int .i64 b.given,.slice a0 b.os.length c0,.slice a1 b.gs.length c1,.slice a2 b.ls.length c2,.slice a3 b.ps.length c3] 48))):=zw w _ _;obtain⟨W0,hW0⟩:∃W0,W0=(w.alloc (.cells #[.slice la l.ss.length lca,.slice lb l.ms.length lcb,.slice lc l.ts.length lcc] 41)).alloc (.cells #[.int .i64 b.now,.int .i64 b.tick,.int .i64 b.given,.slice a0 b.os.length c0,.slice a1 b.gs.length c1,.slice a2 b.ls.length c2,.slice a3 b.ps.length c3] 48):=⟨_,rfl⟩
 have hz0:w.heap.size+1<W0.heap.size:=by rw[hW0];simp
 rw[<- hW0]at HB0 hX0 hL0 ⊢;clear hW0;refine(zis _ _ b.ls _ (HK.out.ls.mono HB0.out)).mono ?_;rintro e w1⟨rfl,hb1⟩;have HB1:=hid (HB0.out.trans (hb1.mono HB0.out.size));have hX1:=za hX0 hz0 hb1;have hL1:=za hL0 (nSl hz0) hb1;have hz1:=nLt hz0 hb1.size;clear hb1 hX0 hL0 hz0 HB0
 by_cases has:zbZ qP b.ls=true
 rotate_left
 ·have has':zbZ qP b.ls=false:=by simpa using has
  have HF:Hid (yV l.ts b=false):=by unfold Hid yV;rw[has'];simp
  rw[has'];clear has has';go_wp2_with fail
  go_ret;exact⟨ze HF.out.symm,HB1.out⟩
 have HG:Hid (yV l.ts b=b.ls.all (yJ l.ts)):=by unfold Hid yV;rw[has,decide_eq_true HLN.out];rfl
 rw[has];clear has;go_wp2_with fail
 go_loopw [20] (fun iv wr=>∃k:Nat,k<=b.ls.length/\iv=.int .i64 k/\Hid ((b.ls.take k).all (yJ l.ts)=true/\Below w1.heap.size w1 wr)) (fun iv _=>b.ls.length-(intOf iv).toNat)
 case atStart=>exact⟨0,Nat.zero_le _,rfl,by simp,bRf _ _⟩
 case round=>
  obtain⟨k,hk,rfl,HQ⟩:=hrel;have hkn:k<=10:=by have:=HLN.out;omega
  by_cases hlt:k<b.ls.length
  ·obtain⟨ob,off,rfl,hob,d0,d1,d2,d3⟩:=HK.out.ls.load (HB1.out.trans (HQ.out.2.mono HB1.out.size)) k hlt
   have hob':=nLt hob (HB1.out.trans (HQ.out.2.mono HB1.out.size)).size;have hltI:(k:Int)<(b.ls.length:Int):=by omega
   have hX:=za hX1 hz1 HQ.out.2;have hz:w.heap.size+1<wr.heap.size:=nLt hz1 HQ.out.2.size;have HSn:Hid ((b.ls.take (k+1)).all (yJ l.ts)=((b.ls.take k).all (yJ l.ts)&&(yJ l.ts) b.ls[k])):=qQ _ _ _ hlt;have HBo:Hid (∀ob,Below w1.heap.size w1 (wr.alloc ob)):=fun ob=>HQ.out.2.alloc HQ.out.2.size _
   have HBw:Hid (∀W,Below w1.heap.size w1 W->Below w.heap.size w W):=fun W hW=>HB1.out.trans (hW.mono HB1.out.size)
   have HNo:Hid ((yJ l.ts) b.ls[k]=false->yV l.ts b=false):=fun h=>by rw[HG.out];exact zaD _ _ _ hlt h
   have HYes:Hid ((yJ l.ts) b.ls[k]=true->(b.ls.take (k+1)).all (yJ l.ts)=true):=fun h=>by rw[HSn.out,HQ.out.1,h];rfl
   have hL:=za hL1 (nSl hz1) HQ.out.2;have hzL:=nSl hz;have HSm:Hid b.ls[k].Small:=HK.out.ls.small k hlt;go_wp2_with fail
   have hbN:Below wr.heap.size wr (wr.alloc (.cells #[.string b.ls[k].tm,.string b.ls[k].rs,.int .i64 b.ls[k].mo,.int .i64 b.ls[k].fr] 142)):=bAl _ _;have hN:=zl wr #[.string b.ls[k].tm,.string b.ls[k].rs,.int .i64 b.ls[k].mo,.int .i64 b.ls[k].fr] 142;obtain⟨w2,hw2⟩:∃w2,w2=wr.alloc (.cells #[.string b.ls[k].tm,.string b.ls[k].rs,.int .i64 b.ls[k].mo,.int .i64 b.ls[k].fr] 142):=⟨_,rfl⟩
   have hn2:wr.heap.size<w2.heap.size:=by rw[hw2];simp
   rw[<- hw2]at hbN hN ⊢;have HB2:Hid (Below w1.heap.size w1 w2):=by unfold Hid;rw[hw2];exact HBo.out _
   clear hw2 d0 d1 d2 d3 hX hL hbN;refine(zb4 _ _ l.ts b.ls[k].tm _ (HL.out.ts.mono (HBw.out _ HB2.out))).mono ?_;rintro e w3⟨rfl,hb3⟩;have HB3:=hid (HB2.out.trans (hb3.mono HB2.out.size));have hN3:=za hN hn2 hb3;have hn3:=nLt hn2 hb3.size;clear hb3 hN hn2 HB2;have HN1:∀v,zB b.ls[k].rs=v->Hid (∀W,Calls Tryz.prog 147 #[.string b.ls[k].rs] W fun e w'=>e=.returned (.bool v)/\w'=W):=fun v h W=>zf h (zF _ W HSm.out.rs)
   by_cases t1:yG l.ts b.ls[k].tm=true
   rotate_left
   ·have HF:Hid (yV l.ts b=false):=HNo.out (by unfold yJ;rw[bFi t1];rfl)
    rw[bFi t1];clear HN1 t1;go_wp2_with fail
    go_ret;exact⟨ze HF.out.symm,HBw.out _ HB3.out⟩
   rw[t1]
   by_cases t2:zB b.ls[k].rs=true
   rotate_left
   ·have HF:Hid (yV l.ts b=false):=HNo.out (by unfold yJ;rw[t1,bFi t2];rfl)
    have H2:=HN1 false (bFi t2);clear HN1 t1 t2;go_wp2_with fail
    refine(H2.out _).mono ?_;rintro e w4⟨rfl,rfl⟩;go_wp2_with fail
    go_ret;exact⟨ze HF.out.symm,HBw.out _ HB3.out⟩
   have H2:=HN1 true t2
   by_cases t3:jF b.ls[k].fr b.ls[k].mo 0 1000000=true
   ·have HY:Hid ((b.ls.take (k+1)).all (yJ l.ts)=true):=HYes.out (by unfold yJ;rw[t1,t2,t3];rfl)
    have H3:Hid (∀W,Calls Tryz.prog 162 #[.int .i64 b.ls[k].fr,.int .i64 b.ls[k].mo,.int .i64 0,.int .i64 1000000] W fun e w'=>e=.returned (.bool true)/\w'=W):=fun W=>zf t3 (zbB _ _ _ _ W)
    clear HN1 t1 t2 t3;go_wp2_with fail
    refine(H2.out _).mono ?_;rintro e w4⟨rfl,rfl⟩;go_wp2_with fail
    refine(H3.out _).mono ?_;rintro e w4⟨rfl,rfl⟩;go_wp2_with fail
    exact⟨⟨k+1,by omega,by go_num,HY.out,HB3.out⟩,zm hlt⟩
   ·have HF:Hid (yV l.ts b=false):=HNo.out (by unfold yJ;rw[t1,t2,bFi t3];rfl)
    have H3:Hid (∀W,Calls Tryz.prog 162 #[.int .i64 b.ls[k].fr,.int .i64 b.ls[k].mo,.int .i64 0,.int .i64 1000000] W fun e w'=>e=.returned (.bool false)/\w'=W):=fun W=>zf (bFi t3) (zbB _ _ _ _ W)
    clear HN1 t1 t2 t3;go_wp2_with fail
    refine(H2.out _).mono ?_;rintro e w4⟨rfl,rfl⟩;go_wp2_with fail
    refine(H3.out _).mono ?_;rintro e w4⟨rfl,rfl⟩;go_wp2_with fail
    go_ret;exact⟨ze HF.out.symm,HBw.out _ HB3.out⟩
  ·have e:k=b.ls.length:=by omega
   subst e
   have HE:Hid (yV l.ts b=true):=by
    unfold Hid;rw[HG.out];have h:=HQ.out.1;rw[tOl (Nat.le_refl _)]at h;exact h
   have HBe:=hid (HB1.out.trans (HQ.out.2.mono HB1.out.size));clear hlt hk HQ;go_wp2_with fail
   go_ret;exact⟨ze HE.out.symm,HBe.out⟩
theorem zfm {α:Type}{key:α->α->Int}{ms:List α}{k:Nat}(h:za2 key ms k)(hk:k<ms.length)(hn:∀m (e:k=m+1),key (ms[m]'(by omega)) ms[k]<0):za2 key ms (k+1):=by
 intro i hi hik
 rcases Nat.lt_or_ge (i+1) k with hlt|hge
 ·exact h i hi hlt
 ·have e:k=i+1:=by omega
  subst e;exact hn i rfl
theorem zgr {α:Type}{key:α->α->Int}{ms:List α}{k:Nat}(hk:k<ms.length)(h:∀h0:0<k,key (ms[k-1]'(by omega)) ms[k]<0):∀m (e:k=m+1),key (ms[m]'(by omega)) ms[k]<0:=by
 intro m e;subst e;exact h (by omega)
theorem zgF {α:Type}{key:α->α->Int}{ms:List α}{k:Nat}(h:za2 key ms k)(hk:ms.length<=k):zbZ key ms=true:=by
 rw[zkq];exact fun i hi=>h i hi (by omega)
theorem zeq {α:Type}{key:α->α->Int}{ms:List α}{k:Nat}(hk:k<ms.length)(h0:0<k)(hn:¬key (ms[k-1]'(by omega)) ms[k]<0):zbZ key ms=false:=by
 obtain⟨m,rfl⟩:∃m,k=m+1:=⟨k-1,by omega⟩
 exact zgj hk hn
theorem zjy (a b:Gr):zcw a b<0↔a.no<b.no:=by
 unfold zcw zel;split
 ·simp_all
 ·split <;> simp_all
end Go.Proofs.YtnapmdofidgliaaGreat
