import Derived.Test.YthdfpinbnncghaaGreatM32
set_option maxHeartbeats 4000000
namespace Go.Proofs.YthdfpinbnncghaaGreat
open Go.RowKit
theorem zqJ (k:Nat):zeT (List.range (k+1))=zeT (List.range k)++[.i (k:Int)]:=by simp[zeT,List.range_succ]
set_option maxRecDepth 20000 in
theorem ziq (s:Shp)(ms:List Mnd)(ma fa:OA)(mcap fcap:Nat)(w:World)(hm:qZ w ma ms)(hf:yj w fa s.fs)(hl:ms.length<=1048576)(hn:s.fs.length<=6)
 (hrd:∀q,q<s.fs.length->∀x∈yE s ms q,0<=x/\x<s.fs.length) :
 Calls Tryz.prog 152 #[.agg #[.s s.kd,.l fa s.fs.length fcap],.l ma ms.length mcap] w
  fun e w'=>∃v,e=.returned (.tuple #[v,.bool (zL (zo s ms) s.fs.length).1])/\Bw w w'/\((zL (zo s ms) s.fs.length).1=true->w'.ownsRow w.heap.size 3 1 v (zL (zo s ms) s.fs.length).2.row.length (zeT (zL (zo s ms) s.fs.length).2.row)):=by
 obtain⟨i0,hi0,hz0,hz1',hz2⟩:=info_parts Tryz.zmh;have HH:=zst hm hf hl hn hrd;clear hm hf hl hrd;go_enter Tryz.func152,Tryz.ntmps152;go_wp2_with fail
 go_loopw [6,11] (fun v0 iv wr=>∃(k:Nat) (v:Value),v=v0/\k<=s.fs.length/\iv=.i k/\wr.ownsRow (w.heap.size+2) 3 1 v k (zeT (List.range k))/\wr.heap[w.heap.size]?=some (.cells #[.s s.kd,.l fa s.fs.length fcap] 139)/\wr.heap[w.heap.size+1]?=some (.cells #[.l ma ms.length mcap] 41)/\Bw w wr) (fun _ iv _=>s.fs.length-(intOf iv).toNat)
 case atStart=>exact⟨0,_,rfl,Nat.zero_le _,rfl,World.ownsRow_nil _ _ _ _,(yt _ _ _).1,(yt _ _ _).2,zx _ _ _⟩
 case round=>
  obtain⟨k,v,hv,hk,rfl,hown,hs,hmm,hB⟩:=hrel;subst hv;have HX:=zk2 hown hs hmm hB;have hzz:=(gES hmm).1;clear hown hs hmm hB
  by_cases hlt:k<s.fs.length
  ·have hltI:(k:Int)<(s.fs.length:Int):=by omega
   have hgb:∀g,v.ownBlock=some g->w.heap.size+2<=g:=fun g hg=>(HX.o.1.lt g hg).1
   have HGB:=hid hgb;clear hgb
   go_wp2_with (at_builtin;refine zhw ?_)
   show wpList _ _ _ _ _ _
   refine wpList_append_own _ rfl (.tmp 14) (.tmp 16) 72 rfl (w.heap.size+2) 3 i0 (.i 0) 1 8 Tryz.underlying72 hi0 hz0 hz1' hz2 rfl (by decide) v _ _ rfl (HX.o.1.alloc _) (aD wr.heap.size 0) 1 1 [.i (k:Int)] rfl rfl (zfl _ _ _) (by intro u hu;simp at hu;subst hu;rfl) (by unfold maxLen;omega) (by omega) (by simp;omega) ?_;intro v' w1 hown' hgr _;obtain⟨va,vcap,rfl⟩:=qL hown';go_wp2_with fail
   refine⟨⟨k+1,_,rfl,by omega,by go_num,by rw[zqJ];exact hown',?_,?_,zdA HX.o.2.2.2 HX.o.2.2.2.size hgr (fun g hg=>by have:=HGB.o g hg;omega)⟩,zw hlt⟩
   ·exact(za4 hgr (by simp;omega) (fun g hg=>by have:=HGB.o g hg;omega)).trans ((Below.heap_alloc _ _ _ (by omega)).trans HX.o.2.1)
   ·exact(za4 hgr (by simp;omega) (fun g hg=>by have:=HGB.o g hg;omega)).trans ((Below.heap_alloc _ _ _ hzz).trans HX.o.2.2.1)
  ·have e:k=s.fs.length:=by omega
   subst e;obtain⟨va,vcap,rfl⟩:=qL HX.o.1
   have HPL:Hid (znP wr va s.fs.length):=by
    intro hpos;obtain⟨_,⟨h0,h1⟩|⟨g,cap,cur,h0,h1⟩⟩:=id HX.o.1
    ·omega
    ·cases h0
     refine⟨g,rfl,(HX.o.1.lt g rfl).2,fun q hq=>?_⟩;rw[HX.o.1.cellAt q (by omega)]
     simp[zeT,hq]
   go_wp2_with fail
   refine(zqL s ms w ma fa va mcap fcap vcap (w.heap.size+1) w.heap.size wr HH.o.1 HH.o.2.1 HH.o.2.2.1 HH.o.2.2.2.1 HH.o.2.2.2.2 HX.o.2.2.2 hzz (by omega) (by rw[cell_of_block HX.o.2.2.1];rfl) (fun j=>cell_of_block HX.o.2.1) HPL.o).mono ?_;rintro e w2⟨v2,rfl,hb2,hyes⟩;have HY:Hid (Bw w w2/\((zL (zo s ms) s.fs.length).1=true->w2.ownsRow w.heap.size 3 1 v2 (zL (zo s ms) s.fs.length).2.row.length (zeT (zL (zo s ms) s.fs.length).2.row))):=⟨hb2,fun h=>zdw (hyes h) (by omega)⟩
   clear hb2 hyes;go_wp2_with fail
   go_ret2
   exact⟨v2,rfl,HY.o⟩
theorem ziB (a:OA)(cap:Nat)(w:World) :
 Calls Tryz.prog 263 #[.l a 0 cap] w fun e w'=>∃v,e=.returned v/\w'.ownsRow w.heap.size 9 1 v 0 []/\Bw w w':=by
 cases a with
 | none=>exact zfo cap w
 | some g=>
  go_enter Tryz.func263,Tryz.ntmps263;go_wp2_with fail
  go_ret;exact⟨_,rfl,World.ownsRow_nil _ _ _ _,bRf _ _⟩
theorem zfX (a:OA)(cap:Nat)(ws:List BA)(w:World)(hw:zJ w a ws)(hl:ws.length<=1048576) :
 Calls Tryz.prog 263 #[.l a ws.length cap] w
  fun e w'=>∃v,e=.returned v/\w'.ownsRow w.heap.size 9 1 v ws.length (ws.map Value.string)/\Bw w w':=by
 by_cases h:ws=[]
 ·subst h
  exact ziB a cap w
 ·obtain⟨b,off,rfl,_⟩:=hw.cells h
  exact zfR b off cap ws w hw hl
theorem zjH (o:Ob)(va ha:OA)(cap cap':Nat)(w:World)(ho:zab w o va ha)(hl:o.vs.length<=1048576)(hl':o.hs.length<=1048576) :
 Calls Tryz.prog 260 #[.agg #[.s o.kd,.s o.nm,.s o.tm,.l va o.vs.length cap,.bool o.en,.l ha o.hs.length cap',.i o.vr]] w
  fun e w'=>∃a dap a' dap' m,e=.returned (.agg #[.s o.kd,.s o.nm,.s o.tm,.l a o.vs.length dap,.bool o.en,.l a' o.hs.length dap',.i o.vr])/\zA w.heap.size w' a o.vs/\(∀g,a=some g->g.block<m)/\w.heap.size<=m/\zA m w' a' o.hs/\Bw w w':=by
 go_enter Tryz.func260,Tryz.ntmps260;go_wp2_with fail
 refine(zfX _ _ _ _ (ho.vals.mono (zx _ _ _)) hl).mono ?_;rintro e w1⟨v,rfl,hown1,hb1⟩;obtain⟨a,dap,rfl,ht1⟩:=zA.zgk hown1;have hk1:=(hb1.block w.heap.size (by simp;omega)).trans (yt _ _ _).1;have hr1:=(hb1.block (w.heap.size+1) (by simp)).trans (yt _ _ _).2;have HT:Hid (zA (w.heap.size+1+1) w1 a o.vs):=by unfold Hid;simpa using ht1
 have hz1:w.heap.size+1<w1.heap.size:=by have:=hb1.size;simp at this;omega
 have hB1:=(zx _ _ _).trans (hb1.mono (by simp;omega));have HK:=hid hk1;have HRR:=hid hr1;have hX1:∀j,w1.cell? (aD w.heap.size j)=((oC o va ha cap cap'):AV)[j]?:=fun j=>cell_of_block hk1
 have hF1:∀j,w1.frozen? (aD w.heap.size j)=false:=fun j=>zl hk1
 clear hb1 hown1 ht1 hk1 hr1;go_wp2_with fail
 have hB1':=hB1.setCell (p:=(aD w.heap.size 3)) (Nat.le_refl _) (.l a o.vs.length dap);refine(zfX _ _ _ _ (ho.holds.mono hB1') hl').mono ?_;rintro e w2⟨v,rfl,hown2,hb2⟩;obtain⟨a',dap',rfl,ht2⟩:=zA.zgk hown2;have hk2:=(hb2.block w.heap.size (by simp[World.setCell];omega)).trans (zh HK.o _);have hr2:=(hb2.block (w.heap.size+1) (by simp[World.setCell];omega)).trans ((Below.heap_setCell _ _ _ _ (by simp)).trans HRR.o);have HT2:=hid ((HT.o.setCell _ (by simp;omega) _).mono hb2);have HU2:Hid (zA w1.heap.size w2 a' o.hs):=by unfold Hid;simpa[World.setCell] using ht2
 have HM:Hid (∀g,a=some g->g.block<w1.heap.size):=by
  intro g hg
  rcases HT.o with⟨h0,_⟩|⟨g',C,h0,_,hh,_⟩
  ·rw[h0]at hg;cases hg
  ·rw[h0]at hg;cases hg;exact(gES hh).1
 have hz2:w.heap.size+1<w2.heap.size:=by have:=hb2.size;simp[World.setCell]at this;omega
 have hB2:=hB1'.trans (hb2.mono hB1'.size);have hX2:∀j,w2.cell? (aD w.heap.size j)=((oC o a ha dap cap'):AV)[j]?:=fun j=>cell_of_block hk2
 have hF2:∀j,w2.frozen? (aD w.heap.size j)=false:=fun j=>zl hk2
 have hY2:∀j,w2.cell? (aD (w.heap.size+1) j)=(oZ:AV)[j]?:=fun j=>cell_of_block hr2
 have hG2:∀j,w2.frozen? (aD (w.heap.size+1) j)=false:=fun j=>zl hr2
 have hzz:w.heap.size<=w1.heap.size:=by omega
 clear hb2 hown2 ht2 hX1 hF1 hB1 hB1' hk2 hr2;go_wp2_with fail
 refine bodyPost_ret (v:=(.agg #[.s o.kd,.s o.nm,.s o.tm,.l a o.vs.length dap,.bool o.en,.l a' o.hs.length dap',.i o.vr])) (by simp[results,Tryz.results260,go_sem,hY2]) rfl ⟨a,dap,a',dap',w1.heap.size,rfl,((((((((HT2.o.setCell _ (by simp;omega) _).setCell _ (by simp) _).setCell _ (by simp) _).setCell _ (by simp) _).setCell _ (by simp) _).setCell _ (by simp) _).setCell _ (by simp) _).setCell _ (by simp) _).low (by omega),HM.o,hzz,((((((((HU2.o.setCell _ (by simp;omega) _).setCell _ (by simp;omega) _).setCell _ (by simp;omega) _).setCell _ (by simp;omega) _).setCell _ (by simp;omega) _).setCell _ (by simp;omega) _).setCell _ (by simp;omega) _).setCell _ (by simp;omega) _),((((((((hB2.setCell (Nat.le_refl _) _).setCell (by simp) _).setCell (by simp) _).setCell (by simp) _).setCell (by simp) _).setCell (by simp) _).setCell (by simp) _).setCell (by simp) _)⟩
theorem zoP (o:Ob)(kd:BA)(fs:List Fld)(fa:OA)(va ha:OA)(fcap cap cap':Nat)(w:World)(hf:yj w fa fs)(ho:zab w o va ha)(hl:o.vs.length<=1048576)(hl':o.hs.length<=1048576)(hc:o.vs.length=fs.length) :
 Calls Tryz.prog 248 #[.agg #[.s kd,.l fa fs.length fcap],.agg #[.s o.kd,.s o.nm,.s o.tm,.l va o.vs.length cap,.bool o.en,.l ha o.hs.length cap',.i o.vr]] w
  fun e w'=>∃a dap a' dap' m,e=.returned (.agg #[.s o.kd,.s o.nm,.s o.tm,.l a o.vs.length dap,.bool o.en,.l a' o.hs.length dap',.i o.vr])/\zA w.heap.size w' a (zaq fs o.vs)/\(∀g,a=some g->g.block<m)/\w.heap.size<=m/\zA m w' a' o.hs/\Bw w w':=by
 have HC:=hid hc;clear hc;go_enter Tryz.func248,Tryz.ntmps248;go_wp2_with fail
 refine(zjH o va ha cap cap' _ (ho.mono (jR _ _ _ _)) hl hl').mono ?_;rintro e w1⟨a,dap,a',dap',m,rfl,ht,hm,hsm,ht',hb1⟩;have hX1:∀j,w1.cell? (aD w.heap.size j)=(#[.s kd,.l fa fs.length fcap]:AV)[j]?:=fun j=>cell_of_block ((hb1.block w.heap.size (by simp;omega)).trans (zcv _ _ _ _))
 have HR1:=hid ((hb1.block (w.heap.size+1+1) (by simp)).trans (zcA _ _ _ _));have hB1:=(jR _ _ _ _).trans (hb1.mono (by simp;omega));have hz1:w.heap.size+1+1<w1.heap.size:=by have:=hb1.size;simp at this;omega
 have HT:Hid (zA (w.heap.size+1+1+1) w1 a o.vs/\(∀g,a=some g->g.block<m)/\w.heap.size+1+1+1<=m/\zA m w1 a' o.hs):=by
  simp only[World.size_alloc]at ht hsm;exact⟨ht,hm,hsm,ht'⟩
 have hz0:w.heap.size<w1.heap.size:=by omega
 clear ht hm hsm ht' hb1 ho;have hlen:=hf.len;unfold maxLen at hlen;go_wp2_with fail
 clear hX1
 go_loopw [13] (fun i wr=>∃k:Nat,k<=fs.length/\i=.i k/\zA (w.heap.size+1+1+1) wr a (jG fs o.vs k)/\zA m wr a' o.hs/\wr.heap[w.heap.size+1+1]?=some (.cells #[.s ByteArray.empty,.s ByteArray.empty,.s ByteArray.empty,.l none 0 0,.bool false,.l none 0 0,.i 0] 145)/\wr.heap[w1.heap.size]?=some (.cells #[.s o.kd,.s o.nm,.s o.tm,.l a o.vs.length dap,.bool o.en,.l a' o.hs.length dap',.i o.vr] 145)/\Bw w wr) (fun i _=>fs.length-(intOf i).toNat)
 case atStart=>
  have hba:=(bRf w1.heap.size w1).alloc (Nat.le_refl _) (.cells (oC o a a' dap dap') 145);exact⟨0,Nat.zero_le _,rfl,by rw[ziy];exact HT.o.1.mono hba,HT.o.2.2.2.mono hba,(hba.block _ hz1).trans HR1.o,alloc_at _ _,hB1.alloc hB1.size _⟩
 case round=>
  obtain⟨k,hk,rfl,ht,ht',hR,hO,hB⟩:=hrel;have hOc:∀j,wr.cell? (aD w1.heap.size j)=((oC o a a' dap dap'):AV)[j]?:=fun j=>cell_of_block hO
  have hOz:=(gES hO).1
  by_cases hlt:k<fs.length
  ·have hltv:k<o.vs.length:=by rw[HC.o];exact hlt
   obtain⟨fb,foff,rfl,hfb,hr⟩:=hf.rows (by rintro rfl;simp at hlt);obtain⟨wa,wcap,hf0⟩:=hr k hlt;have hf1:=hf0.mono hfb hB;obtain⟨c0,c1,c2,c3,c4,c5,c6,c7,c8,c9,c10⟩:=hf1.load;have hltI:(k:Int)<(fs.length:Int):=by omega
   have hltV:(k:Int)<(o.vs.length:Int):=by omega
   have hfbw:=nLt hfb hB.size
   obtain⟨g,C,hga,hgl,hgh,hgc⟩:∃g C,a=some (aD g 0)/\w.heap.size+1+1+1<=g/\wr.heap[g]?=some (.cells C 9)/\∀i (h:i<(jG fs o.vs k).length),C[i]?=some (.s (jG fs o.vs k)[i]):=by
    rcases ht with⟨_,h0⟩|h0
    ·have:=zaI HC.o k;rw[h0]at this;simp at this;omega
    ·exact h0
   have hgm:g<m:=HT.o.2.1 _ hga;have hgw1:g<w1.heap.size:=by have:=HT.o.1.lt _ hga;exact this
   have hgw:g<wr.heap.size:=by omega
   subst hga
   have hcell:wr.cell? (aD g k)=some (.s o.vs[k]):=by
    have h1:=zfL HC.o k hlt;have hkl:k<(jG fs o.vs k).length:=by rw[zaI HC.o];exact hltv
    rw[List.getElem?_eq_getElem hkl,List.getElem?_eq_getElem hltv]at h1;rw[cell_of_block hgh,hgc k hkl,Option.some.inj h1]
   have hgf:wr.frozen? (aD g k)=false:=zl hgh;have HX:=zst ht ht' hR hO hB;clear ht ht' hR hO hB hf hr hf0 hf1 hgh hgc
   by_cases hv:o.vs[k].toList.isEmpty=true
   ·have HV:Hid (zaD fs[k] o.vs[k]=fs[k].df):=by unfold Hid zaD;rw[if_pos hv]
    go_wp2_with fail
    obtain⟨ht,ht',hR,hO,hB⟩:=HX.o;have hba:=(bRf (wr.setCell (aD g k) (.s fs[k].df)).heap.size (wr.setCell (aD g k) (.s fs[k].df))).alloc (Nat.le_refl _) (.cells #[.s fs[k].nm,.i fs[k].kd,.i fs[k].ls,.i fs[k].ms,.l wa fs[k].ws.length wcap,.s fs[k].to,.i fs[k].rl,.bool fs[k].mu,.bool fs[k].fx,.s fs[k].df,.s fs[k].wg] 182);have hs0:(wr.setCell (aD g k) (.s fs[k].df)).heap.size=wr.heap.size:=by simp[World.setCell]
    exact⟨⟨k+1,by omega,by go_num,by rw[zdq HC.o k hlt,HV.o];exact(ht.set k _).mono hba,(ht'.setCell _ hgm _).mono hba,(hba.block _ (by rw[hs0];omega)).trans ((Below.heap_setCell _ _ _ _ (by show w.heap.size+1+1≠g;omega)).trans hR),(hba.block _ (by rw[hs0];exact hOz)).trans ((Below.heap_setCell _ _ _ _ (by show w1.heap.size≠g;omega)).trans hO),(hB.setCell (p:=(aD g k)) (by show w.heap.size<=g;omega) _).alloc (by rw[hs0];exact hB.size) _⟩,zw hlt⟩
   ·have HV:Hid (zaD fs[k] o.vs[k]=o.vs[k]):=by unfold Hid zaD;rw[if_neg hv]
    go_wp2_with fail
    obtain⟨ht,ht',hR,hO,hB⟩:=HX.o;have hba:=(bRf wr.heap.size wr).alloc (Nat.le_refl _) (.cells #[.s fs[k].nm,.i fs[k].kd,.i fs[k].ls,.i fs[k].ms,.l wa fs[k].ws.length wcap,.s fs[k].to,.i fs[k].rl,.bool fs[k].mu,.bool fs[k].fx,.s fs[k].df,.s fs[k].wg] 182)
    have hsame:(jG fs o.vs k).set k o.vs[k]=jG fs o.vs k:=by
     have h1:=zfL HC.o k hlt;have hkl:k<(jG fs o.vs k).length:=by rw[zaI HC.o];exact hltv
     rw[List.getElem?_eq_getElem hkl,List.getElem?_eq_getElem hltv]at h1;rw[<- Option.some.inj h1,List.set_getElem_self]
    exact⟨⟨k+1,by omega,by go_num,by rw[zdq HC.o k hlt,HV.o,hsame];exact ht.mono hba,ht'.mono hba,(hba.block _ (by omega)).trans hR,(hba.block _ hOz).trans hO,hB.alloc hB.size _⟩,zw hlt⟩
  ·have e:k=fs.length:=by omega
   subst e;rw[zj4 HC.o]at ht;have hRc:∀j,wr.cell? (aD (w.heap.size+1+1) j)=(oZ:AV)[j]?:=fun j=>cell_of_block hR
   have hRf:∀j,wr.frozen? (aD (w.heap.size+1+1) j)=false:=fun j=>zl hR
   have HX:=zcl ht ht' hB;have HM:=ji HT.o.2.2.1 HT.o.2.1;clear ht ht' hB hR hO hf;go_wp2_with fail
   refine bodyPost_ret (v:=(.agg #[.s o.kd,.s o.nm,.s o.tm,.l a o.vs.length dap,.bool o.en,.l a' o.hs.length dap',.i o.vr])) (by simp[results,Tryz.results248,go_sem,hRc]) rfl ?_;obtain⟨ht,ht',hB⟩:=HX.o;exact⟨a,dap,a',dap',m,rfl,(jZ ht _ (by omega) _ _ _ _ _ _ _).low (by omega),HM.o.2,by have:=HM.o.1;omega,jZ ht' _ (by have:=HM.o.1;omega) _ _ _ _ _ _ _,zaV hB _ (by omega) _ _ _ _ _ _ _⟩
theorem zmT {c p:Int}(h:c≠0):zmM c p=.iface 342 (.agg #[.i c,.i p]):=by simp[zmM,h]
theorem zeR (a0:OA)(cap0:Nat)(ss:List Shp)(o:Ob)(a a':OA)(cap cap':Nat)(w:World)(hw:yR w a0 ss)(ho:zab w o a a')(hcnt:o.vs.length=(shapeOf ss o.kd).fs.length) :
 Calls Tryz.prog 246 #[.l a0 ss.length cap0,.agg #[.s o.kd,.s o.nm,.s o.tm,.l a o.vs.length cap,.bool o.en,.l a' o.hs.length cap',.i o.vr]] w
  fun e w'=>e=.returned (zmM (jV (shapeOf ss o.kd).fs o.vs).1 (jV (shapeOf ss o.kd).fs o.vs).2)/\Bw w w':=by
 have HC:=hid hcnt;clear hcnt;go_enter Tryz.func246,Tryz.ntmps246;go_wp2_with fail
 refine(zdh _).mono ?_;rintro e w0⟨rfl,hw0⟩
 have hX0:∀j,w0.cell? (aD w.heap.size j)=((oC o a a' cap cap'):AV)[j]?:=fun j=>by
  rw[hw0,World.cell?_alloc_lt _ _ (aD w.heap.size j) (by simp)];exact zn w _ _ j
 have hm0:w0.heap[w.heap.size+1]?=some (.map yY 4):=by
  rw[hw0];have:=alloc_at (w.alloc (.cells #[.s o.kd,.s o.nm,.s o.tm,.l a o.vs.length cap,.bool o.en,.l a' o.hs.length cap',.i o.vr] 145)) (.map yY 4);simpa using this
 have hB00:Bw w w0:=by rw[hw0];exact zx _ _ _
 have hz0:w.heap.size+1<w0.heap.size:=by rw[hw0];simp
 clear hw0;simp only[World.size_alloc];have hzz:w.heap.size<w0.heap.size:=by omega
 go_wp2_with fail
 refine(qB _ _ _ _ _ (hw.mono hB00)).mono ?_;rintro e w1⟨fa,fcap,rfl,hfl0,hb1⟩;have hX1:=za hX0 hzz hb1;have hm1:=(hb1.block _ hz0).trans hm0;have hz1:w.heap.size+1<w1.heap.size:=by have:=hb1.size;omega
 have hB01:=hB00.trans (hb1.mono (by omega));have hfl1:=hfl0.mono hb1;clear hX0 hm0 hb1 hfl0 hz0 hzz
 generalize hfs:(shapeOf ss o.kd).fs=fs at *
 have hlen:=hfl1.len;unfold maxLen at hlen;go_wp2_with fail
 go_loopw [22] (fun i wr=>∃k:Nat,k<=fs.length/\i=.i k/\up (zbo fs o.vs) k=true/\Bw w1 wr) (fun i _=>fs.length-(intOf i).toNat)
 case atStart=>exact⟨0,Nat.zero_le _,rfl,rfl,bAl _ _⟩
 case round=>
  obtain⟨k,hk,rfl,hup,hBr⟩:=hrel;have hszr:=hBr.size;have hB:Bw w wr:=hB01.trans (hBr.mono (by omega))
  by_cases hlt:k<fs.length
  ·have hXr:=za hX1 (by omega) hBr
   have hmr:=(hBr.block _ hz1).trans hm1;obtain⟨b,off,rfl,hb,hr⟩:=hfl1.rows (by rintro rfl;simp at hlt);obtain⟨wa,wcap,hf0⟩:=hr k hlt;have hf:=hf0.mono hb hBr;obtain⟨c0,c1,c2,c3,c4,c5,c6,c7,c8,c9,c10⟩:=hf.load;have hst:=hf.strs;have hltv:k<o.vs.length:=by rw[HC.o];exact hlt
   obtain⟨vb,voff,rfl,hvb,hvc⟩:=ho.vals.cells (by intro h;rw[h]at hltv;simp at hltv);have hcv:=(hB.cell (p:=(aD vb (voff+k))) hvb).trans (hvc k hltv);have hvs:=ho.vals.small _ (List.getElem_mem hltv);have hltI:(k:Int)<(fs.length:Int):=by omega
   have hltV:(k:Int)<(o.vs.length:Int):=by omega
   have hbr:b<wr.heap.size:=by omega
   have hvbr:vb<wr.heap.size:=by omega
   have hwr1:w.heap.size<wr.heap.size:=by omega
   have HFX:=hid (zkS hlt hltv)
   have HS:Hid (zaO fs[k] o.vs[k]=0->up (zbo fs o.vs) (k+1)=true):=fun h=>by
    rw[jA,hup];unfold zbo;rw[HFX.o,h];rfl
   have HN:Hid (∀n:Int,n≠0->zaO fs[k] o.vs[k]=n->zmM (jV fs o.vs).1 (jV fs o.vs).2=.iface 342 (.agg #[.i n,.i k])):=fun n hn0 h=>by
    rw[zlX hlt hup (by unfold zbo;rw[HFX.o,h];simp[hn0]),HFX.o,h];exact zmT hn0
   clear hX1 hm1 hr hf0 hf hup
   by_cases he:o.vs[k].size=0
   ·have hne:o.vs[k].toList.isEmpty=true:=by rw[zy];simp[he]
    have HE:=hid he;clear he
    by_cases hmu:fs[k].mu=true
    ·have HM:=hid hmu
     go_wp2_with fail
     go_ret;have hv:=HN.o 2 (by decide) (by unfold zaO;rw[if_pos HE.o,if_pos HM.o]);exact⟨by rw[hfs,hv];rfl,hB.alloc (by omega) _⟩
    ·have hmu':fs[k].mu=false:=by simpa using hmu
     have HM:=hid hmu';clear hmu;go_wp2_with fail
     go_quiet (fail)
     go_wp2_with fail
     exact⟨⟨k+1,by omega,by go_num,HS.o (by unfold zaO;rw[if_pos HE.o,HM.o];rfl),below_drewN (hBr.alloc (by omega) _) _⟩,by simp[intOf];omega⟩
   ·have hne:o.vs[k].toList.isEmpty=false:=by rw[zy];simp[he]
    have HE:Hid (¬o.vs[k].size=0):=he;clear he
    by_cases hfit:fits fs[k].kd fs[k].ls fs[k].ms fs[k].ws o.vs[k]=true
    all_goals
     first
      | (have HFT:Hid (fits fs[k].kd fs[k].ls fs[k].ms fs[k].ws o.vs[k]=true):=hfit)
      | (have HFT:Hid (fits fs[k].kd fs[k].ls fs[k].ms fs[k].ws o.vs[k]=false):=by simpa[Hid] using hfit)
     clear hfit;go_wp2_with fail
     have hbx:Bw wr ((wr.alloc (.cells #[.s fs[k].nm,.i fs[k].kd,.i fs[k].ls,.i fs[k].ms,.l wa fs[k].ws.length wcap,.s fs[k].to,.i fs[k].rl,.bool fs[k].mu,.bool fs[k].fx,.s fs[k].df,.s fs[k].wg] 182)).drew):=(bAl _ _).drew;have hmx:=(hbx.block _ (by omega)).trans hmr;have hstx:=hst.mono hbx
     go_region_with (go_at_call 207;refine(zf HFT.o (zfT _ _ _ _ _ _ _ _ _ _ _ _ _ _ _ _ (by exact hmx) hvs (by exact hstx))).mono ?_;rintro e w3⟨rfl,hb3⟩)
     all_goals go_wp2_with fail
    all_goals have hB3:Bw wr w3:=hbx.trans (hb3.mono (by simp))
    all_goals first
     | (have hft:fits fs[k].kd fs[k].ls fs[k].ms fs[k].ws o.vs[k]=true:=HFT.o
        exact⟨⟨k+1,by omega,by go_num,HS.o (by unfold zaO;rw[if_neg HE.o];unfold zfW;rw[hft];rfl),hBr.trans (hB3.mono hszr)⟩,by simp[intOf];omega⟩)
     | (have hft:fits fs[k].kd fs[k].ls fs[k].ms fs[k].ws o.vs[k]=false:=HFT.o
        go_ret;have hv:=HN.o 3 (by decide) (by unfold zaO;rw[if_neg HE.o];unfold zfW;rw[hft];rfl);exact⟨by rw[hfs,hv];rfl,hB.trans (hB3.mono (by omega))⟩)
  ·have HF:Hid (jV fs o.vs=(0,0)):=by
    have e:k=fs.length:=by omega
    subst e;exact zit hup
   clear hup;go_wp2_with fail
   go_ret;exact⟨by rw[hfs,HF.o];rfl,hB⟩
def zaS (b:Bk):Bool:=within b.now 0 1000000&&(within b.tick 0 1000000&&within b.given 0 b.now)
def yB (given:Int)(g:Gr):Bool:=within g.no 1 given&&(zm g.to&&((g.gb.toList.isEmpty||zm g.gb)&&zQ g.r))
noncomputable def yP (b:Bk):Bool:=decide (b.gs.length<=24)&&(zaQ zcK b.gs&&b.gs.all (yB b.given))
def yT (ts:List Tm)(g:Lg):Bool:=yD ts g.tm&&(zm g.rs&&jN g.fr g.mo 0 1000000)
noncomputable def y5 (ts:List Tm)(b:Bk):Bool:=decide (b.ls.length<=10)&&(zaQ q9 b.ls&&b.ls.all (yT ts))
theorem zlD (b:Bk)(a0 a1 a2 a3:OA)(c0 c1 c2 c3:Nat)(w:World) :
 Calls Tryz.prog 114 #[.agg (b.cells a0 a1 a2 a3 c0 c1 c2 c3)] w fun e w'=>e=.returned (.bool (zaS b))/\Bw w w':=by
 have HB:Hid (∀ob,Bw w (w.alloc ob)):=fun ob=>bAl _ _
 unfold Bk.cells
 by_cases h1:within b.now 0 1000000=true
 rotate_left
 ·have h1':within b.now 0 1000000=false:=by simpa using h1
  have HF:Hid (zaS b=false):=by unfold Hid zaS;rw[h1'];rfl
  have H1:Hid (∀W,Calls Tryz.prog 158 #[.i b.now,.i 0,.i 1000000] W fun e w'=>e=.returned (.bool false)/\w'=W):=fun W=>zf h1' (yU _ _ _ W)
  clear h1 h1';go_enter Tryz.func114,Tryz.ntmps114
  go_wp2_with (go_at_call 158;refine(H1.o _).mono ?_;rintro e w2⟨rfl,rfl⟩)
  go_ret;exact⟨ze HF.o.symm,HB.o _⟩
 by_cases h2:within b.tick 0 1000000=true
 rotate_left
 ·have h2':within b.tick 0 1000000=false:=by simpa using h2
  have HF:Hid (zaS b=false):=by unfold Hid zaS;rw[h1,h2'];rfl
  have H1:Hid (∀W,Calls Tryz.prog 158 #[.i b.now,.i 0,.i 1000000] W fun e w'=>e=.returned (.bool true)/\w'=W):=fun W=>zf h1 (yU _ _ _ W)
  have H2:Hid (∀W,Calls Tryz.prog 158 #[.i b.tick,.i 0,.i 1000000] W fun e w'=>e=.returned (.bool false)/\w'=W):=fun W=>zf h2' (yU _ _ _ W)
  clear h1 h2 h2';go_enter Tryz.func114,Tryz.ntmps114;go_wp2_with fail
  refine(H1.o _).mono ?_;rintro e w2⟨rfl,rfl⟩;go_wp2_with fail
  refine(H2.o _).mono ?_;rintro e w2⟨rfl,rfl⟩;go_wp2_with fail
  go_ret;exact⟨ze HF.o.symm,HB.o _⟩
 ·have HF:Hid (zaS b=within b.given 0 b.now):=by unfold Hid zaS;rw[h1,h2];rfl
  have H1:Hid (∀W,Calls Tryz.prog 158 #[.i b.now,.i 0,.i 1000000] W fun e w'=>e=.returned (.bool true)/\w'=W):=fun W=>zf h1 (yU _ _ _ W)
  have H2:Hid (∀W,Calls Tryz.prog 158 #[.i b.tick,.i 0,.i 1000000] W fun e w'=>e=.returned (.bool true)/\w'=W):=fun W=>zf h2 (yU _ _ _ W)
  clear h1 h2;go_enter Tryz.func114,Tryz.ntmps114;go_wp2_with fail
  refine(H1.o _).mono ?_;rintro e w2⟨rfl,rfl⟩;go_wp2_with fail
  refine(H2.o _).mono ?_;rintro e w2⟨rfl,rfl⟩;go_wp2_with fail
  refine(yU _ _ _ _).mono ?_;rintro e w2⟨rfl,rfl⟩;go_wp2_with fail
  go_ret;exact⟨ze HF.o.symm,HB.o _⟩
theorem zlm (b:Bk)(a0 a1 a2 a3:OA)(c0 c1 c2 c3:Nat)(w:World)(hb:jU w b a0 a1 a2 a3) :
 Calls Tryz.prog 116 #[.agg (b.cells a0 a1 a2 a3 c0 c1 c2 c3)] w fun e w'=>e=.returned (.bool (yP b))/\Bw w w':=by
 have HK:=hid hb;clear hb;unfold Bk.cells
 by_cases hln:b.gs.length<=24
 rotate_left
 ·have HF:Hid (yP b=false):=by unfold Hid yP;rw[decide_eq_false hln];rfl
  have hg:(24:Int)<(b.gs.length:Int):=by omega
  go_enter Tryz.func116,Tryz.ntmps116;go_wp2_with fail
  go_ret;exact⟨ze HF.o.symm,bAl _ _⟩
 have hg:decide ((24:Int)<(b.gs.length:Int))=false:=by simp;omega
 have HLN:Hid (b.gs.length<=24):=hln;clear hln;go_enter Tryz.func116,Tryz.ntmps116;go_wp2_with fail
 have hX0:=zn w (bC b a0 a1 a2 a3 c0 c1 c2 c3) 51;have HB0:Hid (Bw w (w.alloc (.cells (bC b a0 a1 a2 a3 c0 c1 c2 c3) 51))):=bAl _ _;obtain⟨W0,hW0⟩:=xN (w.alloc (.cells (bC b a0 a1 a2 a3 c0 c1 c2 c3) 51));have hz0:w.heap.size<W0.heap.size:=by rw[hW0];simp
 rw[<- hW0]at HB0 hX0 ⊢;clear hW0;refine(zi1 _ _ b.gs _ (HK.o.gs.mono HB0.o)).mono ?_;rintro e w1⟨rfl,hb1⟩;have HB1:=hid (HB0.o.trans (hb1.mono HB0.o.size));have hX1:=za hX0 hz0 hb1;have hz1:=nLt hz0 hb1.size;clear hb1 hX0 hz0 HB0
 by_cases has:zaQ zcK b.gs=true
 rotate_left
 ·have has':zaQ zcK b.gs=false:=by simpa using has
  have HF:Hid (yP b=false):=by unfold Hid yP;rw[has'];simp
  rw[has'];clear has has';go_wp2_with fail
  go_ret;exact⟨ze HF.o.symm,HB1.o⟩
 have HG:Hid (yP b=b.gs.all (yB b.given)):=by unfold Hid yP;rw[has,decide_eq_true HLN.o];rfl
 rw[has];clear has;go_wp2_with fail
 go_loopw [18] (fun iv wr=>∃k:Nat,k<=b.gs.length/\iv=.i k/\Hid ((b.gs.take k).all (yB b.given)=true/\Bw w1 wr)) (fun iv _=>b.gs.length-(intOf iv).toNat)
 case atStart=>exact⟨0,Nat.zero_le _,rfl,by simp,bRf _ _⟩
 case round=>
  obtain⟨k,hk,rfl,HQ⟩:=hrel;have hkn:k<=24:=by have:=HLN.o;omega
  by_cases hlt:k<b.gs.length
  ·obtain⟨ob,off,v0,q0,rfl,hob,hsm,hi0,d0,d1,d2,d3,d4,d5,d6⟩:=HK.o.gs.load (HB1.o.trans (HQ.o.2.mono HB1.o.size)) k hlt
   have hob':=nLt hob (HB1.o.trans (HQ.o.2.mono HB1.o.size)).size;have hltI:(k:Int)<(b.gs.length:Int):=by omega
   have hX:=za hX1 hz1 HQ.o.2;have hz:w.heap.size<wr.heap.size:=nLt hz1 HQ.o.2.size;have HSn:Hid ((b.gs.take (k+1)).all (yB b.given)=((b.gs.take k).all (yB b.given)&&(yB b.given) b.gs[k])):=qM _ _ _ hlt;have HBo:Hid (∀ob,Bw w1 (wr.alloc ob)):=fun ob=>HQ.o.2.alloc HQ.o.2.size _
   have HBw:Hid (∀W,Bw w1 W->Bw w W):=fun W hW=>HB1.o.trans (hW.mono HB1.o.size)
   have HNo:Hid ((yB b.given) b.gs[k]=false->yP b=false):=fun h=>by rw[HG.o];exact zaH _ _ _ hlt h
   have HYes:Hid ((yB b.given) b.gs[k]=true->(b.gs.take (k+1)).all (yB b.given)=true):=fun h=>by rw[HSn.o,HQ.o.1,h];rfl
   have HIt:=ji hi0 hsm;clear hsm hi0;have HW1:∀v,within b.gs[k].no 1 b.given=v->Hid (∀W,Calls Tryz.prog 158 #[.i b.gs[k].no,.i 1,.i b.given] W fun e w'=>e=.returned (.bool v)/\w'=W):=fun v h W=>zf h (yU _ _ _ W)
   have HN1:∀v,zm b.gs[k].to=v->Hid (∀W,Calls Tryz.prog 153 #[.s b.gs[k].to] W fun e w'=>e=.returned (.bool v)/\w'=W):=fun v h W=>zf h (zB _ W HIt.o.2.to)
   have HN2:∀v,zm b.gs[k].gb=v->Hid (∀W,Calls Tryz.prog 153 #[.s b.gs[k].gb] W fun e w'=>e=.returned (.bool v)/\w'=W):=fun v h W=>zf h (zB _ W HIt.o.2.gb)
   have HR1:∀v,zQ b.gs[k].r=v->Hid (∀W,Bw wr W->Calls Tryz.prog 166 #[.agg #[.l v0 b.gs[k].r.vs.length q0,.s b.gs[k].r.kd,.s b.gs[k].r.tm,.s b.gs[k].r.px]] W fun e w'=>e=.returned (.bool v)/\Bw W w'):=fun v h W hW=>zf h (zkR b.gs[k].r v0 q0 W HIt.o.2.r (HIt.o.1.mono hW))
   by_cases t1:within b.gs[k].no 1 b.given=true
   rotate_left
   ·have HF:Hid (yP b=false):=HNo.o (by unfold yB;rw[bFi t1];rfl)
    have H1:=HW1 false (bFi t1);clear HW1 HN1 HN2 HR1 t1;go_wp2_with fail
    refine(H1.o _).mono ?_;rintro e w2⟨rfl,rfl⟩;go_wp2_with fail
    go_ret;exact⟨ze HF.o.symm,HBw.o _ (HBo.o _)⟩
   have H1:=HW1 true t1
   by_cases t2:zm b.gs[k].to=true
   rotate_left
   ·have HF:Hid (yP b=false):=HNo.o (by unfold yB;rw[t1,bFi t2];rfl)
    have H2:=HN1 false (bFi t2);clear HW1 HN1 HN2 HR1 t1 t2;go_wp2_with fail
    refine(H1.o _).mono ?_;rintro e w2⟨rfl,rfl⟩;go_wp2_with fail
    refine(H2.o _).mono ?_;rintro e w2⟨rfl,rfl⟩;go_wp2_with fail
    go_ret;exact⟨ze HF.o.symm,HBw.o _ (HBo.o _)⟩
   have H2:=HN1 true t2
   by_cases t3:b.gs[k].gb.toList.isEmpty=true
   ·by_cases t5:zQ b.gs[k].r=true
    ·have HY:Hid ((b.gs.take (k+1)).all (yB b.given)=true):=HYes.o (by unfold yB;rw[t1,t2,t3,t5];rfl)
     have H5:=HR1 true t5;clear HW1 HN1 HN2 HR1 t1 t2 t5;go_wp2_with fail
     refine(H1.o _).mono ?_;rintro e w2⟨rfl,rfl⟩;go_wp2_with fail
     refine(H2.o _).mono ?_;rintro e w2⟨rfl,rfl⟩;go_wp2_with fail
     refine(H5.o _ (bAl _ _)).mono ?_;rintro e w2⟨rfl,hb2⟩;have HB2:=hid ((HBo.o _).trans (hb2.mono (HBo.o _).size));clear hb2;go_wp2_with fail
     exact⟨⟨k+1,by omega,by go_num,HY.o,HB2.o⟩,zw hlt⟩
    ·have HF:Hid (yP b=false):=HNo.o (by unfold yB;rw[t1,t2,t3,bFi t5];rfl)
     have H5:=HR1 false (bFi t5);clear HW1 HN1 HN2 HR1 t1 t2 t5;go_wp2_with fail
     refine(H1.o _).mono ?_;rintro e w2⟨rfl,rfl⟩;go_wp2_with fail
     refine(H2.o _).mono ?_;rintro e w2⟨rfl,rfl⟩;go_wp2_with fail
     refine(H5.o _ (bAl _ _)).mono ?_;rintro e w2⟨rfl,hb2⟩;have HB2:=hid ((HBo.o _).trans (hb2.mono (HBo.o _).size));clear hb2;go_wp2_with fail
     go_ret;exact⟨ze HF.o.symm,HBw.o _ HB2.o⟩
   have t3':=bFi t3;clear t3
   by_cases t4:zm b.gs[k].gb=true
   rotate_left
   ·have HF:Hid (yP b=false):=HNo.o (by unfold yB;rw[t1,t2,t3',bFi t4];rfl)
    have H4:=HN2 false (bFi t4);clear HW1 HN1 HN2 HR1 t1 t2 t4;go_wp2_with fail
    refine(H1.o _).mono ?_;rintro e w2⟨rfl,rfl⟩;go_wp2_with fail
    refine(H2.o _).mono ?_;rintro e w2⟨rfl,rfl⟩;go_wp2_with fail
    refine(H4.o _).mono ?_;rintro e w2⟨rfl,rfl⟩;go_wp2_with fail
    go_ret;exact⟨ze HF.o.symm,HBw.o _ (HBo.o _)⟩
   have H4:=HN2 true t4
   by_cases t5:zQ b.gs[k].r=true
   ·have HY:Hid ((b.gs.take (k+1)).all (yB b.given)=true):=HYes.o (by unfold yB;rw[t1,t2,t3',t4,t5];rfl)
    have H5:=HR1 true t5;clear HW1 HN1 HN2 HR1 t1 t2 t4 t5;go_wp2_with fail
    refine(H1.o _).mono ?_;rintro e w2⟨rfl,rfl⟩;go_wp2_with fail
    refine(H2.o _).mono ?_;rintro e w2⟨rfl,rfl⟩;go_wp2_with fail
    refine(H4.o _).mono ?_;rintro e w2⟨rfl,rfl⟩;go_wp2_with fail
    refine(H5.o _ (bAl _ _)).mono ?_;rintro e w2⟨rfl,hb2⟩;have HB2:=hid ((HBo.o _).trans (hb2.mono (HBo.o _).size));clear hb2;go_wp2_with fail
    exact⟨⟨k+1,by omega,by go_num,HY.o,HB2.o⟩,zw hlt⟩
   ·have HF:Hid (yP b=false):=HNo.o (by unfold yB;rw[t1,t2,t3',t4,bFi t5];rfl)
    have H5:=HR1 false (bFi t5);clear HW1 HN1 HN2 HR1 t1 t2 t4 t5;go_wp2_with fail
    refine(H1.o _).mono ?_;rintro e w2⟨rfl,rfl⟩;go_wp2_with fail
    refine(H2.o _).mono ?_;rintro e w2⟨rfl,rfl⟩;go_wp2_with fail
    refine(H4.o _).mono ?_;rintro e w2⟨rfl,rfl⟩;go_wp2_with fail
    refine(H5.o _ (bAl _ _)).mono ?_;rintro e w2⟨rfl,hb2⟩;have HB2:=hid ((HBo.o _).trans (hb2.mono (HBo.o _).size));clear hb2;go_wp2_with fail
    go_ret;exact⟨ze HF.o.symm,HBw.o _ HB2.o⟩
  ·have e:k=b.gs.length:=by omega
   subst e
   have HE:Hid (yP b=true):=by
    unfold Hid;rw[HG.o];have h:=HQ.o.1;rw[tOl (Nat.le_refl _)]at h;exact h
   have HBe:=hid (HB1.o.trans (HQ.o.2.mono HB1.o.size));clear hlt hk HQ;go_wp2_with fail
   go_ret;exact⟨ze HE.o.symm,HBe.o⟩
def zjw (ss:List Shp)(o:Ob):List BA:=if zC ss o.kd=true/\yg ss=true/\o.vs.length=(shapeOf ss o.kd).fs.length then zaq (shapeOf ss o.kd).fs o.vs else o.vs
def zgz (o:Ob)(vs:List BA)(w:World)(e:Ending)(w':World):Prop:=
 ∃a dap a' dap' m,e=.returned (.agg #[.s o.kd,.s o.nm,.s o.tm,.l a o.vs.length dap,.bool o.en,.l a' o.hs.length dap',.i o.vr])/\zA w.heap.size w' a vs/\(∀g,a=some g->g.block<m)/\w.heap.size<=m/\zA m w' a' o.hs/\Bw w w'
end Go.Proofs.YthdfpinbnncghaaGreat
