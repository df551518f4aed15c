import Derived.Test.YtkficnallnpjnaaGreatM27
set_option maxHeartbeats 4000000
namespace Go.Proofs.YtkficnallnpjnaaGreat
open Go.RowKit
def zaN (b:Bk):Bool:=within b.now 0 1000000&&(within b.tick 0 1000000&&within b.given 0 b.now)
def yu (given:Int)(g:Gr):Bool:=within g.no 1 given&&(zA g.to&&((g.gb.toList.isEmpty||zA g.gb)&&zQ g.r))
noncomputable def yJ (b:Bk):Bool:=decide (b.gs.length<=24)&&(zbM zcp b.gs&&b.gs.all (yu b.given))
def yI (ts:List Tm)(g:Lg):Bool:=yB ts g.tm&&(zA g.rs&&jl g.fr g.mo 0 1000000)
noncomputable def yO (ts:List Tm)(b:Bk):Bool:=decide (b.ls.length<=10)&&(zbM qj b.ls&&b.ls.all (yI ts))
theorem zku (b:Bk)(a0 a1 a2 a3:Option Addr)(c0 c1 c2 c3:Nat)(w:World) :
 Calls Tryz.prog 119 #[.agg (b.cells a0 a1 a2 a3 c0 c1 c2 c3)] w fun e w'=>e=.returned (.bool (zaN b))/\Below w.heap.size w w':=by
 have HB:Hid (∀ob,Below w.heap.size w (w.alloc ob)):=fun ob=>bAl _ _
 unfold Bk.cells
 by_cases h1:within b.now 0 1000000=true
 rotate_left
 ·have h1':within b.now 0 1000000=false:=by simpa using h1
  have HF:Hid (zaN b=false):=by unfold Hid zaN;rw[h1'];rfl
  have H1:Hid (∀W,Calls Tryz.prog 159 #[.int .i64 b.now,.int .i64 0,.int .i64 1000000] W fun e w'=>e=.returned (.bool false)/\w'=W):=fun W=>zf h1' (je _ _ _ W)
  clear h1 h1';go_enter Tryz.func119,Tryz.ntmps119
  go_wp2_with (go_at_call 159;refine(H1.out _).mono ?_;rintro e w2⟨rfl,rfl⟩)
  go_ret;exact⟨ze HF.out.symm,HB.out _⟩
 by_cases h2:within b.tick 0 1000000=true
 rotate_left
 ·have h2':within b.tick 0 1000000=false:=by simpa using h2
  have HF:Hid (zaN b=false):=by unfold Hid zaN;rw[h1,h2'];rfl
  have H1:Hid (∀W,Calls Tryz.prog 159 #[.int .i64 b.now,.int .i64 0,.int .i64 1000000] W fun e w'=>e=.returned (.bool true)/\w'=W):=fun W=>zf h1 (je _ _ _ W)
  have H2:Hid (∀W,Calls Tryz.prog 159 #[.int .i64 b.tick,.int .i64 0,.int .i64 1000000] W fun e w'=>e=.returned (.bool false)/\w'=W):=fun W=>zf h2' (je _ _ _ W)
  clear h1 h2 h2';go_enter Tryz.func119,Tryz.ntmps119;go_wp2_with fail
  refine(H1.out _).mono ?_;rintro e w2⟨rfl,rfl⟩;go_wp2_with fail
  refine(H2.out _).mono ?_;rintro e w2⟨rfl,rfl⟩;go_wp2_with fail
  go_ret;exact⟨ze HF.out.symm,HB.out _⟩
 ·have HF:Hid (zaN b=within b.given 0 b.now):=by unfold Hid zaN;rw[h1,h2];rfl
  have H1:Hid (∀W,Calls Tryz.prog 159 #[.int .i64 b.now,.int .i64 0,.int .i64 1000000] W fun e w'=>e=.returned (.bool true)/\w'=W):=fun W=>zf h1 (je _ _ _ W)
  have H2:Hid (∀W,Calls Tryz.prog 159 #[.int .i64 b.tick,.int .i64 0,.int .i64 1000000] W fun e w'=>e=.returned (.bool true)/\w'=W):=fun W=>zf h2 (je _ _ _ W)
  clear h1 h2;go_enter Tryz.func119,Tryz.ntmps119;go_wp2_with fail
  refine(H1.out _).mono ?_;rintro e w2⟨rfl,rfl⟩;go_wp2_with fail
  refine(H2.out _).mono ?_;rintro e w2⟨rfl,rfl⟩;go_wp2_with fail
  refine(je _ _ _ _).mono ?_;rintro e w2⟨rfl,rfl⟩;go_wp2_with fail
  go_ret;exact⟨ze HF.out.symm,HB.out _⟩
theorem zkO (b:Bk)(a0 a1 a2 a3:Option Addr)(c0 c1 c2 c3:Nat)(w:World)(hb:q8 w b a0 a1 a2 a3) :
 Calls Tryz.prog 121 #[.agg (b.cells a0 a1 a2 a3 c0 c1 c2 c3)] w fun e w'=>e=.returned (.bool (yJ b))/\Below w.heap.size w w':=by
 have HK:=hid hb;clear hb;unfold Bk.cells
 by_cases hln:b.gs.length<=24
 rotate_left
 ·have HF:Hid (yJ b=false):=by unfold Hid yJ;rw[decide_eq_false hln];rfl
  have hg:(24:Int)<(b.gs.length:Int):=by omega
  go_enter Tryz.func121,Tryz.ntmps121;go_wp2_with fail
  go_ret;exact⟨ze HF.out.symm,bAl _ _⟩
 have hg:decide ((24:Int)<(b.gs.length:Int))=false:=by simp;omega
 have HLN:Hid (b.gs.length<=24):=hln;clear hln;go_enter Tryz.func121,Tryz.ntmps121;go_wp2_with fail
 have hX0:=zl w (bC b a0 a1 a2 a3 c0 c1 c2 c3) 40;have HB0:Hid (Below w.heap.size w (w.alloc (.cells (bC b a0 a1 a2 a3 c0 c1 c2 c3) 40))):=bAl _ _;obtain⟨W0,hW0⟩:∃W0,W0=w.alloc (.cells (bC b a0 a1 a2 a3 c0 c1 c2 c3) 40):=⟨_,rfl⟩
 have hz0:w.heap.size<W0.heap.size:=by rw[hW0];simp
 rw[<- hW0]at HB0 hX0 ⊢;clear hW0;refine(zii _ _ b.gs _ (HK.out.gs.mono HB0.out)).mono ?_;rintro e w1⟨rfl,hb1⟩;have HB1:=hid (HB0.out.trans (hb1.mono HB0.out.size));have hX1:=za hX0 hz0 hb1;have hz1:=nLt hz0 hb1.size;clear hb1 hX0 hz0 HB0
 by_cases has:zbM zcp b.gs=true
 rotate_left
 ·have has':zbM zcp b.gs=false:=by simpa using has
  have HF:Hid (yJ b=false):=by unfold Hid yJ;rw[has'];simp
  rw[has'];clear has has';go_wp2_with fail
  go_ret;exact⟨ze HF.out.symm,HB1.out⟩
 have HG:Hid (yJ b=b.gs.all (yu b.given)):=by unfold Hid yJ;rw[has,decide_eq_true HLN.out];rfl
 rw[has];clear has;go_wp2_with fail
 go_loopw [18] (fun iv wr=>∃k:Nat,k<=b.gs.length/\iv=.int .i64 k/\Hid ((b.gs.take k).all (yu b.given)=true/\Below w1.heap.size w1 wr)) (fun iv _=>b.gs.length-(intOf iv).toNat)
 case atStart=>exact⟨0,Nat.zero_le _,rfl,by simp,bRf _ _⟩
 case round=>
  obtain⟨k,hk,rfl,HQ⟩:=hrel;have hkn:k<=24:=by have:=HLN.out;omega
  by_cases hlt:k<b.gs.length
  ·obtain⟨ob,off,v0,q0,rfl,hob,hsm,hi0,d0,d1,d2,d3,d4,d5,d6⟩:=HK.out.gs.load (HB1.out.trans (HQ.out.2.mono HB1.out.size)) k hlt
   have hob':=nLt hob (HB1.out.trans (HQ.out.2.mono HB1.out.size)).size;have hltI:(k:Int)<(b.gs.length:Int):=by omega
   have hX:=za hX1 hz1 HQ.out.2;have hz:w.heap.size<wr.heap.size:=nLt hz1 HQ.out.2.size;have HSn:Hid ((b.gs.take (k+1)).all (yu b.given)=((b.gs.take k).all (yu b.given)&&(yu b.given) b.gs[k])):=qO _ _ _ hlt;have HBo:Hid (∀ob,Below w1.heap.size w1 (wr.alloc ob)):=fun ob=>HQ.out.2.alloc HQ.out.2.size _
   have HBw:Hid (∀W,Below w1.heap.size w1 W->Below w.heap.size w W):=fun W hW=>HB1.out.trans (hW.mono HB1.out.size)
   have HNo:Hid ((yu b.given) b.gs[k]=false->yJ b=false):=fun h=>by rw[HG.out];exact zaw _ _ _ hlt h
   have HYes:Hid ((yu b.given) b.gs[k]=true->(b.gs.take (k+1)).all (yu b.given)=true):=fun h=>by rw[HSn.out,HQ.out.1,h];rfl
   have HIt:=qE hi0 hsm;clear hsm hi0;have HW1:∀v,within b.gs[k].no 1 b.given=v->Hid (∀W,Calls Tryz.prog 159 #[.int .i64 b.gs[k].no,.int .i64 1,.int .i64 b.given] W fun e w'=>e=.returned (.bool v)/\w'=W):=fun v h W=>zf h (je _ _ _ W)
   have HN1:∀v,zA b.gs[k].to=v->Hid (∀W,Calls Tryz.prog 154 #[.string b.gs[k].to] W fun e w'=>e=.returned (.bool v)/\w'=W):=fun v h W=>zf h (zH _ W HIt.out.2.to)
   have HN2:∀v,zA b.gs[k].gb=v->Hid (∀W,Calls Tryz.prog 154 #[.string b.gs[k].gb] W fun e w'=>e=.returned (.bool v)/\w'=W):=fun v h W=>zf h (zH _ W HIt.out.2.gb)
   have HR1:∀v,zQ b.gs[k].r=v->Hid (∀W,Below wr.heap.size wr W->Calls Tryz.prog 167 #[.agg #[.slice v0 b.gs[k].r.vs.length q0,.string b.gs[k].r.kd,.string b.gs[k].r.tm,.string b.gs[k].r.px]] W fun e w'=>e=.returned (.bool v)/\Below W.heap.size W w'):=fun v h W hW=>zf h (zok b.gs[k].r v0 q0 W HIt.out.2.r (HIt.out.1.mono hW))
   by_cases t1:within b.gs[k].no 1 b.given=true
   rotate_left
   ·have HF:Hid (yJ b=false):=HNo.out (by unfold yu;rw[bFi t1];rfl)
    have H1:=HW1 false (bFi t1);clear HW1 HN1 HN2 HR1 t1;go_wp2_with fail
    refine(H1.out _).mono ?_;rintro e w2⟨rfl,rfl⟩;go_wp2_with fail
    go_ret;exact⟨ze HF.out.symm,HBw.out _ (HBo.out _)⟩
   have H1:=HW1 true t1
   by_cases t2:zA b.gs[k].to=true
   rotate_left
   ·have HF:Hid (yJ b=false):=HNo.out (by unfold yu;rw[t1,bFi t2];rfl)
    have H2:=HN1 false (bFi t2);clear HW1 HN1 HN2 HR1 t1 t2;go_wp2_with fail
    refine(H1.out _).mono ?_;rintro e w2⟨rfl,rfl⟩;go_wp2_with fail
    refine(H2.out _).mono ?_;rintro e w2⟨rfl,rfl⟩;go_wp2_with fail
    go_ret;exact⟨ze HF.out.symm,HBw.out _ (HBo.out _)⟩
   have H2:=HN1 true t2
   by_cases t3:b.gs[k].gb.toList.isEmpty=true
   ·by_cases t5:zQ b.gs[k].r=true
    ·have HY:Hid ((b.gs.take (k+1)).all (yu b.given)=true):=HYes.out (by unfold yu;rw[t1,t2,t3,t5];rfl)
     have H5:=HR1 true t5;clear HW1 HN1 HN2 HR1 t1 t2 t5;go_wp2_with fail
     refine(H1.out _).mono ?_;rintro e w2⟨rfl,rfl⟩;go_wp2_with fail
     refine(H2.out _).mono ?_;rintro e w2⟨rfl,rfl⟩;go_wp2_with fail
     refine(H5.out _ (bAl _ _)).mono ?_;rintro e w2⟨rfl,hb2⟩;have HB2:=hid ((HBo.out _).trans (hb2.mono (HBo.out _).size));clear hb2;go_wp2_with fail
     exact⟨⟨k+1,by omega,by go_num,HY.out,HB2.out⟩,zq hlt⟩
    ·have HF:Hid (yJ b=false):=HNo.out (by unfold yu;rw[t1,t2,t3,bFi t5];rfl)
     have H5:=HR1 false (bFi t5);clear HW1 HN1 HN2 HR1 t1 t2 t5;go_wp2_with fail
     refine(H1.out _).mono ?_;rintro e w2⟨rfl,rfl⟩;go_wp2_with fail
     refine(H2.out _).mono ?_;rintro e w2⟨rfl,rfl⟩;go_wp2_with fail
     refine(H5.out _ (bAl _ _)).mono ?_;rintro e w2⟨rfl,hb2⟩;have HB2:=hid ((HBo.out _).trans (hb2.mono (HBo.out _).size));clear hb2;go_wp2_with fail
     go_ret;exact⟨ze HF.out.symm,HBw.out _ HB2.out⟩
   have t3':=bFi t3;clear t3
   by_cases t4:zA b.gs[k].gb=true
   rotate_left
   ·have HF:Hid (yJ b=false):=HNo.out (by unfold yu;rw[t1,t2,t3',bFi t4];rfl)
    have H4:=HN2 false (bFi t4);clear HW1 HN1 HN2 HR1 t1 t2 t4;go_wp2_with fail
    refine(H1.out _).mono ?_;rintro e w2⟨rfl,rfl⟩;go_wp2_with fail
    refine(H2.out _).mono ?_;rintro e w2⟨rfl,rfl⟩;go_wp2_with fail
    refine(H4.out _).mono ?_;rintro e w2⟨rfl,rfl⟩;go_wp2_with fail
    go_ret;exact⟨ze HF.out.symm,HBw.out _ (HBo.out _)⟩
   have H4:=HN2 true t4
   by_cases t5:zQ b.gs[k].r=true
   ·have HY:Hid ((b.gs.take (k+1)).all (yu b.given)=true):=HYes.out (by unfold yu;rw[t1,t2,t3',t4,t5];rfl)
    have H5:=HR1 true t5;clear HW1 HN1 HN2 HR1 t1 t2 t4 t5;go_wp2_with fail
    refine(H1.out _).mono ?_;rintro e w2⟨rfl,rfl⟩;go_wp2_with fail
    refine(H2.out _).mono ?_;rintro e w2⟨rfl,rfl⟩;go_wp2_with fail
    refine(H4.out _).mono ?_;rintro e w2⟨rfl,rfl⟩;go_wp2_with fail
    refine(H5.out _ (bAl _ _)).mono ?_;rintro e w2⟨rfl,hb2⟩;have HB2:=hid ((HBo.out _).trans (hb2.mono (HBo.out _).size));clear hb2;go_wp2_with fail
    exact⟨⟨k+1,by omega,by go_num,HY.out,HB2.out⟩,zq hlt⟩
   ·have HF:Hid (yJ b=false):=HNo.out (by unfold yu;rw[t1,t2,t3',t4,bFi t5];rfl)
    have H5:=HR1 false (bFi t5);clear HW1 HN1 HN2 HR1 t1 t2 t4 t5;go_wp2_with fail
    refine(H1.out _).mono ?_;rintro e w2⟨rfl,rfl⟩;go_wp2_with fail
    refine(H2.out _).mono ?_;rintro e w2⟨rfl,rfl⟩;go_wp2_with fail
    refine(H4.out _).mono ?_;rintro e w2⟨rfl,rfl⟩;go_wp2_with fail
    refine(H5.out _ (bAl _ _)).mono ?_;rintro e w2⟨rfl,hb2⟩;have HB2:=hid ((HBo.out _).trans (hb2.mono (HBo.out _).size));clear hb2;go_wp2_with fail
    go_ret;exact⟨ze HF.out.symm,HBw.out _ HB2.out⟩
  ·have e:k=b.gs.length:=by omega
   subst e
   have HE:Hid (yJ b=true):=by
    unfold Hid;rw[HG.out];have h:=HQ.out.1;rw[tOl (Nat.le_refl _)]at h;exact h
   have HBe:=hid (HB1.out.trans (HQ.out.2.mono HB1.out.size));clear hlt hk HQ;go_wp2_with fail
   go_ret;exact⟨ze HE.out.symm,HBe.out⟩
def ziZ (ss:List Shp)(o:Ob):List ByteArray:=if zJ ss o.kd=true/\zZ ss=true/\o.vs.length=(shapeOf ss o.kd).fs.length then zai (shapeOf ss o.kd).fs o.vs else o.vs
def zgW (o:Ob)(vs:List ByteArray)(w:World)(e:Ending)(w':World):Prop:=
 ∃a dap a' dap' m,e=.returned (.agg #[.string o.kd,.string o.nm,.string o.tm,.slice a o.vs.length dap,.bool o.en,.slice a' o.hs.length dap',.int .i64 o.vr])/\zn w.heap.size w' a vs/\(∀g,a=some g->g.block<m)/\w.heap.size<=m/\zn m w' a' o.hs/\Below w.heap.size w w'
structure jT (lo hi:Nat)(w:World)(bo:Nat)(ms:List Mnd):Prop where
 low:lo<=bo
 high:bo<hi
 rows:∃C,w.heap[bo]?=some (.cells C 130)/\C.size=ms.length*6/\∀j,j<ms.length*6->zaW C j
theorem jT.mono {lo hi:Nat}{w w':World}{b:Nat}{ms:List Mnd}(h:jT lo hi w b ms)(hM:Marked lo hi w w'):jT lo hi w' b ms:=by
 obtain⟨C,hC,hs,hn⟩:=h.rows;obtain⟨C',hC',hs',hk⟩:=hM.inn b C _ h.low h.high hC;exact⟨h.low,h.high,C',hC',by omega,fun j hj a m c he=>hn j hj a m c ((hk j a m c).1 he)⟩
theorem jg.form {lo:Nat}{w:World}{bo:Nat}{ms:List Mnd}(h:jg lo w bo ms ms.length):jT lo w.heap.size w bo ms:=by
 obtain⟨C,hC,hsz,hr⟩:=h.rows;refine⟨h.low,(gES hC).1,C,hC,hsz,fun j hj a n c he=>?_⟩;have hi:j / 6<ms.length:=by omega
 have e:j=j / 6*6+j % 6:=by omega
 rw[e,hr (j / 6) hi hi (j % 6) (by omega)]at he;have h6:j % 6<6:=by omega
 revert he
 generalize j % 6=q at h6
 intro he
 rcases q with _|_|_|_|_|_|q <;> first|omega|(simp[Mnd.cells]at he)
theorem jT.ready {lo hi bo:Nat}{w W:World}{ms:List Mnd}(h:jT lo hi w bo ms)(hM:Marked lo hi w W)(i:Nat)(hi':i<ms.length) :
 (∀j,j<6->∃v,W.cell? ⟨bo,i*6+j,none⟩=some v)/\(∀o,W.frozen? ⟨bo,o,none⟩=false):=by
 have h':=h.mono hM;obtain⟨C,hC,hs,hn⟩:=h'.rows;exact⟨fun j hj=>⟨C[i*6+j]'(by omega),by rw[cell_of_block hC];exact Array.getElem?_eq_getElem (by omega)⟩,fun o=>zh hC⟩
theorem jT.put {lo hi bo:Nat}{w W:World}{ms:List Mnd}(h:jT lo hi w bo ms)(hM:Marked lo hi w W)(i j:Nat)(hi':i<ms.length)(hj:j<6)(v:Value)(hv:∀a n c,v≠Value.slice a n c):Marked lo hi w (W.setCell ⟨bo,i*6+j,none⟩ v):=by
 obtain⟨C,hC,hs,hn⟩:=h.rows;exact hM.put h.low h.high hC (hn (i*6+j) (by omega)) v hv
set_option maxRecDepth 20000 in
theorem zgZ (lo hi bo cap:Nat)(ms:List Mnd)(k:Int)(w:World)(h:jT lo hi w bo ms)(hl:ms.length<=1048576)(hk:0<k)(hk2:k<6000000000000000000) :
 Calls Tryz.prog 43 #[.slice (some ⟨bo,0,none⟩) ms.length cap,.int .i64 k] w fun e w'=>∃k',e=.returned (.int .i64 k')/\k<=k'/\k'<=k+ms.length*6/\Marked lo hi w w':=by
 have HF:Hid (jT lo hi w bo ms):=h;have HL:Hid (ms.length<=1048576):=hl;have HK:Hid (0<k/\k<6000000000000000000):=⟨hk,hk2⟩
 clear h hl hk hk2;go_enter Tryz.func43,Tryz.ntmps43;go_wp2_with fail
 go_loopw [1,5] (fun kv iv wr=>∃(i:Nat) (kk:Int),i<=ms.length/\kv=.int .i64 kk/\iv=.int .i64 i/\k<=kk/\kk<=k+i*6/\Marked lo hi w wr) (fun _ iv _=>ms.length-(intOf iv).toNat)
 case atStart=>exact⟨0,k,Nat.zero_le _,rfl,rfl,Int.le_refl _,by simp,Marked.refl _ _ _⟩
 case round=>
  obtain⟨i,kk,hile,rfl,rfl,h1,h2,hM⟩:=hrel
  by_cases hlt:i<ms.length
  ·have hltI:(i:Int)<(ms.length:Int):=by omega
   have HB:Hid (0<kk/\kk<7000000000000000000/\kk<=k+i*6/\k<=kk):=by have a:=HK.out;have b:=HL.out;exact⟨by omega,by omega,h2,h1⟩
   have HM:Hid (Marked lo hi w wr):=hM;clear h1 h2 hM;have hw1:wrap64 (kk+1)=kk+1:=by have:=HB.out;exact zy _ ⟨by omega,by omega⟩
   have hw2:wrap64 (kk+1+1)=kk+1+1:=by have:=HB.out;exact zy _ ⟨by omega,by omega⟩
   have hw3:wrap64 (kk+1+1+1)=kk+1+1+1:=by have:=HB.out;exact zy _ ⟨by omega,by omega⟩
   have hw4:wrap64 (kk+1+1+1+1)=kk+1+1+1+1:=by have:=HB.out;exact zy _ ⟨by omega,by omega⟩
   have hw5:wrap64 (kk+1+1+1+1+1)=kk+1+1+1+1+1:=by have:=HB.out;exact zy _ ⟨by omega,by omega⟩
   have hw6:wrap64 (kk+1+1+1+1+1+1)=kk+1+1+1+1+1+1:=by have:=HB.out;exact zy _ ⟨by omega,by omega⟩
   go_wp2_with fail
   refine(zN _ _ (by have:=HB.out;omega) (by have:=HB.out;omega)).mono ?_;rintro e wm0⟨s0,rfl,hb⟩;have HM0:Hid (Marked lo hi w wm0):=HM.out.trans (Marked.of_below hb);clear hb;obtain⟨hex,hfz⟩:=HF.out.ready HM0.out i hlt;obtain⟨v0,hv0⟩:=hex 0 (by omega);rw[Nat.add_zero]at hv0;have HP0:Hid (Marked lo hi w (wm0.setCell ⟨bo,i*6,none⟩ (.string s0))):=HF.out.put HM0.out i 0 hlt (by omega) (.string s0) (fun _ _ _ h=>by cases h);clear hex;go_wp2_with fail
   clear hv0 hfz;refine(zN _ _ (by have:=HB.out;omega) (by have:=HB.out;omega)).mono ?_;rintro e wm1⟨s1,rfl,hb⟩;have HM1:Hid (Marked lo hi w wm1):=HP0.out.trans (Marked.of_below hb);clear hb;obtain⟨hex,hfz⟩:=HF.out.ready HM1.out i hlt;obtain⟨v1,hv1⟩:=hex 1 (by omega);have HP1:Hid (Marked lo hi w (wm1.setCell ⟨bo,i*6+1,none⟩ (.string s1))):=HF.out.put HM1.out i 1 hlt (by omega) (.string s1) (fun _ _ _ h=>by cases h);clear hex;go_wp2_with fail
   clear hv1 hfz;refine(zN _ _ (by have:=HB.out;omega) (by have:=HB.out;omega)).mono ?_;rintro e wm2⟨s2,rfl,hb⟩;have HM2:Hid (Marked lo hi w wm2):=HP1.out.trans (Marked.of_below hb);clear hb;obtain⟨hex,hfz⟩:=HF.out.ready HM2.out i hlt;obtain⟨v2,hv2⟩:=hex 2 (by omega);have HP2:Hid (Marked lo hi w (wm2.setCell ⟨bo,i*6+2,none⟩ (.string s2))):=HF.out.put HM2.out i 2 hlt (by omega) (.string s2) (fun _ _ _ h=>by cases h);clear hex;go_wp2_with fail
   clear hv2 hfz;refine(zN _ _ (by have:=HB.out;omega) (by have:=HB.out;omega)).mono ?_;rintro e wm3⟨s3,rfl,hb⟩;have HM3:Hid (Marked lo hi w wm3):=HP2.out.trans (Marked.of_below hb);clear hb;obtain⟨hex,hfz⟩:=HF.out.ready HM3.out i hlt;obtain⟨v3,hv3⟩:=hex 3 (by omega);have HP3:Hid (Marked lo hi w (wm3.setCell ⟨bo,i*6+3,none⟩ (.string s3))):=HF.out.put HM3.out i 3 hlt (by omega) (.string s3) (fun _ _ _ h=>by cases h);clear hex;go_wp2_with fail
   clear hv3 hfz;refine(zN _ _ (by have:=HB.out;omega) (by have:=HB.out;omega)).mono ?_;rintro e wm4⟨s4,rfl,hb⟩;have HM4:Hid (Marked lo hi w wm4):=HP3.out.trans (Marked.of_below hb);clear hb;obtain⟨hex,hfz⟩:=HF.out.ready HM4.out i hlt;obtain⟨v4,hv4⟩:=hex 4 (by omega);have HP4:Hid (Marked lo hi w (wm4.setCell ⟨bo,i*6+4,none⟩ (.string s4))):=HF.out.put HM4.out i 4 hlt (by omega) (.string s4) (fun _ _ _ h=>by cases h);clear hex;go_wp2_with fail
   clear hv4 hfz;refine(zN _ _ (by have:=HB.out;omega) (by have:=HB.out;omega)).mono ?_;rintro e wm5⟨s5,rfl,hb⟩;have HM5:Hid (Marked lo hi w wm5):=HP4.out.trans (Marked.of_below hb);clear hb;obtain⟨hex,hfz⟩:=HF.out.ready HM5.out i hlt;obtain⟨v5,hv5⟩:=hex 5 (by omega);have HP5:Hid (Marked lo hi w (wm5.setCell ⟨bo,i*6+5,none⟩ (.string s5))):=HF.out.put HM5.out i 5 hlt (by omega) (.string s5) (fun _ _ _ h=>by cases h);clear hex;go_wp2_with fail
   go_roundw
   case rel=>exact⟨i+1,kk+1+1+1+1+1+1,by omega,by rw[hw6],by rw[wrap_one (by have:=HL.out;omega)],by have a:=HB.out;omega,by have a:=HB.out;omega,HP5.out⟩
   case measure=>exact yP hlt (by have:=HL.out;omega)
  ·have e:i=ms.length:=by omega
   subst e;go_wp2_with fail
   go_ret;exact⟨kk,rfl,h1,h2,hM⟩
end Go.Proofs.YtkficnallnpjnaaGreat
