import Derived.Test.YtecncindgjdbiaaGreatM27
set_option maxHeartbeats 4000000
namespace Go.Proofs.YtecncindgjdbiaaGreat
open Go.RowKit
def zb7 (k n:Nat):List BA:=(List.range n).map fun i=>zax (k+i)
theorem zew (k n:Nat):(zb7 k n).length=n:=by simp[zb7]
theorem zh2 (k n i:Nat)(h:i<(zb7 k n).length):(zb7 k n)[i]=zax (k+i):=by simp[zb7]
theorem zn.form {lo:Nat}{w:World}{g:Addr}{ws:List BA}(h:zn lo w (some g) ws):∃b C,g=(aD b 0)/\lo<=b/\w.heap[b]?=some (.cells C 9)/\ws.length<=C.size/\∀j,j<ws.length->zaS C j:=by
 rcases h with⟨h0,_⟩|⟨b,C,h0,hg,hh,hc⟩
 ·cases h0
 ·cases h0
  refine⟨b,C,rfl,hg,hh,?_,fun j hj a n c he=>by rw[hc j hj]at he;cases he⟩
  rcases Nat.lt_or_ge C.size ws.length with hlt|hge
  ·have:=hc C.size hlt
   rw[Array.getElem?_eq_none (Nat.le_refl _)]at this;cases this
  ·exact hge
theorem zir (lo cap:Nat)(a:OA)(vs:List BA)(k:Nat)(w:World)(h:zn lo w a vs)(hk:0<k)(hkn:k+vs.length<9000000000000000000) :
 Calls Tryz.prog 98 #[.l a vs.length cap,.i k] w fun e w'=>e=.returned (.i ((k+vs.length:Nat):Int))/\zn lo w' a (zb7 k vs.length)/\Marked lo w.heap.size w w'/\(a=none->w'=w)/\∀g,a=some g->Marked g.block (g.block+1) w w':=by
 rcases a with _|g
 ·rcases h with⟨_,rfl⟩|⟨_,_,h0,_⟩
  ·exact(zhS (k:Int) none cap w).mono fun e w' ⟨h1,h2⟩=>⟨by simpa using h1,by subst h2;exact Or.inl ⟨rfl,rfl⟩,by subst h2;exact Marked.refl _ _ _,fun _=>h2,fun g hg=>by cases hg⟩
  ·cases h0
 ·obtain⟨b,C,rfl,hlo,hC,hs,hns⟩:=h.form
  refine(zet b vs.length cap C k w hC hs hns hk hkn).mono fun e w' ⟨h1,h2,C',hC',hs',hc'⟩=>⟨h1,Or.inr ⟨b,C',rfl,hlo,hC',fun i hi=>?_⟩,h2.wide hlo (gES hC).1,fun h0=>(by cases h0),fun g hg=>by cases hg;exact h2⟩
  rw[zew]at hi;rw[hc' i hi,zh2]
def zi4 (ss:List Shp)(o:Ob):List BA:=if zJ ss o.kd=true/\zZ ss=true/\o.vs.length=(shapeOf ss o.kd).fs.length then zah (shapeOf ss o.kd).fs o.vs else o.vs
def zgK (o:Ob)(vs:List BA)(w:World)(e:Ending)(w':World):Prop:=
 ∃a dap a' dap' m,e=.returned (.agg #[.s o.kd,.s o.nm,.s o.tm,.l a o.vs.length dap,.bool o.en,.l a' o.hs.length dap',.i o.vr])/\zn w.heap.size w' a vs/\(∀g,a=some g->g.block<m)/\w.heap.size<=m/\zn m w' a' o.hs/\Bw w w'
structure jY (lo hi:Nat)(w:World)(bo:Nat)(ms:List Mnd):Prop where
 low:lo<=bo
 high:bo<hi
 rows:∃C,w.heap[bo]?=some (.cells C 136)/\C.size=ms.length*6/\∀j,j<ms.length*6->zaS C j
theorem jY.mono {lo hi:Nat}{w w':World}{b:Nat}{ms:List Mnd}(h:jY lo hi w b ms)(hM:Marked lo hi w w'):jY lo hi w' b ms:=by
 obtain⟨C,hC,hs,hn⟩:=h.rows;obtain⟨C',hC',hs',hk⟩:=hM.inn b C _ h.low h.high hC;exact⟨h.low,h.high,C',hC',by omega,fun j hj a m c he=>hn j hj a m c ((hk j a m c).1 he)⟩
theorem je.form {lo:Nat}{w:World}{bo:Nat}{ms:List Mnd}(h:je lo w bo ms ms.length):jY lo w.heap.size w bo ms:=by
 obtain⟨C,hC,hsz,hr⟩:=h.rows;refine⟨h.low,(gES hC).1,C,hC,hsz,fun j hj a n c he=>?_⟩;have hi:j / 6<ms.length:=by omega
 have e:j=j / 6*6+j % 6:=by omega
 rw[e,hr (j / 6) hi hi (j % 6) (by omega)]at he;have h6:j % 6<6:=by omega
 revert he
 generalize j % 6=q at h6
 intro he
 rcases q with _|_|_|_|_|_|q <;> first|omega|(simp[Mnd.cells]at he)
theorem jY.ready {lo hi bo:Nat}{w W:World}{ms:List Mnd}(h:jY lo hi w bo ms)(hM:Marked lo hi w W)(i:Nat)(hi':i<ms.length) :
 (∀j,j<6->∃v,W.cell? (aD bo (i*6+j))=some v)/\(∀o,W.frozen? (aD bo o)=false):=by
 have h':=h.mono hM;obtain⟨C,hC,hs,hn⟩:=h'.rows;exact⟨fun j hj=>⟨C[i*6+j]'(by omega),by rw[cell_of_block hC];exact Array.getElem?_eq_getElem (by omega)⟩,fun o=>zh hC⟩
theorem jY.put {lo hi bo:Nat}{w W:World}{ms:List Mnd}(h:jY lo hi w bo ms)(hM:Marked lo hi w W)(i j:Nat)(hi':i<ms.length)(hj:j<6)(v:Value)(hv:∀a n c,v≠Value.slice a n c):Marked lo hi w (W.setCell (aD bo (i*6+j)) v):=by
 obtain⟨C,hC,hs,hn⟩:=h.rows;exact hM.put h.low h.high hC (hn (i*6+j) (by omega)) v hv
set_option maxRecDepth 20000 in
theorem zgr (lo hi bo cap:Nat)(ms:List Mnd)(k:Int)(w:World)(h:jY lo hi w bo ms)(hl:ms.length<=1048576)(hk:0<k)(hk2:k<6000000000000000000) :
 Calls Tryz.prog 46 #[.l (some (aD bo 0)) ms.length cap,.i k] w fun e w'=>∃k',e=.returned (.i k')/\k<=k'/\k'<=k+ms.length*6/\Marked lo hi w w':=by
 have HF:Hid (jY lo hi w bo ms):=h;have HL:Hid (ms.length<=1048576):=hl;have HK:Hid (0<k/\k<6000000000000000000):=⟨hk,hk2⟩
 clear h hl hk hk2;go_enter Tryz.func46,Tryz.ntmps46;go_wp2_with fail
 go_loopw [1,5] (fun kv iv wr=>∃(i:Nat) (kk:Int),i<=ms.length/\kv=.i kk/\iv=.i i/\k<=kk/\kk<=k+i*6/\Marked lo hi w wr) (fun _ iv _=>ms.length-(intOf iv).toNat)
 case atStart=>exact⟨0,k,Nat.zero_le _,rfl,rfl,Int.le_refl _,by simp,Marked.refl _ _ _⟩
 case round=>
  obtain⟨i,kk,hile,rfl,rfl,h1,h2,hM⟩:=hrel
  by_cases hlt:i<ms.length
  ·have hltI:(i:Int)<(ms.length:Int):=by omega
   have HB:Hid (0<kk/\kk<7000000000000000000/\kk<=k+i*6/\k<=kk):=by have a:=HK.o;have b:=HL.o;exact⟨by omega,by omega,h2,h1⟩
   have HM:Hid (Marked lo hi w wr):=hM;clear h1 h2 hM;have hw1:wrap64 (kk+1)=kk+1:=by have:=HB.o;exact zA _ ⟨by omega,by omega⟩
   have hw2:wrap64 (kk+1+1)=kk+1+1:=by have:=HB.o;exact zA _ ⟨by omega,by omega⟩
   have hw3:wrap64 (kk+1+1+1)=kk+1+1+1:=by have:=HB.o;exact zA _ ⟨by omega,by omega⟩
   have hw4:wrap64 (kk+1+1+1+1)=kk+1+1+1+1:=by have:=HB.o;exact zA _ ⟨by omega,by omega⟩
   have hw5:wrap64 (kk+1+1+1+1+1)=kk+1+1+1+1+1:=by have:=HB.o;exact zA _ ⟨by omega,by omega⟩
   have hw6:wrap64 (kk+1+1+1+1+1+1)=kk+1+1+1+1+1+1:=by have:=HB.o;exact zA _ ⟨by omega,by omega⟩
   go_wp2_with fail
   refine(zN _ _ (by have:=HB.o;omega) (by have:=HB.o;omega)).mono ?_;rintro e wm0⟨s0,rfl,hb⟩;have HM0:Hid (Marked lo hi w wm0):=HM.o.trans (Marked.of_below hb);clear hb;obtain⟨hex,hfz⟩:=HF.o.ready HM0.o i hlt;obtain⟨v0,hv0⟩:=hex 0 (by omega);rw[Nat.add_zero]at hv0;have HP0:Hid (Marked lo hi w (wm0.setCell (aD bo (i*6)) (.s s0))):=HF.o.put HM0.o i 0 hlt (by omega) (.s s0) (fun _ _ _ h=>by cases h);clear hex;go_wp2_with fail
   clear hv0 hfz;refine(zN _ _ (by have:=HB.o;omega) (by have:=HB.o;omega)).mono ?_;rintro e wm1⟨s1,rfl,hb⟩;have HM1:Hid (Marked lo hi w wm1):=HP0.o.trans (Marked.of_below hb);clear hb;obtain⟨hex,hfz⟩:=HF.o.ready HM1.o i hlt;obtain⟨v1,hv1⟩:=hex 1 (by omega);have HP1:Hid (Marked lo hi w (wm1.setCell (aD bo (i*6+1)) (.s s1))):=HF.o.put HM1.o i 1 hlt (by omega) (.s s1) (fun _ _ _ h=>by cases h);clear hex;go_wp2_with fail
   clear hv1 hfz;refine(zN _ _ (by have:=HB.o;omega) (by have:=HB.o;omega)).mono ?_;rintro e wm2⟨s2,rfl,hb⟩;have HM2:Hid (Marked lo hi w wm2):=HP1.o.trans (Marked.of_below hb);clear hb;obtain⟨hex,hfz⟩:=HF.o.ready HM2.o i hlt;obtain⟨v2,hv2⟩:=hex 2 (by omega);have HP2:Hid (Marked lo hi w (wm2.setCell (aD bo (i*6+2)) (.s s2))):=HF.o.put HM2.o i 2 hlt (by omega) (.s s2) (fun _ _ _ h=>by cases h);clear hex;go_wp2_with fail
   clear hv2 hfz;refine(zN _ _ (by have:=HB.o;omega) (by have:=HB.o;omega)).mono ?_;rintro e wm3⟨s3,rfl,hb⟩;have HM3:Hid (Marked lo hi w wm3):=HP2.o.trans (Marked.of_below hb);clear hb;obtain⟨hex,hfz⟩:=HF.o.ready HM3.o i hlt;obtain⟨v3,hv3⟩:=hex 3 (by omega);have HP3:Hid (Marked lo hi w (wm3.setCell (aD bo (i*6+3)) (.s s3))):=HF.o.put HM3.o i 3 hlt (by omega) (.s s3) (fun _ _ _ h=>by cases h);clear hex;go_wp2_with fail
   clear hv3 hfz;refine(zN _ _ (by have:=HB.o;omega) (by have:=HB.o;omega)).mono ?_;rintro e wm4⟨s4,rfl,hb⟩;have HM4:Hid (Marked lo hi w wm4):=HP3.o.trans (Marked.of_below hb);clear hb;obtain⟨hex,hfz⟩:=HF.o.ready HM4.o i hlt;obtain⟨v4,hv4⟩:=hex 4 (by omega);have HP4:Hid (Marked lo hi w (wm4.setCell (aD bo (i*6+4)) (.s s4))):=HF.o.put HM4.o i 4 hlt (by omega) (.s s4) (fun _ _ _ h=>by cases h);clear hex;go_wp2_with fail
   clear hv4 hfz;refine(zN _ _ (by have:=HB.o;omega) (by have:=HB.o;omega)).mono ?_;rintro e wm5⟨s5,rfl,hb⟩;have HM5:Hid (Marked lo hi w wm5):=HP4.o.trans (Marked.of_below hb);clear hb;obtain⟨hex,hfz⟩:=HF.o.ready HM5.o i hlt;obtain⟨v5,hv5⟩:=hex 5 (by omega);have HP5:Hid (Marked lo hi w (wm5.setCell (aD bo (i*6+5)) (.s s5))):=HF.o.put HM5.o i 5 hlt (by omega) (.s s5) (fun _ _ _ h=>by cases h);clear hex;go_wp2_with fail
   go_roundw
   case rel=>exact⟨i+1,kk+1+1+1+1+1+1,by omega,by rw[hw6],by rw[wrap_one (by have:=HL.o;omega)],by have a:=HB.o;omega,by have a:=HB.o;omega,HP5.o⟩
   case measure=>exact yO hlt (by have:=HL.o;omega)
  ·have e:i=ms.length:=by omega
   subst e;go_wp2_with fail
   go_ret;exact⟨kk,rfl,h1,h2,hM⟩
theorem zkq (l:Lw)(la lb lc:OA)(lca lcb lcc:Nat)(b:Bk)(a0 a1 a2 a3:OA)(c0 c1 c2 c3:Nat)(w:World)(hb:jc w b a0 a1 a2 a3)(hl:jr w l la lb lc) :
 Calls Tryz.prog 127 #[.agg (l.cells la lb lc lca lcb lcc),.agg (b.cells a0 a1 a2 a3 c0 c1 c2 c3)] w fun e w'=>e=.returned (.bool (yN l.ts b))/\Bw w w':=by
 have HK:=hid hb;have HL:=hid hl;clear hb hl;unfold Lw.cells Bk.cells
 by_cases hln:b.ls.length<=10
 rotate_left
 ·have HF:Hid (yN l.ts b=false):=by unfold Hid yN;rw[decide_eq_false hln];rfl
  have hg:(10:Int)<(b.ls.length:Int):=by omega
  go_enter Tryz.func127,Tryz.ntmps127;go_wp2_with fail
  go_ret;exact⟨ze HF.o.symm,zw _ _ _⟩
 have hg:decide ((10:Int)<(b.ls.length:Int))=false:=by simp;omega
 have HLN:Hid (b.ls.length<=10):=hln;clear hln;go_enter Tryz.func127,Tryz.ntmps127;go_wp2_with fail
 obtain⟨hL0,hX0⟩:=qZ w #[.l la l.ss.length lca,.l lb l.ms.length lcb,.l lc l.ts.length lcc] (bC b a0 a1 a2 a3 c0 c1 c2 c3) 47 40;have HB0:Hid (Bw w ((w.alloc (.cells #[.l la l.ss.length lca,.l lb l.ms.length lcb,.l lc l.ts.length lcc] 47)).alloc (.cells (bC b a0 a1 a2 a3 c0 c1 c2 c3) 40))):=zw w _ _;obtain⟨W0,hW0⟩:=nm ((w.alloc (.cells #[.l la l.ss.length lca,.l lb l.ms.length lcb,.l lc l.ts.length lcc] 47)).alloc (.cells (bC b a0 a1 a2 a3 c0 c1 c2 c3) 40));have hz0:w.heap.size+1<W0.heap.size:=by rw[hW0];simp
 rw[<- hW0]at HB0 hX0 hL0 ⊢;clear hW0;refine(ziq _ _ b.ls _ (HK.o.ls.mono HB0.o)).mono ?_;rintro e w1⟨rfl,hb1⟩;have HB1:=hid (HB0.o.trans (hb1.mono HB0.o.size));have hX1:=za hX0 hz0 hb1;have hL1:=za hL0 (nSl hz0) hb1;have hz1:=nLt hz0 hb1.size;clear hb1 hX0 hL0 hz0 HB0
 by_cases has:zbL qz b.ls=true
 rotate_left
 ·have has':zbL qz b.ls=false:=by simpa using has
  have HF:Hid (yN l.ts b=false):=by unfold Hid yN;rw[has'];simp
  rw[has'];clear has has';go_wp2_with fail
  go_ret;exact⟨ze HF.o.symm,HB1.o⟩
 have HG:Hid (yN l.ts b=b.ls.all (yH l.ts)):=by unfold Hid yN;rw[has,decide_eq_true HLN.o];rfl
 rw[has];clear has;go_wp2_with fail
 go_loopw [20] (fun iv wr=>∃k:Nat,k<=b.ls.length/\iv=.i k/\Hid ((b.ls.take k).all (yH l.ts)=true/\Bw w1 wr)) (fun iv _=>b.ls.length-(intOf iv).toNat)
 case atStart=>exact⟨0,Nat.zero_le _,rfl,by simp,bRf _ _⟩
 case round=>
  obtain⟨k,hk,rfl,HQ⟩:=hrel;have hkn:k<=10:=by have:=HLN.o;omega
  by_cases hlt:k<b.ls.length
  ·obtain⟨ob,off,rfl,hob,d0,d1,d2,d3⟩:=HK.o.ls.load (HB1.o.trans (HQ.o.2.mono HB1.o.size)) k hlt
   have hob':=nLt hob (HB1.o.trans (HQ.o.2.mono HB1.o.size)).size;have hltI:(k:Int)<(b.ls.length:Int):=by omega
   have hX:=za hX1 hz1 HQ.o.2;have hz:w.heap.size+1<wr.heap.size:=nLt hz1 HQ.o.2.size;have HSn:Hid ((b.ls.take (k+1)).all (yH l.ts)=((b.ls.take k).all (yH l.ts)&&(yH l.ts) b.ls[k])):=qQ _ _ _ hlt;have HBo:Hid (∀ob,Bw w1 (wr.alloc ob)):=fun ob=>HQ.o.2.alloc HQ.o.2.size _
   have HBw:Hid (∀W,Bw w1 W->Bw w W):=fun W hW=>HB1.o.trans (hW.mono HB1.o.size)
   have HNo:Hid ((yH l.ts) b.ls[k]=false->yN l.ts b=false):=fun h=>by rw[HG.o];exact zau _ _ _ hlt h
   have HYes:Hid ((yH l.ts) b.ls[k]=true->(b.ls.take (k+1)).all (yH l.ts)=true):=fun h=>by rw[HSn.o,HQ.o.1,h];rfl
   have hL:=za hL1 (nSl hz1) HQ.o.2;have hzL:=nSl hz;have HSm:Hid b.ls[k].Small:=HK.o.ls.small k hlt;go_wp2_with fail
   have hbN:Bw wr (wr.alloc (.cells #[.s b.ls[k].tm,.s b.ls[k].rs,.i b.ls[k].mo,.i b.ls[k].fr] 130)):=bAl _ _;have hN:=zl wr #[.s b.ls[k].tm,.s b.ls[k].rs,.i b.ls[k].mo,.i b.ls[k].fr] 130;obtain⟨w2,hw2⟩:=nm (wr.alloc (.cells #[.s b.ls[k].tm,.s b.ls[k].rs,.i b.ls[k].mo,.i b.ls[k].fr] 130));have hn2:wr.heap.size<w2.heap.size:=by rw[hw2];simp
   rw[<- hw2]at hbN hN ⊢;have HB2:Hid (Bw w1 w2):=by unfold Hid;rw[hw2];exact HBo.o _
   clear hw2 d0 d1 d2 d3 hX hL hbN;refine(zcY _ _ l.ts b.ls[k].tm _ (HL.o.ts.mono (HBw.o _ HB2.o))).mono ?_;rintro e w3⟨rfl,hb3⟩;have HB3:=hid (HB2.o.trans (hb3.mono HB2.o.size));have hN3:=za hN hn2 hb3;have hn3:=nLt hn2 hb3.size;clear hb3 hN hn2 HB2;have HN1:∀v,zy b.ls[k].rs=v->Hid (∀W,Calls Tryz.prog 161 #[.s b.ls[k].rs] W fun e w'=>e=.returned (.bool v)/\w'=W):=fun v h W=>zf h (zH _ W HSm.o.rs)
   by_cases t1:yB l.ts b.ls[k].tm=true
   rotate_left
   ·have HF:Hid (yN l.ts b=false):=HNo.o (by unfold yH;rw[bFi t1];rfl)
    rw[bFi t1];clear HN1 t1;go_wp2_with fail
    go_ret;exact⟨ze HF.o.symm,HBw.o _ HB3.o⟩
   rw[t1]
   by_cases t2:zy b.ls[k].rs=true
   rotate_left
   ·have HF:Hid (yN l.ts b=false):=HNo.o (by unfold yH;rw[t1,bFi t2];rfl)
    have H2:=HN1 false (bFi t2);clear HN1 t1 t2;go_wp2_with fail
    refine(H2.o _).mono ?_;rintro e w4⟨rfl,rfl⟩;go_wp2_with fail
    go_ret;exact⟨ze HF.o.symm,HBw.o _ HB3.o⟩
   have H2:=HN1 true t2
   by_cases t3:jl b.ls[k].fr b.ls[k].mo 0 1000000=true
   ·have HY:Hid ((b.ls.take (k+1)).all (yH l.ts)=true):=HYes.o (by unfold yH;rw[t1,t2,t3];rfl)
    have H3:Hid (∀W,Calls Tryz.prog 176 #[.i b.ls[k].fr,.i b.ls[k].mo,.i 0,.i 1000000] W fun e w'=>e=.returned (.bool true)/\w'=W):=fun W=>zf t3 (zbm _ _ _ _ W)
    clear HN1 t1 t2 t3;go_wp2_with fail
    refine(H2.o _).mono ?_;rintro e w4⟨rfl,rfl⟩;go_wp2_with fail
    refine(H3.o _).mono ?_;rintro e w4⟨rfl,rfl⟩;go_wp2_with fail
    exact⟨⟨k+1,by omega,by go_num,HY.o,HB3.o⟩,zq hlt⟩
   ·have HF:Hid (yN l.ts b=false):=HNo.o (by unfold yH;rw[t1,t2,bFi t3];rfl)
    have H3:Hid (∀W,Calls Tryz.prog 176 #[.i b.ls[k].fr,.i b.ls[k].mo,.i 0,.i 1000000] W fun e w'=>e=.returned (.bool false)/\w'=W):=fun W=>zf (bFi t3) (zbm _ _ _ _ W)
    clear HN1 t1 t2 t3;go_wp2_with fail
    refine(H2.o _).mono ?_;rintro e w4⟨rfl,rfl⟩;go_wp2_with fail
    refine(H3.o _).mono ?_;rintro e w4⟨rfl,rfl⟩;go_wp2_with fail
    go_ret;exact⟨ze HF.o.symm,HBw.o _ HB3.o⟩
  ·have e:k=b.ls.length:=by omega
   subst e
   have HE:Hid (yN l.ts b=true):=by
    unfold Hid;rw[HG.o];have h:=HQ.o.1;rw[tOl (Nat.le_refl _)]at h;exact h
   have HBe:=hid (HB1.o.trans (HQ.o.2.mono HB1.o.size));clear hlt hk HQ;go_wp2_with fail
   go_ret;exact⟨ze HE.o.symm,HBe.o⟩
theorem jA (fs:List Fld)(v:BA):(zR fs v=-1/\fs.find? (fun f=>decide (f.nm=v))=none) \/ ∃i,∃h:i<fs.length,zR fs v=(i:Int)/\fs[i].nm=v/\fs.find? (fun f=>decide (f.nm=v))=some fs[i]:=by
 cases hf:fs.findIdx? (fun f=>decide (f.nm=v)) with
 | none=>
  left
  refine⟨by unfold zR;rw[hf],?_⟩;rw[List.findIdx?_eq_none_iff]at hf;rw[List.find?_eq_none];intro x hx
  have:=hf x hx
  simpa using this
 | some i=>
  right
  rw[List.findIdx?_eq_some_iff_getElem]at hf;obtain⟨hi,h1,h2⟩:=hf;refine⟨i,hi,?_,by simpa using h1,?_⟩
  ·unfold zR
   have:fs.findIdx? (fun f=>decide (f.nm=v))=some i:=by rw[List.findIdx?_eq_some_iff_getElem];exact⟨hi,h1,h2⟩
   rw[this]
  ·rw[List.find?_eq_some_iff_append]
   refine⟨h1,fs.take i,fs.drop (i+1),?_,?_⟩
   ·conv=>lhs;rw[<- List.take_append_drop i fs,List.drop_eq_getElem_cons hi]
   ·intro a ha
    obtain⟨k,hk,rfl⟩:=List.mem_iff_getElem.1 ha;have hk':k<i:=by simp at hk;omega
    have:=h2 k hk'
    simpa using this
def plain (fs:List Fld)(v:BA):Bool:=match fs.find? (fun f=>decide (f.nm=v)) with|some f=>decide (f.kd≠4)|none=>false
def zcx (fs:List Fld)(v:BA):Fld:=(fs.find? fun f=>decide (f.nm=v)).getD zbC
theorem zaG {fs:List Fld}{v:BA}(h:fs.find? (fun f=>decide (f.nm=v))=none):plain fs v=false:=by unfold plain;rw[h]
theorem zjz {fs:List Fld}{v:BA}{f:Fld}(h:fs.find? (fun f=>decide (f.nm=v))=some f):plain fs v=decide (f.kd≠4):=by unfold plain;rw[h]
theorem zq9 (k:Int):Ending.returned (.bool (k != 4))=Ending.returned (.bool (decide (k≠4))):=by
 by_cases h:k=4
 ·subst h;rfl
 ·have h1:(k != 4)=true:=by rw[bne_iff_ne];exact h
  rw[h1,decide_eq_true h]
theorem zcL (a:OA)(cap:Nat)(fs:List Fld)(v:BA)(w:World)(hw:yc w a fs) :
 Calls Tryz.prog 195 #[.l a fs.length cap,.s v] w fun e w'=>e=.returned (.bool (plain fs v))/\Bw w w':=by
 have hl:=hw.len;unfold maxLen at hl
 rcases jA fs v with⟨h1,h2⟩|⟨i,hi,h1,h2,h3⟩
 ·have HP:Hid (plain fs v=false):=zaG h2
  go_enter Tryz.func195,Tryz.ntmps195;go_wp2_with fail
  have h:=jk a cap fs v w hw;rw[h1]at h;refine h.mono ?_;rintro e w1⟨rfl,hb1⟩;clear h;go_wp2_with fail
  go_ret;exact⟨by rw[HP.o];rfl,hb1⟩
 ·have HP:Hid (plain fs v=decide (fs[i].kd≠4)):=zjz h3
  obtain⟨b,off,rfl,hb,hr⟩:=hw.rows (by rintro rfl;simp at hi);obtain⟨wa,wcap,hf0⟩:=hr i hi;go_enter Tryz.func195,Tryz.ntmps195;go_wp2_with fail
  have h:=jk (some (aD b off)) cap fs v w hw;rw[h1]at h;refine h.mono ?_;rintro e w1⟨rfl,hb1⟩;obtain⟨c0,c1,c2,c3,c4,c5,c6,c7,c8,c9,c10⟩:=(hf0.mono hb hb1).load;have hiI:(i:Int)<(fs.length:Int):=by omega
  have hge:decide ((i:Int)≥0)=true:=by simp
  have hb1w:b<w1.heap.size:=nLt hb hb1.size;clear h hw hr hf0 h3 h2 h1;go_wp2_with fail
  go_ret;exact⟨by rw[HP.o];exact zq9 fs[i].kd,hb1⟩
theorem zds {P:Program}{f:FuncId}{args:AV}{w:World}{v v':Value}{R:World->Prop}(hb:v=v')(h:Calls P f args w fun e w'=>e=.returned v/\R w'):Calls P f args w fun e w'=>e=.returned v'/\R w':=by
 subst hb;exact h
def stage (ss:List Shp)(o:Ob):Nat->Bool
 | 0=>true
 | 1=>qI o
 | 2=>qI o&&qR o
 | 3=>qI o&&qR o&&qy o
 | 4=>whole ss o
 | _=>whole ss o&&decide ((jI (shapeOf ss o.kd).fs o.vs).1=0)
def zgQ (ss:List Shp)(o:Ob):Value:=zlZ (yC ss o).1 (yC ss o).2
theorem zgG {ss:List Shp}{o:Ob}(h:whole ss o=false):zgQ ss o=.iface 281 (.agg #[.i 1,.i 0]):=by
 unfold zgQ yC;rw[h];rfl
theorem zjA {ss:List Shp}{o:Ob}(h:whole ss o=true):zgQ ss o=zlZ (jI (shapeOf ss o.kd).fs o.vs).1 (jI (shapeOf ss o.kd).fs o.vs).2:=by
 unfold zgQ yC;rw[if_pos h]
theorem ze4 {ss:List Shp}{o:Ob}(h:whole ss o=true):o.vs.length=(shapeOf ss o.kd).fs.length:=by
 unfold whole zB at h;simp only[Bool.and_eq_true,decide_eq_true_eq]at h;exact h.2.2
theorem zix (a0:OA)(cap0:Nat)(ss:List Shp)(o:Ob)(a a':OA)(cap cap':Nat)(w:World)(hw:yR w a0 ss)(ho:jT w o a a') :
 Calls Tryz.prog 207 #[.l a0 ss.length cap0,.agg #[.s o.kd,.s o.nm,.s o.tm,.l a o.vs.length cap,.bool o.en,.l a' o.hs.length cap',.i o.vr]] w
  fun e w'=>e=.returned (zgQ ss o)/\Bw w w':=by
 go_enter Tryz.func207,Tryz.ntmps207;go_wp2_with fail
 go_loopw [10] (fun i wr=>∃k:Nat,k<=5/\i=.i k/\stage ss o k=true/\Below (w.heap.size+1+1) ((w.alloc (.cells #[.s o.kd,.s o.nm,.s o.tm,.l a o.vs.length cap,.bool o.en,.l a' o.hs.length cap',.i o.vr] 123)).alloc (.cells #[.func (.func 221) #[] #[],.func (.func 222) #[] #[],.func (.func 223) #[] #[],.func (.func 224) #[] #[],.func (.func 225) #[] #[]] 273)) wr) (fun i _=>5-(intOf i).toNat)
 case atStart=>exact⟨0,Nat.zero_le _,rfl,rfl,bRf _ _⟩
 case round=>
  obtain⟨k,hk,rfl,hstg,hBr⟩:=hrel;have HStg:=hid hstg;clear hstg;have hszr:w.heap.size+1<wr.heap.size:=by have:=hBr.size;simp at this;omega
  have hB:Bw w wr:=(zw _ _ _).trans (hBr.mono (by omega));have hX:∀j,wr.cell? (aD w.heap.size j)=((oC o a a' cap cap'):AV)[j]?:=fun j=>(hBr.cell (p:=(aD w.heap.size j)) (by simp;omega)).trans (by rw[World.cell?_alloc_lt _ _ (aD w.heap.size j) (by simp)];exact zl w _ _ j)
  have hF:∀j,wr.cell? (aD (w.heap.size+1) j)=(#[.func (.func 221) #[] #[],.func (.func 222) #[] #[],.func (.func 223) #[] #[],.func (.func 224) #[] #[],.func (.func 225) #[] #[]]:AV)[j]?:=fun j=>(hBr.cell (p:=(aD (w.heap.size+1) j)) (by simp)).trans (by rw[World.cell?_alloc_at _ _ _ _ (by simp)])
  have hor:=ho.mono hB;have hwr:=hw.mono hB;have hcases:k=0 \/ k=1 \/ k=2 \/ k=3 \/ k=4 \/ k=5:=by omega
  rcases hcases with rfl|rfl|rfl|rfl|rfl|rfl
  ·by_cases hc:qI o=true
   ·have HV:Hid (jN (qI o)=.nilIface):=by unfold Hid;rw[hc];rfl
    have HS:Hid (stage ss o (0+1)=true):=by
     have h0:=HStg.o;simp only[stage]at h0 ⊢
     simp[hc,Hid]
    clear hc;go_wp2_with fail
    refine(zds HV.o (zeL _ _ _ _ _ _ _ _ _ hor)).mono ?_;rintro e w1⟨rfl,hb1⟩;go_wp2_with fail
    exact⟨⟨0+1,by omega,by rfl,HS.o,hBr.trans (hb1.mono (by omega))⟩,by simp[intOf]⟩
   ·have hc':(qI o)=false:=by simpa using hc
    have HV:Hid (jN (qI o)=.iface 281 (.agg #[.i 1,.i 0])):=by unfold Hid;rw[hc'];rfl
    have HW:Hid (zgQ ss o=.iface 281 (.agg #[.i 1,.i 0])):=zgG (by unfold whole;rw[hc'];simp);clear hc hc';go_wp2_with fail
    refine(zds HV.o (zeL _ _ _ _ _ _ _ _ _ hor)).mono ?_;rintro e w1⟨rfl,hb1⟩;go_wp2_with fail
    go_ret;exact⟨by rw[HW.o];rfl,hB.trans (hb1.mono (by omega))⟩
  ·by_cases hc:qR o=true
   ·have HV:Hid (jN (qR o)=.nilIface):=by unfold Hid;rw[hc];rfl
    have HS:Hid (stage ss o (1+1)=true):=by
     have h0:=HStg.o;simp only[stage]at h0 ⊢
     simp[h0,hc,Hid]
    clear hc;go_wp2_with fail
    refine(zds HV.o (zeW _ _ _ _ _ _ _ _ _ hor)).mono ?_;rintro e w1⟨rfl,hb1⟩;go_wp2_with fail
    exact⟨⟨1+1,by omega,by rfl,HS.o,hBr.trans (hb1.mono (by omega))⟩,by simp[intOf]⟩
   ·have hc':(qR o)=false:=by simpa using hc
    have HV:Hid (jN (qR o)=.iface 281 (.agg #[.i 1,.i 0])):=by unfold Hid;rw[hc'];rfl
    have HW:Hid (zgQ ss o=.iface 281 (.agg #[.i 1,.i 0])):=zgG (by unfold whole;rw[hc'];simp);clear hc hc';go_wp2_with fail
    refine(zds HV.o (zeW _ _ _ _ _ _ _ _ _ hor)).mono ?_;rintro e w1⟨rfl,hb1⟩;go_wp2_with fail
    go_ret;exact⟨by rw[HW.o];rfl,hB.trans (hb1.mono (by omega))⟩
  ·by_cases hc:qy o=true
   ·have HV:Hid (jN (qy o)=.nilIface):=by unfold Hid;rw[hc];rfl
    have HS:Hid (stage ss o (2+1)=true):=by
     have h0:=HStg.o;simp only[stage]at h0 ⊢
     simp[h0,hc,Hid]
    clear hc;go_wp2_with fail
    refine(zds HV.o (zdP _ _ _ _ _ _ _ _ _)).mono ?_;rintro e w1⟨rfl,hb1⟩;go_wp2_with fail
    exact⟨⟨2+1,by omega,by rfl,HS.o,hBr.trans (hb1.mono (by omega))⟩,by simp[intOf]⟩
   ·have hc':(qy o)=false:=by simpa using hc
    have HV:Hid (jN (qy o)=.iface 281 (.agg #[.i 1,.i 0])):=by unfold Hid;rw[hc'];rfl
    have HW:Hid (zgQ ss o=.iface 281 (.agg #[.i 1,.i 0])):=zgG (by unfold whole;rw[hc'];simp);clear hc hc';go_wp2_with fail
    refine(zds HV.o (zdP _ _ _ _ _ _ _ _ _)).mono ?_;rintro e w1⟨rfl,hb1⟩;go_wp2_with fail
    go_ret;exact⟨by rw[HW.o];rfl,hB.trans (hb1.mono (by omega))⟩
  ·by_cases hc:zB ss o=true
   ·have HV:Hid (jN (zB ss o)=.nilIface):=by unfold Hid;rw[hc];rfl
    have HS:Hid (stage ss o (3+1)=true):=by
     have h0:=HStg.o;simp only[stage,whole]at h0 ⊢
     simp[h0,hc,Hid]
    clear hc;go_wp2_with fail
    refine(zds HV.o (zeJ _ _ _ _ _ _ _ _ _ hwr hor)).mono ?_;rintro e w1⟨rfl,hb1⟩;go_wp2_with fail
    exact⟨⟨3+1,by omega,by rfl,HS.o,hBr.trans (hb1.mono (by omega))⟩,by simp[intOf]⟩
   ·have hc':(zB ss o)=false:=by simpa using hc
    have HV:Hid (jN (zB ss o)=.iface 281 (.agg #[.i 1,.i 0])):=by unfold Hid;rw[hc'];rfl
    have HW:Hid (zgQ ss o=.iface 281 (.agg #[.i 1,.i 0])):=zgG (by unfold whole;rw[hc'];simp);clear hc hc';go_wp2_with fail
    refine(zds HV.o (zeJ _ _ _ _ _ _ _ _ _ hwr hor)).mono ?_;rintro e w1⟨rfl,hb1⟩;go_wp2_with fail
    go_ret;exact⟨by rw[HW.o];rfl,hB.trans (hb1.mono (by omega))⟩
  ·have hwh:whole ss o=true:=HStg.o
   have HW:Hid (zgQ ss o=zlZ (jI (shapeOf ss o.kd).fs o.vs).1 (jI (shapeOf ss o.kd).fs o.vs).2):=zjA hwh
   by_cases hc:(jI (shapeOf ss o.kd).fs o.vs).1=0
   ·have HV:Hid (zlZ (jI (shapeOf ss o.kd).fs o.vs).1 (jI (shapeOf ss o.kd).fs o.vs).2=.nilIface):=by unfold Hid;rw[hc];rfl
    have HS:Hid (stage ss o (4+1)=true):=by
     simp[stage,hwh,hc,Hid]
    have HCt:Hid (o.vs.length=(shapeOf ss o.kd).fs.length):=ze4 hwh;clear hc hwh;go_wp2_with fail
    refine(zds HV.o (zeC _ _ _ _ _ _ _ _ _ hwr hor HCt.o)).mono ?_;rintro e w1⟨rfl,hb1⟩;go_wp2_with fail
    exact⟨⟨4+1,by omega,by rfl,HS.o,hBr.trans (hb1.mono (by omega))⟩,by simp[intOf]⟩
   ·have HV:Hid (zlZ (jI (shapeOf ss o.kd).fs o.vs).1 (jI (shapeOf ss o.kd).fs o.vs).2=.iface 281 (.agg #[.i (jI (shapeOf ss o.kd).fs o.vs).1,.i (jI (shapeOf ss o.kd).fs o.vs).2])):=zlU hc
    have HCt:=hid (ze4 hwh);clear hc hwh;go_wp2_with fail
    refine(zds HV.o (zeC _ _ _ _ _ _ _ _ _ hwr hor HCt.o)).mono ?_;rintro e w1⟨rfl,hb1⟩;go_wp2_with fail
    go_ret;exact⟨by rw[HW.o,HV.o];rfl,hB.trans (hb1.mono (by omega))⟩
  ·have HW:Hid (zgQ ss o=.nilIface):=by
    have h0:=HStg.o;simp only[stage,Bool.and_eq_true,decide_eq_true_eq]at h0;unfold Hid;rw[zjA h0.1,h0.2];rfl
   go_wp2_with fail
   go_ret;exact⟨by rw[HW.o];rfl,hB⟩
def zbx (k n:Nat):List Int:=(List.range n).map fun i=>((k+i:Nat):Int)
theorem zcm (k n:Nat):(zbx k n).length=n:=by simp[zbx]
theorem zh4 (k n i:Nat)(h:i<(zbx k n).length):(zbx k n)[i]=((k+i:Nat):Int):=by simp[zbx]
theorem zkH (k:Int)(a:OA)(cap:Nat)(w:World) :
 Calls Tryz.prog 99 #[.l a 0 cap,.i k] w fun e w'=>e=.returned (.i k)/\w'=w:=by
 go_enter Tryz.func99,Tryz.ntmps99;go_wp2_with fail
 go_loopw [1,5] (fun kv iv wr=>kv=.i k/\iv=.i 0/\wr=w) (fun _ _ _=>0)
 case atStart=>exact⟨rfl,rfl,rfl⟩
 case round=>
  obtain⟨rfl,rfl,rfl⟩:=hrel;go_wp2_with fail
  go_ret;exact⟨rfl,rfl⟩
structure Grown (n:Nat)(w:World):Prop where
 size:n<=w.heap.size
theorem Grown.mono {n:Nat}{w w':World}(h:Grown n w)(hb:Bw w w'):Grown n w':=⟨Nat.le_trans h.size hb.size⟩
structure Since (w0 w:World):Prop where
 below:Bw w0 w
theorem Since.mono {w0 w w':World}(h:Since w0 w)(hb:Bw w w'):Since w0 w':=⟨h.below.trans (hb.mono h.below.size)⟩
theorem Since.low {w0 w w':World}{B:Nat}(h:Since w0 w)(hb:Below B w w')(hB:w0.heap.size<=B):Since w0 w':=⟨h.below.trans (hb.mono hB)⟩
theorem zl4 (a:OA)(cap:Nat)(n k:Nat)(w:World)(hw:y9 w a (zbx k n))(hk:0<k)(hn:n<=1048576)(hk2:k<8000000000000000000) :
 Calls Tryz.prog 101 #[.l a n cap,.i k] w fun e w'=>e=.returned (.i ((k+n:Nat):Int))/\w'=w:=by
 have HW:Hid (y9 w a (zbx k n)):=hw;clear hw;go_enter Tryz.func101,Tryz.ntmps101;go_wp2_with fail
 go_loopw [1,5] (fun kv iv wr=>∃i:Nat,i<=n/\kv=.i ((k+i:Nat):Int)/\iv=.i i/\wr=w) (fun _ iv _=>n-(intOf iv).toNat)
 case atStart=>exact⟨0,Nat.zero_le _,rfl,rfl,rfl⟩
 case round=>
  obtain⟨i,hi,rfl,rfl,rfl⟩:=hrel
  by_cases hlt:i<n
  ·have hlt':i<(zbx k n).length:=by rw[zcm];exact hlt
   obtain⟨b,off,rfl,hb,hc⟩:=HW.o.cells (by intro e;rw[e]at hlt';simp at hlt');have hltI:(i:Int)<(n:Int):=by omega
   have hci:=hc i hlt';rw[zh4]at hci;have hw1:wrap64 ((k+i:Nat)+1:Int)=((k+(i+1):Nat):Int):=by rw[zA _ ⟨by omega,by omega⟩];omega
   obtain⟨kk,hkk⟩:∃kk:Int,kk=((k+i:Nat):Int):=⟨_,rfl⟩
   rw[<- hkk]at hci hw1 ⊢;have hnn:(kk != kk)=false:=by simp
   clear hkk hc;go_wp2_with fail
   go_roundw
   case rel=>exact⟨i+1,by omega,by first|rw[hw1]|rfl,by go_num,trivial⟩
   case measure=>exact zq hlt
  ·have e:i=n:=by omega
   subst e;go_wp2_with fail
   go_ret;exact⟨rfl,rfl⟩
theorem zfj {α:Type}{key:α->α->Int}{ms:List α}{k:Nat}(h:zaW key ms k)(hk:k<ms.length)(hn:∀m (e:k=m+1),key (ms[m]'(by omega)) ms[k]<0):zaW key ms (k+1):=by
 intro i hi hik
 rcases Nat.lt_or_ge (i+1) k with hlt|hge
 ·exact h i hi hlt
 ·have e:k=i+1:=by omega
  subst e;exact hn i rfl
theorem zgL {α:Type}{key:α->α->Int}{ms:List α}{k:Nat}(hk:k<ms.length)(h:∀h0:0<k,key (ms[k-1]'(by omega)) ms[k]<0):∀m (e:k=m+1),key (ms[m]'(by omega)) ms[k]<0:=by
 intro m e;subst e;exact h (by omega)
theorem zf3 {α:Type}{key:α->α->Int}{ms:List α}{k:Nat}(h:zaW key ms k)(hk:ms.length<=k):zbL key ms=true:=by
 rw[zjl];exact fun i hi=>h i hi (by omega)
theorem zec {α:Type}{key:α->α->Int}{ms:List α}{k:Nat}(hk:k<ms.length)(h0:0<k)(hn:¬key (ms[k-1]'(by omega)) ms[k]<0):zbL key ms=false:=by
 obtain⟨m,rfl⟩:∃m,k=m+1:=⟨k-1,by omega⟩
 exact zgq hk hn
theorem zjU (a b:Gr):zct a b<0↔a.no<b.no:=by
 unfold zct zd5;split
 ·simp_all
 ·split <;> simp_all
end Go.Proofs.YtecncindgjdbiaaGreat
