import Derived.Test.YtcgpjfcocmcodaaGreatM25
set_option maxHeartbeats 4000000
namespace Go.Proofs.YtcgpjfcocmcodaaGreat
open Go.RowKit
def zcb (k n:Nat):List BA:=(List.range n).map fun i=>zaG (k+i)
theorem zeI (k n:Nat):(zcb k n).length=n:=by simp[zcb]
theorem zif (k n i:Nat)(h:i<(zcb k n).length):(zcb k n)[i]=zaG (k+i):=by simp[zcb]
theorem zn.form {lo:Nat}{w:World}{g:Addr}{ws:List BA}(h:zn lo w (some g) ws):∃b C,g=(aD b 0)/\lo<=b/\w.heap[b]?=some (.cells C 9)/\ws.length<=C.size/\∀j,j<ws.length->zaX C j:=by
 rcases h with⟨h0,_⟩|⟨b,C,h0,hg,hh,hc⟩
 ·cases h0
 ·cases h0
  refine⟨b,C,rfl,hg,hh,?_,fun j hj a n c he=>by rw[hc j hj]at he;cases he⟩
  rcases Nat.lt_or_ge C.size ws.length with hlt|hge
  ·have:=hc C.size hlt
   rw[Array.getElem?_eq_none (Nat.le_refl _)]at this;cases this
  ·exact hge
theorem zi4 (lo cap:Nat)(a:OA)(vs:List BA)(k:Nat)(w:World)(h:zn lo w a vs)(hk:0<k)(hkn:k+vs.length<9000000000000000000) :
 Calls Tryz.prog 109 #[.l a vs.length cap,.i k] w fun e w'=>e=.returned (.i ((k+vs.length:Nat):Int))/\zn lo w' a (zcb k vs.length)/\Marked lo w.heap.size w w'/\(a=none->w'=w)/\∀g,a=some g->Marked g.block (g.block+1) w w':=by
 rcases a with _|g
 ·rcases h with⟨_,rfl⟩|⟨_,_,h0,_⟩
  ·exact(zhT (k:Int) none cap w).mono fun e w' ⟨h1,h2⟩=>⟨by simpa using h1,by subst h2;exact Or.inl ⟨rfl,rfl⟩,by subst h2;exact Marked.refl _ _ _,fun _=>h2,fun g hg=>by cases hg⟩
  ·cases h0
 ·obtain⟨b,C,rfl,hlo,hC,hs,hns⟩:=h.form
  refine(zeO b vs.length cap C k w hC hs hns hk hkn).mono fun e w' ⟨h1,h2,C',hC',hs',hc'⟩=>⟨h1,Or.inr ⟨b,C',rfl,hlo,hC',fun i hi=>?_⟩,h2.wide hlo (gES hC).1,fun h0=>(by cases h0),fun g hg=>by cases hg;exact h2⟩
  rw[zeI]at hi;rw[hc' i hi,zif]
structure jY (lo hi:Nat)(w:World)(bo:Nat)(ms:List Mnd):Prop where
 low:lo<=bo
 high:bo<hi
 rows:∃C,w.heap[bo]?=some (.cells C 136)/\C.size=ms.length*6/\∀j,j<ms.length*6->zaX C j
theorem jY.mono {lo hi:Nat}{w w':World}{b:Nat}{ms:List Mnd}(h:jY lo hi w b ms)(hM:Marked lo hi w w'):jY lo hi w' b ms:=by
 obtain⟨C,hC,hs,hn⟩:=h.rows;obtain⟨C',hC',hs',hk⟩:=hM.inn b C _ h.low h.high hC;exact⟨h.low,h.high,C',hC',by omega,fun j hj a m c he=>hn j hj a m c ((hk j a m c).1 he)⟩
theorem jd.form {lo:Nat}{w:World}{bo:Nat}{ms:List Mnd}(h:jd lo w bo ms ms.length):jY lo w.heap.size w bo ms:=by
 obtain⟨C,hC,hsz,hr⟩:=h.rows;refine⟨h.low,(gES hC).1,C,hC,hsz,fun j hj a n c he=>?_⟩;have hi:j / 6<ms.length:=by omega
 have e:j=j / 6*6+j % 6:=by omega
 rw[e,hr (j / 6) hi hi (j % 6) (by omega)]at he;have h6:j % 6<6:=by omega
 revert he
 generalize j % 6=q at h6
 intro he
 rcases q with _|_|_|_|_|_|q <;> first|omega|(simp[Mnd.cells]at he)
theorem jY.ready {lo hi bo:Nat}{w W:World}{ms:List Mnd}(h:jY lo hi w bo ms)(hM:Marked lo hi w W)(i:Nat)(hi':i<ms.length) :
 (∀j,j<6->∃v,W.cell? (aD bo (i*6+j))=some v)/\(∀o,W.frozen? (aD bo o)=false):=by
 have h':=h.mono hM;obtain⟨C,hC,hs,hn⟩:=h'.rows;exact⟨fun j hj=>⟨C[i*6+j]'(by omega),by rw[cell_of_block hC];exact Array.getElem?_eq_getElem (by omega)⟩,fun o=>zh hC⟩
theorem jY.put {lo hi bo:Nat}{w W:World}{ms:List Mnd}(h:jY lo hi w bo ms)(hM:Marked lo hi w W)(i j:Nat)(hi':i<ms.length)(hj:j<6)(v:Value)(hv:∀a n c,v≠Value.slice a n c):Marked lo hi w (W.setCell (aD bo (i*6+j)) v):=by
 obtain⟨C,hC,hs,hn⟩:=h.rows;exact hM.put h.low h.high hC (hn (i*6+j) (by omega)) v hv
set_option maxRecDepth 20000 in
theorem zg4 (lo hi bo cap:Nat)(ms:List Mnd)(k:Int)(w:World)(h:jY lo hi w bo ms)(hl:ms.length<=1048576)(hk:0<k)(hk2:k<6000000000000000000) :
 Calls Tryz.prog 52 #[.l (some (aD bo 0)) ms.length cap,.i k] w fun e w'=>∃k',e=.returned (.i k')/\k<=k'/\k'<=k+ms.length*6/\Marked lo hi w w':=by
 have HF:Hid (jY lo hi w bo ms):=h;have HL:Hid (ms.length<=1048576):=hl;have HK:Hid (0<k/\k<6000000000000000000):=⟨hk,hk2⟩
 clear h hl hk hk2;go_enter Tryz.func52,Tryz.ntmps52;go_wp2_with fail
 go_loopw [1,5] (fun kv iv wr=>∃(i:Nat) (kk:Int),i<=ms.length/\kv=.i kk/\iv=.i i/\k<=kk/\kk<=k+i*6/\Marked lo hi w wr) (fun _ iv _=>ms.length-(intOf iv).toNat)
 case atStart=>exact⟨0,k,Nat.zero_le _,rfl,rfl,Int.le_refl _,by simp,Marked.refl _ _ _⟩
 case round=>
  obtain⟨i,kk,hile,rfl,rfl,h1,h2,hM⟩:=hrel
  by_cases hlt:i<ms.length
  ·have hltI:(i:Int)<(ms.length:Int):=by omega
   have HB:Hid (0<kk/\kk<7000000000000000000/\kk<=k+i*6/\k<=kk):=by have a:=HK.o;have b:=HL.o;exact⟨by omega,by omega,h2,h1⟩
   have HM:Hid (Marked lo hi w wr):=hM;clear h1 h2 hM;have hw1:wrap64 (kk+1)=kk+1:=by have:=HB.o;exact zA _ ⟨by omega,by omega⟩
   have hw2:wrap64 (kk+1+1)=kk+1+1:=by have:=HB.o;exact zA _ ⟨by omega,by omega⟩
   have hw3:wrap64 (kk+1+1+1)=kk+1+1+1:=by have:=HB.o;exact zA _ ⟨by omega,by omega⟩
   have hw4:wrap64 (kk+1+1+1+1)=kk+1+1+1+1:=by have:=HB.o;exact zA _ ⟨by omega,by omega⟩
   have hw5:wrap64 (kk+1+1+1+1+1)=kk+1+1+1+1+1:=by have:=HB.o;exact zA _ ⟨by omega,by omega⟩
   have hw6:wrap64 (kk+1+1+1+1+1+1)=kk+1+1+1+1+1+1:=by have:=HB.o;exact zA _ ⟨by omega,by omega⟩
   go_wp2_with fail
   refine(zN _ _ (by have:=HB.o;omega) (by have:=HB.o;omega)).mono ?_;rintro e wm0⟨s0,rfl,hb⟩;have HM0:Hid (Marked lo hi w wm0):=HM.o.trans (Marked.of_below hb);clear hb;obtain⟨hex,hfz⟩:=HF.o.ready HM0.o i hlt;obtain⟨v0,hv0⟩:=hex 0 (by omega);rw[Nat.add_zero]at hv0;have HP0:Hid (Marked lo hi w (wm0.setCell (aD bo (i*6)) (.s s0))):=HF.o.put HM0.o i 0 hlt (by omega) (.s s0) (fun _ _ _ h=>by cases h);clear hex;go_wp2_with fail
   clear hv0 hfz;refine(zN _ _ (by have:=HB.o;omega) (by have:=HB.o;omega)).mono ?_;rintro e wm1⟨s1,rfl,hb⟩;have HM1:Hid (Marked lo hi w wm1):=HP0.o.trans (Marked.of_below hb);clear hb;obtain⟨hex,hfz⟩:=HF.o.ready HM1.o i hlt;obtain⟨v1,hv1⟩:=hex 1 (by omega);have HP1:Hid (Marked lo hi w (wm1.setCell (aD bo (i*6+1)) (.s s1))):=HF.o.put HM1.o i 1 hlt (by omega) (.s s1) (fun _ _ _ h=>by cases h);clear hex;go_wp2_with fail
   clear hv1 hfz;refine(zN _ _ (by have:=HB.o;omega) (by have:=HB.o;omega)).mono ?_;rintro e wm2⟨s2,rfl,hb⟩;have HM2:Hid (Marked lo hi w wm2):=HP1.o.trans (Marked.of_below hb);clear hb;obtain⟨hex,hfz⟩:=HF.o.ready HM2.o i hlt;obtain⟨v2,hv2⟩:=hex 2 (by omega);have HP2:Hid (Marked lo hi w (wm2.setCell (aD bo (i*6+2)) (.s s2))):=HF.o.put HM2.o i 2 hlt (by omega) (.s s2) (fun _ _ _ h=>by cases h);clear hex;go_wp2_with fail
   clear hv2 hfz;refine(zN _ _ (by have:=HB.o;omega) (by have:=HB.o;omega)).mono ?_;rintro e wm3⟨s3,rfl,hb⟩;have HM3:Hid (Marked lo hi w wm3):=HP2.o.trans (Marked.of_below hb);clear hb;obtain⟨hex,hfz⟩:=HF.o.ready HM3.o i hlt;obtain⟨v3,hv3⟩:=hex 3 (by omega);have HP3:Hid (Marked lo hi w (wm3.setCell (aD bo (i*6+3)) (.s s3))):=HF.o.put HM3.o i 3 hlt (by omega) (.s s3) (fun _ _ _ h=>by cases h);clear hex;go_wp2_with fail
   clear hv3 hfz;refine(zN _ _ (by have:=HB.o;omega) (by have:=HB.o;omega)).mono ?_;rintro e wm4⟨s4,rfl,hb⟩;have HM4:Hid (Marked lo hi w wm4):=HP3.o.trans (Marked.of_below hb);clear hb;obtain⟨hex,hfz⟩:=HF.o.ready HM4.o i hlt;obtain⟨v4,hv4⟩:=hex 4 (by omega);have HP4:Hid (Marked lo hi w (wm4.setCell (aD bo (i*6+4)) (.s s4))):=HF.o.put HM4.o i 4 hlt (by omega) (.s s4) (fun _ _ _ h=>by cases h);clear hex;go_wp2_with fail
   clear hv4 hfz;refine(zN _ _ (by have:=HB.o;omega) (by have:=HB.o;omega)).mono ?_;rintro e wm5⟨s5,rfl,hb⟩;have HM5:Hid (Marked lo hi w wm5):=HP4.o.trans (Marked.of_below hb);clear hb;obtain⟨hex,hfz⟩:=HF.o.ready HM5.o i hlt;obtain⟨v5,hv5⟩:=hex 5 (by omega);have HP5:Hid (Marked lo hi w (wm5.setCell (aD bo (i*6+5)) (.s s5))):=HF.o.put HM5.o i 5 hlt (by omega) (.s s5) (fun _ _ _ h=>by cases h);clear hex;go_wp2_with fail
   go_roundw
   case rel=>exact⟨i+1,kk+1+1+1+1+1+1,by omega,by rw[hw6],by rw[wrap_one (by have:=HL.o;omega)],by have a:=HB.o;omega,by have a:=HB.o;omega,HP5.o⟩
   case measure=>exact yR hlt (by have:=HL.o;omega)
  ·have e:i=ms.length:=by omega
   subst e;go_wp2_with fail
   go_ret;exact⟨kk,rfl,h1,h2,hM⟩
def zjg (ss:List Shp)(o:Ob):List BA:=if zJ ss o.kd=true/\zZ ss=true/\o.vs.length=(shapeOf ss o.kd).fs.length then zaj (shapeOf ss o.kd).fs o.vs else o.vs
def zg0 (o:Ob)(vs:List BA)(w:World)(e:Ending)(w':World):Prop:=
 ∃a dap a' dap' m,e=.returned (.agg #[.s o.kd,.s o.nm,.s o.tm,.l a o.vs.length dap,.bool o.en,.l a' o.hs.length dap',.i o.vr])/\zn w.heap.size w' a vs/\(∀g,a=some g->g.block<m)/\w.heap.size<=m/\zn m w' a' o.hs/\Bw w w'
end Go.Proofs.YtcgpjfcocmcodaaGreat
