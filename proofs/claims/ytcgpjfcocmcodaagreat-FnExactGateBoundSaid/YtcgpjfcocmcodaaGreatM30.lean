import Derived.Test.YtcgpjfcocmcodaaGreatM27
import Derived.Test.YtcgpjfcocmcodaaGreatM28
set_option maxHeartbeats 8000000
namespace Go.Proofs.YtcgpjfcocmcodaaGreat
open Go.RowKit
structure zaC (lo hi:Nat)(w:World)(bo:Nat)(ms:List Lg):Prop where
 low:lo<=bo
 high:bo<hi
 rows:∃C,w.heap[bo]?=some (.cells C 69)/\C.size=ms.length*4/\∀i,i<ms.length->(∀j,j<4->zaX C (i*4+j))
theorem zaC.mono {lo hi:Nat}{w w':World}{b:Nat}{ms:List Lg}(h:zaC lo hi w b ms)(hM:Marked lo hi w w'):zaC lo hi w' b ms:=by
 obtain⟨C,hC,hs,hn⟩:=h.rows;obtain⟨C',hC',hs',hk⟩:=hM.inn b C _ h.low h.high hC;refine⟨h.low,h.high,C',hC',by omega,fun i hi=>?_⟩;have h0:=hn i hi;exact fun j hj a m c he=>h0 j hj a m c ((hk _ a m c).1 he)
theorem zac.form {lo:Nat}{w:World}{bo:Nat}{ms:List Lg}(h:zac lo w bo ms ms.length):zaC lo w.heap.size w bo ms:=by
 obtain⟨C,hC,hsz,hr⟩:=h.rows;refine⟨h.low,(gES hC).1,C,hC,hsz,fun i hi j hj a n c he=>?_⟩;rw[hr i hi hi j hj]at he
 rcases j with _|_|_|_|j <;> first|omega|(simp[Lg.cells]at he)
theorem zaC.ready {lo hi bo:Nat}{w W:World}{ms:List Lg}(h:zaC lo hi w bo ms)(hM:Marked lo hi w W)(i:Nat)(hi':i<ms.length) :
 (∀j,j<4->∃v,W.cell? (aD bo (i*4+j))=some v)/\(∀o,W.frozen? (aD bo o)=false):=by
 have h':=h.mono hM;obtain⟨C,hC,hs,hn⟩:=h'.rows;exact⟨fun j hj=>⟨C[i*4+j]'(by omega),by rw[cell_of_block hC];exact Array.getElem?_eq_getElem (by omega)⟩,fun o=>zh hC⟩
theorem zaC.put {lo hi bo:Nat}{w W:World}{ms:List Lg}(h:zaC lo hi w bo ms)(hM:Marked lo hi w W)(i j:Nat)(hi':i<ms.length)(hj:j<4)(v:Value)(hv:∀a n c,v≠Value.slice a n c):Marked lo hi w (W.setCell (aD bo (i*4+j)) v):=by
 obtain⟨C,hC,hs,hn⟩:=h.rows;exact hM.put h.low h.high hC (hn i hi' j hj) v hv
set_option maxRecDepth 20000 in
theorem zfF (lo hi bo cap:Nat)(ms:List Lg)(k:Int)(w:World)(h:zaC lo hi w bo ms)(hl:ms.length<=1048576)(hk:0<k)(hk2:k<5000000000000000000) :
 Calls Tryz.prog 56 #[.l (some (aD bo 0)) ms.length cap,.i k] w fun e w'=>∃k',e=.returned (.i k')/\k<=k'/\k'<=k+ms.length*4/\Marked lo hi w w':=by
 have HF:Hid (zaC lo hi w bo ms):=h;have HL:Hid (ms.length<=1048576):=hl;have HK:Hid (0<k/\k<5000000000000000000):=⟨hk,hk2⟩
 clear h hl hk hk2;go_enter Tryz.func56,Tryz.ntmps56;go_wp2_with fail
 go_loopw [1,5] (fun kv iv wr=>∃(i:Nat) (kk:Int),i<=ms.length/\kv=.i kk/\iv=.i i/\k<=kk/\kk<=k+i*4/\Marked lo hi w wr) (fun _ iv _=>ms.length-(intOf iv).toNat)
 case atStart=>exact⟨0,k,Nat.zero_le _,rfl,rfl,Int.le_refl _,by simp,Marked.refl _ _ _⟩
 case round=>
  obtain⟨i,kk,hile,rfl,rfl,h1,h2,hM⟩:=hrel
  by_cases hlt:i<ms.length
  ·have hltI:(i:Int)<(ms.length:Int):=by omega
   have HB:Hid (0<kk/\kk<7000000000000000000/\kk<=k+i*4/\k<=kk):=by have a:=HK.o;have b:=HL.o;exact⟨by omega,by omega,h2,h1⟩
   have HM:=hid hM;clear h1 h2 hM;go_wp2_with fail
   refine(zN _ _ (by have a0:=HB.o;omega) (by have a0:=HB.o;omega)).mono ?_;rintro e wm1⟨s1,rfl,hb⟩;have HM1:Hid (Marked lo hi w wm1):=(HM.o).trans (Marked.of_below hb);clear hb;obtain⟨hex,hfz1⟩:=HF.o.ready (HM1.o) i hlt;obtain⟨v1,hv1⟩:=hex 0 (by omega);rw[Nat.add_zero]at hv1;clear hex;have HP1_0:Hid (Marked lo hi w (wm1.setCell (aD bo (i*4)) (.s s1))):=HF.o.put (HM1.o) i 0 hlt (by omega)  (.s s1) (fun _ _ _ h=>by cases h);have hw1:wrap64 (kk+1)=kk+1:=zA _ ⟨by have a0:=HB.o;omega,by have a0:=HB.o;omega⟩;go_wp2_with fail
   clear hfz1 hv1;refine(zN _ _ (by have a0:=HB.o;omega) (by have a0:=HB.o;omega)).mono ?_;rintro e wm2⟨s2,rfl,hb⟩;have HM2:Hid (Marked lo hi w wm2):=(HP1_0.o).trans (Marked.of_below hb);clear hb;obtain⟨hex,hfz2⟩:=HF.o.ready (HM2.o) i hlt;obtain⟨v2,hv2⟩:=hex 1 (by omega);clear hex;have HP2_1:Hid (Marked lo hi w (wm2.setCell (aD bo (i*4+1)) (.s s2))):=HF.o.put (HM2.o) i 1 hlt (by omega)  (.s s2) (fun _ _ _ h=>by cases h);have hw2:wrap64 (kk+1+1)=kk+1+1:=zA _ ⟨by have a0:=HB.o;omega,by have a0:=HB.o;omega⟩;obtain⟨hex,hfz3⟩:=HF.o.ready (HP2_1.o) i hlt;obtain⟨v3,hv3⟩:=hex 2 (by omega);clear hex;have HP2_2:Hid (Marked lo hi w ((wm2.setCell (aD bo (i*4+1)) (.s s2)).setCell (aD bo (i*4+2)) (.i (kk+1+1)))):=HF.o.put (HP2_1.o) i 2 hlt (by omega)  (.i (kk+1+1)) (fun _ _ _ h=>by cases h);have hw3:wrap64 (kk+1+1+1)=kk+1+1+1:=zA _ ⟨by have a0:=HB.o;omega,by have a0:=HB.o;omega⟩;obtain⟨hex,hfz4⟩:=HF.o.ready (HP2_2.o) i hlt;obtain⟨v4,hv4⟩:=hex 3 (by omega);clear hex;have HP2_3:Hid (Marked lo hi w (((wm2.setCell (aD bo (i*4+1)) (.s s2)).setCell (aD bo (i*4+2)) (.i (kk+1+1))).setCell (aD bo (i*4+3)) (.i (kk+1+1+1)))):=HF.o.put (HP2_2.o) i 3 hlt (by omega)  (.i (kk+1+1+1)) (fun _ _ _ h=>by cases h);have hw4:wrap64 (kk+1+1+1+1)=kk+1+1+1+1:=zA _ ⟨by have a0:=HB.o;omega,by have a0:=HB.o;omega⟩;go_wp2_with fail
   go_roundw
   case rel=>exact⟨i+1,kk+1+1+1+1,by omega,by first|rfl|rw[hw4],by rw[wrap_one (by have:=HL.o;omega)],by have a0:=HB.o;omega,by have a0:=HB.o;omega,HP2_3.o⟩
   case measure=>exact yR hlt (by have:=HL.o;omega)
  ·have e:i=ms.length:=by omega
   subst e;go_wp2_with fail
   go_ret;exact⟨kk,rfl,h1,h2,hM⟩
structure zaA (lo hi:Nat)(w:World)(bo:Nat)(ms:List Pu):Prop where
 low:lo<=bo
 high:bo<hi
 rows:∃C,w.heap[bo]?=some (.cells C 142)/\C.size=ms.length*5/\∀i,i<ms.length->(∀j,j<5->zaX C (i*5+j))
theorem zaA.mono {lo hi:Nat}{w w':World}{b:Nat}{ms:List Pu}(h:zaA lo hi w b ms)(hM:Marked lo hi w w'):zaA lo hi w' b ms:=by
 obtain⟨C,hC,hs,hn⟩:=h.rows;obtain⟨C',hC',hs',hk⟩:=hM.inn b C _ h.low h.high hC;refine⟨h.low,h.high,C',hC',by omega,fun i hi=>?_⟩;have h0:=hn i hi;exact fun j hj a m c he=>h0 j hj a m c ((hk _ a m c).1 he)
theorem zaa.form {lo:Nat}{w:World}{bo:Nat}{ms:List Pu}(h:zaa lo w bo ms ms.length):zaA lo w.heap.size w bo ms:=by
 obtain⟨C,hC,hsz,hr⟩:=h.rows;refine⟨h.low,(gES hC).1,C,hC,hsz,fun i hi j hj a n c he=>?_⟩;rw[hr i hi hi j hj]at he
 rcases j with _|_|_|_|_|j <;> first|omega|(simp[Pu.cells]at he)
theorem zaA.ready {lo hi bo:Nat}{w W:World}{ms:List Pu}(h:zaA lo hi w bo ms)(hM:Marked lo hi w W)(i:Nat)(hi':i<ms.length) :
 (∀j,j<5->∃v,W.cell? (aD bo (i*5+j))=some v)/\(∀o,W.frozen? (aD bo o)=false):=by
 have h':=h.mono hM;obtain⟨C,hC,hs,hn⟩:=h'.rows;exact⟨fun j hj=>⟨C[i*5+j]'(by omega),by rw[cell_of_block hC];exact Array.getElem?_eq_getElem (by omega)⟩,fun o=>zh hC⟩
theorem zaA.put {lo hi bo:Nat}{w W:World}{ms:List Pu}(h:zaA lo hi w bo ms)(hM:Marked lo hi w W)(i j:Nat)(hi':i<ms.length)(hj:j<5)(v:Value)(hv:∀a n c,v≠Value.slice a n c):Marked lo hi w (W.setCell (aD bo (i*5+j)) v):=by
 obtain⟨C,hC,hs,hn⟩:=h.rows;exact hM.put h.low h.high hC (hn i hi' j hj) v hv
set_option maxRecDepth 20000 in
theorem zgg (lo hi bo cap:Nat)(ms:List Pu)(k:Int)(w:World)(h:zaA lo hi w bo ms)(hl:ms.length<=1048576)(hk:0<k)(hk2:k<5000000000000000000) :
 Calls Tryz.prog 57 #[.l (some (aD bo 0)) ms.length cap,.i k] w fun e w'=>∃k',e=.returned (.i k')/\k<=k'/\k'<=k+ms.length*5/\Marked lo hi w w':=by
 have HF:Hid (zaA lo hi w bo ms):=h;have HL:Hid (ms.length<=1048576):=hl;have HK:Hid (0<k/\k<5000000000000000000):=⟨hk,hk2⟩
 clear h hl hk hk2;go_enter Tryz.func57,Tryz.ntmps57;go_wp2_with fail
 go_loopw [1,5] (fun kv iv wr=>∃(i:Nat) (kk:Int),i<=ms.length/\kv=.i kk/\iv=.i i/\k<=kk/\kk<=k+i*5/\Marked lo hi w wr) (fun _ iv _=>ms.length-(intOf iv).toNat)
 case atStart=>exact⟨0,k,Nat.zero_le _,rfl,rfl,Int.le_refl _,by simp,Marked.refl _ _ _⟩
 case round=>
  obtain⟨i,kk,hile,rfl,rfl,h1,h2,hM⟩:=hrel
  by_cases hlt:i<ms.length
  ·have hltI:(i:Int)<(ms.length:Int):=by omega
   have HB:Hid (0<kk/\kk<7000000000000000000/\kk<=k+i*5/\k<=kk):=by have a:=HK.o;have b:=HL.o;exact⟨by omega,by omega,h2,h1⟩
   have HM:=hid hM;clear h1 h2 hM;go_wp2_with fail
   refine(zN _ _ (by have a0:=HB.o;omega) (by have a0:=HB.o;omega)).mono ?_;rintro e wm1⟨s1,rfl,hb⟩;have HM1:Hid (Marked lo hi w wm1):=(HM.o).trans (Marked.of_below hb);clear hb;obtain⟨hex,hfz1⟩:=HF.o.ready (HM1.o) i hlt;obtain⟨v1,hv1⟩:=hex 0 (by omega);rw[Nat.add_zero]at hv1;clear hex;have HP1_0:Hid (Marked lo hi w (wm1.setCell (aD bo (i*5)) (.s s1))):=HF.o.put (HM1.o) i 0 hlt (by omega)  (.s s1) (fun _ _ _ h=>by cases h);have hw1:wrap64 (kk+1)=kk+1:=zA _ ⟨by have a0:=HB.o;omega,by have a0:=HB.o;omega⟩;go_wp2_with fail
   clear hfz1 hv1;refine(zN _ _ (by have a0:=HB.o;omega) (by have a0:=HB.o;omega)).mono ?_;rintro e wm2⟨s2,rfl,hb⟩;have HM2:Hid (Marked lo hi w wm2):=(HP1_0.o).trans (Marked.of_below hb);clear hb;obtain⟨hex,hfz2⟩:=HF.o.ready (HM2.o) i hlt;obtain⟨v2,hv2⟩:=hex 1 (by omega);clear hex;have HP2_1:Hid (Marked lo hi w (wm2.setCell (aD bo (i*5+1)) (.s s2))):=HF.o.put (HM2.o) i 1 hlt (by omega)  (.s s2) (fun _ _ _ h=>by cases h);have hw2:wrap64 (kk+1+1)=kk+1+1:=zA _ ⟨by have a0:=HB.o;omega,by have a0:=HB.o;omega⟩;go_wp2_with fail
   clear hfz2 hv2;refine(zN _ _ (by have a0:=HB.o;omega) (by have a0:=HB.o;omega)).mono ?_;rintro e wm3⟨s3,rfl,hb⟩;have HM3:Hid (Marked lo hi w wm3):=(HP2_1.o).trans (Marked.of_below hb);clear hb;obtain⟨hex,hfz3⟩:=HF.o.ready (HM3.o) i hlt;obtain⟨v3,hv3⟩:=hex 2 (by omega);clear hex;have HP3_2:Hid (Marked lo hi w (wm3.setCell (aD bo (i*5+2)) (.s s3))):=HF.o.put (HM3.o) i 2 hlt (by omega)  (.s s3) (fun _ _ _ h=>by cases h);have hw3:wrap64 (kk+1+1+1)=kk+1+1+1:=zA _ ⟨by have a0:=HB.o;omega,by have a0:=HB.o;omega⟩;obtain⟨hex,hfz4⟩:=HF.o.ready (HP3_2.o) i hlt;obtain⟨v4,hv4⟩:=hex 3 (by omega);clear hex;have HP3_3:Hid (Marked lo hi w ((wm3.setCell (aD bo (i*5+2)) (.s s3)).setCell (aD bo (i*5+3)) (.i (kk+1+1+1)))):=HF.o.put (HP3_2.o) i 3 hlt (by omega)  (.i (kk+1+1+1)) (fun _ _ _ h=>by cases h);have hw4:wrap64 (kk+1+1+1+1)=kk+1+1+1+1:=zA _ ⟨by have a0:=HB.o;omega,by have a0:=HB.o;omega⟩;obtain⟨hex,hfz5⟩:=HF.o.ready (HP3_3.o) i hlt;obtain⟨v5,hv5⟩:=hex 4 (by omega);clear hex;have HP3_4:Hid (Marked lo hi w (((wm3.setCell (aD bo (i*5+2)) (.s s3)).setCell (aD bo (i*5+3)) (.i (kk+1+1+1))).setCell (aD bo (i*5+4)) (.i (kk+1+1+1+1)))):=HF.o.put (HP3_3.o) i 4 hlt (by omega)  (.i (kk+1+1+1+1)) (fun _ _ _ h=>by cases h);have hw5:wrap64 (kk+1+1+1+1+1)=kk+1+1+1+1+1:=zA _ ⟨by have a0:=HB.o;omega,by have a0:=HB.o;omega⟩;go_wp2_with fail
   go_roundw
   case rel=>exact⟨i+1,kk+1+1+1+1+1,by omega,by first|rfl|rw[hw5],by rw[wrap_one (by have:=HL.o;omega)],by have a0:=HB.o;omega,by have a0:=HB.o;omega,HP3_4.o⟩
   case measure=>exact yR hlt (by have:=HL.o;omega)
  ·have e:i=ms.length:=by omega
   subst e;go_wp2_with fail
   go_ret;exact⟨kk,rfl,h1,h2,hM⟩
structure zad (lo hi:Nat)(w:World)(bo:Nat)(ms:List Gr):Prop where
 low:lo<=bo
 high:bo<hi
 rows:∃C,w.heap[bo]?=some (.cells C 125)/\C.size=ms.length*7/\∀i (h:i<ms.length),(∀j,j<7->j≠3->zaX C (i*7+j))/\(∃bk cap,za5 lo hi w bk ms[i].r.vs.length/\C[i*7+3]?=some (.l (some (aD bk 0)) ms[i].r.vs.length cap))
theorem zad.mono {lo hi:Nat}{w w':World}{b:Nat}{ms:List Gr}(h:zad lo hi w b ms)(hM:Marked lo hi w w'):zad lo hi w' b ms:=by
 obtain⟨C,hC,hs,hn⟩:=h.rows;obtain⟨C',hC',hs',hk⟩:=hM.inn b C _ h.low h.high hC;refine⟨h.low,h.high,C',hC',by omega,fun i hi=>?_⟩;obtain⟨h0,⟨bk3,cap3,f3,g3⟩⟩:=hn i hi;exact⟨fun j hj n3 a m c he=>h0 j hj n3 a m c ((hk _ a m c).1 he),bk3,cap3,f3.mono hM,(hk _ _ _ _).2 g3⟩
theorem zjw (ws:List Int)(j:Nat):zaX (zbe ws) j:=by
 intro a n c h
 simp[zbe]at h
theorem j5.form {lo:Nat}{w:World}{bo:Nat}{ms:List Gr}(h:j5 lo w bo ms ms.length):zad lo w.heap.size w bo ms:=by
 obtain⟨C,hC,hsz,hr⟩:=h.rows;refine⟨h.low,(gES hC).1,C,hC,hsz,fun i hi=>?_⟩;obtain⟨g0,hl0,hn0,hg0,hc⟩:=hr i hi hi;refine⟨fun j hj n3 a n c he=>?_,g0,_,⟨hl0,(gES hg0).1,_,hg0,by simp[zbe],fun j _=>zjw _ j⟩,hc 3 (by omega)⟩;rw[hc j hj]at he
 rcases j with _|_|_|_|_|_|_|j <;> first|omega|(simp[Gr.cells]at he)
theorem zad.ready {lo hi bo:Nat}{w W:World}{ms:List Gr}(h:zad lo hi w bo ms)(hM:Marked lo hi w W)(i:Nat)(hi':i<ms.length) :
 (∀j,j<7->∃v,W.cell? (aD bo (i*7+j))=some v)/\(∀o,W.frozen? (aD bo o)=false):=by
 have h':=h.mono hM;obtain⟨C,hC,hs,hn⟩:=h'.rows;exact⟨fun j hj=>⟨C[i*7+j]'(by omega),by rw[cell_of_block hC];exact Array.getElem?_eq_getElem (by omega)⟩,fun o=>zh hC⟩
theorem zad.put {lo hi bo:Nat}{w W:World}{ms:List Gr}(h:zad lo hi w bo ms)(hM:Marked lo hi w W)(i j:Nat)(hi':i<ms.length)(hj:j<7)(n3:j≠3)(v:Value)(hv:∀a n c,v≠Value.slice a n c):Marked lo hi w (W.setCell (aD bo (i*7+j)) v):=by
 obtain⟨C,hC,hs,hn⟩:=h.rows;exact hM.put h.low h.high hC ((hn i hi').1 j hj n3) v hv
theorem zad.zqT {lo hi bo:Nat}{w:World}{ms:List Gr}(h:zad lo hi w bo ms)(i:Nat)(hi':i<ms.length) :
 ∃bk cap,za5 lo hi w bk ms[i].r.vs.length/\∀W,Marked lo hi w W->W.cell? (aD bo (i*7+3))=some (.l (some (aD bk 0)) ms[i].r.vs.length cap):=by
 obtain⟨C,hC,hs,hn⟩:=h.rows;obtain⟨bk,cap,h1,h2⟩:=(hn i hi').2;refine⟨bk,cap,h1,fun W hM=>?_⟩;obtain⟨C',hC',_,hk⟩:=hM.inn bo C _ h.low h.high hC;rw[cell_of_block hC'];exact(hk _ _ _ _).2 h2
set_option maxRecDepth 20000 in
theorem zf6 (lo hi bo cap:Nat)(ms:List Gr)(k:Int)(w:World)(h:zad lo hi w bo ms)(hl:ms.length<=1048576)(hls:∀i (h:i<ms.length),ms[i].r.vs.length<=1048576)(hk:0<k)(hk2:k<5000000000000000000) :
 Calls Tryz.prog 55 #[.l (some (aD bo 0)) ms.length cap,.i k] w fun e w'=>∃k',e=.returned (.i k')/\k<=k'/\k'<=k+ms.length*1048583/\Marked lo hi w w':=by
 have HF:Hid (zad lo hi w bo ms):=h;have HL:Hid (ms.length<=1048576/\∀i (h:i<ms.length),ms[i].r.vs.length<=1048576):=⟨hl,hls⟩
 have HK:Hid (0<k/\k<5000000000000000000):=⟨hk,hk2⟩
 clear h hl hk hk2 hls;go_enter Tryz.func55,Tryz.ntmps55;go_wp2_with fail
 go_loopw [1,5] (fun kv iv wr=>∃(i:Nat) (kk:Int),i<=ms.length/\kv=.i kk/\iv=.i i/\k<=kk/\kk<=k+i*1048583/\Marked lo hi w wr) (fun _ iv _=>ms.length-(intOf iv).toNat)
 case atStart=>exact⟨0,k,Nat.zero_le _,rfl,rfl,Int.le_refl _,by simp,Marked.refl _ _ _⟩
 case round=>
  obtain⟨i,kk,hile,rfl,rfl,h1,h2,hM⟩:=hrel
  by_cases hlt:i<ms.length
  ·have hltI:(i:Int)<(ms.length:Int):=by omega
   have HB:Hid (0<kk/\kk<7000000000000000000/\kk<=k+i*1048583/\k<=kk):=by have a:=HK.o;have b:=HL.o.1;exact⟨by omega,by omega,h2,h1⟩
   have HM:Hid (Marked lo hi w wr):=hM;clear h1 h2 hM;obtain⟨bk3,bc3,hT,hsl⟩:=HF.o.zqT i hlt;have HT3:Hid (za5 lo hi w bk3 ms[i].r.vs.length/\∀W,Marked lo hi w W->W.cell? (aD bo (i*7+3))=some (.l (some (aD bk3 0)) ms[i].r.vs.length bc3)):=⟨hT,hsl⟩
   clear hT hsl;obtain⟨hex,hfz1⟩:=HF.o.ready (HM.o) i hlt;obtain⟨v1,hv1⟩:=hex 0 (by omega);rw[Nat.add_zero]at hv1;clear hex;have HP0_0:Hid (Marked lo hi w (wr.setCell (aD bo (i*7)) (.i (kk)))):=HF.o.put (HM.o) i 0 hlt (by omega) (by omega) (.i (kk)) (fun _ _ _ h=>by cases h);have hw1:wrap64 (kk+1)=kk+1:=zA _ ⟨by have a0:=HB.o;omega,by have a0:=HB.o;omega⟩;go_wp2_with fail
   clear hfz1 hv1;refine(zN _ _ (by have a0:=HB.o;omega) (by have a0:=HB.o;omega)).mono ?_;rintro e wm1⟨s1,rfl,hb⟩;have HM1:Hid (Marked lo hi w wm1):=(HP0_0.o).trans (Marked.of_below hb);clear hb;obtain⟨hex,hfz2⟩:=HF.o.ready (HM1.o) i hlt;obtain⟨v2,hv2⟩:=hex 1 (by omega);clear hex;have HP1_1:Hid (Marked lo hi w (wm1.setCell (aD bo (i*7+1)) (.s s1))):=HF.o.put (HM1.o) i 1 hlt (by omega) (by omega) (.s s1) (fun _ _ _ h=>by cases h);have hw2:wrap64 (kk+1+1)=kk+1+1:=zA _ ⟨by have a0:=HB.o;omega,by have a0:=HB.o;omega⟩;go_wp2_with fail
   clear hfz2 hv2;refine(zN _ _ (by have a0:=HB.o;omega) (by have a0:=HB.o;omega)).mono ?_;rintro e wm2⟨s2,rfl,hb⟩;have HM2:Hid (Marked lo hi w wm2):=(HP1_1.o).trans (Marked.of_below hb);clear hb;obtain⟨hex,hfz3⟩:=HF.o.ready (HM2.o) i hlt;obtain⟨v3,hv3⟩:=hex 2 (by omega);clear hex;have HP2_2:Hid (Marked lo hi w (wm2.setCell (aD bo (i*7+2)) (.s s2))):=HF.o.put (HM2.o) i 2 hlt (by omega) (by omega) (.s s2) (fun _ _ _ h=>by cases h);have hw3:wrap64 (kk+1+1+1)=kk+1+1+1:=zA _ ⟨by have a0:=HB.o;omega,by have a0:=HB.o;omega⟩;have hsl3:=HT3.o.2 _ (HP2_2.o);go_wp2_with fail
   clear hfz3 hv3 hsl3;refine(zkU lo hi bk3 _ bc3 _ _ (HT3.o.1.mono (HP2_2.o)) ((HL.o.2 i hlt)) (by have a0:=HB.o;omega) (by have a0:=HB.o;omega)).mono ?_;rintro e wm3⟨k3,rfl,hke,hMn⟩;have HM3:Hid (Marked lo hi w wm3):=(HP2_2.o).trans hMn;have HK3:Hid (k3=kk+1+1+1+ms[i].r.vs.length/\ms[i].r.vs.length<=1048576):=⟨by omega,(HL.o.2 i hlt)⟩
   clear hMn hke;go_wp2_with fail
   refine(zN _ _ (by have a0:=HB.o;have a1:=HK3.o;omega) (by have a0:=HB.o;have a1:=HK3.o;omega)).mono ?_;rintro e wm4⟨s4,rfl,hb⟩;have HM4:Hid (Marked lo hi w wm4):=(HM3.o).trans (Marked.of_below hb);clear hb;obtain⟨hex,hfz4⟩:=HF.o.ready (HM4.o) i hlt;obtain⟨v4,hv4⟩:=hex 4 (by omega);clear hex;have HP4_4:Hid (Marked lo hi w (wm4.setCell (aD bo (i*7+4)) (.s s4))):=HF.o.put (HM4.o) i 4 hlt (by omega) (by omega) (.s s4) (fun _ _ _ h=>by cases h);have hw4:wrap64 (k3+1)=k3+1:=zA _ ⟨by have a0:=HB.o;have a1:=HK3.o;omega,by have a0:=HB.o;have a1:=HK3.o;omega⟩;go_wp2_with fail
   clear hfz4 hv4;refine(zN _ _ (by have a0:=HB.o;have a1:=HK3.o;omega) (by have a0:=HB.o;have a1:=HK3.o;omega)).mono ?_;rintro e wm5⟨s5,rfl,hb⟩;have HM5:Hid (Marked lo hi w wm5):=(HP4_4.o).trans (Marked.of_below hb);clear hb;obtain⟨hex,hfz5⟩:=HF.o.ready (HM5.o) i hlt;obtain⟨v5,hv5⟩:=hex 5 (by omega);clear hex;have HP5_5:Hid (Marked lo hi w (wm5.setCell (aD bo (i*7+5)) (.s s5))):=HF.o.put (HM5.o) i 5 hlt (by omega) (by omega) (.s s5) (fun _ _ _ h=>by cases h);have hw5:wrap64 (k3+1+1)=k3+1+1:=zA _ ⟨by have a0:=HB.o;have a1:=HK3.o;omega,by have a0:=HB.o;have a1:=HK3.o;omega⟩;go_wp2_with fail
   clear hfz5 hv5;refine(zN _ _ (by have a0:=HB.o;have a1:=HK3.o;omega) (by have a0:=HB.o;have a1:=HK3.o;omega)).mono ?_;rintro e wm6⟨s6,rfl,hb⟩;have HM6:Hid (Marked lo hi w wm6):=(HP5_5.o).trans (Marked.of_below hb);clear hb;obtain⟨hex,hfz6⟩:=HF.o.ready (HM6.o) i hlt;obtain⟨v6,hv6⟩:=hex 6 (by omega);clear hex;have HP6_6:Hid (Marked lo hi w (wm6.setCell (aD bo (i*7+6)) (.s s6))):=HF.o.put (HM6.o) i 6 hlt (by omega) (by omega) (.s s6) (fun _ _ _ h=>by cases h);have hw6:wrap64 (k3+1+1+1)=k3+1+1+1:=zA _ ⟨by have a0:=HB.o;have a1:=HK3.o;omega,by have a0:=HB.o;have a1:=HK3.o;omega⟩;go_wp2_with fail
   go_roundw
   case rel=>exact⟨i+1,k3+1+1+1,by omega,by first|rfl|rw[hw6],by rw[wrap_one (by have:=HL.o.1;omega)],by have a0:=HB.o;have a1:=HK3.o;omega,by have a0:=HB.o;have a1:=HK3.o;omega,HP6_6.o⟩
   case measure=>exact yR hlt (by have:=HL.o.1;omega)
  ·have e:i=ms.length:=by omega
   subst e;go_wp2_with fail
   go_ret;exact⟨kk,rfl,h1,h2,hM⟩
structure jP (lo hi:Nat)(w:World)(bo:Nat)(ms:List Ob):Prop where
 low:lo<=bo
 high:bo<hi
 rows:∃C,w.heap[bo]?=some (.cells C 121)/\C.size=ms.length*7/\∀i (h:i<ms.length),(∀j,j<7->j≠3->j≠5->zaX C (i*7+j))/\(∃bk cap,jH lo hi w bk ms[i].vs.length/\C[i*7+3]?=some (.l (some (aD bk 0)) ms[i].vs.length cap))/\(∃bk cap,jH lo hi w bk ms[i].hs.length/\C[i*7+5]?=some (.l (some (aD bk 0)) ms[i].hs.length cap))
theorem jP.mono {lo hi:Nat}{w w':World}{b:Nat}{ms:List Ob}(h:jP lo hi w b ms)(hM:Marked lo hi w w'):jP lo hi w' b ms:=by
 obtain⟨C,hC,hs,hn⟩:=h.rows;obtain⟨C',hC',hs',hk⟩:=hM.inn b C _ h.low h.high hC;refine⟨h.low,h.high,C',hC',by omega,fun i hi=>?_⟩;obtain⟨h0,⟨bk3,cap3,f3,g3⟩,⟨bk5,cap5,f5,g5⟩⟩:=hn i hi;exact⟨fun j hj n3 n5 a m c he=>h0 j hj n3 n5 a m c ((hk _ a m c).1 he),⟨bk3,cap3,f3.mono hM,(hk _ _ _ _).2 g3⟩,⟨bk5,cap5,f5.mono hM,(hk _ _ _ _).2 g5⟩⟩
theorem zah.form {lo:Nat}{w:World}{bo:Nat}{ms:List Ob}(h:zah lo w bo ms ms.length):jP lo w.heap.size w bo ms:=by
 obtain⟨C,hC,hsz,hr⟩:=h.rows;refine⟨h.low,(gES hC).1,C,hC,hsz,fun i hi=>?_⟩;obtain⟨g0,g1,hl0,hn0,hg0,hl1,hn1,hg1,hc⟩:=hr i hi hi;refine⟨fun j hj n3 n5 a n c he=>?_,⟨g0,_,⟨hl0,(gES hg0).1,_,hg0,by simp[jT],fun j _=>zcR _ j⟩,hc 3 (by omega)⟩,⟨g1,_,⟨hl1,(gES hg1).1,_,hg1,by simp[jT],fun j _=>zcR _ j⟩,hc 5 (by omega)⟩⟩;rw[hc j hj]at he
 rcases j with _|_|_|_|_|_|_|j <;> first|omega|(simp[Ob.row]at he)
theorem jP.ready {lo hi bo:Nat}{w W:World}{ms:List Ob}(h:jP lo hi w bo ms)(hM:Marked lo hi w W)(i:Nat)(hi':i<ms.length) :
 (∀j,j<7->∃v,W.cell? (aD bo (i*7+j))=some v)/\(∀o,W.frozen? (aD bo o)=false):=by
 have h':=h.mono hM;obtain⟨C,hC,hs,hn⟩:=h'.rows;exact⟨fun j hj=>⟨C[i*7+j]'(by omega),by rw[cell_of_block hC];exact Array.getElem?_eq_getElem (by omega)⟩,fun o=>zh hC⟩
theorem jP.put {lo hi bo:Nat}{w W:World}{ms:List Ob}(h:jP lo hi w bo ms)(hM:Marked lo hi w W)(i j:Nat)(hi':i<ms.length)(hj:j<7)(n3:j≠3)(n5:j≠5)(v:Value)(hv:∀a n c,v≠Value.slice a n c):Marked lo hi w (W.setCell (aD bo (i*7+j)) v):=by
 obtain⟨C,hC,hs,hn⟩:=h.rows;exact hM.put h.low h.high hC ((hn i hi').1 j hj n3 n5) v hv
theorem jP.zqT {lo hi bo:Nat}{w:World}{ms:List Ob}(h:jP lo hi w bo ms)(i:Nat)(hi':i<ms.length) :
 ∃bk cap,jH lo hi w bk ms[i].vs.length/\∀W,Marked lo hi w W->W.cell? (aD bo (i*7+3))=some (.l (some (aD bk 0)) ms[i].vs.length cap):=by
 obtain⟨C,hC,hs,hn⟩:=h.rows;obtain⟨bk,cap,h1,h2⟩:=(hn i hi').2.1;refine⟨bk,cap,h1,fun W hM=>?_⟩;obtain⟨C',hC',_,hk⟩:=hM.inn bo C _ h.low h.high hC;rw[cell_of_block hC'];exact(hk _ _ _ _).2 h2
theorem jP.zrH {lo hi bo:Nat}{w:World}{ms:List Ob}(h:jP lo hi w bo ms)(i:Nat)(hi':i<ms.length) :
 ∃bk cap,jH lo hi w bk ms[i].hs.length/\∀W,Marked lo hi w W->W.cell? (aD bo (i*7+5))=some (.l (some (aD bk 0)) ms[i].hs.length cap):=by
 obtain⟨C,hC,hs,hn⟩:=h.rows;obtain⟨bk,cap,h1,h2⟩:=(hn i hi').2.2;refine⟨bk,cap,h1,fun W hM=>?_⟩;obtain⟨C',hC',_,hk⟩:=hM.inn bo C _ h.low h.high hC;rw[cell_of_block hC'];exact(hk _ _ _ _).2 h2
set_option maxRecDepth 20000 in
theorem zfD (lo hi bo cap:Nat)(ms:List Ob)(k:Int)(w:World)(h:jP lo hi w bo ms)(hl:ms.length<=1048576)(hls:∀i (h:i<ms.length),ms[i].vs.length<=1048576/\ms[i].hs.length<=1048576)(hk:0<k)(hk2:k<5000000000000000000) :
 Calls Tryz.prog 54 #[.l (some (aD bo 0)) ms.length cap,.i k] w fun e w'=>∃k',e=.returned (.i k')/\k<=k'/\k'<=k+ms.length*2097159/\Marked lo hi w w':=by
 have HF:Hid (jP lo hi w bo ms):=h;have HL:Hid (ms.length<=1048576/\∀i (h:i<ms.length),ms[i].vs.length<=1048576/\ms[i].hs.length<=1048576):=⟨hl,hls⟩
 have HK:Hid (0<k/\k<5000000000000000000):=⟨hk,hk2⟩
 clear h hl hk hk2 hls;go_enter Tryz.func54,Tryz.ntmps54;go_wp2_with fail
 go_loopw [1,5] (fun kv iv wr=>∃(i:Nat) (kk:Int),i<=ms.length/\kv=.i kk/\iv=.i i/\k<=kk/\kk<=k+i*2097159/\Marked lo hi w wr) (fun _ iv _=>ms.length-(intOf iv).toNat)
 case atStart=>exact⟨0,k,Nat.zero_le _,rfl,rfl,Int.le_refl _,by simp,Marked.refl _ _ _⟩
 case round=>
  obtain⟨i,kk,hile,rfl,rfl,h1,h2,hM⟩:=hrel
  by_cases hlt:i<ms.length
  ·have hltI:(i:Int)<(ms.length:Int):=by omega
   have HB:Hid (0<kk/\kk<7000000000000000000/\kk<=k+i*2097159/\k<=kk):=by have a:=HK.o;have b:=HL.o.1;exact⟨by omega,by omega,h2,h1⟩
   have HM:Hid (Marked lo hi w wr):=hM;clear h1 h2 hM;obtain⟨bk3,bc3,hT,hsl⟩:=HF.o.zqT i hlt;have HT3:Hid (jH lo hi w bk3 ms[i].vs.length/\∀W,Marked lo hi w W->W.cell? (aD bo (i*7+3))=some (.l (some (aD bk3 0)) ms[i].vs.length bc3)):=⟨hT,hsl⟩
   clear hT hsl;obtain⟨bk5,bc5,hT,hsl⟩:=HF.o.zrH i hlt;have HT5:Hid (jH lo hi w bk5 ms[i].hs.length/\∀W,Marked lo hi w W->W.cell? (aD bo (i*7+5))=some (.l (some (aD bk5 0)) ms[i].hs.length bc5)):=⟨hT,hsl⟩
   clear hT hsl;go_wp2_with fail
   refine(zN _ _ (by have a0:=HB.o;omega) (by have a0:=HB.o;omega)).mono ?_;rintro e wm1⟨s1,rfl,hb⟩;have HM1:Hid (Marked lo hi w wm1):=(HM.o).trans (Marked.of_below hb);clear hb;obtain⟨hex,hfz1⟩:=HF.o.ready (HM1.o) i hlt;obtain⟨v1,hv1⟩:=hex 0 (by omega);rw[Nat.add_zero]at hv1;clear hex;have HP1_0:Hid (Marked lo hi w (wm1.setCell (aD bo (i*7)) (.s s1))):=HF.o.put (HM1.o) i 0 hlt (by omega) (by omega) (by omega) (.s s1) (fun _ _ _ h=>by cases h);have hw1:wrap64 (kk+1)=kk+1:=zA _ ⟨by have a0:=HB.o;omega,by have a0:=HB.o;omega⟩;go_wp2_with fail
   clear hfz1 hv1;refine(zN _ _ (by have a0:=HB.o;omega) (by have a0:=HB.o;omega)).mono ?_;rintro e wm2⟨s2,rfl,hb⟩;have HM2:Hid (Marked lo hi w wm2):=(HP1_0.o).trans (Marked.of_below hb);clear hb;obtain⟨hex,hfz2⟩:=HF.o.ready (HM2.o) i hlt;obtain⟨v2,hv2⟩:=hex 1 (by omega);clear hex;have HP2_1:Hid (Marked lo hi w (wm2.setCell (aD bo (i*7+1)) (.s s2))):=HF.o.put (HM2.o) i 1 hlt (by omega) (by omega) (by omega) (.s s2) (fun _ _ _ h=>by cases h);have hw2:wrap64 (kk+1+1)=kk+1+1:=zA _ ⟨by have a0:=HB.o;omega,by have a0:=HB.o;omega⟩;go_wp2_with fail
   clear hfz2 hv2;refine(zN _ _ (by have a0:=HB.o;omega) (by have a0:=HB.o;omega)).mono ?_;rintro e wm3⟨s3,rfl,hb⟩;have HM3:Hid (Marked lo hi w wm3):=(HP2_1.o).trans (Marked.of_below hb);clear hb;obtain⟨hex,hfz3⟩:=HF.o.ready (HM3.o) i hlt;obtain⟨v3,hv3⟩:=hex 2 (by omega);clear hex;have HP3_2:Hid (Marked lo hi w (wm3.setCell (aD bo (i*7+2)) (.s s3))):=HF.o.put (HM3.o) i 2 hlt (by omega) (by omega) (by omega) (.s s3) (fun _ _ _ h=>by cases h);have hw3:wrap64 (kk+1+1+1)=kk+1+1+1:=zA _ ⟨by have a0:=HB.o;omega,by have a0:=HB.o;omega⟩;have hsl3:=HT3.o.2 _ (HP3_2.o);go_wp2_with fail
   clear hfz3 hv3 hsl3;refine(zbY lo hi bk3 _ bc3 _ _ (HT3.o.1.mono (HP3_2.o)) ((HL.o.2 i hlt).1) (by have a0:=HB.o;omega) (by have a0:=HB.o;omega)).mono ?_;rintro e wm4⟨k4,rfl,hke,hMn⟩;have HM4:Hid (Marked lo hi w wm4):=(HP3_2.o).trans hMn;have HK4:Hid (k4=kk+1+1+1+ms[i].vs.length/\ms[i].vs.length<=1048576):=⟨by omega,(HL.o.2 i hlt).1⟩
   clear hMn hke;obtain⟨hex,hfz4⟩:=HF.o.ready (HM4.o) i hlt;obtain⟨v4,hv4⟩:=hex 4 (by omega);clear hex;have HP4_4:Hid (Marked lo hi w (wm4.setCell (aD bo (i*7+4)) (.bool (k4 % 3 == 0)))):=HF.o.put (HM4.o) i 4 hlt (by omega) (by omega) (by omega) (.bool (k4 % 3 == 0)) (fun _ _ _ h=>by cases h);have htm:(k4).tmod 3=k4 % 3:=Int.tmod_eq_emod_of_nonneg (by have a0:=HB.o;have a1:=HK4.o;omega);have hwm:wrap64 (k4 % 3)=k4 % 3:=zA _ ⟨by omega,by omega⟩;have hw4:wrap64 (k4+1)=k4+1:=zA _ ⟨by have a0:=HB.o;have a1:=HK4.o;omega,by have a0:=HB.o;have a1:=HK4.o;omega⟩;have hsl5:=HT5.o.2 _ (HP4_4.o);go_wp2_with fail
   clear hfz4 hv4 htm hwm hsl5;refine(zbY lo hi bk5 _ bc5 _ _ (HT5.o.1.mono (HP4_4.o)) ((HL.o.2 i hlt).2) (by have a0:=HB.o;have a1:=HK4.o;omega) (by have a0:=HB.o;have a1:=HK4.o;omega)).mono ?_;rintro e wm5⟨k5,rfl,hke,hMn⟩;have HM5:Hid (Marked lo hi w wm5):=(HP4_4.o).trans hMn;have HK5:Hid (k5=k4+1+ms[i].hs.length/\ms[i].hs.length<=1048576):=⟨by omega,(HL.o.2 i hlt).2⟩
   clear hMn hke;obtain⟨hex,hfz5⟩:=HF.o.ready (HM5.o) i hlt;obtain⟨v5,hv5⟩:=hex 6 (by omega);clear hex;have HP5_6:Hid (Marked lo hi w (wm5.setCell (aD bo (i*7+6)) (.i (k5)))):=HF.o.put (HM5.o) i 6 hlt (by omega) (by omega) (by omega) (.i (k5)) (fun _ _ _ h=>by cases h);have hw5:wrap64 (k5+1)=k5+1:=zA _ ⟨by have a0:=HB.o;have a1:=HK4.o;have a2:=HK5.o;omega,by have a0:=HB.o;have a1:=HK4.o;have a2:=HK5.o;omega⟩;go_wp2_with fail
   go_roundw
   case rel=>exact⟨i+1,k5+1,by omega,by first|rfl|rw[hw5],by rw[wrap_one (by have:=HL.o.1;omega)],by have a0:=HB.o;have a1:=HK4.o;have a2:=HK5.o;omega,by have a0:=HB.o;have a1:=HK4.o;have a2:=HK5.o;omega,HP5_6.o⟩
   case measure=>exact yR hlt (by have:=HL.o.1;omega)
  ·have e:i=ms.length:=by omega
   subst e;go_wp2_with fail
   go_ret;exact⟨kk,rfl,h1,h2,hM⟩
theorem zfx {α:Type}{key:α->α->Int}{ms:List α}{k:Nat}(h:zaZ key ms k)(hk:k<ms.length)(hn:∀m (e:k=m+1),key (ms[m]'(by omega)) ms[k]<0):zaZ key ms (k+1):=by
 intro i hi hik
 rcases Nat.lt_or_ge (i+1) k with hlt|hge
 ·exact h i hi hlt
 ·have e:k=i+1:=by omega
  subst e;exact hn i rfl
theorem zgj {α:Type}{key:α->α->Int}{ms:List α}{k:Nat}(hk:k<ms.length)(h:∀h0:0<k,key (ms[k-1]'(by omega)) ms[k]<0):∀m (e:k=m+1),key (ms[m]'(by omega)) ms[k]<0:=by
 intro m e;subst e;exact h (by omega)
theorem zgM {α:Type}{key:α->α->Int}{ms:List α}{k:Nat}(h:zaZ key ms k)(hk:ms.length<=k):zbR key ms=true:=by
 rw[znk];exact fun i hi=>h i hi (by omega)
theorem zev {α:Type}{key:α->α->Int}{ms:List α}{k:Nat}(hk:k<ms.length)(h0:0<k)(hn:¬key (ms[k-1]'(by omega)) ms[k]<0):zbR key ms=false:=by
 obtain⟨m,rfl⟩:∃m,k=m+1:=⟨k-1,by omega⟩
 exact zgG hk hn
theorem zkD (a b:Gr):zcu a b<0↔a.no<b.no:=by
 unfold zcu zeb;split
 ·simp_all
 ·split <;> simp_all
def qA (ss:List Shp)(o:Ob):List BA:=if zB ss o=true then zaj (shapeOf ss o.kd).fs o.vs else o.vs
theorem zn7 {ss:List Shp}{o:Ob}(h:zZ ss=true):zjg ss o=qA ss o:=by
 unfold zjg qA zB
 by_cases h1:zJ ss o.kd=true
 ·by_cases h2:o.vs.length=(shapeOf ss o.kd).fs.length
  ·rw[if_pos ⟨h1,h,h2⟩,if_pos (by rw[h1];simp[h2])]
  ·rw[if_neg (fun hh=>h2 hh.2.2),if_neg (by rw[h1];simp[h2])]
 ·rw[if_neg (fun hh=>h1 hh.1),if_neg (by simp[h1])]
theorem zfR (a0:OA)(cap0:Nat)(ss:List Shp)(o:Ob)(a a':OA)(cap cap':Nat)(w0 w:World)(hw0:yT w0 a0 ss)(hbb:Bw w0 w)(hc:zB ss o=true) :
 Calls Tryz.prog 121 #[.l a0 ss.length cap0,.agg #[.s o.kd,.s o.nm,.s o.tm,.l a o.vs.length cap,.bool o.en,.l a' o.hs.length cap',.i o.vr]] w fun e w'=>∃fa fcap,e=.returned (.tuple #[.l fa (shapeOf ss o.kd).fs.length fcap,.bool true])/\yg w0 fa (shapeOf ss o.kd).fs/\Bw w w':=by
 unfold zB at hc;simp only[Bool.and_eq_true,decide_eq_true_eq]at hc;have HK:=hid hc.1;have HL:=hid hc.2;clear hc;have hw:=hw0.mono hbb;have hl:=hw.len;unfold maxLen at hl;go_enter Tryz.func121,Tryz.ntmps121;go_wp2_with fail
 refine(jW _ _ _ _ _ (hw.mono (bAl _ _)) HK.o).mono ?_;rintro e w1⟨ix,hix,rfl,hsh,rfl⟩;have HSh:=hid hsh;clear hsh;obtain⟨b,off,rfl,hb0,hr⟩:=hw0.rows (by rintro rfl;simp at hix);obtain⟨fa,fcap,hs0⟩:=hr ix hix;have hs:=hs0.mono hb0 hbb;have hcl:=hs.list;have hfl:=hs0.zdS;have hixI:(ix:Int)<(ss.length:Int):=by omega
 have hix0:decide ((ix:Int)<0)=false:=by simp
 have hneq:((ss[ix].fs.length:Int) != (o.vs.length:Int))=false:=by have h1:=HL.o;have h2:=HSh.o;rw[h2]at h1;simp[h1]
 have hbw:=nLt hb0 hbb.size;clear hr hs;go_wp2_with fail
 go_quiet (fail)
 go_wp2_with fail
 go_ret2
 rw[HSh.o];exact⟨fa,fcap,rfl,hfl,below_drewN (bAl _ _) _⟩
theorem zrF {fs:List Fld}(h:zbU fs):∀f∈fs,f.df.size<=maxLen:=by
 intro f hf;obtain⟨i,hi,rfl⟩:=List.mem_iff_getElem.1 hf;exact(h.small i hi).1.df
theorem zn6 {ss:List Shp}{o:Ob}(hs:zdX ss)(ho:∀s∈o.vs,s.size<=maxLen):∀s∈zjg ss o,s.size<=maxLen:=by
 unfold zjg
 split
 ·rename_i h
  have hf:zbU (shapeOf ss o.kd).fs:=by
   obtain⟨hk,_,_⟩:=h;unfold zJ at hk;rw[List.any_eq_true]at hk;obtain⟨x,hx,he⟩:=hk;unfold shapeOf
   cases hfi:ss.find? (fun s=>decide (s.kd=o.kd)) with
   | none=>rw[List.find?_eq_none]at hfi;exact absurd he (hfi x hx)
   | some y=>
    obtain⟨i,hi,rfl⟩:=List.mem_iff_getElem.1 (List.mem_of_find?_eq_some hfi);exact(hs.small i hi).2.2
  intro s hm;obtain⟨i,hi,rfl⟩:=List.mem_iff_getElem.1 hm;have hl:=qO h.2.2;have e:(zaj (shapeOf ss o.kd).fs o.vs)[i]=zao ((shapeOf ss o.kd).fs[i]'(by have:=h.2.2;omega)) (o.vs[i]'(by omega)):=by simp[zaj]
  rw[e];unfold zao
  split
  ·exact zrF hf _ (List.getElem_mem _)
  ·exact ho _ (List.getElem_mem _)
 ·exact ho
end Go.Proofs.YtcgpjfcocmcodaaGreat
