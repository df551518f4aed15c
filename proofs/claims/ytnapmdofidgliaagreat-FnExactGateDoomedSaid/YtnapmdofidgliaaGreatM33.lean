import Derived.Test.YtnapmdofidgliaaGreatM30
set_option maxHeartbeats 8000000
namespace Go.Proofs.YtnapmdofidgliaaGreat
open Go.RowKit
structure zaL (lo hi:Nat)(w:World)(bo:Nat)(ms:List Tm):Prop where
 low:lo<=bo
 high:bo<hi
 rows:∃C,w.heap[bo]?=some (.cells C 135)/\C.size=ms.length*2/\∀i,i<ms.length->(∀j,j<2->zbi C (i*2+j))
theorem zaL.mono {lo hi:Nat}{w w':World}{b:Nat}{ms:List Tm}(h:zaL lo hi w b ms)(hM:Marked lo hi w w'):zaL lo hi w' b ms:=by
 obtain⟨C,hC,hs,hn⟩:=h.rows;obtain⟨C',hC',hs',hk⟩:=hM.inn b C _ h.low h.high hC;refine⟨h.low,h.high,C',hC',by omega,fun i hi=>?_⟩;have h0:=hn i hi;exact fun j hj a m c he=>h0 j hj a m c ((hk _ a m c).1 he)
theorem zam.form {lo:Nat}{w:World}{bo:Nat}{ms:List Tm}(h:zam 135 lo w bo ms ms.length):zaL lo w.heap.size w bo ms:=by
 obtain⟨C,hC,hsz,hr⟩:=h.rows;refine⟨h.low,(gES hC).1,C,hC,hsz,fun i hi j hj a n c he=>?_⟩;rw[hr i hi hi j hj]at he
 rcases j with _|_|j <;> first|omega|(simp[Tm.cells]at he)
theorem zaL.ready {lo hi bo:Nat}{w W:World}{ms:List Tm}(h:zaL lo hi w bo ms)(hM:Marked lo hi w W)(i:Nat)(hi':i<ms.length) :
 (∀j,j<2->∃v,W.cell? ⟨bo,i*2+j,none⟩=some v)/\(∀o,W.frozen? ⟨bo,o,none⟩=false):=by
 have h':=h.mono hM;obtain⟨C,hC,hs,hn⟩:=h'.rows;exact⟨fun j hj=>⟨C[i*2+j]'(by omega),by rw[cell_of_block hC];exact Array.getElem?_eq_getElem (by omega)⟩,fun o=>zh hC⟩
theorem zaL.put {lo hi bo:Nat}{w W:World}{ms:List Tm}(h:zaL lo hi w bo ms)(hM:Marked lo hi w W)(i j:Nat)(hi':i<ms.length)(hj:j<2)(v:Value)(hv:∀a n c,v≠Value.slice a n c):Marked lo hi w (W.setCell ⟨bo,i*2+j,none⟩ v):=by
 obtain⟨C,hC,hs,hn⟩:=h.rows;exact hM.put h.low h.high hC (hn i hi' j hj) v hv
set_option maxRecDepth 20000 in
theorem zgv (lo hi bo cap:Nat)(ms:List Tm)(k:Int)(w:World)(h:zaL lo hi w bo ms)(hl:ms.length<=1048576)(hk:0<k)(hk2:k<5000000000000000000) :
 Calls Tryz.prog 48 #[.slice (some ⟨bo,0,none⟩) ms.length cap,.int .i64 k] w fun e w'=>∃k',e=.returned (.int .i64 k')/\k<=k'/\k'<=k+ms.length*2/\Marked lo hi w w':=by
 have HF:Hid (zaL lo hi w bo ms):=h;have HL:Hid (ms.length<=1048576):=hl;have HK:Hid (0<k/\k<5000000000000000000):=⟨hk,hk2⟩
 clear h hl hk hk2;go_enter Tryz.func48,Tryz.ntmps48;go_wp2_with fail
 go_loopw [1,5] (fun kv iv wr=>∃(i:Nat) (kk:Int),i<=ms.length/\kv=.int .i64 kk/\iv=.int .i64 i/\k<=kk/\kk<=k+i*2/\Marked lo hi w wr) (fun _ iv _=>ms.length-(intOf iv).toNat)
 case atStart=>exact⟨0,k,Nat.zero_le _,rfl,rfl,Int.le_refl _,by simp,Marked.refl _ _ _⟩
 case round=>
  obtain⟨i,kk,hile,rfl,rfl,h1,h2,hM⟩:=hrel
  by_cases hlt:i<ms.length
  ·have hltI:(i:Int)<(ms.length:Int):=by omega
   have HB:Hid (0<kk/\kk<7000000000000000000/\kk<=k+i*2/\k<=kk):=by have a:=HK.out;have b:=HL.out;exact⟨by omega,by omega,h2,h1⟩
   have HM:Hid (Marked lo hi w wr):=hM;clear h1 h2 hM;go_wp2_with fail
   refine(zP _ _ (by have a0:=HB.out;omega) (by have a0:=HB.out;omega)).mono ?_;rintro e wm1⟨s1,rfl,hb⟩;have HM1:Hid (Marked lo hi w wm1):=(HM.out).trans (Marked.of_below hb);clear hb;obtain⟨hex,hfz1⟩:=HF.out.ready (HM1.out) i hlt;obtain⟨v1,hv1⟩:=hex 0 (by omega);rw[Nat.add_zero]at hv1;clear hex;have HP1_0:Hid (Marked lo hi w (wm1.setCell ⟨bo,i*2,none⟩ (.string s1))):=HF.out.put (HM1.out) i 0 hlt (by omega)  (.string s1) (fun _ _ _ h=>by cases h);have hw1:wrap64 (kk+1)=kk+1:=yt _ ⟨by have a0:=HB.out;omega,by have a0:=HB.out;omega⟩;go_wp2_with fail
   clear hfz1 hv1;refine(zP _ _ (by have a0:=HB.out;omega) (by have a0:=HB.out;omega)).mono ?_;rintro e wm2⟨s2,rfl,hb⟩;have HM2:Hid (Marked lo hi w wm2):=(HP1_0.out).trans (Marked.of_below hb);clear hb;obtain⟨hex,hfz2⟩:=HF.out.ready (HM2.out) i hlt;obtain⟨v2,hv2⟩:=hex 1 (by omega);clear hex;have HP2_1:Hid (Marked lo hi w (wm2.setCell ⟨bo,i*2+1,none⟩ (.string s2))):=HF.out.put (HM2.out) i 1 hlt (by omega)  (.string s2) (fun _ _ _ h=>by cases h);have hw2:wrap64 (kk+1+1)=kk+1+1:=yt _ ⟨by have a0:=HB.out;omega,by have a0:=HB.out;omega⟩;go_wp2_with fail
   go_roundw
   case rel=>exact⟨i+1,kk+1+1,by omega,by first|rfl|rw[hw2],by rw[wrap_one (by have:=HL.out;omega)],by have a0:=HB.out;omega,by have a0:=HB.out;omega,HP2_1.out⟩
   case measure=>exact jq hlt (by have:=HL.out;omega)
  ·have e:i=ms.length:=by omega
   subst e;go_wp2_with fail
   go_ret;exact⟨kk,rfl,h1,h2,hM⟩
structure zaG (lo hi:Nat)(w:World)(bo:Nat)(ms:List Lg):Prop where
 low:lo<=bo
 high:bo<hi
 rows:∃C,w.heap[bo]?=some (.cells C 142)/\C.size=ms.length*4/\∀i,i<ms.length->(∀j,j<4->zbi C (i*4+j))
theorem zaG.mono {lo hi:Nat}{w w':World}{b:Nat}{ms:List Lg}(h:zaG lo hi w b ms)(hM:Marked lo hi w w'):zaG lo hi w' b ms:=by
 obtain⟨C,hC,hs,hn⟩:=h.rows;obtain⟨C',hC',hs',hk⟩:=hM.inn b C _ h.low h.high hC;refine⟨h.low,h.high,C',hC',by omega,fun i hi=>?_⟩;have h0:=hn i hi;exact fun j hj a m c he=>h0 j hj a m c ((hk _ a m c).1 he)
theorem zah.form {lo:Nat}{w:World}{bo:Nat}{ms:List Lg}(h:zah lo w bo ms ms.length):zaG lo w.heap.size w bo ms:=by
 obtain⟨C,hC,hsz,hr⟩:=h.rows;refine⟨h.low,(gES hC).1,C,hC,hsz,fun i hi j hj a n c he=>?_⟩;rw[hr i hi hi j hj]at he
 rcases j with _|_|_|_|j <;> first|omega|(simp[Lg.cells]at he)
theorem zaG.ready {lo hi bo:Nat}{w W:World}{ms:List Lg}(h:zaG lo hi w bo ms)(hM:Marked lo hi w W)(i:Nat)(hi':i<ms.length) :
 (∀j,j<4->∃v,W.cell? ⟨bo,i*4+j,none⟩=some v)/\(∀o,W.frozen? ⟨bo,o,none⟩=false):=by
 have h':=h.mono hM;obtain⟨C,hC,hs,hn⟩:=h'.rows;exact⟨fun j hj=>⟨C[i*4+j]'(by omega),by rw[cell_of_block hC];exact Array.getElem?_eq_getElem (by omega)⟩,fun o=>zh hC⟩
theorem zaG.put {lo hi bo:Nat}{w W:World}{ms:List Lg}(h:zaG lo hi w bo ms)(hM:Marked lo hi w W)(i j:Nat)(hi':i<ms.length)(hj:j<4)(v:Value)(hv:∀a n c,v≠Value.slice a n c):Marked lo hi w (W.setCell ⟨bo,i*4+j,none⟩ v):=by
 obtain⟨C,hC,hs,hn⟩:=h.rows;exact hM.put h.low h.high hC (hn i hi' j hj) v hv
set_option maxRecDepth 20000 in
theorem zfx (lo hi bo cap:Nat)(ms:List Lg)(k:Int)(w:World)(h:zaG lo hi w bo ms)(hl:ms.length<=1048576)(hk:0<k)(hk2:k<5000000000000000000) :
 Calls Tryz.prog 51 #[.slice (some ⟨bo,0,none⟩) ms.length cap,.int .i64 k] w fun e w'=>∃k',e=.returned (.int .i64 k')/\k<=k'/\k'<=k+ms.length*4/\Marked lo hi w w':=by
 have HF:Hid (zaG lo hi w bo ms):=h;have HL:Hid (ms.length<=1048576):=hl;have HK:Hid (0<k/\k<5000000000000000000):=⟨hk,hk2⟩
 clear h hl hk hk2;go_enter Tryz.func51,Tryz.ntmps51;go_wp2_with fail
 go_loopw [1,5] (fun kv iv wr=>∃(i:Nat) (kk:Int),i<=ms.length/\kv=.int .i64 kk/\iv=.int .i64 i/\k<=kk/\kk<=k+i*4/\Marked lo hi w wr) (fun _ iv _=>ms.length-(intOf iv).toNat)
 case atStart=>exact⟨0,k,Nat.zero_le _,rfl,rfl,Int.le_refl _,by simp,Marked.refl _ _ _⟩
 case round=>
  obtain⟨i,kk,hile,rfl,rfl,h1,h2,hM⟩:=hrel
  by_cases hlt:i<ms.length
  ·have hltI:(i:Int)<(ms.length:Int):=by omega
   have HB:Hid (0<kk/\kk<7000000000000000000/\kk<=k+i*4/\k<=kk):=by have a:=HK.out;have b:=HL.out;exact⟨by omega,by omega,h2,h1⟩
   have HM:=hid hM;clear h1 h2 hM;go_wp2_with fail
   refine(zP _ _ (by have a0:=HB.out;omega) (by have a0:=HB.out;omega)).mono ?_;rintro e wm1⟨s1,rfl,hb⟩;have HM1:Hid (Marked lo hi w wm1):=(HM.out).trans (Marked.of_below hb);clear hb;obtain⟨hex,hfz1⟩:=HF.out.ready (HM1.out) i hlt;obtain⟨v1,hv1⟩:=hex 0 (by omega);rw[Nat.add_zero]at hv1;clear hex;have HP1_0:Hid (Marked lo hi w (wm1.setCell ⟨bo,i*4,none⟩ (.string s1))):=HF.out.put (HM1.out) i 0 hlt (by omega)  (.string s1) (fun _ _ _ h=>by cases h);have hw1:wrap64 (kk+1)=kk+1:=yt _ ⟨by have a0:=HB.out;omega,by have a0:=HB.out;omega⟩;go_wp2_with fail
   clear hfz1 hv1;refine(zP _ _ (by have a0:=HB.out;omega) (by have a0:=HB.out;omega)).mono ?_;rintro e wm2⟨s2,rfl,hb⟩;have HM2:Hid (Marked lo hi w wm2):=(HP1_0.out).trans (Marked.of_below hb);clear hb;obtain⟨hex,hfz2⟩:=HF.out.ready (HM2.out) i hlt;obtain⟨v2,hv2⟩:=hex 1 (by omega);clear hex;have HP2_1:Hid (Marked lo hi w (wm2.setCell ⟨bo,i*4+1,none⟩ (.string s2))):=HF.out.put (HM2.out) i 1 hlt (by omega)  (.string s2) (fun _ _ _ h=>by cases h);have hw2:wrap64 (kk+1+1)=kk+1+1:=yt _ ⟨by have a0:=HB.out;omega,by have a0:=HB.out;omega⟩;obtain⟨hex,hfz3⟩:=HF.out.ready (HP2_1.out) i hlt;obtain⟨v3,hv3⟩:=hex 2 (by omega);clear hex;have HP2_2:Hid (Marked lo hi w ((wm2.setCell ⟨bo,i*4+1,none⟩ (.string s2)).setCell ⟨bo,i*4+2,none⟩ (.int .i64 (kk+1+1)))):=HF.out.put (HP2_1.out) i 2 hlt (by omega)  (.int .i64 (kk+1+1)) (fun _ _ _ h=>by cases h);have hw3:wrap64 (kk+1+1+1)=kk+1+1+1:=yt _ ⟨by have a0:=HB.out;omega,by have a0:=HB.out;omega⟩;obtain⟨hex,hfz4⟩:=HF.out.ready (HP2_2.out) i hlt;obtain⟨v4,hv4⟩:=hex 3 (by omega);clear hex;have HP2_3:Hid (Marked lo hi w (((wm2.setCell ⟨bo,i*4+1,none⟩ (.string s2)).setCell ⟨bo,i*4+2,none⟩ (.int .i64 (kk+1+1))).setCell ⟨bo,i*4+3,none⟩ (.int .i64 (kk+1+1+1)))):=HF.out.put (HP2_2.out) i 3 hlt (by omega)  (.int .i64 (kk+1+1+1)) (fun _ _ _ h=>by cases h);have hw4:wrap64 (kk+1+1+1+1)=kk+1+1+1+1:=yt _ ⟨by have a0:=HB.out;omega,by have a0:=HB.out;omega⟩;go_wp2_with fail
   go_roundw
   case rel=>exact⟨i+1,kk+1+1+1+1,by omega,by first|rfl|rw[hw4],by rw[wrap_one (by have:=HL.out;omega)],by have a0:=HB.out;omega,by have a0:=HB.out;omega,HP2_3.out⟩
   case measure=>exact jq hlt (by have:=HL.out;omega)
  ·have e:i=ms.length:=by omega
   subst e;go_wp2_with fail
   go_ret;exact⟨kk,rfl,h1,h2,hM⟩
structure zaK (lo hi:Nat)(w:World)(bo:Nat)(ms:List Pu):Prop where
 low:lo<=bo
 high:bo<hi
 rows:∃C,w.heap[bo]?=some (.cells C 144)/\C.size=ms.length*5/\∀i,i<ms.length->(∀j,j<5->zbi C (i*5+j))
theorem zaK.mono {lo hi:Nat}{w w':World}{b:Nat}{ms:List Pu}(h:zaK lo hi w b ms)(hM:Marked lo hi w w'):zaK lo hi w' b ms:=by
 obtain⟨C,hC,hs,hn⟩:=h.rows;obtain⟨C',hC',hs',hk⟩:=hM.inn b C _ h.low h.high hC;refine⟨h.low,h.high,C',hC',by omega,fun i hi=>?_⟩;have h0:=hn i hi;exact fun j hj a m c he=>h0 j hj a m c ((hk _ a m c).1 he)
theorem zae.form {lo:Nat}{w:World}{bo:Nat}{ms:List Pu}(h:zae lo w bo ms ms.length):zaK lo w.heap.size w bo ms:=by
 obtain⟨C,hC,hsz,hr⟩:=h.rows;refine⟨h.low,(gES hC).1,C,hC,hsz,fun i hi j hj a n c he=>?_⟩;rw[hr i hi hi j hj]at he
 rcases j with _|_|_|_|_|j <;> first|omega|(simp[Pu.cells]at he)
theorem zaK.ready {lo hi bo:Nat}{w W:World}{ms:List Pu}(h:zaK lo hi w bo ms)(hM:Marked lo hi w W)(i:Nat)(hi':i<ms.length) :
 (∀j,j<5->∃v,W.cell? ⟨bo,i*5+j,none⟩=some v)/\(∀o,W.frozen? ⟨bo,o,none⟩=false):=by
 have h':=h.mono hM;obtain⟨C,hC,hs,hn⟩:=h'.rows;exact⟨fun j hj=>⟨C[i*5+j]'(by omega),by rw[cell_of_block hC];exact Array.getElem?_eq_getElem (by omega)⟩,fun o=>zh hC⟩
theorem zaK.put {lo hi bo:Nat}{w W:World}{ms:List Pu}(h:zaK lo hi w bo ms)(hM:Marked lo hi w W)(i j:Nat)(hi':i<ms.length)(hj:j<5)(v:Value)(hv:∀a n c,v≠Value.slice a n c):Marked lo hi w (W.setCell ⟨bo,i*5+j,none⟩ v):=by
 obtain⟨C,hC,hs,hn⟩:=h.rows;exact hM.put h.low h.high hC (hn i hi' j hj) v hv
set_option maxRecDepth 20000 in
theorem zf7 (lo hi bo cap:Nat)(ms:List Pu)(k:Int)(w:World)(h:zaK lo hi w bo ms)(hl:ms.length<=1048576)(hk:0<k)(hk2:k<5000000000000000000) :
 Calls Tryz.prog 52 #[.slice (some ⟨bo,0,none⟩) ms.length cap,.int .i64 k] w fun e w'=>∃k',e=.returned (.int .i64 k')/\k<=k'/\k'<=k+ms.length*5/\Marked lo hi w w':=by
 have HF:Hid (zaK lo hi w bo ms):=h;have HL:Hid (ms.length<=1048576):=hl;have HK:Hid (0<k/\k<5000000000000000000):=⟨hk,hk2⟩
 clear h hl hk hk2;go_enter Tryz.func52,Tryz.ntmps52;go_wp2_with fail
 go_loopw [1,5] (fun kv iv wr=>∃(i:Nat) (kk:Int),i<=ms.length/\kv=.int .i64 kk/\iv=.int .i64 i/\k<=kk/\kk<=k+i*5/\Marked lo hi w wr) (fun _ iv _=>ms.length-(intOf iv).toNat)
 case atStart=>exact⟨0,k,Nat.zero_le _,rfl,rfl,Int.le_refl _,by simp,Marked.refl _ _ _⟩
 case round=>
  obtain⟨i,kk,hile,rfl,rfl,h1,h2,hM⟩:=hrel
  by_cases hlt:i<ms.length
  ·have hltI:(i:Int)<(ms.length:Int):=by omega
   have HB:Hid (0<kk/\kk<7000000000000000000/\kk<=k+i*5/\k<=kk):=by have a:=HK.out;have b:=HL.out;exact⟨by omega,by omega,h2,h1⟩
   have HM:=hid hM;clear h1 h2 hM;go_wp2_with fail
   refine(zP _ _ (by have a0:=HB.out;omega) (by have a0:=HB.out;omega)).mono ?_;rintro e wm1⟨s1,rfl,hb⟩;have HM1:Hid (Marked lo hi w wm1):=(HM.out).trans (Marked.of_below hb);clear hb;obtain⟨hex,hfz1⟩:=HF.out.ready (HM1.out) i hlt;obtain⟨v1,hv1⟩:=hex 0 (by omega);rw[Nat.add_zero]at hv1;clear hex;have HP1_0:Hid (Marked lo hi w (wm1.setCell ⟨bo,i*5,none⟩ (.string s1))):=HF.out.put (HM1.out) i 0 hlt (by omega)  (.string s1) (fun _ _ _ h=>by cases h);have hw1:wrap64 (kk+1)=kk+1:=yt _ ⟨by have a0:=HB.out;omega,by have a0:=HB.out;omega⟩;go_wp2_with fail
   clear hfz1 hv1;refine(zP _ _ (by have a0:=HB.out;omega) (by have a0:=HB.out;omega)).mono ?_;rintro e wm2⟨s2,rfl,hb⟩;have HM2:Hid (Marked lo hi w wm2):=(HP1_0.out).trans (Marked.of_below hb);clear hb;obtain⟨hex,hfz2⟩:=HF.out.ready (HM2.out) i hlt;obtain⟨v2,hv2⟩:=hex 1 (by omega);clear hex;have HP2_1:Hid (Marked lo hi w (wm2.setCell ⟨bo,i*5+1,none⟩ (.string s2))):=HF.out.put (HM2.out) i 1 hlt (by omega)  (.string s2) (fun _ _ _ h=>by cases h);have hw2:wrap64 (kk+1+1)=kk+1+1:=yt _ ⟨by have a0:=HB.out;omega,by have a0:=HB.out;omega⟩;go_wp2_with fail
   clear hfz2 hv2;refine(zP _ _ (by have a0:=HB.out;omega) (by have a0:=HB.out;omega)).mono ?_;rintro e wm3⟨s3,rfl,hb⟩;have HM3:Hid (Marked lo hi w wm3):=(HP2_1.out).trans (Marked.of_below hb);clear hb;obtain⟨hex,hfz3⟩:=HF.out.ready (HM3.out) i hlt;obtain⟨v3,hv3⟩:=hex 2 (by omega);clear hex;have HP3_2:Hid (Marked lo hi w (wm3.setCell ⟨bo,i*5+2,none⟩ (.string s3))):=HF.out.put (HM3.out) i 2 hlt (by omega)  (.string s3) (fun _ _ _ h=>by cases h);have hw3:wrap64 (kk+1+1+1)=kk+1+1+1:=yt _ ⟨by have a0:=HB.out;omega,by have a0:=HB.out;omega⟩;obtain⟨hex,hfz4⟩:=HF.out.ready (HP3_2.out) i hlt;obtain⟨v4,hv4⟩:=hex 3 (by omega);clear hex;have HP3_3:Hid (Marked lo hi w ((wm3.setCell ⟨bo,i*5+2,none⟩ (.string s3)).setCell ⟨bo,i*5+3,none⟩ (.int .i64 (kk+1+1+1)))):=HF.out.put (HP3_2.out) i 3 hlt (by omega)  (.int .i64 (kk+1+1+1)) (fun _ _ _ h=>by cases h);have hw4:wrap64 (kk+1+1+1+1)=kk+1+1+1+1:=yt _ ⟨by have a0:=HB.out;omega,by have a0:=HB.out;omega⟩;obtain⟨hex,hfz5⟩:=HF.out.ready (HP3_3.out) i hlt;obtain⟨v5,hv5⟩:=hex 4 (by omega);clear hex;have HP3_4:Hid (Marked lo hi w (((wm3.setCell ⟨bo,i*5+2,none⟩ (.string s3)).setCell ⟨bo,i*5+3,none⟩ (.int .i64 (kk+1+1+1))).setCell ⟨bo,i*5+4,none⟩ (.int .i64 (kk+1+1+1+1)))):=HF.out.put (HP3_3.out) i 4 hlt (by omega)  (.int .i64 (kk+1+1+1+1)) (fun _ _ _ h=>by cases h);have hw5:wrap64 (kk+1+1+1+1+1)=kk+1+1+1+1+1:=yt _ ⟨by have a0:=HB.out;omega,by have a0:=HB.out;omega⟩;go_wp2_with fail
   go_roundw
   case rel=>exact⟨i+1,kk+1+1+1+1+1,by omega,by first|rfl|rw[hw5],by rw[wrap_one (by have:=HL.out;omega)],by have a0:=HB.out;omega,by have a0:=HB.out;omega,HP3_4.out⟩
   case measure=>exact jq hlt (by have:=HL.out;omega)
  ·have e:i=ms.length:=by omega
   subst e;go_wp2_with fail
   go_ret;exact⟨kk,rfl,h1,h2,hM⟩
structure zai (lo hi:Nat)(w:World)(bo:Nat)(ms:List Gr):Prop where
 low:lo<=bo
 high:bo<hi
 rows:∃C,w.heap[bo]?=some (.cells C 140)/\C.size=ms.length*7/\∀i (h:i<ms.length),(∀j,j<7->j≠3->zbi C (i*7+j))/\(∃bk cap,zbc lo hi w bk ms[i].r.vs.length/\C[i*7+3]?=some (.slice (some ⟨bk,0,none⟩) ms[i].r.vs.length cap))
theorem zai.mono {lo hi:Nat}{w w':World}{b:Nat}{ms:List Gr}(h:zai lo hi w b ms)(hM:Marked lo hi w w'):zai lo hi w' b ms:=by
 obtain⟨C,hC,hs,hn⟩:=h.rows;obtain⟨C',hC',hs',hk⟩:=hM.inn b C _ h.low h.high hC;refine⟨h.low,h.high,C',hC',by omega,fun i hi=>?_⟩;obtain⟨h0,⟨bk3,cap3,f3,g3⟩⟩:=hn i hi;exact⟨fun j hj n3 a m c he=>h0 j hj n3 a m c ((hk _ a m c).1 he),bk3,cap3,f3.mono hM,(hk _ _ _ _).2 g3⟩
theorem zjo (ws:List Int)(j:Nat):zbi (zb5 ws) j:=by
 intro a n c h
 simp[zb5]at h
theorem zad.form {lo:Nat}{w:World}{bo:Nat}{ms:List Gr}(h:zad lo w bo ms ms.length):zai lo w.heap.size w bo ms:=by
 obtain⟨C,hC,hsz,hr⟩:=h.rows;refine⟨h.low,(gES hC).1,C,hC,hsz,fun i hi=>?_⟩;obtain⟨g0,hl0,hn0,hg0,hc⟩:=hr i hi hi;refine⟨fun j hj n3 a n c he=>?_,g0,_,⟨hl0,(gES hg0).1,_,hg0,by simp[zb5],fun j _=>zjo _ j⟩,hc 3 (by omega)⟩;rw[hc j hj]at he
 rcases j with _|_|_|_|_|_|_|j <;> first|omega|(simp[Gr.cells]at he)
theorem zai.ready {lo hi bo:Nat}{w W:World}{ms:List Gr}(h:zai lo hi w bo ms)(hM:Marked lo hi w W)(i:Nat)(hi':i<ms.length) :
 (∀j,j<7->∃v,W.cell? ⟨bo,i*7+j,none⟩=some v)/\(∀o,W.frozen? ⟨bo,o,none⟩=false):=by
 have h':=h.mono hM;obtain⟨C,hC,hs,hn⟩:=h'.rows;exact⟨fun j hj=>⟨C[i*7+j]'(by omega),by rw[cell_of_block hC];exact Array.getElem?_eq_getElem (by omega)⟩,fun o=>zh hC⟩
theorem zai.put {lo hi bo:Nat}{w W:World}{ms:List Gr}(h:zai lo hi w bo ms)(hM:Marked lo hi w W)(i j:Nat)(hi':i<ms.length)(hj:j<7)(n3:j≠3)(v:Value)(hv:∀a n c,v≠Value.slice a n c):Marked lo hi w (W.setCell ⟨bo,i*7+j,none⟩ v):=by
 obtain⟨C,hC,hs,hn⟩:=h.rows;exact hM.put h.low h.high hC ((hn i hi').1 j hj n3) v hv
theorem zai.zqJ {lo hi bo:Nat}{w:World}{ms:List Gr}(h:zai lo hi w bo ms)(i:Nat)(hi':i<ms.length) :
 ∃bk cap,zbc lo hi w bk ms[i].r.vs.length/\∀W,Marked lo hi w W->W.cell? ⟨bo,i*7+3,none⟩=some (.slice (some ⟨bk,0,none⟩) ms[i].r.vs.length cap):=by
 obtain⟨C,hC,hs,hn⟩:=h.rows;obtain⟨bk,cap,h1,h2⟩:=(hn i hi').2;refine⟨bk,cap,h1,fun W hM=>?_⟩;obtain⟨C',hC',_,hk⟩:=hM.inn bo C _ h.low h.high hC;rw[cell_of_block hC'];exact(hk _ _ _ _).2 h2
set_option maxRecDepth 20000 in
theorem zfX (lo hi bo cap:Nat)(ms:List Gr)(k:Int)(w:World)(h:zai lo hi w bo ms)(hl:ms.length<=1048576)(hls:∀i (h:i<ms.length),ms[i].r.vs.length<=1048576)(hk:0<k)(hk2:k<5000000000000000000) :
 Calls Tryz.prog 50 #[.slice (some ⟨bo,0,none⟩) ms.length cap,.int .i64 k] w fun e w'=>∃k',e=.returned (.int .i64 k')/\k<=k'/\k'<=k+ms.length*1048583/\Marked lo hi w w':=by
 have HF:Hid (zai lo hi w bo ms):=h;have HL:Hid (ms.length<=1048576/\∀i (h:i<ms.length),ms[i].r.vs.length<=1048576):=⟨hl,hls⟩
 have HK:Hid (0<k/\k<5000000000000000000):=⟨hk,hk2⟩
 clear h hl hk hk2 hls;go_enter Tryz.func50,Tryz.ntmps50;go_wp2_with fail
 go_loopw [1,5] (fun kv iv wr=>∃(i:Nat) (kk:Int),i<=ms.length/\kv=.int .i64 kk/\iv=.int .i64 i/\k<=kk/\kk<=k+i*1048583/\Marked lo hi w wr) (fun _ iv _=>ms.length-(intOf iv).toNat)
 case atStart=>exact⟨0,k,Nat.zero_le _,rfl,rfl,Int.le_refl _,by simp,Marked.refl _ _ _⟩
 case round=>
  obtain⟨i,kk,hile,rfl,rfl,h1,h2,hM⟩:=hrel
  by_cases hlt:i<ms.length
  ·have hltI:(i:Int)<(ms.length:Int):=by omega
   have HB:Hid (0<kk/\kk<7000000000000000000/\kk<=k+i*1048583/\k<=kk):=by have a:=HK.out;have b:=HL.out.1;exact⟨by omega,by omega,h2,h1⟩
   have HM:Hid (Marked lo hi w wr):=hM;clear h1 h2 hM;obtain⟨bk3,bc3,hT,hsl⟩:=HF.out.zqJ i hlt;have HT3:Hid (zbc lo hi w bk3 ms[i].r.vs.length/\∀W,Marked lo hi w W->W.cell? ⟨bo,i*7+3,none⟩=some (.slice (some ⟨bk3,0,none⟩) ms[i].r.vs.length bc3)):=⟨hT,hsl⟩
   clear hT hsl;obtain⟨hex,hfz1⟩:=HF.out.ready (HM.out) i hlt;obtain⟨v1,hv1⟩:=hex 0 (by omega);rw[Nat.add_zero]at hv1;clear hex;have HP0_0:Hid (Marked lo hi w (wr.setCell ⟨bo,i*7,none⟩ (.int .i64 (kk)))):=HF.out.put (HM.out) i 0 hlt (by omega) (by omega) (.int .i64 (kk)) (fun _ _ _ h=>by cases h);have hw1:wrap64 (kk+1)=kk+1:=yt _ ⟨by have a0:=HB.out;omega,by have a0:=HB.out;omega⟩;go_wp2_with fail
   clear hfz1 hv1;refine(zP _ _ (by have a0:=HB.out;omega) (by have a0:=HB.out;omega)).mono ?_;rintro e wm1⟨s1,rfl,hb⟩;have HM1:Hid (Marked lo hi w wm1):=(HP0_0.out).trans (Marked.of_below hb);clear hb;obtain⟨hex,hfz2⟩:=HF.out.ready (HM1.out) i hlt;obtain⟨v2,hv2⟩:=hex 1 (by omega);clear hex;have HP1_1:Hid (Marked lo hi w (wm1.setCell ⟨bo,i*7+1,none⟩ (.string s1))):=HF.out.put (HM1.out) i 1 hlt (by omega) (by omega) (.string s1) (fun _ _ _ h=>by cases h);have hw2:wrap64 (kk+1+1)=kk+1+1:=yt _ ⟨by have a0:=HB.out;omega,by have a0:=HB.out;omega⟩;go_wp2_with fail
   clear hfz2 hv2;refine(zP _ _ (by have a0:=HB.out;omega) (by have a0:=HB.out;omega)).mono ?_;rintro e wm2⟨s2,rfl,hb⟩;have HM2:Hid (Marked lo hi w wm2):=(HP1_1.out).trans (Marked.of_below hb);clear hb;obtain⟨hex,hfz3⟩:=HF.out.ready (HM2.out) i hlt;obtain⟨v3,hv3⟩:=hex 2 (by omega);clear hex;have HP2_2:Hid (Marked lo hi w (wm2.setCell ⟨bo,i*7+2,none⟩ (.string s2))):=HF.out.put (HM2.out) i 2 hlt (by omega) (by omega) (.string s2) (fun _ _ _ h=>by cases h);have hw3:wrap64 (kk+1+1+1)=kk+1+1+1:=yt _ ⟨by have a0:=HB.out;omega,by have a0:=HB.out;omega⟩;have hsl3:=HT3.out.2 _ (HP2_2.out);go_wp2_with fail
   clear hfz3 hv3 hsl3;refine(zk5 lo hi bk3 _ bc3 _ _ (HT3.out.1.mono (HP2_2.out)) ((HL.out.2 i hlt)) (by have a0:=HB.out;omega) (by have a0:=HB.out;omega)).mono ?_;rintro e wm3⟨k3,rfl,hke,hMn⟩;have HM3:Hid (Marked lo hi w wm3):=(HP2_2.out).trans hMn;have HK3:Hid (k3=kk+1+1+1+ms[i].r.vs.length/\ms[i].r.vs.length<=1048576):=⟨by omega,(HL.out.2 i hlt)⟩
   clear hMn hke;go_wp2_with fail
   refine(zP _ _ (by have a0:=HB.out;have a1:=HK3.out;omega) (by have a0:=HB.out;have a1:=HK3.out;omega)).mono ?_;rintro e wm4⟨s4,rfl,hb⟩;have HM4:Hid (Marked lo hi w wm4):=(HM3.out).trans (Marked.of_below hb);clear hb;obtain⟨hex,hfz4⟩:=HF.out.ready (HM4.out) i hlt;obtain⟨v4,hv4⟩:=hex 4 (by omega);clear hex;have HP4_4:Hid (Marked lo hi w (wm4.setCell ⟨bo,i*7+4,none⟩ (.string s4))):=HF.out.put (HM4.out) i 4 hlt (by omega) (by omega) (.string s4) (fun _ _ _ h=>by cases h);have hw4:wrap64 (k3+1)=k3+1:=yt _ ⟨by have a0:=HB.out;have a1:=HK3.out;omega,by have a0:=HB.out;have a1:=HK3.out;omega⟩;go_wp2_with fail
   clear hfz4 hv4;refine(zP _ _ (by have a0:=HB.out;have a1:=HK3.out;omega) (by have a0:=HB.out;have a1:=HK3.out;omega)).mono ?_;rintro e wm5⟨s5,rfl,hb⟩;have HM5:Hid (Marked lo hi w wm5):=(HP4_4.out).trans (Marked.of_below hb);clear hb;obtain⟨hex,hfz5⟩:=HF.out.ready (HM5.out) i hlt;obtain⟨v5,hv5⟩:=hex 5 (by omega);clear hex;have HP5_5:Hid (Marked lo hi w (wm5.setCell ⟨bo,i*7+5,none⟩ (.string s5))):=HF.out.put (HM5.out) i 5 hlt (by omega) (by omega) (.string s5) (fun _ _ _ h=>by cases h);have hw5:wrap64 (k3+1+1)=k3+1+1:=yt _ ⟨by have a0:=HB.out;have a1:=HK3.out;omega,by have a0:=HB.out;have a1:=HK3.out;omega⟩;go_wp2_with fail
   clear hfz5 hv5;refine(zP _ _ (by have a0:=HB.out;have a1:=HK3.out;omega) (by have a0:=HB.out;have a1:=HK3.out;omega)).mono ?_;rintro e wm6⟨s6,rfl,hb⟩;have HM6:Hid (Marked lo hi w wm6):=(HP5_5.out).trans (Marked.of_below hb);clear hb;obtain⟨hex,hfz6⟩:=HF.out.ready (HM6.out) i hlt;obtain⟨v6,hv6⟩:=hex 6 (by omega);clear hex;have HP6_6:Hid (Marked lo hi w (wm6.setCell ⟨bo,i*7+6,none⟩ (.string s6))):=HF.out.put (HM6.out) i 6 hlt (by omega) (by omega) (.string s6) (fun _ _ _ h=>by cases h);have hw6:wrap64 (k3+1+1+1)=k3+1+1+1:=yt _ ⟨by have a0:=HB.out;have a1:=HK3.out;omega,by have a0:=HB.out;have a1:=HK3.out;omega⟩;go_wp2_with fail
   go_roundw
   case rel=>exact⟨i+1,k3+1+1+1,by omega,by first|rfl|rw[hw6],by rw[wrap_one (by have:=HL.out.1;omega)],by have a0:=HB.out;have a1:=HK3.out;omega,by have a0:=HB.out;have a1:=HK3.out;omega,HP6_6.out⟩
   case measure=>exact jq hlt (by have:=HL.out.1;omega)
  ·have e:i=ms.length:=by omega
   subst e;go_wp2_with fail
   go_ret;exact⟨kk,rfl,h1,h2,hM⟩
structure jV (lo hi:Nat)(w:World)(bo:Nat)(ms:List Ob):Prop where
 low:lo<=bo
 high:bo<hi
 rows:∃C,w.heap[bo]?=some (.cells C 123)/\C.size=ms.length*7/\∀i (h:i<ms.length),(∀j,j<7->j≠3->j≠5->zbi C (i*7+j))/\(∃bk cap,jQ lo hi w bk ms[i].vs.length/\C[i*7+3]?=some (.slice (some ⟨bk,0,none⟩) ms[i].vs.length cap))/\(∃bk cap,jQ lo hi w bk ms[i].hs.length/\C[i*7+5]?=some (.slice (some ⟨bk,0,none⟩) ms[i].hs.length cap))
theorem jV.mono {lo hi:Nat}{w w':World}{b:Nat}{ms:List Ob}(h:jV lo hi w b ms)(hM:Marked lo hi w w'):jV lo hi w' b ms:=by
 obtain⟨C,hC,hs,hn⟩:=h.rows;obtain⟨C',hC',hs',hk⟩:=hM.inn b C _ h.low h.high hC;refine⟨h.low,h.high,C',hC',by omega,fun i hi=>?_⟩;obtain⟨h0,⟨bk3,cap3,f3,g3⟩,⟨bk5,cap5,f5,g5⟩⟩:=hn i hi;exact⟨fun j hj n3 n5 a m c he=>h0 j hj n3 n5 a m c ((hk _ a m c).1 he),⟨bk3,cap3,f3.mono hM,(hk _ _ _ _).2 g3⟩,⟨bk5,cap5,f5.mono hM,(hk _ _ _ _).2 g5⟩⟩
theorem zan.form {lo:Nat}{w:World}{bo:Nat}{ms:List Ob}(h:zan lo w bo ms ms.length):jV lo w.heap.size w bo ms:=by
 obtain⟨C,hC,hsz,hr⟩:=h.rows;refine⟨h.low,(gES hC).1,C,hC,hsz,fun i hi=>?_⟩;obtain⟨g0,g1,hl0,hn0,hg0,hl1,hn1,hg1,hc⟩:=hr i hi hi;refine⟨fun j hj n3 n5 a n c he=>?_,⟨g0,_,⟨hl0,(gES hg0).1,_,hg0,by simp[jY],fun j _=>zc5 _ j⟩,hc 3 (by omega)⟩,⟨g1,_,⟨hl1,(gES hg1).1,_,hg1,by simp[jY],fun j _=>zc5 _ j⟩,hc 5 (by omega)⟩⟩;rw[hc j hj]at he
 rcases j with _|_|_|_|_|_|_|j <;> first|omega|(simp[Ob.row]at he)
theorem jV.ready {lo hi bo:Nat}{w W:World}{ms:List Ob}(h:jV lo hi w bo ms)(hM:Marked lo hi w W)(i:Nat)(hi':i<ms.length) :
 (∀j,j<7->∃v,W.cell? ⟨bo,i*7+j,none⟩=some v)/\(∀o,W.frozen? ⟨bo,o,none⟩=false):=by
 have h':=h.mono hM;obtain⟨C,hC,hs,hn⟩:=h'.rows;exact⟨fun j hj=>⟨C[i*7+j]'(by omega),by rw[cell_of_block hC];exact Array.getElem?_eq_getElem (by omega)⟩,fun o=>zh hC⟩
theorem jV.put {lo hi bo:Nat}{w W:World}{ms:List Ob}(h:jV lo hi w bo ms)(hM:Marked lo hi w W)(i j:Nat)(hi':i<ms.length)(hj:j<7)(n3:j≠3)(n5:j≠5)(v:Value)(hv:∀a n c,v≠Value.slice a n c):Marked lo hi w (W.setCell ⟨bo,i*7+j,none⟩ v):=by
 obtain⟨C,hC,hs,hn⟩:=h.rows;exact hM.put h.low h.high hC ((hn i hi').1 j hj n3 n5) v hv
theorem jV.zqJ {lo hi bo:Nat}{w:World}{ms:List Ob}(h:jV lo hi w bo ms)(i:Nat)(hi':i<ms.length) :
 ∃bk cap,jQ lo hi w bk ms[i].vs.length/\∀W,Marked lo hi w W->W.cell? ⟨bo,i*7+3,none⟩=some (.slice (some ⟨bk,0,none⟩) ms[i].vs.length cap):=by
 obtain⟨C,hC,hs,hn⟩:=h.rows;obtain⟨bk,cap,h1,h2⟩:=(hn i hi').2.1;refine⟨bk,cap,h1,fun W hM=>?_⟩;obtain⟨C',hC',_,hk⟩:=hM.inn bo C _ h.low h.high hC;rw[cell_of_block hC'];exact(hk _ _ _ _).2 h2
theorem jV.zra {lo hi bo:Nat}{w:World}{ms:List Ob}(h:jV lo hi w bo ms)(i:Nat)(hi':i<ms.length) :
 ∃bk cap,jQ lo hi w bk ms[i].hs.length/\∀W,Marked lo hi w W->W.cell? ⟨bo,i*7+5,none⟩=some (.slice (some ⟨bk,0,none⟩) ms[i].hs.length cap):=by
 obtain⟨C,hC,hs,hn⟩:=h.rows;obtain⟨bk,cap,h1,h2⟩:=(hn i hi').2.2;refine⟨bk,cap,h1,fun W hM=>?_⟩;obtain⟨C',hC',_,hk⟩:=hM.inn bo C _ h.low h.high hC;rw[cell_of_block hC'];exact(hk _ _ _ _).2 h2
set_option maxRecDepth 20000 in
theorem zfy (lo hi bo cap:Nat)(ms:List Ob)(k:Int)(w:World)(h:jV lo hi w bo ms)(hl:ms.length<=1048576)(hls:∀i (h:i<ms.length),ms[i].vs.length<=1048576/\ms[i].hs.length<=1048576)(hk:0<k)(hk2:k<5000000000000000000) :
 Calls Tryz.prog 49 #[.slice (some ⟨bo,0,none⟩) ms.length cap,.int .i64 k] w fun e w'=>∃k',e=.returned (.int .i64 k')/\k<=k'/\k'<=k+ms.length*2097159/\Marked lo hi w w':=by
 have HF:Hid (jV lo hi w bo ms):=h;have HL:Hid (ms.length<=1048576/\∀i (h:i<ms.length),ms[i].vs.length<=1048576/\ms[i].hs.length<=1048576):=⟨hl,hls⟩
 have HK:Hid (0<k/\k<5000000000000000000):=⟨hk,hk2⟩
 clear h hl hk hk2 hls;go_enter Tryz.func49,Tryz.ntmps49;go_wp2_with fail
 go_loopw [1,5] (fun kv iv wr=>∃(i:Nat) (kk:Int),i<=ms.length/\kv=.int .i64 kk/\iv=.int .i64 i/\k<=kk/\kk<=k+i*2097159/\Marked lo hi w wr) (fun _ iv _=>ms.length-(intOf iv).toNat)
 case atStart=>exact⟨0,k,Nat.zero_le _,rfl,rfl,Int.le_refl _,by simp,Marked.refl _ _ _⟩
 case round=>
  obtain⟨i,kk,hile,rfl,rfl,h1,h2,hM⟩:=hrel
  by_cases hlt:i<ms.length
  ·have hltI:(i:Int)<(ms.length:Int):=by omega
   have HB:Hid (0<kk/\kk<7000000000000000000/\kk<=k+i*2097159/\k<=kk):=by have a:=HK.out;have b:=HL.out.1;exact⟨by omega,by omega,h2,h1⟩
   have HM:Hid (Marked lo hi w wr):=hM;clear h1 h2 hM;obtain⟨bk3,bc3,hT,hsl⟩:=HF.out.zqJ i hlt;have HT3:Hid (jQ lo hi w bk3 ms[i].vs.length/\∀W,Marked lo hi w W->W.cell? ⟨bo,i*7+3,none⟩=some (.slice (some ⟨bk3,0,none⟩) ms[i].vs.length bc3)):=⟨hT,hsl⟩
   clear hT hsl;obtain⟨bk5,bc5,hT,hsl⟩:=HF.out.zra i hlt;have HT5:Hid (jQ lo hi w bk5 ms[i].hs.length/\∀W,Marked lo hi w W->W.cell? ⟨bo,i*7+5,none⟩=some (.slice (some ⟨bk5,0,none⟩) ms[i].hs.length bc5)):=⟨hT,hsl⟩
   clear hT hsl;go_wp2_with fail
   refine(zP _ _ (by have a0:=HB.out;omega) (by have a0:=HB.out;omega)).mono ?_;rintro e wm1⟨s1,rfl,hb⟩;have HM1:Hid (Marked lo hi w wm1):=(HM.out).trans (Marked.of_below hb);clear hb;obtain⟨hex,hfz1⟩:=HF.out.ready (HM1.out) i hlt;obtain⟨v1,hv1⟩:=hex 0 (by omega);rw[Nat.add_zero]at hv1;clear hex;have HP1_0:Hid (Marked lo hi w (wm1.setCell ⟨bo,i*7,none⟩ (.string s1))):=HF.out.put (HM1.out) i 0 hlt (by omega) (by omega) (by omega) (.string s1) (fun _ _ _ h=>by cases h);have hw1:wrap64 (kk+1)=kk+1:=yt _ ⟨by have a0:=HB.out;omega,by have a0:=HB.out;omega⟩;go_wp2_with fail
   clear hfz1 hv1;refine(zP _ _ (by have a0:=HB.out;omega) (by have a0:=HB.out;omega)).mono ?_;rintro e wm2⟨s2,rfl,hb⟩;have HM2:Hid (Marked lo hi w wm2):=(HP1_0.out).trans (Marked.of_below hb);clear hb;obtain⟨hex,hfz2⟩:=HF.out.ready (HM2.out) i hlt;obtain⟨v2,hv2⟩:=hex 1 (by omega);clear hex;have HP2_1:Hid (Marked lo hi w (wm2.setCell ⟨bo,i*7+1,none⟩ (.string s2))):=HF.out.put (HM2.out) i 1 hlt (by omega) (by omega) (by omega) (.string s2) (fun _ _ _ h=>by cases h);have hw2:wrap64 (kk+1+1)=kk+1+1:=yt _ ⟨by have a0:=HB.out;omega,by have a0:=HB.out;omega⟩;go_wp2_with fail
   clear hfz2 hv2;refine(zP _ _ (by have a0:=HB.out;omega) (by have a0:=HB.out;omega)).mono ?_;rintro e wm3⟨s3,rfl,hb⟩;have HM3:Hid (Marked lo hi w wm3):=(HP2_1.out).trans (Marked.of_below hb);clear hb;obtain⟨hex,hfz3⟩:=HF.out.ready (HM3.out) i hlt;obtain⟨v3,hv3⟩:=hex 2 (by omega);clear hex;have HP3_2:Hid (Marked lo hi w (wm3.setCell ⟨bo,i*7+2,none⟩ (.string s3))):=HF.out.put (HM3.out) i 2 hlt (by omega) (by omega) (by omega) (.string s3) (fun _ _ _ h=>by cases h);have hw3:wrap64 (kk+1+1+1)=kk+1+1+1:=yt _ ⟨by have a0:=HB.out;omega,by have a0:=HB.out;omega⟩;have hsl3:=HT3.out.2 _ (HP3_2.out);go_wp2_with fail
   clear hfz3 hv3 hsl3;refine(zb8 lo hi bk3 _ bc3 _ _ (HT3.out.1.mono (HP3_2.out)) ((HL.out.2 i hlt).1) (by have a0:=HB.out;omega) (by have a0:=HB.out;omega)).mono ?_;rintro e wm4⟨k4,rfl,hke,hMn⟩;have HM4:Hid (Marked lo hi w wm4):=(HP3_2.out).trans hMn;have HK4:Hid (k4=kk+1+1+1+ms[i].vs.length/\ms[i].vs.length<=1048576):=⟨by omega,(HL.out.2 i hlt).1⟩
   clear hMn hke;obtain⟨hex,hfz4⟩:=HF.out.ready (HM4.out) i hlt;obtain⟨v4,hv4⟩:=hex 4 (by omega);clear hex;have HP4_4:Hid (Marked lo hi w (wm4.setCell ⟨bo,i*7+4,none⟩ (.bool (k4 % 3 == 0)))):=HF.out.put (HM4.out) i 4 hlt (by omega) (by omega) (by omega) (.bool (k4 % 3 == 0)) (fun _ _ _ h=>by cases h);have htm:(k4).tmod 3=k4 % 3:=Int.tmod_eq_emod_of_nonneg (by have a0:=HB.out;have a1:=HK4.out;omega);have hwm:wrap64 (k4 % 3)=k4 % 3:=yt _ ⟨by omega,by omega⟩;have hw4:wrap64 (k4+1)=k4+1:=yt _ ⟨by have a0:=HB.out;have a1:=HK4.out;omega,by have a0:=HB.out;have a1:=HK4.out;omega⟩;have hsl5:=HT5.out.2 _ (HP4_4.out);go_wp2_with fail
   clear hfz4 hv4 htm hwm hsl5;refine(zb8 lo hi bk5 _ bc5 _ _ (HT5.out.1.mono (HP4_4.out)) ((HL.out.2 i hlt).2) (by have a0:=HB.out;have a1:=HK4.out;omega) (by have a0:=HB.out;have a1:=HK4.out;omega)).mono ?_;rintro e wm5⟨k5,rfl,hke,hMn⟩;have HM5:Hid (Marked lo hi w wm5):=(HP4_4.out).trans hMn;have HK5:Hid (k5=k4+1+ms[i].hs.length/\ms[i].hs.length<=1048576):=⟨by omega,(HL.out.2 i hlt).2⟩
   clear hMn hke;obtain⟨hex,hfz5⟩:=HF.out.ready (HM5.out) i hlt;obtain⟨v5,hv5⟩:=hex 6 (by omega);clear hex;have HP5_6:Hid (Marked lo hi w (wm5.setCell ⟨bo,i*7+6,none⟩ (.int .i64 (k5)))):=HF.out.put (HM5.out) i 6 hlt (by omega) (by omega) (by omega) (.int .i64 (k5)) (fun _ _ _ h=>by cases h);have hw5:wrap64 (k5+1)=k5+1:=yt _ ⟨by have a0:=HB.out;have a1:=HK4.out;have a2:=HK5.out;omega,by have a0:=HB.out;have a1:=HK4.out;have a2:=HK5.out;omega⟩;go_wp2_with fail
   go_roundw
   case rel=>exact⟨i+1,k5+1,by omega,by first|rfl|rw[hw5],by rw[wrap_one (by have:=HL.out.1;omega)],by have a0:=HB.out;have a1:=HK4.out;have a2:=HK5.out;omega,by have a0:=HB.out;have a1:=HK4.out;have a2:=HK5.out;omega,HP5_6.out⟩
   case measure=>exact jq hlt (by have:=HL.out.1;omega)
  ·have e:i=ms.length:=by omega
   subst e;go_wp2_with fail
   go_ret;exact⟨kk,rfl,h1,h2,hM⟩
def zbX (k n:Nat):List Int:=(List.range n).map fun i=>((k+i:Nat):Int)
theorem zbj (k n:Nat):(zbX k n).length=n:=by simp[zbX]
theorem zih (k n i:Nat)(h:i<(zbX k n).length):(zbX k n)[i]=((k+i:Nat):Int):=by simp[zbX]
theorem zcH {w:World}{lo:Nat}{v:Value}{xs:List Int}(h:w.ownsRow lo 3 1 v xs.length (ints xs))(hl:xs.length<=maxLen):∃a cap,v=.slice a xs.length cap/\qy w a xs:=by
 obtain⟨a,cap,rfl⟩:=yY h;refine⟨a,cap,rfl,hl,fun hne=>?_⟩;obtain⟨_,⟨h0,h1⟩|⟨g,cp,cur,h0,h1⟩⟩:=id h
 ·exact absurd (List.length_eq_zero_iff.1 h1) hne
 ·cases h0
  refine⟨g,0,rfl,(h.lt g rfl).2,fun i hi=>?_⟩;rw[Nat.zero_add,h.cellAt i (by omega)]
  simp[ints,hi]
theorem zkD (k:Int)(a:Option Addr)(cap:Nat)(w:World) :
 Calls Tryz.prog 15 #[.slice a 0 cap,.int .i64 k] w fun e w'=>e=.returned (.int .i64 k)/\w'=w:=by
 go_enter Tryz.func15,Tryz.ntmps15;go_wp2_with fail
 go_loopw [1,5] (fun kv iv wr=>kv=.int .i64 k/\iv=.int .i64 0/\wr=w) (fun _ _ _=>0)
 case atStart=>exact⟨rfl,rfl,rfl⟩
 case round=>
  obtain⟨rfl,rfl,rfl⟩:=hrel;go_wp2_with fail
  go_ret;exact⟨rfl,rfl⟩
theorem zmp (lo cap:Nat)(a:Option Addr)(n:Nat)(xs:List Value)(k:Nat)(w:World)(h:w.ownsRow lo 3 1 (.slice a n cap) n xs)(hi:∀(j:Nat) (a':Option Addr) (m c:Nat),xs[j]?≠some (Value.slice a' m c))(hn:n<=1048576)(hk:0<k)(hk2:k<1000000)(hlo:lo<=w.heap.size) :
 Calls Tryz.prog 15 #[.slice a n cap,.int .i64 k] w fun e w'=>e=.returned (.int .i64 ((k+n:Nat):Int))/\qy w' a (zbX k n)/\Below lo w w':=by
 obtain⟨hlx,⟨h0,h1⟩|⟨g,cp,cur,h0,h2,h3,h4,h5,h6,h7⟩⟩:=id h
 ·cases h0
  refine(zkD (k:Int) none 0 w).mono ?_;rintro e w'⟨rfl,rfl⟩;exact⟨by simp,⟨by rw[zbj];unfold maxLen;omega,fun hne=>absurd rfl hne⟩,bRf _ _⟩
 ·cases h0
  refine(zgh g n cap cur k w h3 (by omega) (fun i hin a' m c he=>hi i a' m c ?_) hk (by omega)).mono ?_
  ·rw[<- h7,List.getElem?_take_of_lt (by omega)]
   simpa using he
  ·rintro e w'⟨rfl,hM,C',hC',hs',hc'⟩
   refine⟨rfl,⟨by rw[zbj];unfold maxLen;omega,fun _=>⟨g,0,rfl,(gES hC').1,fun i hin=>?_⟩⟩,hM.below h2 hlo⟩;rw[zbj]at hin;rw[cell_of_block hC',Nat.zero_add,hc' i hin,zih]
theorem zmn (xs:List Int)(j:Nat)(a:Option Addr)(m c:Nat):(ints xs)[j]?≠some (Value.slice a m c):=by
 unfold ints;rw[List.getElem?_map]
 cases xs[j]? <;> simp
structure zec (lo:Nat)(w:World)(v:Value)(xs:List Int):Prop where
 row:w.ownsRow lo 3 1 v xs.length (ints xs)
theorem zec.mono {lo:Nat}{w w':World}{v:Value}{xs:List Int}(h:zec lo w v xs)(hb:Below w.heap.size w w'):zec lo w' v xs:=⟨yF h.row hb⟩
theorem zec.marked {lo lo' hi':Nat}{w w':World}{v:Value}{xs:List Int}(h:zec lo w v xs)(hM:Marked lo' hi' w w')(hl:hi'<=lo):zec lo w' v xs:=by
 refine⟨qW h.row fun g hg=>?_⟩;have h1:=h.row.lt g hg;exact hM.out g h1.2 (Or.inr (Nat.le_trans hl h1.1))
theorem zec.ints {lo:Nat}{w:World}{a:Option Addr}{c:Nat}{xs:List Int}(h:zec lo w (.slice a xs.length c) xs)(hl:xs.length<=maxLen):qy w a xs:=by
 obtain⟨a',c',e,hi⟩:=zcH h.row hl
 cases e
 exact hi
structure Grown (n:Nat)(w:World):Prop where
 size:n<=w.heap.size
theorem Grown.mono {n:Nat}{w w':World}(h:Grown n w)(hb:Below w.heap.size w w'):Grown n w':=⟨Nat.le_trans h.size hb.size⟩
structure Since (w0 w:World):Prop where
 below:Below w0.heap.size w0 w
theorem Since.mono {w0 w w':World}(h:Since w0 w)(hb:Below w.heap.size w w'):Since w0 w':=⟨h.below.trans (hb.mono h.below.size)⟩
theorem Since.low {w0 w w':World}{B:Nat}(h:Since w0 w)(hb:Below B w w')(hB:w0.heap.size<=B):Since w0 w':=⟨h.below.trans (hb.mono hB)⟩
theorem zgD (a:Option Addr)(cap:Nat)(n k:Nat)(w:World)(hw:qy w a (zbX k n))(hk:0<k)(hn:n<=1048576)(hk2:k<1000000) :
 Calls Tryz.prog 16 #[.slice a n cap,.int .i64 k] w fun e w'=>e=.returned (.int .i64 ((k+n:Nat):Int))/\w'=w:=by
 have HW:Hid (qy w a (zbX k n)):=hw;clear hw;go_enter Tryz.func16,Tryz.ntmps16;go_wp2_with fail
 go_loopw [1,5] (fun kv iv wr=>∃i:Nat,i<=n/\kv=.int .i64 ((k+i:Nat):Int)/\iv=.int .i64 i/\wr=w) (fun _ iv _=>n-(intOf iv).toNat)
 case atStart=>exact⟨0,Nat.zero_le _,rfl,rfl,rfl⟩
 case round=>
  obtain⟨i,hi,rfl,rfl,rfl⟩:=hrel
  by_cases hlt:i<n
  ·have hlt':i<(zbX k n).length:=by rw[zbj];exact hlt
   obtain⟨b,off,rfl,hb,hc⟩:=HW.out.cells (by intro e;rw[e]at hlt';simp at hlt');have hltI:(i:Int)<(n:Int):=by omega
   have hci:=hc i hlt';rw[zih]at hci;have hw1:wrap64 ((k+i:Nat)+1:Int)=((k+(i+1):Nat):Int):=by rw[yt _ ⟨by omega,by omega⟩];omega
   obtain⟨kk,hkk⟩:∃kk:Int,kk=((k+i:Nat):Int):=⟨_,rfl⟩
   rw[<- hkk]at hci hw1 ⊢;have hnn:(kk != kk)=false:=by simp
   clear hkk hc;go_wp2_with fail
   go_roundw
   case rel=>exact⟨i+1,by omega,by first|rw[hw1]|rfl,by go_num,trivial⟩
   case measure=>exact zm hlt
  ·have e:i=n:=by omega
   subst e;go_wp2_with fail
   go_ret;exact⟨rfl,rfl⟩
end Go.Proofs.YtnapmdofidgliaaGreat
