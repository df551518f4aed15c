import Derived.Test.YtghnakljnhnenaaGreatM47
import Derived.Test.YtghnakljnhnenaaGreatM39
set_option maxHeartbeats 8000000
namespace Go.Proofs.YtghnakljnhnenaaGreat
open Go.RowKit
structure zai (lo hi:Nat) (w:World) (bo:Nat) (ms:List Gr):Prop where
 low:lo<=bo
 high:bo < hi
 rows:∃ C,w.heap[bo]?=some (.cells C 132)/\C.size=ms.length * 7/\∀ i (h:i < ms.length),(∀ j,j < 7->j ≠ 3->zbi C (i * 7+j))/\(∃ bk cap,za6 lo hi w bk ms[i].r.vs.length/\C[i * 7+3]?=some (.slice (some ⟨bk,0,none⟩) ms[i].r.vs.length cap))
theorem zai.mono {lo hi:Nat} {w w':World} {b:Nat} {ms:List Gr} (h:zai lo hi w b ms) (hM:Marked lo hi w w'):zai lo hi w' b ms:=by
 obtain ⟨C,hC,hs,hn⟩:=h.rows;obtain ⟨C',hC',hs',hk⟩:=hM.inn b C _ h.low h.high hC;refine ⟨h.low,h.high,C',hC',by omega,fun i hi=>?_⟩;obtain ⟨h0,⟨bk3,cap3,f3,g3⟩⟩:=hn i hi;exact ⟨fun j hj n3 a m c he=>h0 j hj n3 a m c ((hk _ a m c).1 he),bk3,cap3,f3.mono hM,(hk _ _ _ _).2 g3⟩
theorem ziC (ws:List Int) (j:Nat):zbi (zbo ws) j:=by
 intro a n c h
 simp [zbo] at h
theorem jX.form {lo:Nat} {w:World} {bo:Nat} {ms:List Gr} (h:jX lo w bo ms ms.length):zai lo w.heap.size w bo ms:=by
 obtain ⟨C,hC,hsz,hr⟩:=h.rows;refine ⟨h.low,(gES hC).1,C,hC,hsz,fun i hi=>?_⟩;obtain ⟨g0,hl0,hn0,hg0,hc⟩:=hr i hi hi;refine ⟨fun j hj n3 a n c he=>?_,g0,_,⟨hl0,(gES hg0).1,_,hg0,by simp [zbo],fun j _=>ziC _ j⟩,hc 3 (by omega)⟩;rw [hc j hj] at he
 rcases j with _ | _ | _ | _ | _ | _ | _ | j <;> first | omega | (simp [Gr.cells] at he)
theorem zai.ready {lo hi bo:Nat} {w W:World} {ms:List Gr} (h:zai lo hi w bo ms) (hM:Marked lo hi w W) (i:Nat) (hi':i < ms.length) :
 (∀ j,j < 7->∃ v,W.cell? ⟨bo,i * 7+j,none⟩=some v)/\(∀ o,W.frozen? ⟨bo,o,none⟩=false):=by
 have h':=h.mono hM;obtain ⟨C,hC,hs,hn⟩:=h'.rows;exact ⟨fun j hj=>⟨C[i * 7+j]'(by omega),by rw [cell_of_block hC];exact Array.getElem?_eq_getElem (by omega)⟩,fun o=>zi hC⟩
theorem zai.put {lo hi bo:Nat} {w W:World} {ms:List Gr} (h:zai lo hi w bo ms) (hM:Marked lo hi w W) (i j:Nat) (hi':i < ms.length) (hj:j < 7) (n3:j ≠ 3) (v:Value) (hv:∀ a n c,v ≠ Value.slice a n c):Marked lo hi w (W.setCell ⟨bo,i * 7+j,none⟩ v):=by
 obtain ⟨C,hC,hs,hn⟩:=h.rows;exact hM.put h.low h.high hC ((hn i hi').1 j hj n3) v hv
theorem zai.zpe {lo hi bo:Nat} {w:World} {ms:List Gr} (h:zai lo hi w bo ms) (i:Nat) (hi':i < ms.length) :
 ∃ bk cap,za6 lo hi w bk ms[i].r.vs.length/\∀ W,Marked lo hi w W->W.cell? ⟨bo,i * 7+3,none⟩=some (.slice (some ⟨bk,0,none⟩) ms[i].r.vs.length cap):=by
 obtain ⟨C,hC,hs,hn⟩:=h.rows;obtain ⟨bk,cap,h1,h2⟩:=(hn i hi').2;refine ⟨bk,cap,h1,fun W hM=>?_⟩;obtain ⟨C',hC',_,hk⟩:=hM.inn bo C _ h.low h.high hC;rw [cell_of_block hC'];exact (hk _ _ _ _).2 h2
set_option maxRecDepth 20000 in
theorem zfC (lo hi bo cap:Nat) (ms:List Gr) (k:Int) (w:World) (h:zai lo hi w bo ms) (hl:ms.length<=1048576) (hls:∀ i (h:i < ms.length),ms[i].r.vs.length<=1048576) (hk:0 < k) (hk2:k < 5000000000000000000) :
 Calls Tryz.prog 48 #[.slice (some ⟨bo,0,none⟩) ms.length cap,.int .i64 k] w fun e w'=>∃ k',e = .returned (.int .i64 k')/\k<=k'/\k'<=k+ms.length * 1048583/\Marked lo hi w w':=by
 have HF:Hid (zai lo hi w bo ms):=h;have HL:Hid (ms.length<=1048576/\∀ i (h:i < ms.length),ms[i].r.vs.length<=1048576):=⟨hl,hls⟩
 have HK:Hid (0 < k/\k < 5000000000000000000):=⟨hk,hk2⟩
 clear h hl hk hk2 hls;go_enter Tryz.func48,Tryz.ntmps48;go_wp2_with fail
 go_loopw [1,5] (fun kv iv wr=>∃ (i:Nat) (kk:Int),i<=ms.length/\kv = .int .i64 kk/\iv = .int .i64 i/\k<=kk/\kk<=k+i * 1048583/\Marked lo hi w wr) (fun _ iv _=>ms.length - (intOf iv).toNat)
 case atStart=>exact ⟨0,k,Nat.zero_le _,rfl,rfl,Int.le_refl _,by simp,Marked.refl _ _ _⟩
 case round =>
  obtain ⟨i,kk,hile,rfl,rfl,h1,h2,hM⟩:=hrel
  by_cases hlt:i < ms.length
  ·have hltI:(i:Int) < (ms.length:Int):=by omega
   have HB:Hid (0 < kk/\kk < 7000000000000000000/\kk<=k+i * 1048583/\k<=kk):=by have a:=HK.out;have b:=HL.out.1;exact ⟨by omega,by omega,h2,h1⟩
   have HM:Hid (Marked lo hi w wr):=hM;clear h1 h2 hM;obtain ⟨bk3,bc3,hT,hsl⟩:=HF.out.zpe i hlt;have HT3:Hid (za6 lo hi w bk3 ms[i].r.vs.length/\∀ W,Marked lo hi w W->W.cell? ⟨bo,i * 7+3,none⟩=some (.slice (some ⟨bk3,0,none⟩) ms[i].r.vs.length bc3)):=⟨hT,hsl⟩
   clear hT hsl;obtain ⟨hex,hfz1⟩:=HF.out.ready (HM.out) i hlt;obtain ⟨v1,hv1⟩:=hex 0 (by omega);rw [Nat.add_zero] at hv1;clear hex;have HP0_0:Hid (Marked lo hi w (wr.setCell ⟨bo,i * 7,none⟩ (.int .i64 (kk)))):=HF.out.put (HM.out) i 0 hlt (by omega) (by omega) (.int .i64 (kk)) (fun _ _ _ h=>by cases h);have hw1:wrap64 (kk+1)=kk+1:=yw _ ⟨by have a0:=HB.out;omega,by have a0:=HB.out;omega⟩;go_wp2_with fail
   clear hfz1 hv1;refine (zS _ _ (by have a0:=HB.out;omega) (by have a0:=HB.out;omega)).mono ?_;rintro e wm1 ⟨s1,rfl,hb⟩;have HM1:Hid (Marked lo hi w wm1):=(HP0_0.out).trans (Marked.of_below hb);clear hb;obtain ⟨hex,hfz2⟩:=HF.out.ready (HM1.out) i hlt;obtain ⟨v2,hv2⟩:=hex 1 (by omega);clear hex;have HP1_1:Hid (Marked lo hi w (wm1.setCell ⟨bo,i * 7+1,none⟩ (.string s1))):=HF.out.put (HM1.out) i 1 hlt (by omega) (by omega) (.string s1) (fun _ _ _ h=>by cases h);have hw2:wrap64 (kk+1+1)=kk+1+1:=yw _ ⟨by have a0:=HB.out;omega,by have a0:=HB.out;omega⟩;go_wp2_with fail
   clear hfz2 hv2;refine (zS _ _ (by have a0:=HB.out;omega) (by have a0:=HB.out;omega)).mono ?_;rintro e wm2 ⟨s2,rfl,hb⟩;have HM2:Hid (Marked lo hi w wm2):=(HP1_1.out).trans (Marked.of_below hb);clear hb;obtain ⟨hex,hfz3⟩:=HF.out.ready (HM2.out) i hlt;obtain ⟨v3,hv3⟩:=hex 2 (by omega);clear hex;have HP2_2:Hid (Marked lo hi w (wm2.setCell ⟨bo,i * 7+2,none⟩ (.string s2))):=HF.out.put (HM2.out) i 2 hlt (by omega) (by omega) (.string s2) (fun _ _ _ h=>by cases h);have hw3:wrap64 (kk+1+1+1)=kk+1+1+1:=yw _ ⟨by have a0:=HB.out;omega,by have a0:=HB.out;omega⟩;have hsl3:=HT3.out.2 _ (HP2_2.out);go_wp2_with fail
   clear hfz3 hv3 hsl3;refine (zkj lo hi bk3 _ bc3 _ _ (HT3.out.1.mono (HP2_2.out)) ((HL.out.2 i hlt)) (by have a0:=HB.out;omega) (by have a0:=HB.out;omega)).mono ?_;rintro e wm3 ⟨k3,rfl,hke,hMn⟩;have HM3:Hid (Marked lo hi w wm3):=(HP2_2.out).trans hMn;have HK3:Hid (k3=kk+1+1+1+ms[i].r.vs.length/\ms[i].r.vs.length<=1048576):=⟨by omega,(HL.out.2 i hlt)⟩
   clear hMn hke;go_wp2_with fail
   refine (zS _ _ (by have a0:=HB.out;have a1:=HK3.out;omega) (by have a0:=HB.out;have a1:=HK3.out;omega)).mono ?_;rintro e wm4 ⟨s4,rfl,hb⟩;have HM4:Hid (Marked lo hi w wm4):=(HM3.out).trans (Marked.of_below hb);clear hb;obtain ⟨hex,hfz4⟩:=HF.out.ready (HM4.out) i hlt;obtain ⟨v4,hv4⟩:=hex 4 (by omega);clear hex;have HP4_4:Hid (Marked lo hi w (wm4.setCell ⟨bo,i * 7+4,none⟩ (.string s4))):=HF.out.put (HM4.out) i 4 hlt (by omega) (by omega) (.string s4) (fun _ _ _ h=>by cases h);have hw4:wrap64 (k3+1)=k3+1:=yw _ ⟨by have a0:=HB.out;have a1:=HK3.out;omega,by have a0:=HB.out;have a1:=HK3.out;omega⟩;go_wp2_with fail
   clear hfz4 hv4;refine (zS _ _ (by have a0:=HB.out;have a1:=HK3.out;omega) (by have a0:=HB.out;have a1:=HK3.out;omega)).mono ?_;rintro e wm5 ⟨s5,rfl,hb⟩;have HM5:Hid (Marked lo hi w wm5):=(HP4_4.out).trans (Marked.of_below hb);clear hb;obtain ⟨hex,hfz5⟩:=HF.out.ready (HM5.out) i hlt;obtain ⟨v5,hv5⟩:=hex 5 (by omega);clear hex;have HP5_5:Hid (Marked lo hi w (wm5.setCell ⟨bo,i * 7+5,none⟩ (.string s5))):=HF.out.put (HM5.out) i 5 hlt (by omega) (by omega) (.string s5) (fun _ _ _ h=>by cases h);have hw5:wrap64 (k3+1+1)=k3+1+1:=yw _ ⟨by have a0:=HB.out;have a1:=HK3.out;omega,by have a0:=HB.out;have a1:=HK3.out;omega⟩;go_wp2_with fail
   clear hfz5 hv5;refine (zS _ _ (by have a0:=HB.out;have a1:=HK3.out;omega) (by have a0:=HB.out;have a1:=HK3.out;omega)).mono ?_;rintro e wm6 ⟨s6,rfl,hb⟩;have HM6:Hid (Marked lo hi w wm6):=(HP5_5.out).trans (Marked.of_below hb);clear hb;obtain ⟨hex,hfz6⟩:=HF.out.ready (HM6.out) i hlt;obtain ⟨v6,hv6⟩:=hex 6 (by omega);clear hex;have HP6_6:Hid (Marked lo hi w (wm6.setCell ⟨bo,i * 7+6,none⟩ (.string s6))):=HF.out.put (HM6.out) i 6 hlt (by omega) (by omega) (.string s6) (fun _ _ _ h=>by cases h);have hw6:wrap64 (k3+1+1+1)=k3+1+1+1:=yw _ ⟨by have a0:=HB.out;have a1:=HK3.out;omega,by have a0:=HB.out;have a1:=HK3.out;omega⟩;go_wp2_with fail
   go_roundw
   case rel=>exact ⟨i+1,k3+1+1+1,by omega,by first | rfl | rw [hw6],by rw [wrap_one (by have:=HL.out.1;omega)],by have a0:=HB.out;have a1:=HK3.out;omega,by have a0:=HB.out;have a1:=HK3.out;omega,HP6_6.out⟩
   case measure=>exact jr hlt (by have:=HL.out.1;omega)
  ·have e:i=ms.length:=by omega
   subst e;go_wp2_with fail
   go_ret;exact ⟨kk,rfl,h1,h2,hM⟩
structure jT (lo hi:Nat) (w:World) (bo:Nat) (ms:List Ob):Prop where
 low:lo<=bo
 high:bo < hi
 rows:∃ C,w.heap[bo]?=some (.cells C 119)/\C.size=ms.length * 7/\∀ i (h:i < ms.length),(∀ j,j < 7->j ≠ 3->j ≠ 5->zbi C (i * 7+j))/\(∃ bk cap,jD lo hi w bk ms[i].vs.length/\C[i * 7+3]?=some (.slice (some ⟨bk,0,none⟩) ms[i].vs.length cap))/\(∃ bk cap,jD lo hi w bk ms[i].hs.length/\C[i * 7+5]?=some (.slice (some ⟨bk,0,none⟩) ms[i].hs.length cap))
theorem jT.mono {lo hi:Nat} {w w':World} {b:Nat} {ms:List Ob} (h:jT lo hi w b ms) (hM:Marked lo hi w w'):jT lo hi w' b ms:=by
 obtain ⟨C,hC,hs,hn⟩:=h.rows;obtain ⟨C',hC',hs',hk⟩:=hM.inn b C _ h.low h.high hC;refine ⟨h.low,h.high,C',hC',by omega,fun i hi=>?_⟩;obtain ⟨h0,⟨bk3,cap3,f3,g3⟩,⟨bk5,cap5,f5,g5⟩⟩:=hn i hi;exact ⟨fun j hj n3 n5 a m c he=>h0 j hj n3 n5 a m c ((hk _ a m c).1 he),⟨bk3,cap3,f3.mono hM,(hk _ _ _ _).2 g3⟩,⟨bk5,cap5,f5.mono hM,(hk _ _ _ _).2 g5⟩⟩
theorem j6.form {lo:Nat} {w:World} {bo:Nat} {ms:List Ob} (h:j6 lo w bo ms ms.length):jT lo w.heap.size w bo ms:=by
 obtain ⟨C,hC,hsz,hr⟩:=h.rows;refine ⟨h.low,(gES hC).1,C,hC,hsz,fun i hi=>?_⟩;obtain ⟨g0,g1,hl0,hn0,hg0,hl1,hn1,hg1,hc⟩:=hr i hi hi;refine ⟨fun j hj n3 n5 a n c he=>?_,⟨g0,_,⟨hl0,(gES hg0).1,_,hg0,by simp [jB],fun j _=>zcE _ j⟩,hc 3 (by omega)⟩,⟨g1,_,⟨hl1,(gES hg1).1,_,hg1,by simp [jB],fun j _=>zcE _ j⟩,hc 5 (by omega)⟩⟩;rw [hc j hj] at he
 rcases j with _ | _ | _ | _ | _ | _ | _ | j <;> first | omega | (simp [Ob.row] at he)
theorem jT.ready {lo hi bo:Nat} {w W:World} {ms:List Ob} (h:jT lo hi w bo ms) (hM:Marked lo hi w W) (i:Nat) (hi':i < ms.length) :
 (∀ j,j < 7->∃ v,W.cell? ⟨bo,i * 7+j,none⟩=some v)/\(∀ o,W.frozen? ⟨bo,o,none⟩=false):=by
 have h':=h.mono hM;obtain ⟨C,hC,hs,hn⟩:=h'.rows;exact ⟨fun j hj=>⟨C[i * 7+j]'(by omega),by rw [cell_of_block hC];exact Array.getElem?_eq_getElem (by omega)⟩,fun o=>zi hC⟩
theorem jT.put {lo hi bo:Nat} {w W:World} {ms:List Ob} (h:jT lo hi w bo ms) (hM:Marked lo hi w W) (i j:Nat) (hi':i < ms.length) (hj:j < 7) (n3:j ≠ 3) (n5:j ≠ 5) (v:Value) (hv:∀ a n c,v ≠ Value.slice a n c):Marked lo hi w (W.setCell ⟨bo,i * 7+j,none⟩ v):=by
 obtain ⟨C,hC,hs,hn⟩:=h.rows;exact hM.put h.low h.high hC ((hn i hi').1 j hj n3 n5) v hv
theorem jT.zpe {lo hi bo:Nat} {w:World} {ms:List Ob} (h:jT lo hi w bo ms) (i:Nat) (hi':i < ms.length) :
 ∃ bk cap,jD lo hi w bk ms[i].vs.length/\∀ W,Marked lo hi w W->W.cell? ⟨bo,i * 7+3,none⟩=some (.slice (some ⟨bk,0,none⟩) ms[i].vs.length cap):=by
 obtain ⟨C,hC,hs,hn⟩:=h.rows;obtain ⟨bk,cap,h1,h2⟩:=(hn i hi').2.1;refine ⟨bk,cap,h1,fun W hM=>?_⟩;obtain ⟨C',hC',_,hk⟩:=hM.inn bo C _ h.low h.high hC;rw [cell_of_block hC'];exact (hk _ _ _ _).2 h2
theorem jT.zqd {lo hi bo:Nat} {w:World} {ms:List Ob} (h:jT lo hi w bo ms) (i:Nat) (hi':i < ms.length) :
 ∃ bk cap,jD lo hi w bk ms[i].hs.length/\∀ W,Marked lo hi w W->W.cell? ⟨bo,i * 7+5,none⟩=some (.slice (some ⟨bk,0,none⟩) ms[i].hs.length cap):=by
 obtain ⟨C,hC,hs,hn⟩:=h.rows;obtain ⟨bk,cap,h1,h2⟩:=(hn i hi').2.2;refine ⟨bk,cap,h1,fun W hM=>?_⟩;obtain ⟨C',hC',_,hk⟩:=hM.inn bo C _ h.low h.high hC;rw [cell_of_block hC'];exact (hk _ _ _ _).2 h2
set_option maxRecDepth 20000 in
theorem ze3 (lo hi bo cap:Nat) (ms:List Ob) (k:Int) (w:World) (h:jT lo hi w bo ms) (hl:ms.length<=1048576) (hls:∀ i (h:i < ms.length),ms[i].vs.length<=1048576/\ms[i].hs.length<=1048576) (hk:0 < k) (hk2:k < 5000000000000000000) :
 Calls Tryz.prog 47 #[.slice (some ⟨bo,0,none⟩) ms.length cap,.int .i64 k] w fun e w'=>∃ k',e = .returned (.int .i64 k')/\k<=k'/\k'<=k+ms.length * 2097159/\Marked lo hi w w':=by
 have HF:Hid (jT lo hi w bo ms):=h;have HL:Hid (ms.length<=1048576/\∀ i (h:i < ms.length),ms[i].vs.length<=1048576/\ms[i].hs.length<=1048576):=⟨hl,hls⟩
 have HK:Hid (0 < k/\k < 5000000000000000000):=⟨hk,hk2⟩
 clear h hl hk hk2 hls;go_enter Tryz.func47,Tryz.ntmps47;go_wp2_with fail
 go_loopw [1,5] (fun kv iv wr=>∃ (i:Nat) (kk:Int),i<=ms.length/\kv = .int .i64 kk/\iv = .int .i64 i/\k<=kk/\kk<=k+i * 2097159/\Marked lo hi w wr) (fun _ iv _=>ms.length - (intOf iv).toNat)
 case atStart=>exact ⟨0,k,Nat.zero_le _,rfl,rfl,Int.le_refl _,by simp,Marked.refl _ _ _⟩
 case round =>
  obtain ⟨i,kk,hile,rfl,rfl,h1,h2,hM⟩:=hrel
  by_cases hlt:i < ms.length
  ·have hltI:(i:Int) < (ms.length:Int):=by omega
   have HB:Hid (0 < kk/\kk < 7000000000000000000/\kk<=k+i * 2097159/\k<=kk):=by have a:=HK.out;have b:=HL.out.1;exact ⟨by omega,by omega,h2,h1⟩
   have HM:Hid (Marked lo hi w wr):=hM;clear h1 h2 hM;obtain ⟨bk3,bc3,hT,hsl⟩:=HF.out.zpe i hlt;have HT3:Hid (jD lo hi w bk3 ms[i].vs.length/\∀ W,Marked lo hi w W->W.cell? ⟨bo,i * 7+3,none⟩=some (.slice (some ⟨bk3,0,none⟩) ms[i].vs.length bc3)):=⟨hT,hsl⟩
   clear hT hsl;obtain ⟨bk5,bc5,hT,hsl⟩:=HF.out.zqd i hlt;have HT5:Hid (jD lo hi w bk5 ms[i].hs.length/\∀ W,Marked lo hi w W->W.cell? ⟨bo,i * 7+5,none⟩=some (.slice (some ⟨bk5,0,none⟩) ms[i].hs.length bc5)):=⟨hT,hsl⟩
   clear hT hsl;go_wp2_with fail
   refine (zS _ _ (by have a0:=HB.out;omega) (by have a0:=HB.out;omega)).mono ?_;rintro e wm1 ⟨s1,rfl,hb⟩;have HM1:Hid (Marked lo hi w wm1):=(HM.out).trans (Marked.of_below hb);clear hb;obtain ⟨hex,hfz1⟩:=HF.out.ready (HM1.out) i hlt;obtain ⟨v1,hv1⟩:=hex 0 (by omega);rw [Nat.add_zero] at hv1;clear hex;have HP1_0:Hid (Marked lo hi w (wm1.setCell ⟨bo,i * 7,none⟩ (.string s1))):=HF.out.put (HM1.out) i 0 hlt (by omega) (by omega) (by omega) (.string s1) (fun _ _ _ h=>by cases h);have hw1:wrap64 (kk+1)=kk+1:=yw _ ⟨by have a0:=HB.out;omega,by have a0:=HB.out;omega⟩;go_wp2_with fail
   clear hfz1 hv1;refine (zS _ _ (by have a0:=HB.out;omega) (by have a0:=HB.out;omega)).mono ?_;rintro e wm2 ⟨s2,rfl,hb⟩;have HM2:Hid (Marked lo hi w wm2):=(HP1_0.out).trans (Marked.of_below hb);clear hb;obtain ⟨hex,hfz2⟩:=HF.out.ready (HM2.out) i hlt;obtain ⟨v2,hv2⟩:=hex 1 (by omega);clear hex;have HP2_1:Hid (Marked lo hi w (wm2.setCell ⟨bo,i * 7+1,none⟩ (.string s2))):=HF.out.put (HM2.out) i 1 hlt (by omega) (by omega) (by omega) (.string s2) (fun _ _ _ h=>by cases h);have hw2:wrap64 (kk+1+1)=kk+1+1:=yw _ ⟨by have a0:=HB.out;omega,by have a0:=HB.out;omega⟩;go_wp2_with fail
   clear hfz2 hv2;refine (zS _ _ (by have a0:=HB.out;omega) (by have a0:=HB.out;omega)).mono ?_;rintro e wm3 ⟨s3,rfl,hb⟩;have HM3:Hid (Marked lo hi w wm3):=(HP2_1.out).trans (Marked.of_below hb);clear hb;obtain ⟨hex,hfz3⟩:=HF.out.ready (HM3.out) i hlt;obtain ⟨v3,hv3⟩:=hex 2 (by omega);clear hex;have HP3_2:Hid (Marked lo hi w (wm3.setCell ⟨bo,i * 7+2,none⟩ (.string s3))):=HF.out.put (HM3.out) i 2 hlt (by omega) (by omega) (by omega) (.string s3) (fun _ _ _ h=>by cases h);have hw3:wrap64 (kk+1+1+1)=kk+1+1+1:=yw _ ⟨by have a0:=HB.out;omega,by have a0:=HB.out;omega⟩;have hsl3:=HT3.out.2 _ (HP3_2.out);go_wp2_with fail
   clear hfz3 hv3 hsl3;refine (zbV lo hi bk3 _ bc3 _ _ (HT3.out.1.mono (HP3_2.out)) ((HL.out.2 i hlt).1) (by have a0:=HB.out;omega) (by have a0:=HB.out;omega)).mono ?_;rintro e wm4 ⟨k4,rfl,hke,hMn⟩;have HM4:Hid (Marked lo hi w wm4):=(HP3_2.out).trans hMn;have HK4:Hid (k4=kk+1+1+1+ms[i].vs.length/\ms[i].vs.length<=1048576):=⟨by omega,(HL.out.2 i hlt).1⟩
   clear hMn hke;obtain ⟨hex,hfz4⟩:=HF.out.ready (HM4.out) i hlt;obtain ⟨v4,hv4⟩:=hex 4 (by omega);clear hex;have HP4_4:Hid (Marked lo hi w (wm4.setCell ⟨bo,i * 7+4,none⟩ (.bool (k4 % 3 == 0)))):=HF.out.put (HM4.out) i 4 hlt (by omega) (by omega) (by omega) (.bool (k4 % 3 == 0)) (fun _ _ _ h=>by cases h);have htm:(k4).tmod 3=k4 % 3:=Int.tmod_eq_emod_of_nonneg (by have a0:=HB.out;have a1:=HK4.out;omega);have hwm:wrap64 (k4 % 3)=k4 % 3:=yw _ ⟨by omega,by omega⟩;have hw4:wrap64 (k4+1)=k4+1:=yw _ ⟨by have a0:=HB.out;have a1:=HK4.out;omega,by have a0:=HB.out;have a1:=HK4.out;omega⟩;have hsl5:=HT5.out.2 _ (HP4_4.out);go_wp2_with fail
   clear hfz4 hv4 htm hwm hsl5;refine (zbV lo hi bk5 _ bc5 _ _ (HT5.out.1.mono (HP4_4.out)) ((HL.out.2 i hlt).2) (by have a0:=HB.out;have a1:=HK4.out;omega) (by have a0:=HB.out;have a1:=HK4.out;omega)).mono ?_;rintro e wm5 ⟨k5,rfl,hke,hMn⟩;have HM5:Hid (Marked lo hi w wm5):=(HP4_4.out).trans hMn;have HK5:Hid (k5=k4+1+ms[i].hs.length/\ms[i].hs.length<=1048576):=⟨by omega,(HL.out.2 i hlt).2⟩
   clear hMn hke;obtain ⟨hex,hfz5⟩:=HF.out.ready (HM5.out) i hlt;obtain ⟨v5,hv5⟩:=hex 6 (by omega);clear hex;have HP5_6:Hid (Marked lo hi w (wm5.setCell ⟨bo,i * 7+6,none⟩ (.int .i64 (k5)))):=HF.out.put (HM5.out) i 6 hlt (by omega) (by omega) (by omega) (.int .i64 (k5)) (fun _ _ _ h=>by cases h);have hw5:wrap64 (k5+1)=k5+1:=yw _ ⟨by have a0:=HB.out;have a1:=HK4.out;have a2:=HK5.out;omega,by have a0:=HB.out;have a1:=HK4.out;have a2:=HK5.out;omega⟩;go_wp2_with fail
   go_roundw
   case rel=>exact ⟨i+1,k5+1,by omega,by first | rfl | rw [hw5],by rw [wrap_one (by have:=HL.out.1;omega)],by have a0:=HB.out;have a1:=HK4.out;have a2:=HK5.out;omega,by have a0:=HB.out;have a1:=HK4.out;have a2:=HK5.out;omega,HP5_6.out⟩
   case measure=>exact jr hlt (by have:=HL.out.1;omega)
  ·have e:i=ms.length:=by omega
   subst e;go_wp2_with fail
   go_ret;exact ⟨kk,rfl,h1,h2,hM⟩
structure j4 (lo hi:Nat) (w:World) (bo:Nat) (ms:List Mnd):Prop where
 low:lo<=bo
 high:bo < hi
 rows:∃ C,w.heap[bo]?=some (.cells C 125)/\C.size=ms.length * 6/\∀ j,j < ms.length * 6->zbi C j
theorem j4.mono {lo hi:Nat} {w w':World} {b:Nat} {ms:List Mnd} (h:j4 lo hi w b ms) (hM:Marked lo hi w w'):j4 lo hi w' b ms:=by
 obtain ⟨C,hC,hs,hn⟩:=h.rows;obtain ⟨C',hC',hs',hk⟩:=hM.inn b C _ h.low h.high hC;exact ⟨h.low,h.high,C',hC',by omega,fun j hj a m c he=>hn j hj a m c ((hk j a m c).1 he)⟩
theorem jg.form {lo:Nat} {w:World} {bo:Nat} {ms:List Mnd} (h:jg lo w bo ms ms.length):j4 lo w.heap.size w bo ms:=by
 obtain ⟨C,hC,hsz,hr⟩:=h.rows;refine ⟨h.low,(gES hC).1,C,hC,hsz,fun j hj a n c he=>?_⟩;have hi:j / 6 < ms.length:=by omega
 have e:j=j / 6 * 6+j % 6:=by omega
 rw [e,hr (j / 6) hi hi (j % 6) (by omega)] at he;have h6:j % 6 < 6:=by omega
 revert he
 generalize j % 6=q at h6
 intro he
 rcases q with _ | _ | _ | _ | _ | _ | q <;> first | omega | (simp [Mnd.cells] at he)
theorem j4.ready {lo hi bo:Nat} {w W:World} {ms:List Mnd} (h:j4 lo hi w bo ms) (hM:Marked lo hi w W) (i:Nat) (hi':i < ms.length) :
 (∀ j,j < 6->∃ v,W.cell? ⟨bo,i * 6+j,none⟩=some v)/\(∀ o,W.frozen? ⟨bo,o,none⟩=false):=by
 have h':=h.mono hM;obtain ⟨C,hC,hs,hn⟩:=h'.rows;exact ⟨fun j hj=>⟨C[i * 6+j]'(by omega),by rw [cell_of_block hC];exact Array.getElem?_eq_getElem (by omega)⟩,fun o=>zi hC⟩
theorem j4.put {lo hi bo:Nat} {w W:World} {ms:List Mnd} (h:j4 lo hi w bo ms) (hM:Marked lo hi w W) (i j:Nat) (hi':i < ms.length) (hj:j < 6) (v:Value) (hv:∀ a n c,v ≠ Value.slice a n c):Marked lo hi w (W.setCell ⟨bo,i * 6+j,none⟩ v):=by
 obtain ⟨C,hC,hs,hn⟩:=h.rows;exact hM.put h.low h.high hC (hn (i * 6+j) (by omega)) v hv
set_option maxRecDepth 20000 in
theorem zf7 (lo hi bo cap:Nat) (ms:List Mnd) (k:Int) (w:World) (h:j4 lo hi w bo ms) (hl:ms.length<=1048576) (hk:0 < k) (hk2:k < 6000000000000000000) :
 Calls Tryz.prog 45 #[.slice (some ⟨bo,0,none⟩) ms.length cap,.int .i64 k] w fun e w'=>∃ k',e = .returned (.int .i64 k')/\k<=k'/\k'<=k+ms.length * 6/\Marked lo hi w w':=by
 have HF:Hid (j4 lo hi w bo ms):=h;have HL:Hid (ms.length<=1048576):=hl;have HK:Hid (0 < k/\k < 6000000000000000000):=⟨hk,hk2⟩
 clear h hl hk hk2;go_enter Tryz.func45,Tryz.ntmps45;go_wp2_with fail
 go_loopw [1,5] (fun kv iv wr=>∃ (i:Nat) (kk:Int),i<=ms.length/\kv = .int .i64 kk/\iv = .int .i64 i/\k<=kk/\kk<=k+i * 6/\Marked lo hi w wr) (fun _ iv _=>ms.length - (intOf iv).toNat)
 case atStart=>exact ⟨0,k,Nat.zero_le _,rfl,rfl,Int.le_refl _,by simp,Marked.refl _ _ _⟩
 case round =>
  obtain ⟨i,kk,hile,rfl,rfl,h1,h2,hM⟩:=hrel
  by_cases hlt:i < ms.length
  ·have hltI:(i:Int) < (ms.length:Int):=by omega
   have HB:Hid (0 < kk/\kk < 7000000000000000000/\kk<=k+i * 6/\k<=kk):=by have a:=HK.out;have b:=HL.out;exact ⟨by omega,by omega,h2,h1⟩
   have HM:Hid (Marked lo hi w wr):=hM;clear h1 h2 hM;have hw1:wrap64 (kk+1)=kk+1:=by have:=HB.out;exact yw _ ⟨by omega,by omega⟩
   have hw2:wrap64 (kk+1+1)=kk+1+1:=by have:=HB.out;exact yw _ ⟨by omega,by omega⟩
   have hw3:wrap64 (kk+1+1+1)=kk+1+1+1:=by have:=HB.out;exact yw _ ⟨by omega,by omega⟩
   have hw4:wrap64 (kk+1+1+1+1)=kk+1+1+1+1:=by have:=HB.out;exact yw _ ⟨by omega,by omega⟩
   have hw5:wrap64 (kk+1+1+1+1+1)=kk+1+1+1+1+1:=by have:=HB.out;exact yw _ ⟨by omega,by omega⟩
   have hw6:wrap64 (kk+1+1+1+1+1+1)=kk+1+1+1+1+1+1:=by have:=HB.out;exact yw _ ⟨by omega,by omega⟩
   go_wp2_with fail
   refine (zS _ _ (by have:=HB.out;omega) (by have:=HB.out;omega)).mono ?_;rintro e wm0 ⟨s0,rfl,hb⟩;have HM0:Hid (Marked lo hi w wm0):=HM.out.trans (Marked.of_below hb);clear hb;obtain ⟨hex,hfz⟩:=HF.out.ready HM0.out i hlt;obtain ⟨v0,hv0⟩:=hex 0 (by omega);rw [Nat.add_zero] at hv0;have HP0:Hid (Marked lo hi w (wm0.setCell ⟨bo,i * 6,none⟩ (.string s0))):=HF.out.put HM0.out i 0 hlt (by omega) (.string s0) (fun _ _ _ h=>by cases h);clear hex;go_wp2_with fail
   clear hv0 hfz;refine (zS _ _ (by have:=HB.out;omega) (by have:=HB.out;omega)).mono ?_;rintro e wm1 ⟨s1,rfl,hb⟩;have HM1:Hid (Marked lo hi w wm1):=HP0.out.trans (Marked.of_below hb);clear hb;obtain ⟨hex,hfz⟩:=HF.out.ready HM1.out i hlt;obtain ⟨v1,hv1⟩:=hex 1 (by omega);have HP1:Hid (Marked lo hi w (wm1.setCell ⟨bo,i * 6+1,none⟩ (.string s1))):=HF.out.put HM1.out i 1 hlt (by omega) (.string s1) (fun _ _ _ h=>by cases h);clear hex;go_wp2_with fail
   clear hv1 hfz;refine (zS _ _ (by have:=HB.out;omega) (by have:=HB.out;omega)).mono ?_;rintro e wm2 ⟨s2,rfl,hb⟩;have HM2:Hid (Marked lo hi w wm2):=HP1.out.trans (Marked.of_below hb);clear hb;obtain ⟨hex,hfz⟩:=HF.out.ready HM2.out i hlt;obtain ⟨v2,hv2⟩:=hex 2 (by omega);have HP2:Hid (Marked lo hi w (wm2.setCell ⟨bo,i * 6+2,none⟩ (.string s2))):=HF.out.put HM2.out i 2 hlt (by omega) (.string s2) (fun _ _ _ h=>by cases h);clear hex;go_wp2_with fail
   clear hv2 hfz;refine (zS _ _ (by have:=HB.out;omega) (by have:=HB.out;omega)).mono ?_;rintro e wm3 ⟨s3,rfl,hb⟩;have HM3:Hid (Marked lo hi w wm3):=HP2.out.trans (Marked.of_below hb);clear hb;obtain ⟨hex,hfz⟩:=HF.out.ready HM3.out i hlt;obtain ⟨v3,hv3⟩:=hex 3 (by omega);have HP3:Hid (Marked lo hi w (wm3.setCell ⟨bo,i * 6+3,none⟩ (.string s3))):=HF.out.put HM3.out i 3 hlt (by omega) (.string s3) (fun _ _ _ h=>by cases h);clear hex;go_wp2_with fail
   clear hv3 hfz;refine (zS _ _ (by have:=HB.out;omega) (by have:=HB.out;omega)).mono ?_;rintro e wm4 ⟨s4,rfl,hb⟩;have HM4:Hid (Marked lo hi w wm4):=HP3.out.trans (Marked.of_below hb);clear hb;obtain ⟨hex,hfz⟩:=HF.out.ready HM4.out i hlt;obtain ⟨v4,hv4⟩:=hex 4 (by omega);have HP4:Hid (Marked lo hi w (wm4.setCell ⟨bo,i * 6+4,none⟩ (.string s4))):=HF.out.put HM4.out i 4 hlt (by omega) (.string s4) (fun _ _ _ h=>by cases h);clear hex;go_wp2_with fail
   clear hv4 hfz;refine (zS _ _ (by have:=HB.out;omega) (by have:=HB.out;omega)).mono ?_;rintro e wm5 ⟨s5,rfl,hb⟩;have HM5:Hid (Marked lo hi w wm5):=HP4.out.trans (Marked.of_below hb);clear hb;obtain ⟨hex,hfz⟩:=HF.out.ready HM5.out i hlt;obtain ⟨v5,hv5⟩:=hex 5 (by omega);have HP5:Hid (Marked lo hi w (wm5.setCell ⟨bo,i * 6+5,none⟩ (.string s5))):=HF.out.put HM5.out i 5 hlt (by omega) (.string s5) (fun _ _ _ h=>by cases h);clear hex;go_wp2_with fail
   go_roundw
   case rel=>exact ⟨i+1,kk+1+1+1+1+1+1,by omega,by rw [hw6],by rw [wrap_one (by have:=HL.out;omega)],by have a:=HB.out;omega,by have a:=HB.out;omega,HP5.out⟩
   case measure=>exact jr hlt (by have:=HL.out;omega)
  ·have e:i=ms.length:=by omega
   subst e;go_wp2_with fail
   go_ret;exact ⟨kk,rfl,h1,h2,hM⟩
def Kept (lo hi:Nat) (w w':World):Prop:=∀ (k:Nat) (C:Array Value) (t:TypeId),lo<=k->k < hi->w.heap[k]?=some (.cells C t)->∃ C':Array Value,w'.heap[k]?=some (.cells C' t)/\C'.size=C.size/\∀ (j:Nat) a n c,C'[j]?=some (Value.slice a n c) ↔ C[j]?=some (Value.slice a n c)
theorem Marked.kept {lo hi:Nat} {w w':World} (h:Marked lo hi w w'):Kept lo hi w w':=h.inn
theorem Kept.of_below {lo hi:Nat} {w w':World} (h:Below w.heap.size w w'):Kept lo hi w w':=(Marked.of_below h).kept
theorem Kept.apart {lo hi lo' hi':Nat} {w w':World} (h:Marked lo hi w w') (ha:hi<=lo' \/ hi'<=lo):Kept lo' hi' w w':=fun k C _ h1 h2 hC=>⟨C,(h.out k (gES hC).1 (by omega)).trans hC,rfl,fun _ _ _ _=>Iff.rfl⟩
theorem jD.kept {lo hi:Nat} {w w':World} {b n:Nat} (h:jD lo hi w b n) (hM:Kept lo hi w w'):jD lo hi w' b n:=by
 obtain ⟨C,hC,hs,hn⟩:=h.rows;obtain ⟨C',hC',hs',hk⟩:=hM b C _ h.low h.high hC;exact ⟨h.low,h.high,C',hC',by omega,fun j hj a m c he=>hn j hj a m c ((hk j a m c).1 he)⟩
theorem jc.kept {lo hi:Nat} {w w':World} {b:Nat} {fs:List Fld} (h:jc lo hi w b fs) (hM:Kept lo hi w w'):jc lo hi w' b fs:=by
 obtain ⟨C,hC,hs,hn⟩:=h.rows;obtain ⟨C',hC',hs',hk⟩:=hM b C _ h.low h.high hC;refine ⟨h.low,h.high,C',hC',by omega,fun i hi=>?_⟩;obtain ⟨bk,cap,h1,h2,h3⟩:=hn i hi;exact ⟨bk,cap,h1.kept hM,(hk _ _ _ _).2 h2,fun j hj hj4 a m c he=>h3 j hj hj4 a m c ((hk _ a m c).1 he)⟩
theorem jC.kept {lo hi:Nat} {w w':World} {b:Nat} {ss:List Shp} (h:jC lo hi w b ss) (hM:Kept lo hi w w'):jC lo hi w' b ss:=by
 obtain ⟨C,hC,hs,hn⟩:=h.rows;obtain ⟨C',hC',hs',hk⟩:=hM b C _ h.low h.high hC;refine ⟨h.low,h.high,C',hC',by omega,fun i hi=>?_⟩;obtain ⟨bk,cap,h1,h2,h3⟩:=hn i hi;exact ⟨bk,cap,h1.kept hM,(hk _ _ _ _).2 h2,fun a m c he=>h3 a m c ((hk _ a m c).1 he)⟩
theorem j4.kept {lo hi:Nat} {w w':World} {b:Nat} {ms:List Mnd} (h:j4 lo hi w b ms) (hM:Kept lo hi w w'):j4 lo hi w' b ms:=by
 obtain ⟨C,hC,hs,hn⟩:=h.rows;obtain ⟨C',hC',hs',hk⟩:=hM b C _ h.low h.high hC;exact ⟨h.low,h.high,C',hC',by omega,fun j hj a m c he=>hn j hj a m c ((hk j a m c).1 he)⟩
theorem zaE.kept {lo hi:Nat} {w w':World} {b:Nat} {ms:List Tm} (h:zaE lo hi w b ms) (hM:Kept lo hi w w'):zaE lo hi w' b ms:=by
 obtain ⟨C,hC,hs,hn⟩:=h.rows;obtain ⟨C',hC',hs',hk⟩:=hM b C _ h.low h.high hC;refine ⟨h.low,h.high,C',hC',by omega,fun i hi=>?_⟩;have h0:=hn i hi;exact fun j hj a m c he=>h0 j hj a m c ((hk _ a m c).1 he)
theorem zaG.kept {lo hi:Nat} {w w':World} {b:Nat} {ms:List Lg} (h:zaG lo hi w b ms) (hM:Kept lo hi w w'):zaG lo hi w' b ms:=by
 obtain ⟨C,hC,hs,hn⟩:=h.rows;obtain ⟨C',hC',hs',hk⟩:=hM b C _ h.low h.high hC;refine ⟨h.low,h.high,C',hC',by omega,fun i hi=>?_⟩;have h0:=hn i hi;exact fun j hj a m c he=>h0 j hj a m c ((hk _ a m c).1 he)
theorem zaF.kept {lo hi:Nat} {w w':World} {b:Nat} {ms:List Pu} (h:zaF lo hi w b ms) (hM:Kept lo hi w w'):zaF lo hi w' b ms:=by
 obtain ⟨C,hC,hs,hn⟩:=h.rows;obtain ⟨C',hC',hs',hk⟩:=hM b C _ h.low h.high hC;refine ⟨h.low,h.high,C',hC',by omega,fun i hi=>?_⟩;have h0:=hn i hi;exact fun j hj a m c he=>h0 j hj a m c ((hk _ a m c).1 he)
theorem za6.kept {lo hi:Nat} {w w':World} {b n:Nat} (h:za6 lo hi w b n) (hM:Kept lo hi w w'):za6 lo hi w' b n:=by
 obtain ⟨C,hC,hs,hn⟩:=h.rows;obtain ⟨C',hC',hs',hk⟩:=hM b C _ h.low h.high hC;exact ⟨h.low,h.high,C',hC',by omega,fun j hj a m c he=>hn j hj a m c ((hk j a m c).1 he)⟩
theorem zai.kept {lo hi:Nat} {w w':World} {b:Nat} {ms:List Gr} (h:zai lo hi w b ms) (hM:Kept lo hi w w'):zai lo hi w' b ms:=by
 obtain ⟨C,hC,hs,hn⟩:=h.rows;obtain ⟨C',hC',hs',hk⟩:=hM b C _ h.low h.high hC;refine ⟨h.low,h.high,C',hC',by omega,fun i hi=>?_⟩;obtain ⟨h0,bk,cap,f1,g1⟩:=hn i hi;exact ⟨fun j hj n3 a m c he=>h0 j hj n3 a m c ((hk _ a m c).1 he),bk,cap,f1.kept hM,(hk _ _ _ _).2 g1⟩
theorem jT.kept {lo hi:Nat} {w w':World} {b:Nat} {ms:List Ob} (h:jT lo hi w b ms) (hM:Kept lo hi w w'):jT lo hi w' b ms:=by
 obtain ⟨C,hC,hs,hn⟩:=h.rows;obtain ⟨C',hC',hs',hk⟩:=hM b C _ h.low h.high hC;refine ⟨h.low,h.high,C',hC',by omega,fun i hi=>?_⟩;obtain ⟨h0,⟨bk,cap,f1,g1⟩,⟨bk2,cap2,f2,g2⟩⟩:=hn i hi;exact ⟨fun j hj n3 n5 a m c he=>h0 j hj n3 n5 a m c ((hk _ a m c).1 he),⟨bk,cap,f1.kept hM,(hk _ _ _ _).2 g1⟩,⟨bk2,cap2,f2.kept hM,(hk _ _ _ _).2 g2⟩⟩
structure zdX (lo hi:Nat) (w:World) (l:Lw) (a b c:Nat):Prop where
 ss:jC lo hi w a l.ss
 ms:j4 lo hi w b l.ms
 ts:zaE lo hi w c l.ts
structure zdL (lo hi:Nat) (w:World) (b:Bk) (g0 g1 g2 g3:Nat):Prop where
 os:jT lo hi w g0 b.os
 gs:zai lo hi w g1 b.gs
 ls:zaG lo hi w g2 b.ls
 ps:zaF lo hi w g3 b.ps
theorem zdX.kept {lo hi:Nat} {w w':World} {l:Lw} {a b c:Nat} (h:zdX lo hi w l a b c) (hM:Kept lo hi w w'):zdX lo hi w' l a b c:=⟨h.ss.kept hM,h.ms.kept hM,h.ts.kept hM⟩
theorem zdL.kept {lo hi:Nat} {w w':World} {b:Bk} {g0 g1 g2 g3:Nat} (h:zdL lo hi w b g0 g1 g2 g3) (hM:Kept lo hi w w'):zdL lo hi w' b g0 g1 g2 g3:=⟨h.os.kept hM,h.gs.kept hM,h.ls.kept hM,h.ps.kept hM⟩
theorem zdX.mono {lo hi:Nat} {w w':World} {l:Lw} {a b c:Nat} (h:zdX lo hi w l a b c) (hb:Below w.heap.size w w'):zdX lo hi w' l a b c:=h.kept (Kept.of_below hb)
theorem zdL.mono {lo hi:Nat} {w w':World} {b:Bk} {g0 g1 g2 g3:Nat} (h:zdL lo hi w b g0 g1 g2 g3) (hb:Below w.heap.size w w'):zdL lo hi w' b g0 g1 g2 g3:=h.kept (Kept.of_below hb)
theorem zlS.form {lo:Nat} {w:World} {l:Lw} {a b c:Nat} (h:zlS lo w l a b c):zdX lo w.heap.size w l a b c:=⟨h.ss.form,h.ms.form,h.ts.form⟩
theorem zmH.form {lo:Nat} {w:World} {b:Bk} {g0 g1 g2 g3:Nat} (h:zmH lo w b g0 g1 g2 g3):zdL lo w.heap.size w b g0 g1 g2 g3:=⟨h.os.form,h.gs.form,h.ls.form,h.ps.form⟩
theorem zgP (l:Lw) (a b c ca cb cc:Nat) (lo hi:Nat) (k:Int) (w:World) (h:zdX lo hi w l a b c) (hf:l.Few) (hhi:hi<=w.heap.size) (hk:0 < k) (hk2:k < 1000000000000000000) :
 Calls Tryz.prog 13 #[.agg #[.slice (some ⟨a,0,none⟩) l.ss.length ca,.slice (some ⟨b,0,none⟩) l.ms.length cb,.slice (some ⟨c,0,none⟩) l.ts.length cc],.int .i64 k] w fun e w'=>∃ k',e = .returned (.int .i64 k')/\0 < k'/\k' < 3000000000000000000/\Marked lo hi w w':=by
 have HF:Hid (zdX lo hi w l a b c):=h;have HL:Hid (l.Few):=hf;have HK:Hid (0 < k/\k < 1000000000000000000):=⟨hk,hk2⟩
 clear h hf hk hk2;go_enter Tryz.func13,Tryz.ntmps13;go_wp2_with fail
 have hX0:=zm w #[.slice (some ⟨a,0,none⟩) l.ss.length ca,.slice (some ⟨b,0,none⟩) l.ms.length cb,.slice (some ⟨c,0,none⟩) l.ts.length cc] 41;have HM0:Hid (Marked lo hi w (w.alloc (.cells #[.slice (some ⟨a,0,none⟩) l.ss.length ca,.slice (some ⟨b,0,none⟩) l.ms.length cb,.slice (some ⟨c,0,none⟩) l.ts.length cc] 41))):=Marked.of_below (bAl _ _);obtain ⟨W0,hW0⟩:∃ W0,W0=w.alloc (.cells #[.slice (some ⟨a,0,none⟩) l.ss.length ca,.slice (some ⟨b,0,none⟩) l.ms.length cb,.slice (some ⟨c,0,none⟩) l.ts.length cc] 41):=⟨_,rfl⟩
 have hz0:w.heap.size < W0.heap.size:=by rw [hW0];simp
 rw [<- hW0] at hX0 HM0 ⊢;clear hW0;refine (zfu lo hi _ _ _ _ _ (HF.out.ss.mono HM0.out) HL.out.ss.1 HL.out.ss.2 (by have a0:=HK.out;omega) (by have a0:=HK.out;omega)).mono ?_;rintro e w1 ⟨k1,rfl,h1,h2,hM⟩;have HK1:Hid (k<=k1/\k1<=k+1200000000000000000):=⟨h1,by have:=HL.out;have c1:=HL.out.ss.1;omega⟩
 have HM1:Hid (Marked lo hi w w1):=HM0.out.trans hM;have hX1:=hM.box hX0 hz0 (Or.inr hhi);have hz1:=nLt hz0 hM.size;clear h1 h2 hM hX0 hz0;go_wp2_with fail
 refine (zf7 lo hi _ _ _ _ _ (HF.out.ms.mono HM1.out) HL.out.ms (by have a0:=HK.out;have b1:=HK1.out;omega) (by have a0:=HK.out;have b1:=HK1.out;omega)).mono ?_;rintro e w2 ⟨k2,rfl,h1,h2,hM⟩;have HK2:Hid (k1<=k2/\k2<=k1+10000000):=⟨h1,by have:=HL.out;have c1:=HL.out.ms;omega⟩
 have HM2:Hid (Marked lo hi w w2):=HM1.out.trans hM;have hX2:=hM.box hX1 hz1 (Or.inr hhi);have hz2:=nLt hz1 hM.size;clear h1 h2 hM hX1 hz1;go_wp2_with fail
 refine (zgm lo hi _ _ _ _ _ (HF.out.ts.mono HM2.out) HL.out.ts (by have a0:=HK.out;have b1:=HK1.out;have b2:=HK2.out;omega) (by have a0:=HK.out;have b1:=HK1.out;have b2:=HK2.out;omega)).mono ?_;rintro e w3 ⟨k3,rfl,h1,h2,hM⟩;have HK3:Hid (k2<=k3/\k3<=k2+10000000):=⟨h1,by have:=HL.out;have c1:=HL.out.ts;omega⟩
 have HM3:Hid (Marked lo hi w w3):=HM2.out.trans hM;have hX3:=hM.box hX2 hz2 (Or.inr hhi);have hz3:=nLt hz2 hM.size;clear h1 h2 hM hX2 hz2;go_wp2_with fail
 go_ret;exact ⟨k3,rfl,by have a0:=HK.out;have b1:=HK1.out;have b2:=HK2.out;have b3:=HK3.out;omega,by have a0:=HK.out;have b1:=HK1.out;have b2:=HK2.out;have b3:=HK3.out;omega,HM3.out⟩
theorem zfN (b:Bk) (g0 g1 g2 g3 c0 c1 c2 c3:Nat) (lo hi:Nat) (k:Int) (w:World) (h:zdL lo hi w b g0 g1 g2 g3) (hf:b.Few) (hhi:hi<=w.heap.size) (hk:0 < k) (hk2:k < 3000000000000000000) :
 Calls Tryz.prog 14 #[.agg #[.int .i64 b.now,.int .i64 b.tick,.int .i64 b.given,.slice (some ⟨g0,0,none⟩) b.os.length c0,.slice (some ⟨g1,0,none⟩) b.gs.length c1,.slice (some ⟨g2,0,none⟩) b.ls.length c2,.slice (some ⟨g3,0,none⟩) b.ps.length c3],.int .i64 k] w fun e w'=>∃ k',e = .returned (.int .i64 k')/\0 < k'/\k' < 4000000000000000000/\Marked lo hi w w':=by
 have HF:Hid (zdL lo hi w b g0 g1 g2 g3):=h;have HL:Hid (b.Few):=hf;have HK:Hid (0 < k/\k < 3000000000000000000):=⟨hk,hk2⟩
 clear h hf hk hk2;go_enter Tryz.func14,Tryz.ntmps14;go_wp2_with fail
 have hX0:=zm w #[.int .i64 b.now,.int .i64 b.tick,.int .i64 b.given,.slice (some ⟨g0,0,none⟩) b.os.length c0,.slice (some ⟨g1,0,none⟩) b.gs.length c1,.slice (some ⟨g2,0,none⟩) b.ls.length c2,.slice (some ⟨g3,0,none⟩) b.ps.length c3] 48;have HM0:Hid (Marked lo hi w (w.alloc (.cells #[.int .i64 b.now,.int .i64 b.tick,.int .i64 b.given,.slice (some ⟨g0,0,none⟩) b.os.length c0,.slice (some ⟨g1,0,none⟩) b.gs.length c1,.slice (some ⟨g2,0,none⟩) b.ls.length c2,.slice (some ⟨g3,0,none⟩) b.ps.length c3] 48))):=Marked.of_below (bAl _ _);obtain ⟨W0,hW0⟩:∃ W0,W0=w.alloc (.cells #[.int .i64 b.now,.int .i64 b.tick,.int .i64 b.given,.slice (some ⟨g0,0,none⟩) b.os.length c0,.slice (some ⟨g1,0,none⟩) b.gs.length c1,.slice (some ⟨g2,0,none⟩) b.ls.length c2,.slice (some ⟨g3,0,none⟩) b.ps.length c3] 48):=⟨_,rfl⟩
 have hz0:w.heap.size < W0.heap.size:=by rw [hW0];simp
 rw [<- hW0] at hX0 HM0 ⊢;clear hW0;refine (ze3 lo hi _ _ _ _ _ (HF.out.os.mono HM0.out) HL.out.os.1 HL.out.os.2 (by have a0:=HK.out;omega) (by have a0:=HK.out;omega)).mono ?_;rintro e w1 ⟨k1,rfl,h1,h2,hM⟩;have HK1:Hid (k<=k1/\k1<=k+3000000000000):=⟨h1,by have:=HL.out;have c1:=HL.out.os.1;omega⟩
 have HM1:Hid (Marked lo hi w w1):=HM0.out.trans hM;have hX1:=hM.box hX0 hz0 (Or.inr hhi);have hz1:=nLt hz0 hM.size;clear h1 h2 hM hX0 hz0;go_wp2_with fail
 refine (zfC lo hi _ _ _ _ _ (HF.out.gs.mono HM1.out) HL.out.gs.1 HL.out.gs.2 (by have a0:=HK.out;have b1:=HK1.out;omega) (by have a0:=HK.out;have b1:=HK1.out;omega)).mono ?_;rintro e w2 ⟨k2,rfl,h1,h2,hM⟩;have HK2:Hid (k1<=k2/\k2<=k1+3000000000000):=⟨h1,by have:=HL.out;have c1:=HL.out.gs.1;omega⟩
 have HM2:Hid (Marked lo hi w w2):=HM1.out.trans hM;have hX2:=hM.box hX1 hz1 (Or.inr hhi);have hz2:=nLt hz1 hM.size;clear h1 h2 hM hX1 hz1;go_wp2_with fail
 refine (ze4 lo hi _ _ _ _ _ (HF.out.ls.mono HM2.out) HL.out.ls (by have a0:=HK.out;have b1:=HK1.out;have b2:=HK2.out;omega) (by have a0:=HK.out;have b1:=HK1.out;have b2:=HK2.out;omega)).mono ?_;rintro e w3 ⟨k3,rfl,h1,h2,hM⟩;have HK3:Hid (k2<=k3/\k3<=k2+10000000):=⟨h1,by have:=HL.out;have c1:=HL.out.ls;omega⟩
 have HM3:Hid (Marked lo hi w w3):=HM2.out.trans hM;have hX3:=hM.box hX2 hz2 (Or.inr hhi);have hz3:=nLt hz2 hM.size;clear h1 h2 hM hX2 hz2;go_wp2_with fail
 refine (zfv lo hi _ _ _ _ _ (HF.out.ps.mono HM3.out) HL.out.ps (by have a0:=HK.out;have b1:=HK1.out;have b2:=HK2.out;have b3:=HK3.out;omega) (by have a0:=HK.out;have b1:=HK1.out;have b2:=HK2.out;have b3:=HK3.out;omega)).mono ?_;rintro e w4 ⟨k4,rfl,h1,h2,hM⟩;have HK4:Hid (k3<=k4/\k4<=k3+10000000):=⟨h1,by have:=HL.out;have c1:=HL.out.ps;omega⟩
 have HM4:Hid (Marked lo hi w w4):=HM3.out.trans hM;have hX4:=hM.box hX3 hz3 (Or.inr hhi);have hz4:=nLt hz3 hM.size;clear h1 h2 hM hX3 hz3;go_wp2_with fail
 go_ret;exact ⟨k4,rfl,by have a0:=HK.out;have b1:=HK1.out;have b2:=HK2.out;have b3:=HK3.out;have b4:=HK4.out;omega,by have a0:=HK.out;have b1:=HK1.out;have b2:=HK2.out;have b3:=HK3.out;have b4:=HK4.out;omega,HM4.out⟩
end Go.Proofs.YtghnakljnhnenaaGreat
