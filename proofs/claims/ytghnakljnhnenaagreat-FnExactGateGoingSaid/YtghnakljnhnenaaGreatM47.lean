import Derived.Test.YtghnakljnhnenaaGreatM46
import Derived.Test.YtghnakljnhnenaaGreatM26
set_option maxHeartbeats 8000000
namespace Go.Proofs.YtghnakljnhnenaaGreat
open Go.RowKit
structure za6 (lo hi:Nat) (w:World) (b n:Nat):Prop where
 low:lo<=b
 high:b < hi
 rows:∃ C,w.heap[b]?=some (.cells C 3)/\n<=C.size/\∀ j,j < n->zbi C j
theorem za6.mono {lo hi:Nat} {w w':World} {b n:Nat} (h:za6 lo hi w b n) (hM:Marked lo hi w w'):za6 lo hi w' b n:=by
 obtain ⟨C,hC,hs,hn⟩:=h.rows;obtain ⟨C',hC',hs',hk⟩:=hM.inn b C _ h.low h.high hC;exact ⟨h.low,h.high,C',hC',by omega,fun j hj a m c he=>hn j hj a m c ((hk j a m c).1 he)⟩
theorem zgt (g n cap:Nat) (C:Array Value) (k:Nat) (w:World) (hC:w.heap[g]?=some (.cells C 3)) (hn:n<=C.size) (hns:∀ i,i < n->∀ a m c,C[i]? ≠ some (Value.slice a m c)) (hk:0 < k) (hkn:k+n < 9000000000000000000) :
 Calls Tryz.prog 15 #[.slice (some ⟨g,0,none⟩) n cap,.int .i64 k] w fun e w'=>e = .returned (.int .i64 ((k+n:Nat):Int))/\Marked g (g+1) w w'/\∃ C',w'.heap[g]?=some (.cells C' 3)/\C'.size=C.size/\∀ i,i < n->C'[i]?=some (.int .i64 ((k+i:Nat):Int)):=by
 have HS:Hid (∀ i,i < n->∀ a m c,C[i]? ≠ some (Value.slice a m c)):=hns;have HC:Hid (w.heap[g]?=some (.cells C 3)):=hC;have HN:Hid (n<=C.size):=hn;have HKN:Hid (k+n < 9000000000000000000):=hkn;clear hC hn hns hkn;go_enter Tryz.func15,Tryz.ntmps15;go_wp2_with fail
 go_loopw [1,5] (fun kv iv wr=>∃ i:Nat,i<=n/\kv = .int .i64 ((k+i:Nat):Int)/\iv = .int .i64 i/\Hid (Marked g (g+1) w wr/\∃ C',wr.heap[g]?=some (.cells C' 3)/\C'.size=C.size/\∀ j,j < i->C'[j]?=some (.int .i64 ((k+j:Nat):Int)))) (fun _ iv _=>n - (intOf iv).toNat)
 case atStart=>exact ⟨0,Nat.zero_le _,rfl,rfl,Marked.refl _ _ _,C,HC.out,rfl,fun j h=>absurd h (Nat.not_lt_zero _)⟩
 case round =>
  obtain ⟨i,hi,rfl,rfl,HQ⟩:=hrel;obtain ⟨hM,C',hC',hs',hc'⟩:=HQ.out
  by_cases hlt:i < n
  ·have hltI:(i:Int) < (n:Int):=by omega
   have hgw:g < wr.heap.size:=(gES hC').1;obtain ⟨cv,hce⟩:∃ cv,wr.cell? ⟨g,i,none⟩=some cv:=⟨C'[i]'(by have:=HN.out;omega),by rw [cell_of_block hC'];exact Array.getElem?_eq_getElem (by have:=HN.out;omega)⟩
   have hfz:∀ o,wr.frozen? ⟨g,o,none⟩=false:=fun o=>zi hC'
   have HE:Hid (Marked g (g+1) w (wr.setCell ⟨g,i,none⟩ (.int .i64 ((k+i:Nat):Int)))/\∃ C',(wr.setCell ⟨g,i,none⟩ (.int .i64 ((k+i:Nat):Int))).heap[g]?=some (.cells C' 3)/\C'.size=C.size/\∀ j,j < i+1->C'[j]?=some (.int .i64 ((k+j:Nat):Int))):=by
    refine ⟨hM.put (Nat.le_refl _) (Nat.lt_succ_self _) HC.out (HS.out i hlt) _ (fun _ _ _ h=>by cases h),_,zk hC' _,by simpa using hs',fun j hj=>?_⟩
    by_cases e:j=i
    ·subst e;rw [Array.getElem?_setIfInBounds_self_of_lt (by have:=HN.out;omega)]
    ·rw [Array.getElem?_setIfInBounds_ne (by omega)];exact hc' j (by omega)
   have hw1:wrap64 ((k+i:Nat)+1:Int)=((k+(i+1):Nat):Int):=by rw [yw _ ⟨by omega,by have:=HKN.out;omega⟩];omega
   clear HQ hM hC' hs' hc';obtain ⟨kk,hkk⟩:∃ kk:Int,kk=((k+i:Nat):Int):=⟨_,rfl⟩
   rw [<- hkk] at HE hw1 ⊢;clear hkk;go_wp2_with fail
   go_roundw
   case rel=>exact ⟨i+1,by omega,by rw [hw1],by rw [wrap_one (by have:=HKN.out;omega)],HE.out⟩
   case measure=>exact jr hlt (by have:=HKN.out;omega)
  ·have e:i=n:=by omega
   subst e;have HE:Hid (Marked g (g+1) w wr/\∃ C',wr.heap[g]?=some (.cells C' 3)/\C'.size=C.size/\∀ j,j < i->C'[j]?=some (.int .i64 ((k+j:Nat):Int))):=HQ.out;clear HQ hM hC' hs' hc';go_wp2_with fail
   go_ret;exact ⟨rfl,HE.out⟩
theorem zkj (lo hi b n cap:Nat) (k:Int) (w:World) (h:za6 lo hi w b n) (hn:n<=1048576) (hk:0 < k) (hk2:k < 8000000000000000000) :
 Calls Tryz.prog 15 #[.slice (some ⟨b,0,none⟩) n cap,.int .i64 k] w fun e w'=>∃ k',e = .returned (.int .i64 k')/\k'=k+n/\Marked lo hi w w':=by
 obtain ⟨m,rfl⟩:∃ m:Nat,k=m:=⟨k.toNat,by omega⟩
 obtain ⟨C,hC,hs,hns⟩:=h.rows;refine (zgt b n cap C m w hC hs hns (by omega) (by omega)).mono fun e w' ⟨h1,h2,_⟩=>⟨_,h1,Int.natCast_add _ _,h2.wide h.low h.high⟩
structure zaE (lo hi:Nat) (w:World) (bo:Nat) (ms:List Tm):Prop where
 low:lo<=bo
 high:bo < hi
 rows:∃ C,w.heap[bo]?=some (.cells C 127)/\C.size=ms.length * 2/\∀ i,i < ms.length->(∀ j,j < 2->zbi C (i * 2+j))
theorem zaE.mono {lo hi:Nat} {w w':World} {b:Nat} {ms:List Tm} (h:zaE lo hi w b ms) (hM:Marked lo hi w w'):zaE lo hi w' b ms:=by
 obtain ⟨C,hC,hs,hn⟩:=h.rows;obtain ⟨C',hC',hs',hk⟩:=hM.inn b C _ h.low h.high hC;refine ⟨h.low,h.high,C',hC',by omega,fun i hi=>?_⟩;have h0:=hn i hi;exact fun j hj a m c he=>h0 j hj a m c ((hk _ a m c).1 he)
theorem zab.form {lo:Nat} {w:World} {bo:Nat} {ms:List Tm} (h:zab 127 lo w bo ms ms.length):zaE lo w.heap.size w bo ms:=by
 obtain ⟨C,hC,hsz,hr⟩:=h.rows;refine ⟨h.low,(gES hC).1,C,hC,hsz,fun i hi j hj a n c he=>?_⟩;rw [hr i hi hi j hj] at he
 rcases j with _ | _ | j <;> first | omega | (simp [Tm.cells] at he)
theorem zaE.ready {lo hi bo:Nat} {w W:World} {ms:List Tm} (h:zaE lo hi w bo ms) (hM:Marked lo hi w W) (i:Nat) (hi':i < ms.length) :
 (∀ j,j < 2->∃ v,W.cell? ⟨bo,i * 2+j,none⟩=some v)/\(∀ o,W.frozen? ⟨bo,o,none⟩=false):=by
 have h':=h.mono hM;obtain ⟨C,hC,hs,hn⟩:=h'.rows;exact ⟨fun j hj=>⟨C[i * 2+j]'(by omega),by rw [cell_of_block hC];exact Array.getElem?_eq_getElem (by omega)⟩,fun o=>zi hC⟩
theorem zaE.put {lo hi bo:Nat} {w W:World} {ms:List Tm} (h:zaE lo hi w bo ms) (hM:Marked lo hi w W) (i j:Nat) (hi':i < ms.length) (hj:j < 2) (v:Value) (hv:∀ a n c,v ≠ Value.slice a n c):Marked lo hi w (W.setCell ⟨bo,i * 2+j,none⟩ v):=by
 obtain ⟨C,hC,hs,hn⟩:=h.rows;exact hM.put h.low h.high hC (hn i hi' j hj) v hv
set_option maxRecDepth 20000 in
theorem zgm (lo hi bo cap:Nat) (ms:List Tm) (k:Int) (w:World) (h:zaE lo hi w bo ms) (hl:ms.length<=1048576) (hk:0 < k) (hk2:k < 5000000000000000000) :
 Calls Tryz.prog 46 #[.slice (some ⟨bo,0,none⟩) ms.length cap,.int .i64 k] w fun e w'=>∃ k',e = .returned (.int .i64 k')/\k<=k'/\k'<=k+ms.length * 2/\Marked lo hi w w':=by
 have HF:Hid (zaE lo hi w bo ms):=h;have HL:Hid (ms.length<=1048576):=hl;have HK:Hid (0 < k/\k < 5000000000000000000):=⟨hk,hk2⟩
 clear h hl hk hk2;go_enter Tryz.func46,Tryz.ntmps46;go_wp2_with fail
 go_loopw [1,5] (fun kv iv wr=>∃ (i:Nat) (kk:Int),i<=ms.length/\kv = .int .i64 kk/\iv = .int .i64 i/\k<=kk/\kk<=k+i * 2/\Marked lo hi w wr) (fun _ iv _=>ms.length - (intOf iv).toNat)
 case atStart=>exact ⟨0,k,Nat.zero_le _,rfl,rfl,Int.le_refl _,by simp,Marked.refl _ _ _⟩
 case round =>
  obtain ⟨i,kk,hile,rfl,rfl,h1,h2,hM⟩:=hrel
  by_cases hlt:i < ms.length
  ·have hltI:(i:Int) < (ms.length:Int):=by omega
   have HB:Hid (0 < kk/\kk < 7000000000000000000/\kk<=k+i * 2/\k<=kk):=by have a:=HK.out;have b:=HL.out;exact ⟨by omega,by omega,h2,h1⟩
   have HM:Hid (Marked lo hi w wr):=hM;clear h1 h2 hM;go_wp2_with fail
   refine (zS _ _ (by have a0:=HB.out;omega) (by have a0:=HB.out;omega)).mono ?_;rintro e wm1 ⟨s1,rfl,hb⟩;have HM1:Hid (Marked lo hi w wm1):=(HM.out).trans (Marked.of_below hb);clear hb;obtain ⟨hex,hfz1⟩:=HF.out.ready (HM1.out) i hlt;obtain ⟨v1,hv1⟩:=hex 0 (by omega);rw [Nat.add_zero] at hv1;clear hex;have HP1_0:Hid (Marked lo hi w (wm1.setCell ⟨bo,i * 2,none⟩ (.string s1))):=HF.out.put (HM1.out) i 0 hlt (by omega)  (.string s1) (fun _ _ _ h=>by cases h);have hw1:wrap64 (kk+1)=kk+1:=yw _ ⟨by have a0:=HB.out;omega,by have a0:=HB.out;omega⟩;go_wp2_with fail
   clear hfz1 hv1;refine (zS _ _ (by have a0:=HB.out;omega) (by have a0:=HB.out;omega)).mono ?_;rintro e wm2 ⟨s2,rfl,hb⟩;have HM2:Hid (Marked lo hi w wm2):=(HP1_0.out).trans (Marked.of_below hb);clear hb;obtain ⟨hex,hfz2⟩:=HF.out.ready (HM2.out) i hlt;obtain ⟨v2,hv2⟩:=hex 1 (by omega);clear hex;have HP2_1:Hid (Marked lo hi w (wm2.setCell ⟨bo,i * 2+1,none⟩ (.string s2))):=HF.out.put (HM2.out) i 1 hlt (by omega)  (.string s2) (fun _ _ _ h=>by cases h);have hw2:wrap64 (kk+1+1)=kk+1+1:=yw _ ⟨by have a0:=HB.out;omega,by have a0:=HB.out;omega⟩;go_wp2_with fail
   go_roundw
   case rel=>exact ⟨i+1,kk+1+1,by omega,by first | rfl | rw [hw2],by rw [wrap_one (by have:=HL.out;omega)],by have a0:=HB.out;omega,by have a0:=HB.out;omega,HP2_1.out⟩
   case measure=>exact jr hlt (by have:=HL.out;omega)
  ·have e:i=ms.length:=by omega
   subst e;go_wp2_with fail
   go_ret;exact ⟨kk,rfl,h1,h2,hM⟩
structure zaG (lo hi:Nat) (w:World) (bo:Nat) (ms:List Lg):Prop where
 low:lo<=bo
 high:bo < hi
 rows:∃ C,w.heap[bo]?=some (.cells C 134)/\C.size=ms.length * 4/\∀ i,i < ms.length->(∀ j,j < 4->zbi C (i * 4+j))
theorem zaG.mono {lo hi:Nat} {w w':World} {b:Nat} {ms:List Lg} (h:zaG lo hi w b ms) (hM:Marked lo hi w w'):zaG lo hi w' b ms:=by
 obtain ⟨C,hC,hs,hn⟩:=h.rows;obtain ⟨C',hC',hs',hk⟩:=hM.inn b C _ h.low h.high hC;refine ⟨h.low,h.high,C',hC',by omega,fun i hi=>?_⟩;have h0:=hn i hi;exact fun j hj a m c he=>h0 j hj a m c ((hk _ a m c).1 he)
theorem jW.form {lo:Nat} {w:World} {bo:Nat} {ms:List Lg} (h:jW lo w bo ms ms.length):zaG lo w.heap.size w bo ms:=by
 obtain ⟨C,hC,hsz,hr⟩:=h.rows;refine ⟨h.low,(gES hC).1,C,hC,hsz,fun i hi j hj a n c he=>?_⟩;rw [hr i hi hi j hj] at he
 rcases j with _ | _ | _ | _ | j <;> first | omega | (simp [Lg.cells] at he)
theorem zaG.ready {lo hi bo:Nat} {w W:World} {ms:List Lg} (h:zaG lo hi w bo ms) (hM:Marked lo hi w W) (i:Nat) (hi':i < ms.length) :
 (∀ j,j < 4->∃ v,W.cell? ⟨bo,i * 4+j,none⟩=some v)/\(∀ o,W.frozen? ⟨bo,o,none⟩=false):=by
 have h':=h.mono hM;obtain ⟨C,hC,hs,hn⟩:=h'.rows;exact ⟨fun j hj=>⟨C[i * 4+j]'(by omega),by rw [cell_of_block hC];exact Array.getElem?_eq_getElem (by omega)⟩,fun o=>zi hC⟩
theorem zaG.put {lo hi bo:Nat} {w W:World} {ms:List Lg} (h:zaG lo hi w bo ms) (hM:Marked lo hi w W) (i j:Nat) (hi':i < ms.length) (hj:j < 4) (v:Value) (hv:∀ a n c,v ≠ Value.slice a n c):Marked lo hi w (W.setCell ⟨bo,i * 4+j,none⟩ v):=by
 obtain ⟨C,hC,hs,hn⟩:=h.rows;exact hM.put h.low h.high hC (hn i hi' j hj) v hv
set_option maxRecDepth 20000 in
theorem ze4 (lo hi bo cap:Nat) (ms:List Lg) (k:Int) (w:World) (h:zaG lo hi w bo ms) (hl:ms.length<=1048576) (hk:0 < k) (hk2:k < 5000000000000000000) :
 Calls Tryz.prog 49 #[.slice (some ⟨bo,0,none⟩) ms.length cap,.int .i64 k] w fun e w'=>∃ k',e = .returned (.int .i64 k')/\k<=k'/\k'<=k+ms.length * 4/\Marked lo hi w w':=by
 have HF:Hid (zaG lo hi w bo ms):=h;have HL:Hid (ms.length<=1048576):=hl;have HK:Hid (0 < k/\k < 5000000000000000000):=⟨hk,hk2⟩
 clear h hl hk hk2;go_enter Tryz.func49,Tryz.ntmps49;go_wp2_with fail
 go_loopw [1,5] (fun kv iv wr=>∃ (i:Nat) (kk:Int),i<=ms.length/\kv = .int .i64 kk/\iv = .int .i64 i/\k<=kk/\kk<=k+i * 4/\Marked lo hi w wr) (fun _ iv _=>ms.length - (intOf iv).toNat)
 case atStart=>exact ⟨0,k,Nat.zero_le _,rfl,rfl,Int.le_refl _,by simp,Marked.refl _ _ _⟩
 case round =>
  obtain ⟨i,kk,hile,rfl,rfl,h1,h2,hM⟩:=hrel
  by_cases hlt:i < ms.length
  ·have hltI:(i:Int) < (ms.length:Int):=by omega
   have HB:Hid (0 < kk/\kk < 7000000000000000000/\kk<=k+i * 4/\k<=kk):=by have a:=HK.out;have b:=HL.out;exact ⟨by omega,by omega,h2,h1⟩
   have HM:Hid (Marked lo hi w wr):=hM;clear h1 h2 hM;go_wp2_with fail
   refine (zS _ _ (by have a0:=HB.out;omega) (by have a0:=HB.out;omega)).mono ?_;rintro e wm1 ⟨s1,rfl,hb⟩;have HM1:Hid (Marked lo hi w wm1):=(HM.out).trans (Marked.of_below hb);clear hb;obtain ⟨hex,hfz1⟩:=HF.out.ready (HM1.out) i hlt;obtain ⟨v1,hv1⟩:=hex 0 (by omega);rw [Nat.add_zero] at hv1;clear hex;have HP1_0:Hid (Marked lo hi w (wm1.setCell ⟨bo,i * 4,none⟩ (.string s1))):=HF.out.put (HM1.out) i 0 hlt (by omega)  (.string s1) (fun _ _ _ h=>by cases h);have hw1:wrap64 (kk+1)=kk+1:=yw _ ⟨by have a0:=HB.out;omega,by have a0:=HB.out;omega⟩;go_wp2_with fail
   clear hfz1 hv1;refine (zS _ _ (by have a0:=HB.out;omega) (by have a0:=HB.out;omega)).mono ?_;rintro e wm2 ⟨s2,rfl,hb⟩;have HM2:Hid (Marked lo hi w wm2):=(HP1_0.out).trans (Marked.of_below hb);clear hb;obtain ⟨hex,hfz2⟩:=HF.out.ready (HM2.out) i hlt;obtain ⟨v2,hv2⟩:=hex 1 (by omega);clear hex;have HP2_1:Hid (Marked lo hi w (wm2.setCell ⟨bo,i * 4+1,none⟩ (.string s2))):=HF.out.put (HM2.out) i 1 hlt (by omega)  (.string s2) (fun _ _ _ h=>by cases h);have hw2:wrap64 (kk+1+1)=kk+1+1:=yw _ ⟨by have a0:=HB.out;omega,by have a0:=HB.out;omega⟩;obtain ⟨hex,hfz3⟩:=HF.out.ready (HP2_1.out) i hlt;obtain ⟨v3,hv3⟩:=hex 2 (by omega);clear hex;have HP2_2:Hid (Marked lo hi w ((wm2.setCell ⟨bo,i * 4+1,none⟩ (.string s2)).setCell ⟨bo,i * 4+2,none⟩ (.int .i64 (kk+1+1)))):=HF.out.put (HP2_1.out) i 2 hlt (by omega)  (.int .i64 (kk+1+1)) (fun _ _ _ h=>by cases h);have hw3:wrap64 (kk+1+1+1)=kk+1+1+1:=yw _ ⟨by have a0:=HB.out;omega,by have a0:=HB.out;omega⟩;obtain ⟨hex,hfz4⟩:=HF.out.ready (HP2_2.out) i hlt;obtain ⟨v4,hv4⟩:=hex 3 (by omega);clear hex;have HP2_3:Hid (Marked lo hi w (((wm2.setCell ⟨bo,i * 4+1,none⟩ (.string s2)).setCell ⟨bo,i * 4+2,none⟩ (.int .i64 (kk+1+1))).setCell ⟨bo,i * 4+3,none⟩ (.int .i64 (kk+1+1+1)))):=HF.out.put (HP2_2.out) i 3 hlt (by omega)  (.int .i64 (kk+1+1+1)) (fun _ _ _ h=>by cases h);have hw4:wrap64 (kk+1+1+1+1)=kk+1+1+1+1:=yw _ ⟨by have a0:=HB.out;omega,by have a0:=HB.out;omega⟩;go_wp2_with fail
   go_roundw
   case rel=>exact ⟨i+1,kk+1+1+1+1,by omega,by first | rfl | rw [hw4],by rw [wrap_one (by have:=HL.out;omega)],by have a0:=HB.out;omega,by have a0:=HB.out;omega,HP2_3.out⟩
   case measure=>exact jr hlt (by have:=HL.out;omega)
  ·have e:i=ms.length:=by omega
   subst e;go_wp2_with fail
   go_ret;exact ⟨kk,rfl,h1,h2,hM⟩
structure zaF (lo hi:Nat) (w:World) (bo:Nat) (ms:List Pu):Prop where
 low:lo<=bo
 high:bo < hi
 rows:∃ C,w.heap[bo]?=some (.cells C 136)/\C.size=ms.length * 5/\∀ i,i < ms.length->(∀ j,j < 5->zbi C (i * 5+j))
theorem zaF.mono {lo hi:Nat} {w w':World} {b:Nat} {ms:List Pu} (h:zaF lo hi w b ms) (hM:Marked lo hi w w'):zaF lo hi w' b ms:=by
 obtain ⟨C,hC,hs,hn⟩:=h.rows;obtain ⟨C',hC',hs',hk⟩:=hM.inn b C _ h.low h.high hC;refine ⟨h.low,h.high,C',hC',by omega,fun i hi=>?_⟩;have h0:=hn i hi;exact fun j hj a m c he=>h0 j hj a m c ((hk _ a m c).1 he)
theorem jV.form {lo:Nat} {w:World} {bo:Nat} {ms:List Pu} (h:jV lo w bo ms ms.length):zaF lo w.heap.size w bo ms:=by
 obtain ⟨C,hC,hsz,hr⟩:=h.rows;refine ⟨h.low,(gES hC).1,C,hC,hsz,fun i hi j hj a n c he=>?_⟩;rw [hr i hi hi j hj] at he
 rcases j with _ | _ | _ | _ | _ | j <;> first | omega | (simp [Pu.cells] at he)
theorem zaF.ready {lo hi bo:Nat} {w W:World} {ms:List Pu} (h:zaF lo hi w bo ms) (hM:Marked lo hi w W) (i:Nat) (hi':i < ms.length) :
 (∀ j,j < 5->∃ v,W.cell? ⟨bo,i * 5+j,none⟩=some v)/\(∀ o,W.frozen? ⟨bo,o,none⟩=false):=by
 have h':=h.mono hM;obtain ⟨C,hC,hs,hn⟩:=h'.rows;exact ⟨fun j hj=>⟨C[i * 5+j]'(by omega),by rw [cell_of_block hC];exact Array.getElem?_eq_getElem (by omega)⟩,fun o=>zi hC⟩
theorem zaF.put {lo hi bo:Nat} {w W:World} {ms:List Pu} (h:zaF lo hi w bo ms) (hM:Marked lo hi w W) (i j:Nat) (hi':i < ms.length) (hj:j < 5) (v:Value) (hv:∀ a n c,v ≠ Value.slice a n c):Marked lo hi w (W.setCell ⟨bo,i * 5+j,none⟩ v):=by
 obtain ⟨C,hC,hs,hn⟩:=h.rows;exact hM.put h.low h.high hC (hn i hi' j hj) v hv
set_option maxRecDepth 20000 in
theorem zfv (lo hi bo cap:Nat) (ms:List Pu) (k:Int) (w:World) (h:zaF lo hi w bo ms) (hl:ms.length<=1048576) (hk:0 < k) (hk2:k < 5000000000000000000) :
 Calls Tryz.prog 50 #[.slice (some ⟨bo,0,none⟩) ms.length cap,.int .i64 k] w fun e w'=>∃ k',e = .returned (.int .i64 k')/\k<=k'/\k'<=k+ms.length * 5/\Marked lo hi w w':=by
 have HF:Hid (zaF lo hi w bo ms):=h;have HL:Hid (ms.length<=1048576):=hl;have HK:Hid (0 < k/\k < 5000000000000000000):=⟨hk,hk2⟩
 clear h hl hk hk2;go_enter Tryz.func50,Tryz.ntmps50;go_wp2_with fail
 go_loopw [1,5] (fun kv iv wr=>∃ (i:Nat) (kk:Int),i<=ms.length/\kv = .int .i64 kk/\iv = .int .i64 i/\k<=kk/\kk<=k+i * 5/\Marked lo hi w wr) (fun _ iv _=>ms.length - (intOf iv).toNat)
 case atStart=>exact ⟨0,k,Nat.zero_le _,rfl,rfl,Int.le_refl _,by simp,Marked.refl _ _ _⟩
 case round =>
  obtain ⟨i,kk,hile,rfl,rfl,h1,h2,hM⟩:=hrel
  by_cases hlt:i < ms.length
  ·have hltI:(i:Int) < (ms.length:Int):=by omega
   have HB:Hid (0 < kk/\kk < 7000000000000000000/\kk<=k+i * 5/\k<=kk):=by have a:=HK.out;have b:=HL.out;exact ⟨by omega,by omega,h2,h1⟩
   have HM:Hid (Marked lo hi w wr):=hM;clear h1 h2 hM;go_wp2_with fail
   refine (zS _ _ (by have a0:=HB.out;omega) (by have a0:=HB.out;omega)).mono ?_;rintro e wm1 ⟨s1,rfl,hb⟩;have HM1:Hid (Marked lo hi w wm1):=(HM.out).trans (Marked.of_below hb);clear hb;obtain ⟨hex,hfz1⟩:=HF.out.ready (HM1.out) i hlt;obtain ⟨v1,hv1⟩:=hex 0 (by omega);rw [Nat.add_zero] at hv1;clear hex;have HP1_0:Hid (Marked lo hi w (wm1.setCell ⟨bo,i * 5,none⟩ (.string s1))):=HF.out.put (HM1.out) i 0 hlt (by omega)  (.string s1) (fun _ _ _ h=>by cases h);have hw1:wrap64 (kk+1)=kk+1:=yw _ ⟨by have a0:=HB.out;omega,by have a0:=HB.out;omega⟩;go_wp2_with fail
   clear hfz1 hv1;refine (zS _ _ (by have a0:=HB.out;omega) (by have a0:=HB.out;omega)).mono ?_;rintro e wm2 ⟨s2,rfl,hb⟩;have HM2:Hid (Marked lo hi w wm2):=(HP1_0.out).trans (Marked.of_below hb);clear hb;obtain ⟨hex,hfz2⟩:=HF.out.ready (HM2.out) i hlt;obtain ⟨v2,hv2⟩:=hex 1 (by omega);clear hex;have HP2_1:Hid (Marked lo hi w (wm2.setCell ⟨bo,i * 5+1,none⟩ (.string s2))):=HF.out.put (HM2.out) i 1 hlt (by omega)  (.string s2) (fun _ _ _ h=>by cases h);have hw2:wrap64 (kk+1+1)=kk+1+1:=yw _ ⟨by have a0:=HB.out;omega,by have a0:=HB.out;omega⟩;go_wp2_with fail
   clear hfz2 hv2;refine (zS _ _ (by have a0:=HB.out;omega) (by have a0:=HB.out;omega)).mono ?_;rintro e wm3 ⟨s3,rfl,hb⟩;have HM3:Hid (Marked lo hi w wm3):=(HP2_1.out).trans (Marked.of_below hb);clear hb;obtain ⟨hex,hfz3⟩:=HF.out.ready (HM3.out) i hlt;obtain ⟨v3,hv3⟩:=hex 2 (by omega);clear hex;have HP3_2:Hid (Marked lo hi w (wm3.setCell ⟨bo,i * 5+2,none⟩ (.string s3))):=HF.out.put (HM3.out) i 2 hlt (by omega)  (.string s3) (fun _ _ _ h=>by cases h);have hw3:wrap64 (kk+1+1+1)=kk+1+1+1:=yw _ ⟨by have a0:=HB.out;omega,by have a0:=HB.out;omega⟩;obtain ⟨hex,hfz4⟩:=HF.out.ready (HP3_2.out) i hlt;obtain ⟨v4,hv4⟩:=hex 3 (by omega);clear hex;have HP3_3:Hid (Marked lo hi w ((wm3.setCell ⟨bo,i * 5+2,none⟩ (.string s3)).setCell ⟨bo,i * 5+3,none⟩ (.int .i64 (kk+1+1+1)))):=HF.out.put (HP3_2.out) i 3 hlt (by omega)  (.int .i64 (kk+1+1+1)) (fun _ _ _ h=>by cases h);have hw4:wrap64 (kk+1+1+1+1)=kk+1+1+1+1:=yw _ ⟨by have a0:=HB.out;omega,by have a0:=HB.out;omega⟩;obtain ⟨hex,hfz5⟩:=HF.out.ready (HP3_3.out) i hlt;obtain ⟨v5,hv5⟩:=hex 4 (by omega);clear hex;have HP3_4:Hid (Marked lo hi w (((wm3.setCell ⟨bo,i * 5+2,none⟩ (.string s3)).setCell ⟨bo,i * 5+3,none⟩ (.int .i64 (kk+1+1+1))).setCell ⟨bo,i * 5+4,none⟩ (.int .i64 (kk+1+1+1+1)))):=HF.out.put (HP3_3.out) i 4 hlt (by omega)  (.int .i64 (kk+1+1+1+1)) (fun _ _ _ h=>by cases h);have hw5:wrap64 (kk+1+1+1+1+1)=kk+1+1+1+1+1:=yw _ ⟨by have a0:=HB.out;omega,by have a0:=HB.out;omega⟩;go_wp2_with fail
   go_roundw
   case rel=>exact ⟨i+1,kk+1+1+1+1+1,by omega,by first | rfl | rw [hw5],by rw [wrap_one (by have:=HL.out;omega)],by have a0:=HB.out;omega,by have a0:=HB.out;omega,HP3_4.out⟩
   case measure=>exact jr hlt (by have:=HL.out;omega)
  ·have e:i=ms.length:=by omega
   subst e;go_wp2_with fail
   go_ret;exact ⟨kk,rfl,h1,h2,hM⟩
end Go.Proofs.YtghnakljnhnenaaGreat
