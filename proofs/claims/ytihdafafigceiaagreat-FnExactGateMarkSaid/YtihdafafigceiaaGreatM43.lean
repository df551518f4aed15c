import Derived.Test.YtihdafafigceiaaGreatM42
import Derived.Test.YtihdafafigceiaaGreatM07
import Derived.Test.YtihdafafigceiaaGreatM06
import Derived.Test.YtihdafafigceiaaGreatM25
set_option maxHeartbeats 8000000
namespace Go.Proofs.YtihdafafigceiaaGreat
open Go.RowKit
theorem q9.ready {lo hi bo:Nat} {w W:World} {fs:List Fld} (h:q9 lo hi w bo fs) (hM:Marked lo hi w W) (i:Nat) (hi':i < fs.length) :
 (∀ j,j < 11->∃ v,W.cell? ⟨bo,i * 11+j,none⟩=some v)/\(∀ o,W.frozen? ⟨bo,o,none⟩=false):=by
 have h':=h.mono hM
 obtain ⟨C,hC,hs,hn⟩:=h'.rows
 exact ⟨fun j hj=>⟨C[i * 11+j]'(by omega),by rw [cell_of_block hC];exact Array.getElem?_eq_getElem (by omega)⟩,fun o=>zi hC⟩
theorem q9.words {lo hi bo:Nat} {w:World} {fs:List Fld} (h:q9 lo hi w bo fs) (i:Nat) (hi':i < fs.length) :
 ∃ bk cap,jB lo hi w bk fs[i].ws.length/\∀ W,Marked lo hi w W->W.cell? ⟨bo,i * 11+4,none⟩=some (.slice (some ⟨bk,0,none⟩) fs[i].ws.length cap):=by
 obtain ⟨C,hC,hs,hn⟩:=h.rows
 obtain ⟨bk,cap,h1,h2,_⟩:=hn i hi'
 refine ⟨bk,cap,h1,fun W hM=>?_⟩
 obtain ⟨C',hC',_,hk⟩:=hM.inn bo C _ h.low h.high hC
 rw [cell_of_block hC']
 exact (hk _ _ _ _).2 h2
theorem q9.put {lo hi bo:Nat} {w W:World} {fs:List Fld} (h:q9 lo hi w bo fs) (hM:Marked lo hi w W) (i j:Nat) (hi':i < fs.length) (hj:j < 11) (hj4:j ≠ 4) (v:Value) (hv:∀ a n c,v ≠ Value.slice a n c):Marked lo hi w (W.setCell ⟨bo,i * 11+j,none⟩ v):=by
 obtain ⟨C,hC,_,hn⟩:=h.rows
 obtain ⟨_,_,_,_,h3⟩:=hn i hi'
 exact hM.put h.low h.high hC (h3 j hj hj4) v hv
set_option maxRecDepth 20000 in
theorem zeZ (lo hi bo cap:Nat) (fs:List Fld) (k:Int) (w:World) (h:q9 lo hi w bo fs) (hl:fs.length<=1048576) (hls:∀ i (h:i < fs.length),fs[i].ws.length<=1048576) (hk:0 < k) (hk2:k < 4000000000000000000) :
 Calls Tryz.prog 81 #[.slice (some ⟨bo,0,none⟩) fs.length cap,.int .i64 k] w fun e w'=>∃ k',e = .returned (.int .i64 k')/\k<=k'/\k'<=k+fs.length * 1048586/\Marked lo hi w w':=by
 have HF:Hid (q9 lo hi w bo fs):=h
 have HL:Hid (fs.length<=1048576/\∀ i (h:i < fs.length),fs[i].ws.length<=1048576):=⟨hl,hls⟩
 have HK:Hid (0 < k/\k < 4000000000000000000):=⟨hk,hk2⟩
 clear h hl hls hk hk2
 go_enter Tryz.func81,Tryz.ntmps81
 go_wp2_with fail
 go_loopw [1,5] (fun kv iv wr=>∃ (i:Nat) (kk:Int),i<=fs.length/\kv = .int .i64 kk/\iv = .int .i64 i/\k<=kk/\kk<=k+i * 1048586/\Marked lo hi w wr) (fun _ iv _=>fs.length - (intOf iv).toNat)
 case atStart=>exact ⟨0,k,Nat.zero_le _,rfl,rfl,Int.le_refl _,by simp,Marked.refl _ _ _⟩
 case round =>
  obtain ⟨i,kk,hile,rfl,rfl,h1,h2,hM⟩:=hrel
  by_cases hlt:i < fs.length
  ·have hltI:(i:Int) < (fs.length:Int):=by omega
   have HB:Hid (0 < kk/\kk < 7000000000000000000/\kk<=k+i * 1048586/\k<=kk):=by have a:=HK.out;have b:=HL.out.1;exact ⟨by omega,by omega,h2,h1⟩
   have HM:Hid (Marked lo hi w wr):=hM
   clear h1 h2 hM
   obtain ⟨bk,bcap,hT,hsl⟩:=HF.out.words i hlt
   have HT:Hid (jB lo hi w bk fs[i].ws.length/\∀ W,Marked lo hi w W->W.cell? ⟨bo,i * 11+4,none⟩=some (.slice (some ⟨bk,0,none⟩) fs[i].ws.length bcap)):=⟨hT,hsl⟩
   clear hT hsl
   go_wp2_with fail
   refine (zR _ _ HB.out.1 (by have:=HB.out;omega)).mono ?_
   rintro e w1 ⟨s1,rfl,hb1⟩
   have HM1:Hid (Marked lo hi w w1):=HM.out.trans (Marked.of_below hb1)
   clear hb1
   have hsl:=HT.out.2 _ HM1.out
   obtain ⟨hex,hfz⟩:=HF.out.ready HM1.out i hlt
   obtain ⟨v0,hv0⟩:=hex 0 (by omega)
   obtain ⟨v1,hv1⟩:=hex 1 (by omega)
   obtain ⟨v2,hv2⟩:=hex 2 (by omega)
   obtain ⟨v3,hv3⟩:=hex 3 (by omega)
   rw [Nat.add_zero] at hv0
   have hwkk1:wrap64 (kk+1)=kk+1:=by have:=HB.out;exact yw _ ⟨by omega,by omega⟩
   have hwkk2:wrap64 (kk+1+1)=kk+1+1:=by have:=HB.out;exact yw _ ⟨by omega,by omega⟩
   have hwkk3:wrap64 (kk+1+1+1)=kk+1+1+1:=by have:=HB.out;exact yw _ ⟨by omega,by omega⟩
   have hwkk4:wrap64 (kk+1+1+1+1)=kk+1+1+1+1:=by have:=HB.out;exact yw _ ⟨by omega,by omega⟩
   clear hex
   go_wp2_with fail
   have HMW:=HF.out.put (HF.out.put (HF.out.put (HF.out.put HM1.out i 0 hlt (by omega) (by omega) (.string s1) (fun _ _ _ h=>by cases h)) i 1 hlt (by omega) (by omega) (.int .i64 (kk+1)) (fun _ _ _ h=>by cases h)) i 2 hlt (by omega) (by omega) (.int .i64 (kk+1+1)) (fun _ _ _ h=>by cases h)) i 3 hlt (by omega) (by omega) (.int .i64 (kk+1+1+1)) (fun _ _ _ h=>by cases h)
   refine (zbC lo hi bk _ bcap _ _ (HT.out.1.mono HMW) (HL.out.2 i hlt) (by have:=HB.out;omega) (by have:=HB.out;omega)).mono ?_
   rintro e w2 ⟨k2,rfl,hk2,hM2⟩
   have HM2:Hid (Marked lo hi w w2):=HMW.trans hM2
   have HB2:Hid (kk < k2/\k2<=kk+4+1048576/\0 < k2):=by have a:=HL.out.2 i hlt;have b:=HB.out;exact ⟨by omega,by omega,by omega⟩
   clear HMW hM2 hk2 hv0 hv1 hv2 hv3 hfz hsl
   go_wp2_with fail
   refine (zR _ _ HB2.out.2.2 (by have:=HB.out;have:=HB2.out;omega)).mono ?_
   rintro e w3 ⟨s3,rfl,hb3⟩
   have HM3:Hid (Marked lo hi w w3):=HM2.out.trans (Marked.of_below hb3)
   clear hb3
   obtain ⟨hex,hfz⟩:=HF.out.ready HM3.out i hlt
   obtain ⟨v5,hv5⟩:=hex 5 (by omega)
   obtain ⟨v6,hv6⟩:=hex 6 (by omega)
   obtain ⟨v7,hv7⟩:=hex 7 (by omega)
   obtain ⟨v8,hv8⟩:=hex 8 (by omega)
   have hwk21:wrap64 (k2+1)=k2+1:=by have:=HB.out;have:=HB2.out;exact yw _ ⟨by omega,by omega⟩
   have hwk22:wrap64 (k2+1+1)=k2+1+1:=by have:=HB.out;have:=HB2.out;exact yw _ ⟨by omega,by omega⟩
   have hwk23:wrap64 (k2+1+1+1)=k2+1+1+1:=by have:=HB.out;have:=HB2.out;exact yw _ ⟨by omega,by omega⟩
   have hwk24:wrap64 (k2+1+1+1+1)=k2+1+1+1+1:=by have:=HB.out;have:=HB2.out;exact yw _ ⟨by omega,by omega⟩
   have hwk25:wrap64 (k2+1+1+1+1+1)=k2+1+1+1+1+1:=by have:=HB.out;have:=HB2.out;exact yw _ ⟨by omega,by omega⟩
   have hwk26:wrap64 (k2+1+1+1+1+1+1)=k2+1+1+1+1+1+1:=by have:=HB.out;have:=HB2.out;exact yw _ ⟨by omega,by omega⟩
   clear hex
   go_wp2_with fail
   have HMW:=HF.out.put (HF.out.put (HF.out.put (HF.out.put HM3.out i 5 hlt (by omega) (by omega) (.string s3) (fun _ _ _ h=>by cases h)) i 6 hlt (by omega) (by omega) (.int .i64 (k2+1)) (fun _ _ _ h=>by cases h)) i 7 hlt (by omega) (by omega) (.bool ((k2+1+1).tmod 3 == 0)) (fun _ _ _ h=>by cases h)) i 8 hlt (by omega) (by omega) (.bool ((k2+1+1+1).tmod 3 == 0)) (fun _ _ _ h=>by cases h)
   refine (zR _ _ (by have:=HB2.out;omega) (by have:=HB.out;have:=HB2.out;omega)).mono ?_
   rintro e w4 ⟨s4,rfl,hb4⟩
   have HM4:Hid (Marked lo hi w w4):=HMW.trans (Marked.of_below hb4)
   clear HMW hb4 hv5 hv6 hv7 hv8 hfz
   obtain ⟨hex,hfz⟩:=HF.out.ready HM4.out i hlt
   obtain ⟨v9,hv9⟩:=hex 9 (by omega)
   clear hex
   go_wp2_with fail
   have HMW:=HF.out.put HM4.out i 9 hlt (by omega) (by omega) (.string s4) (fun _ _ _ h=>by cases h)
   refine (zR _ _ (by have:=HB2.out;omega) (by have:=HB.out;have:=HB2.out;omega)).mono ?_
   rintro e w5 ⟨s5,rfl,hb5⟩
   have HM5:Hid (Marked lo hi w w5):=HMW.trans (Marked.of_below hb5)
   clear HMW hb5 hv9 hfz
   obtain ⟨hex,hfz⟩:=HF.out.ready HM5.out i hlt
   obtain ⟨v10,hv10⟩:=hex 10 (by omega)
   clear hex
   go_wp2_with fail
   go_roundw
   case rel=>exact ⟨i+1,k2+1+1+1+1+1+1,by omega,by rw [hwk26],by rw [wrap_one (by have:=HL.out.1;omega)],by have a:=HB.out;have b:=HB2.out;omega,by have a:=HB.out;have b:=HB2.out;omega,HF.out.put HM5.out i 10 hlt (by omega) (by omega) (.string s5) (fun _ _ _ h=>by cases h)⟩
   case measure=>exact jo hlt (by have:=HL.out.1;omega)
  ·have e:i=fs.length:=by omega
   subst e
   go_wp2_with fail
   go_ret
   exact ⟨kk,rfl,h1,h2,hM⟩
theorem jC.ready {lo hi bo:Nat} {w W:World} {ss:List Shp} (h:jC lo hi w bo ss) (hM:Marked lo hi w W) (i:Nat) (hi':i < ss.length) :
 (∀ j,j < 2->∃ v,W.cell? ⟨bo,i * 2+j,none⟩=some v)/\(∀ o,W.frozen? ⟨bo,o,none⟩=false):=by
 have h':=h.mono hM
 obtain ⟨C,hC,hs,hn⟩:=h'.rows
 exact ⟨fun j hj=>⟨C[i * 2+j]'(by omega),by rw [cell_of_block hC];exact Array.getElem?_eq_getElem (by omega)⟩,fun o=>zi hC⟩
theorem jC.zc8 {lo hi bo:Nat} {w:World} {ss:List Shp} (h:jC lo hi w bo ss) (i:Nat) (hi':i < ss.length) :
 ∃ bf cap,q9 lo hi w bf ss[i].fs/\∀ W,Marked lo hi w W->W.cell? ⟨bo,i * 2+1,none⟩=some (.slice (some ⟨bf,0,none⟩) ss[i].fs.length cap):=by
 obtain ⟨C,hC,hs,hn⟩:=h.rows
 obtain ⟨bk,cap,h1,h2,_⟩:=hn i hi'
 refine ⟨bk,cap,h1,fun W hM=>?_⟩
 obtain ⟨C',hC',_,hk⟩:=hM.inn bo C _ h.low h.high hC
 rw [cell_of_block hC']
 exact (hk _ _ _ _).2 h2
theorem jC.put {lo hi bo:Nat} {w W:World} {ss:List Shp} (h:jC lo hi w bo ss) (hM:Marked lo hi w W) (i:Nat) (hi':i < ss.length) (v:Value) (hv:∀ a n c,v ≠ Value.slice a n c):Marked lo hi w (W.setCell ⟨bo,i * 2,none⟩ v):=by
 obtain ⟨C,hC,_,hn⟩:=h.rows
 obtain ⟨_,_,_,_,h3⟩:=hn i hi'
 exact hM.put h.low h.high hC h3 v hv
theorem ze3 (lo hi bo cap:Nat) (ss:List Shp) (k:Int) (w:World) (h:jC lo hi w bo ss) (hl:ss.length<=1048576) (hls:∀ i (h:i < ss.length),ss[i].fs.length<=1048576/\∀ j (h':j < ss[i].fs.length),ss[i].fs[j].ws.length<=1048576) (hk:0 < k) (hk2:k < 1000000000000000000) :
 Calls Tryz.prog 42 #[.slice (some ⟨bo,0,none⟩) ss.length cap,.int .i64 k] w fun e w'=>∃ k',e = .returned (.int .i64 k')/\k<=k'/\k'<=k+ss.length * 1099522113537/\Marked lo hi w w':=by
 have HF:Hid (jC lo hi w bo ss):=h
 have HL:Hid (ss.length<=1048576/\∀ i (h:i < ss.length),ss[i].fs.length<=1048576/\∀ j (h':j < ss[i].fs.length),ss[i].fs[j].ws.length<=1048576):=⟨hl,hls⟩
 have HK:Hid (0 < k/\k < 1000000000000000000):=⟨hk,hk2⟩
 clear h hl hls hk hk2
 go_enter Tryz.func42,Tryz.ntmps42
 go_wp2_with fail
 go_loopw [1,5] (fun kv iv wr=>∃ (i:Nat) (kk:Int),i<=ss.length/\kv = .int .i64 kk/\iv = .int .i64 i/\k<=kk/\kk<=k+i * 1099522113537/\Marked lo hi w wr) (fun _ iv _=>ss.length - (intOf iv).toNat)
 case atStart=>exact ⟨0,k,Nat.zero_le _,rfl,rfl,Int.le_refl _,by simp,Marked.refl _ _ _⟩
 case round =>
  obtain ⟨i,kk,hile,rfl,rfl,h1,h2,hM⟩:=hrel
  by_cases hlt:i < ss.length
  ·have hltI:(i:Int) < (ss.length:Int):=by omega
   have HB:Hid (0 < kk/\kk < 3000000000000000000/\kk<=k+i * 1099522113537/\k<=kk):=by have a:=HK.out;have b:=HL.out.1;exact ⟨by omega,by omega,h2,h1⟩
   have HM:Hid (Marked lo hi w wr):=hM
   clear h1 h2 hM
   obtain ⟨bf,bcap,hT,hsl⟩:=HF.out.zc8 i hlt
   have HT:Hid (q9 lo hi w bf ss[i].fs/\∀ W,Marked lo hi w W->W.cell? ⟨bo,i * 2+1,none⟩=some (.slice (some ⟨bf,0,none⟩) ss[i].fs.length bcap)):=⟨hT,hsl⟩
   clear hT hsl
   go_wp2_with fail
   refine (zR _ _ HB.out.1 (by have:=HB.out;omega)).mono ?_
   rintro e w1 ⟨s1,rfl,hb1⟩
   have HM1:Hid (Marked lo hi w w1):=HM.out.trans (Marked.of_below hb1)
   clear hb1
   have hsl:=HT.out.2 _ HM1.out
   obtain ⟨hex,hfz⟩:=HF.out.ready HM1.out i hlt
   obtain ⟨v0,hv0⟩:=hex 0 (by omega)
   rw [Nat.add_zero] at hv0
   have hw1:wrap64 (kk+1)=kk+1:=by have:=HB.out;exact yw _ ⟨by omega,by omega⟩
   clear hex
   go_wp2_with fail
   have HMW:=HF.out.put HM1.out i hlt (.string s1) (fun _ _ _ h=>by cases h)
   refine (zeZ lo hi bf bcap _ _ _ (HT.out.1.mono HMW) (HL.out.2 i hlt).1 (HL.out.2 i hlt).2 (by have:=HB.out;omega) (by have:=HB.out;omega)).mono ?_
   rintro e w2 ⟨k2,rfl,h3,h4,hM2⟩
   have HM2:Hid (Marked lo hi w w2):=HMW.trans hM2
   have HB2:Hid (kk < k2/\k2<=kk+1099522113537):=by have a:=(HL.out.2 i hlt).1;exact ⟨by omega,by omega⟩
   clear HMW hM2 h3 h4 hv0 hfz hsl
   go_wp2_with fail
   go_roundw
   case rel=>exact ⟨i+1,k2,by omega,rfl,by rw [wrap_one (by have:=HL.out.1;omega)],by have a:=HB.out;have b:=HB2.out;omega,by have a:=HB.out;have b:=HB2.out;omega,HM2.out⟩
   case measure=>exact jo hlt (by have:=HL.out.1;omega)
  ·have e:i=ss.length:=by omega
   subst e
   go_wp2_with fail
   go_ret
   exact ⟨kk,rfl,h1,h2,hM⟩
structure za2 (lo hi:Nat) (w:World) (b n:Nat):Prop where
 low:lo<=b
 high:b < hi
 rows:∃ C,w.heap[b]?=some (.cells C 3)/\n<=C.size/\∀ j,j < n->za7 C j
theorem za2.mono {lo hi:Nat} {w w':World} {b n:Nat} (h:za2 lo hi w b n) (hM:Marked lo hi w w'):za2 lo hi w' b n:=by
 obtain ⟨C,hC,hs,hn⟩:=h.rows
 obtain ⟨C',hC',hs',hk⟩:=hM.inn b C _ h.low h.high hC
 exact ⟨h.low,h.high,C',hC',by omega,fun j hj a m c he=>hn j hj a m c ((hk j a m c).1 he)⟩
theorem zfM (g n cap:Nat) (C:Array Value) (k:Nat) (w:World) (hC:w.heap[g]?=some (.cells C 3)) (hn:n<=C.size) (hns:∀ i,i < n->∀ a m c,C[i]? ≠ some (Value.slice a m c)) (hk:0 < k) (hkn:k+n < 9000000000000000000) :
 Calls Tryz.prog 15 #[.slice (some ⟨g,0,none⟩) n cap,.int .i64 k] w fun e w'=>e = .returned (.int .i64 ((k+n:Nat):Int))/\Marked g (g+1) w w'/\∃ C',w'.heap[g]?=some (.cells C' 3)/\C'.size=C.size/\∀ i,i < n->C'[i]?=some (.int .i64 ((k+i:Nat):Int)):=by
 have HS:Hid (∀ i,i < n->∀ a m c,C[i]? ≠ some (Value.slice a m c)):=hns
 have HC:Hid (w.heap[g]?=some (.cells C 3)):=hC
 have HN:Hid (n<=C.size):=hn
 have HKN:Hid (k+n < 9000000000000000000):=hkn
 clear hC hn hns hkn
 go_enter Tryz.func15,Tryz.ntmps15
 go_wp2_with fail
 go_loopw [1,5] (fun kv iv wr=>∃ i:Nat,i<=n/\kv = .int .i64 ((k+i:Nat):Int)/\iv = .int .i64 i/\Hid (Marked g (g+1) w wr/\∃ C',wr.heap[g]?=some (.cells C' 3)/\C'.size=C.size/\∀ j,j < i->C'[j]?=some (.int .i64 ((k+j:Nat):Int)))) (fun _ iv _=>n - (intOf iv).toNat)
 case atStart=>exact ⟨0,Nat.zero_le _,rfl,rfl,Marked.refl _ _ _,C,HC.out,rfl,fun j h=>absurd h (Nat.not_lt_zero _)⟩
 case round =>
  obtain ⟨i,hi,rfl,rfl,HQ⟩:=hrel
  obtain ⟨hM,C',hC',hs',hc'⟩:=HQ.out
  by_cases hlt:i < n
  ·have hltI:(i:Int) < (n:Int):=by omega
   have hgw:g < wr.heap.size:=(Array.getElem?_eq_some_iff.1 hC').1
   obtain ⟨cv,hce⟩:∃ cv,wr.cell? ⟨g,i,none⟩=some cv:=⟨C'[i]'(by have:=HN.out;omega),by rw [cell_of_block hC'];exact Array.getElem?_eq_getElem (by have:=HN.out;omega)⟩
   have hfz:∀ o,wr.frozen? ⟨g,o,none⟩=false:=fun o=>zi hC'
   have HE:Hid (Marked g (g+1) w (wr.setCell ⟨g,i,none⟩ (.int .i64 ((k+i:Nat):Int)))/\∃ C',(wr.setCell ⟨g,i,none⟩ (.int .i64 ((k+i:Nat):Int))).heap[g]?=some (.cells C' 3)/\C'.size=C.size/\∀ j,j < i+1->C'[j]?=some (.int .i64 ((k+j:Nat):Int))):=by
    refine ⟨hM.put (Nat.le_refl _) (Nat.lt_succ_self _) HC.out (HS.out i hlt) _ (fun _ _ _ h=>by cases h),_,zk hC' _,by simpa using hs',fun j hj=>?_⟩
    by_cases e:j=i
    ·subst e;rw [Array.getElem?_setIfInBounds_self_of_lt (by have:=HN.out;omega)]
    ·rw [Array.getElem?_setIfInBounds_ne (by omega)];exact hc' j (by omega)
   have hw1:wrap64 ((k+i:Nat)+1:Int)=((k+(i+1):Nat):Int):=by rw [yw _ ⟨by omega,by have:=HKN.out;omega⟩];omega
   clear HQ hM hC' hs' hc'
   obtain ⟨kk,hkk⟩:∃ kk:Int,kk=((k+i:Nat):Int):=⟨_,rfl⟩
   rw [<- hkk] at HE hw1 ⊢
   clear hkk
   go_wp2_with fail
   go_roundw
   case rel=>exact ⟨i+1,by omega,by rw [hw1],by rw [wrap_one (by have:=HKN.out;omega)],HE.out⟩
   case measure=>exact jo hlt (by have:=HKN.out;omega)
  ·have e:i=n:=by omega
   subst e
   have HE:Hid (Marked g (g+1) w wr/\∃ C',wr.heap[g]?=some (.cells C' 3)/\C'.size=C.size/\∀ j,j < i->C'[j]?=some (.int .i64 ((k+j:Nat):Int))):=HQ.out
   clear HQ hM hC' hs' hc'
   go_wp2_with fail
   go_ret
   exact ⟨rfl,HE.out⟩
theorem zjs (lo hi b n cap:Nat) (k:Int) (w:World) (h:za2 lo hi w b n) (hn:n<=1048576) (hk:0 < k) (hk2:k < 8000000000000000000) :
 Calls Tryz.prog 15 #[.slice (some ⟨b,0,none⟩) n cap,.int .i64 k] w fun e w'=>∃ k',e = .returned (.int .i64 k')/\k'=k+n/\Marked lo hi w w':=by
 obtain ⟨m,rfl⟩:∃ m:Nat,k=m:=⟨k.toNat,by omega⟩
 obtain ⟨C,hC,hs,hns⟩:=h.rows
 refine (zfM b n cap C m w hC hs hns (by omega) (by omega)).mono fun e w' ⟨h1,h2,_⟩=>⟨_,h1,Int.natCast_add _ _,h2.wide h.low h.high⟩
structure zaz (lo hi:Nat) (w:World) (bo:Nat) (ms:List Tm):Prop where
 low:lo<=bo
 high:bo < hi
 rows:∃ C,w.heap[bo]?=some (.cells C 123)/\C.size=ms.length * 2/\∀ i,i < ms.length->(∀ j,j < 2->za7 C (i * 2+j))
theorem zaz.mono {lo hi:Nat} {w w':World} {b:Nat} {ms:List Tm} (h:zaz lo hi w b ms) (hM:Marked lo hi w w'):zaz lo hi w' b ms:=by
 obtain ⟨C,hC,hs,hn⟩:=h.rows
 obtain ⟨C',hC',hs',hk⟩:=hM.inn b C _ h.low h.high hC
 refine ⟨h.low,h.high,C',hC',by omega,fun i hi=>?_⟩
 have h0:=hn i hi
 exact fun j hj a m c he=>h0 j hj a m c ((hk _ a m c).1 he)
theorem j5.form {lo:Nat} {w:World} {bo:Nat} {ms:List Tm} (h:j5 123 lo w bo ms ms.length):zaz lo w.heap.size w bo ms:=by
 obtain ⟨C,hC,hsz,hr⟩:=h.rows
 refine ⟨h.low,(Array.getElem?_eq_some_iff.1 hC).1,C,hC,hsz,fun i hi j hj a n c he=>?_⟩
 rw [hr i hi hi j hj] at he
 rcases j with _ | _ | j <;> first | omega | (simp [Tm.cells] at he)
theorem zaz.ready {lo hi bo:Nat} {w W:World} {ms:List Tm} (h:zaz lo hi w bo ms) (hM:Marked lo hi w W) (i:Nat) (hi':i < ms.length) :
 (∀ j,j < 2->∃ v,W.cell? ⟨bo,i * 2+j,none⟩=some v)/\(∀ o,W.frozen? ⟨bo,o,none⟩=false):=by
 have h':=h.mono hM
 obtain ⟨C,hC,hs,hn⟩:=h'.rows
 exact ⟨fun j hj=>⟨C[i * 2+j]'(by omega),by rw [cell_of_block hC];exact Array.getElem?_eq_getElem (by omega)⟩,fun o=>zi hC⟩
theorem zaz.put {lo hi bo:Nat} {w W:World} {ms:List Tm} (h:zaz lo hi w bo ms) (hM:Marked lo hi w W) (i j:Nat) (hi':i < ms.length) (hj:j < 2) (v:Value) (hv:∀ a n c,v ≠ Value.slice a n c):Marked lo hi w (W.setCell ⟨bo,i * 2+j,none⟩ v):=by
 obtain ⟨C,hC,hs,hn⟩:=h.rows
 exact hM.put h.low h.high hC (hn i hi' j hj) v hv
set_option maxRecDepth 20000 in
theorem zfC (lo hi bo cap:Nat) (ms:List Tm) (k:Int) (w:World) (h:zaz lo hi w bo ms) (hl:ms.length<=1048576) (hk:0 < k) (hk2:k < 5000000000000000000) :
 Calls Tryz.prog 44 #[.slice (some ⟨bo,0,none⟩) ms.length cap,.int .i64 k] w fun e w'=>∃ k',e = .returned (.int .i64 k')/\k<=k'/\k'<=k+ms.length * 2/\Marked lo hi w w':=by
 have HF:Hid (zaz lo hi w bo ms):=h
 have HL:Hid (ms.length<=1048576):=hl
 have HK:Hid (0 < k/\k < 5000000000000000000):=⟨hk,hk2⟩
 clear h hl hk hk2
 go_enter Tryz.func44,Tryz.ntmps44
 go_wp2_with fail
 go_loopw [1,5] (fun kv iv wr=>∃ (i:Nat) (kk:Int),i<=ms.length/\kv = .int .i64 kk/\iv = .int .i64 i/\k<=kk/\kk<=k+i * 2/\Marked lo hi w wr) (fun _ iv _=>ms.length - (intOf iv).toNat)
 case atStart=>exact ⟨0,k,Nat.zero_le _,rfl,rfl,Int.le_refl _,by simp,Marked.refl _ _ _⟩
 case round =>
  obtain ⟨i,kk,hile,rfl,rfl,h1,h2,hM⟩:=hrel
  by_cases hlt:i < ms.length
  ·have hltI:(i:Int) < (ms.length:Int):=by omega
   have HB:Hid (0 < kk/\kk < 7000000000000000000/\kk<=k+i * 2/\k<=kk):=by have a:=HK.out;have b:=HL.out;exact ⟨by omega,by omega,h2,h1⟩
   have HM:Hid (Marked lo hi w wr):=hM
   clear h1 h2 hM
   go_wp2_with fail
   refine (zR _ _ (by have a0:=HB.out;omega) (by have a0:=HB.out;omega)).mono ?_
   rintro e wm1 ⟨s1,rfl,hb⟩
   have HM1:Hid (Marked lo hi w wm1):=(HM.out).trans (Marked.of_below hb)
   clear hb
   obtain ⟨hex,hfz1⟩:=HF.out.ready (HM1.out) i hlt
   obtain ⟨v1,hv1⟩:=hex 0 (by omega)
   rw [Nat.add_zero] at hv1
   clear hex
   have HP1_0:Hid (Marked lo hi w (wm1.setCell ⟨bo,i * 2,none⟩ (.string s1))):=HF.out.put (HM1.out) i 0 hlt (by omega)  (.string s1) (fun _ _ _ h=>by cases h)
   have hw1:wrap64 (kk+1)=kk+1:=yw _ ⟨by have a0:=HB.out;omega,by have a0:=HB.out;omega⟩
   go_wp2_with fail
   clear hfz1 hv1
   refine (zR _ _ (by have a0:=HB.out;omega) (by have a0:=HB.out;omega)).mono ?_
   rintro e wm2 ⟨s2,rfl,hb⟩
   have HM2:Hid (Marked lo hi w wm2):=(HP1_0.out).trans (Marked.of_below hb)
   clear hb
   obtain ⟨hex,hfz2⟩:=HF.out.ready (HM2.out) i hlt
   obtain ⟨v2,hv2⟩:=hex 1 (by omega)
   clear hex
   have HP2_1:Hid (Marked lo hi w (wm2.setCell ⟨bo,i * 2+1,none⟩ (.string s2))):=HF.out.put (HM2.out) i 1 hlt (by omega)  (.string s2) (fun _ _ _ h=>by cases h)
   have hw2:wrap64 (kk+1+1)=kk+1+1:=yw _ ⟨by have a0:=HB.out;omega,by have a0:=HB.out;omega⟩
   go_wp2_with fail
   go_roundw
   case rel=>exact ⟨i+1,kk+1+1,by omega,by first | rfl | rw [hw2],by rw [wrap_one (by have:=HL.out;omega)],by have a0:=HB.out;omega,by have a0:=HB.out;omega,HP2_1.out⟩
   case measure=>exact jo hlt (by have:=HL.out;omega)
  ·have e:i=ms.length:=by omega
   subst e
   go_wp2_with fail
   go_ret
   exact ⟨kk,rfl,h1,h2,hM⟩
structure zaC (lo hi:Nat) (w:World) (bo:Nat) (ms:List Lg):Prop where
 low:lo<=bo
 high:bo < hi
 rows:∃ C,w.heap[bo]?=some (.cells C 130)/\C.size=ms.length * 4/\∀ i,i < ms.length->(∀ j,j < 4->za7 C (i * 4+j))
theorem zaC.mono {lo hi:Nat} {w w':World} {b:Nat} {ms:List Lg} (h:zaC lo hi w b ms) (hM:Marked lo hi w w'):zaC lo hi w' b ms:=by
 obtain ⟨C,hC,hs,hn⟩:=h.rows
 obtain ⟨C',hC',hs',hk⟩:=hM.inn b C _ h.low h.high hC
 refine ⟨h.low,h.high,C',hC',by omega,fun i hi=>?_⟩
 have h0:=hn i hi
 exact fun j hj a m c he=>h0 j hj a m c ((hk _ a m c).1 he)
theorem jR.form {lo:Nat} {w:World} {bo:Nat} {ms:List Lg} (h:jR lo w bo ms ms.length):zaC lo w.heap.size w bo ms:=by
 obtain ⟨C,hC,hsz,hr⟩:=h.rows
 refine ⟨h.low,(Array.getElem?_eq_some_iff.1 hC).1,C,hC,hsz,fun i hi j hj a n c he=>?_⟩
 rw [hr i hi hi j hj] at he
 rcases j with _ | _ | _ | _ | j <;> first | omega | (simp [Lg.cells] at he)
theorem zaC.ready {lo hi bo:Nat} {w W:World} {ms:List Lg} (h:zaC lo hi w bo ms) (hM:Marked lo hi w W) (i:Nat) (hi':i < ms.length) :
 (∀ j,j < 4->∃ v,W.cell? ⟨bo,i * 4+j,none⟩=some v)/\(∀ o,W.frozen? ⟨bo,o,none⟩=false):=by
 have h':=h.mono hM
 obtain ⟨C,hC,hs,hn⟩:=h'.rows
 exact ⟨fun j hj=>⟨C[i * 4+j]'(by omega),by rw [cell_of_block hC];exact Array.getElem?_eq_getElem (by omega)⟩,fun o=>zi hC⟩
theorem zaC.put {lo hi bo:Nat} {w W:World} {ms:List Lg} (h:zaC lo hi w bo ms) (hM:Marked lo hi w W) (i j:Nat) (hi':i < ms.length) (hj:j < 4) (v:Value) (hv:∀ a n c,v ≠ Value.slice a n c):Marked lo hi w (W.setCell ⟨bo,i * 4+j,none⟩ v):=by
 obtain ⟨C,hC,hs,hn⟩:=h.rows
 exact hM.put h.low h.high hC (hn i hi' j hj) v hv
set_option maxRecDepth 20000 in
theorem zeK (lo hi bo cap:Nat) (ms:List Lg) (k:Int) (w:World) (h:zaC lo hi w bo ms) (hl:ms.length<=1048576) (hk:0 < k) (hk2:k < 5000000000000000000) :
 Calls Tryz.prog 47 #[.slice (some ⟨bo,0,none⟩) ms.length cap,.int .i64 k] w fun e w'=>∃ k',e = .returned (.int .i64 k')/\k<=k'/\k'<=k+ms.length * 4/\Marked lo hi w w':=by
 have HF:Hid (zaC lo hi w bo ms):=h
 have HL:Hid (ms.length<=1048576):=hl
 have HK:Hid (0 < k/\k < 5000000000000000000):=⟨hk,hk2⟩
 clear h hl hk hk2
 go_enter Tryz.func47,Tryz.ntmps47
 go_wp2_with fail
 go_loopw [1,5] (fun kv iv wr=>∃ (i:Nat) (kk:Int),i<=ms.length/\kv = .int .i64 kk/\iv = .int .i64 i/\k<=kk/\kk<=k+i * 4/\Marked lo hi w wr) (fun _ iv _=>ms.length - (intOf iv).toNat)
 case atStart=>exact ⟨0,k,Nat.zero_le _,rfl,rfl,Int.le_refl _,by simp,Marked.refl _ _ _⟩
 case round =>
  obtain ⟨i,kk,hile,rfl,rfl,h1,h2,hM⟩:=hrel
  by_cases hlt:i < ms.length
  ·have hltI:(i:Int) < (ms.length:Int):=by omega
   have HB:Hid (0 < kk/\kk < 7000000000000000000/\kk<=k+i * 4/\k<=kk):=by have a:=HK.out;have b:=HL.out;exact ⟨by omega,by omega,h2,h1⟩
   have HM:Hid (Marked lo hi w wr):=hM
   clear h1 h2 hM
   go_wp2_with fail
   refine (zR _ _ (by have a0:=HB.out;omega) (by have a0:=HB.out;omega)).mono ?_
   rintro e wm1 ⟨s1,rfl,hb⟩
   have HM1:Hid (Marked lo hi w wm1):=(HM.out).trans (Marked.of_below hb)
   clear hb
   obtain ⟨hex,hfz1⟩:=HF.out.ready (HM1.out) i hlt
   obtain ⟨v1,hv1⟩:=hex 0 (by omega)
   rw [Nat.add_zero] at hv1
   clear hex
   have HP1_0:Hid (Marked lo hi w (wm1.setCell ⟨bo,i * 4,none⟩ (.string s1))):=HF.out.put (HM1.out) i 0 hlt (by omega)  (.string s1) (fun _ _ _ h=>by cases h)
   have hw1:wrap64 (kk+1)=kk+1:=yw _ ⟨by have a0:=HB.out;omega,by have a0:=HB.out;omega⟩
   go_wp2_with fail
   clear hfz1 hv1
   refine (zR _ _ (by have a0:=HB.out;omega) (by have a0:=HB.out;omega)).mono ?_
   rintro e wm2 ⟨s2,rfl,hb⟩
   have HM2:Hid (Marked lo hi w wm2):=(HP1_0.out).trans (Marked.of_below hb)
   clear hb
   obtain ⟨hex,hfz2⟩:=HF.out.ready (HM2.out) i hlt
   obtain ⟨v2,hv2⟩:=hex 1 (by omega)
   clear hex
   have HP2_1:Hid (Marked lo hi w (wm2.setCell ⟨bo,i * 4+1,none⟩ (.string s2))):=HF.out.put (HM2.out) i 1 hlt (by omega)  (.string s2) (fun _ _ _ h=>by cases h)
   have hw2:wrap64 (kk+1+1)=kk+1+1:=yw _ ⟨by have a0:=HB.out;omega,by have a0:=HB.out;omega⟩
   obtain ⟨hex,hfz3⟩:=HF.out.ready (HP2_1.out) i hlt
   obtain ⟨v3,hv3⟩:=hex 2 (by omega)
   clear hex
   have HP2_2:Hid (Marked lo hi w ((wm2.setCell ⟨bo,i * 4+1,none⟩ (.string s2)).setCell ⟨bo,i * 4+2,none⟩ (.int .i64 (kk+1+1)))):=HF.out.put (HP2_1.out) i 2 hlt (by omega)  (.int .i64 (kk+1+1)) (fun _ _ _ h=>by cases h)
   have hw3:wrap64 (kk+1+1+1)=kk+1+1+1:=yw _ ⟨by have a0:=HB.out;omega,by have a0:=HB.out;omega⟩
   obtain ⟨hex,hfz4⟩:=HF.out.ready (HP2_2.out) i hlt
   obtain ⟨v4,hv4⟩:=hex 3 (by omega)
   clear hex
   have HP2_3:Hid (Marked lo hi w (((wm2.setCell ⟨bo,i * 4+1,none⟩ (.string s2)).setCell ⟨bo,i * 4+2,none⟩ (.int .i64 (kk+1+1))).setCell ⟨bo,i * 4+3,none⟩ (.int .i64 (kk+1+1+1)))):=HF.out.put (HP2_2.out) i 3 hlt (by omega)  (.int .i64 (kk+1+1+1)) (fun _ _ _ h=>by cases h)
   have hw4:wrap64 (kk+1+1+1+1)=kk+1+1+1+1:=yw _ ⟨by have a0:=HB.out;omega,by have a0:=HB.out;omega⟩
   go_wp2_with fail
   go_roundw
   case rel=>exact ⟨i+1,kk+1+1+1+1,by omega,by first | rfl | rw [hw4],by rw [wrap_one (by have:=HL.out;omega)],by have a0:=HB.out;omega,by have a0:=HB.out;omega,HP2_3.out⟩
   case measure=>exact jo hlt (by have:=HL.out;omega)
  ·have e:i=ms.length:=by omega
   subst e
   go_wp2_with fail
   go_ret
   exact ⟨kk,rfl,h1,h2,hM⟩
end Go.Proofs.YtihdafafigceiaaGreat
