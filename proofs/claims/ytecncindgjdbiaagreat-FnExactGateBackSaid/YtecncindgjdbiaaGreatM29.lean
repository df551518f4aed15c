import Derived.Test.YtecncindgjdbiaaGreatM28
set_option maxHeartbeats 8000000
namespace Go.Proofs.YtecncindgjdbiaaGreat
open Go.RowKit
def qB (ss:List Shp)(o:Ob):List BA:=if zB ss o=true then zah (shapeOf ss o.kd).fs o.vs else o.vs
theorem zoC {ss:List Shp}{o:Ob}(h:zZ ss=true):zi4 ss o=qB ss o:=by
 unfold zi4 qB zB
 by_cases h1:zJ ss o.kd=true
 ·by_cases h2:o.vs.length=(shapeOf ss o.kd).fs.length
  ·rw[if_pos ⟨h1,h,h2⟩,if_pos (by rw[h1];simp[h2])]
  ·rw[if_neg (fun hh=>h2 hh.2.2),if_neg (by rw[h1];simp[h2])]
 ·rw[if_neg (fun hh=>h1 hh.1),if_neg (by simp[h1])]
theorem zfw (a0:OA)(cap0:Nat)(ss:List Shp)(o:Ob)(a a':OA)(cap cap':Nat)(w0 w:World)(hw0:yR w0 a0 ss)(hbb:Bw w0 w)(hc:zB ss o=true) :
 Calls Tryz.prog 112 #[.l a0 ss.length cap0,.agg #[.s o.kd,.s o.nm,.s o.tm,.l a o.vs.length cap,.bool o.en,.l a' o.hs.length cap',.i o.vr]] w fun e w'=>∃fa fcap,e=.returned (.tuple #[.l fa (shapeOf ss o.kd).fs.length fcap,.bool true])/\yc w0 fa (shapeOf ss o.kd).fs/\Bw w w':=by
 unfold zB at hc;simp only[Bool.and_eq_true,decide_eq_true_eq]at hc;have HK:=hid hc.1;have HL:=hid hc.2;clear hc;have hw:=hw0.mono hbb;have hl:=hw.len;unfold maxLen at hl;go_enter Tryz.func112,Tryz.ntmps112;go_wp2_with fail
 refine(jV _ _ _ _ _ (hw.mono (bAl _ _)) HK.o).mono ?_;rintro e w1⟨ix,hix,rfl,hsh,rfl⟩;have HSh:=hid hsh;clear hsh;obtain⟨b,off,rfl,hb0,hr⟩:=hw0.rows (by rintro rfl;simp at hix);obtain⟨fa,fcap,hs0⟩:=hr ix hix;have hs:=hs0.mono hb0 hbb;have hcl:=hs.list;have hfl:=hs0.zdB;have hixI:(ix:Int)<(ss.length:Int):=by omega
 have hix0:decide ((ix:Int)<0)=false:=by simp
 have hneq:((ss[ix].fs.length:Int) != (o.vs.length:Int))=false:=by have h1:=HL.o;have h2:=HSh.o;rw[h2]at h1;simp[h1]
 have hbw:=nLt hb0 hbb.size;clear hr hs;go_wp2_with fail
 go_quiet (fail)
 go_wp2_with fail
 go_ret2
 rw[HSh.o];exact⟨fa,fcap,rfl,hfl,below_drewN (bAl _ _) _⟩
theorem zrg {fs:List Fld}(h:zbN fs):∀f∈fs,f.df.size<=maxLen:=by
 intro f hf;obtain⟨i,hi,rfl⟩:=List.mem_iff_getElem.1 hf;exact(h.small i hi).1.df
theorem zoc {ss:List Shp}{o:Ob}(hs:zdF ss)(ho:∀s∈o.vs,s.size<=maxLen):∀s∈zi4 ss o,s.size<=maxLen:=by
 unfold zi4
 split
 ·rename_i h
  have hf:zbN (shapeOf ss o.kd).fs:=by
   obtain⟨hk,_,_⟩:=h;unfold zJ at hk;rw[List.any_eq_true]at hk;obtain⟨x,hx,he⟩:=hk;unfold shapeOf
   cases hfi:ss.find? (fun s=>decide (s.kd=o.kd)) with
   | none=>rw[List.find?_eq_none]at hfi;exact absurd he (hfi x hx)
   | some y=>
    obtain⟨i,hi,rfl⟩:=List.mem_iff_getElem.1 (List.mem_of_find?_eq_some hfi);exact(hs.small i hi).2.2
  intro s hm;obtain⟨i,hi,rfl⟩:=List.mem_iff_getElem.1 hm;have hl:=qP h.2.2;have e:(zah (shapeOf ss o.kd).fs o.vs)[i]=zam ((shapeOf ss o.kd).fs[i]'(by have:=h.2.2;omega)) (o.vs[i]'(by omega)):=by simp[zah]
  rw[e];unfold zam
  split
  ·exact zrg hf _ (List.getElem_mem _)
  ·exact ho _ (List.getElem_mem _)
 ·exact ho
structure zaz (lo hi:Nat)(w:World)(bo:Nat)(ms:List Tm):Prop where
 low:lo<=bo
 high:bo<hi
 rows:∃C,w.heap[bo]?=some (.cells C 138)/\C.size=ms.length*2/\∀i,i<ms.length->(∀j,j<2->zaS C (i*2+j))
theorem zaz.mono {lo hi:Nat}{w w':World}{b:Nat}{ms:List Tm}(h:zaz lo hi w b ms)(hM:Marked lo hi w w'):zaz lo hi w' b ms:=by
 obtain⟨C,hC,hs,hn⟩:=h.rows;obtain⟨C',hC',hs',hk⟩:=hM.inn b C _ h.low h.high hC;refine⟨h.low,h.high,C',hC',by omega,fun i hi=>?_⟩;have h0:=hn i hi;exact fun j hj a m c he=>h0 j hj a m c ((hk _ a m c).1 he)
theorem zae.form {lo:Nat}{w:World}{bo:Nat}{ms:List Tm}(h:zae 138 lo w bo ms ms.length):zaz lo w.heap.size w bo ms:=by
 obtain⟨C,hC,hsz,hr⟩:=h.rows;refine⟨h.low,(gES hC).1,C,hC,hsz,fun i hi j hj a n c he=>?_⟩;rw[hr i hi hi j hj]at he
 rcases j with _|_|j <;> first|omega|(simp[Tm.cells]at he)
theorem zaz.ready {lo hi bo:Nat}{w W:World}{ms:List Tm}(h:zaz lo hi w bo ms)(hM:Marked lo hi w W)(i:Nat)(hi':i<ms.length) :
 (∀j,j<2->∃v,W.cell? (aD bo (i*2+j))=some v)/\(∀o,W.frozen? (aD bo o)=false):=by
 have h':=h.mono hM;obtain⟨C,hC,hs,hn⟩:=h'.rows;exact⟨fun j hj=>⟨C[i*2+j]'(by omega),by rw[cell_of_block hC];exact Array.getElem?_eq_getElem (by omega)⟩,fun o=>zh hC⟩
theorem zaz.put {lo hi bo:Nat}{w W:World}{ms:List Tm}(h:zaz lo hi w bo ms)(hM:Marked lo hi w W)(i j:Nat)(hi':i<ms.length)(hj:j<2)(v:Value)(hv:∀a n c,v≠Value.slice a n c):Marked lo hi w (W.setCell (aD bo (i*2+j)) v):=by
 obtain⟨C,hC,hs,hn⟩:=h.rows;exact hM.put h.low h.high hC (hn i hi' j hj) v hv
set_option maxRecDepth 20000 in
theorem zgC (lo hi bo cap:Nat)(ms:List Tm)(k:Int)(w:World)(h:zaz lo hi w bo ms)(hl:ms.length<=1048576)(hk:0<k)(hk2:k<5000000000000000000) :
 Calls Tryz.prog 47 #[.l (some (aD bo 0)) ms.length cap,.i k] w fun e w'=>∃k',e=.returned (.i k')/\k<=k'/\k'<=k+ms.length*2/\Marked lo hi w w':=by
 have HF:Hid (zaz lo hi w bo ms):=h;have HL:Hid (ms.length<=1048576):=hl;have HK:Hid (0<k/\k<5000000000000000000):=⟨hk,hk2⟩
 clear h hl hk hk2;go_enter Tryz.func47,Tryz.ntmps47;go_wp2_with fail
 go_loopw [1,5] (fun kv iv wr=>∃(i:Nat) (kk:Int),i<=ms.length/\kv=.i kk/\iv=.i i/\k<=kk/\kk<=k+i*2/\Marked lo hi w wr) (fun _ iv _=>ms.length-(intOf iv).toNat)
 case atStart=>exact⟨0,k,Nat.zero_le _,rfl,rfl,Int.le_refl _,by simp,Marked.refl _ _ _⟩
 case round=>
  obtain⟨i,kk,hile,rfl,rfl,h1,h2,hM⟩:=hrel
  by_cases hlt:i<ms.length
  ·have hltI:(i:Int)<(ms.length:Int):=by omega
   have HB:Hid (0<kk/\kk<7000000000000000000/\kk<=k+i*2/\k<=kk):=by have a:=HK.o;have b:=HL.o;exact⟨by omega,by omega,h2,h1⟩
   have HM:Hid (Marked lo hi w wr):=hM;clear h1 h2 hM;go_wp2_with fail
   refine(zN _ _ (by have a0:=HB.o;omega) (by have a0:=HB.o;omega)).mono ?_;rintro e wm1⟨s1,rfl,hb⟩;have HM1:Hid (Marked lo hi w wm1):=(HM.o).trans (Marked.of_below hb);clear hb;obtain⟨hex,hfz1⟩:=HF.o.ready (HM1.o) i hlt;obtain⟨v1,hv1⟩:=hex 0 (by omega);rw[Nat.add_zero]at hv1;clear hex;have HP1_0:Hid (Marked lo hi w (wm1.setCell (aD bo (i*2)) (.s s1))):=HF.o.put (HM1.o) i 0 hlt (by omega)  (.s s1) (fun _ _ _ h=>by cases h);have hw1:wrap64 (kk+1)=kk+1:=zA _ ⟨by have a0:=HB.o;omega,by have a0:=HB.o;omega⟩;go_wp2_with fail
   clear hfz1 hv1;refine(zN _ _ (by have a0:=HB.o;omega) (by have a0:=HB.o;omega)).mono ?_;rintro e wm2⟨s2,rfl,hb⟩;have HM2:Hid (Marked lo hi w wm2):=(HP1_0.o).trans (Marked.of_below hb);clear hb;obtain⟨hex,hfz2⟩:=HF.o.ready (HM2.o) i hlt;obtain⟨v2,hv2⟩:=hex 1 (by omega);clear hex;have HP2_1:Hid (Marked lo hi w (wm2.setCell (aD bo (i*2+1)) (.s s2))):=HF.o.put (HM2.o) i 1 hlt (by omega)  (.s s2) (fun _ _ _ h=>by cases h);have hw2:wrap64 (kk+1+1)=kk+1+1:=zA _ ⟨by have a0:=HB.o;omega,by have a0:=HB.o;omega⟩;go_wp2_with fail
   go_roundw
   case rel=>exact⟨i+1,kk+1+1,by omega,by first|rfl|rw[hw2],by rw[wrap_one (by have:=HL.o;omega)],by have a0:=HB.o;omega,by have a0:=HB.o;omega,HP2_1.o⟩
   case measure=>exact yO hlt (by have:=HL.o;omega)
  ·have e:i=ms.length:=by omega
   subst e;go_wp2_with fail
   go_ret;exact⟨kk,rfl,h1,h2,hM⟩
structure zaB (lo hi:Nat)(w:World)(bo:Nat)(ms:List Lg):Prop where
 low:lo<=bo
 high:bo<hi
 rows:∃C,w.heap[bo]?=some (.cells C 130)/\C.size=ms.length*4/\∀i,i<ms.length->(∀j,j<4->zaS C (i*4+j))
theorem zaB.mono {lo hi:Nat}{w w':World}{b:Nat}{ms:List Lg}(h:zaB lo hi w b ms)(hM:Marked lo hi w w'):zaB lo hi w' b ms:=by
 obtain⟨C,hC,hs,hn⟩:=h.rows;obtain⟨C',hC',hs',hk⟩:=hM.inn b C _ h.low h.high hC;refine⟨h.low,h.high,C',hC',by omega,fun i hi=>?_⟩;have h0:=hn i hi;exact fun j hj a m c he=>h0 j hj a m c ((hk _ a m c).1 he)
theorem j4.form {lo:Nat}{w:World}{bo:Nat}{ms:List Lg}(h:j4 lo w bo ms ms.length):zaB lo w.heap.size w bo ms:=by
 obtain⟨C,hC,hsz,hr⟩:=h.rows;refine⟨h.low,(gES hC).1,C,hC,hsz,fun i hi j hj a n c he=>?_⟩;rw[hr i hi hi j hj]at he
 rcases j with _|_|_|_|j <;> first|omega|(simp[Lg.cells]at he)
theorem zaB.ready {lo hi bo:Nat}{w W:World}{ms:List Lg}(h:zaB lo hi w bo ms)(hM:Marked lo hi w W)(i:Nat)(hi':i<ms.length) :
 (∀j,j<4->∃v,W.cell? (aD bo (i*4+j))=some v)/\(∀o,W.frozen? (aD bo o)=false):=by
 have h':=h.mono hM;obtain⟨C,hC,hs,hn⟩:=h'.rows;exact⟨fun j hj=>⟨C[i*4+j]'(by omega),by rw[cell_of_block hC];exact Array.getElem?_eq_getElem (by omega)⟩,fun o=>zh hC⟩
theorem zaB.put {lo hi bo:Nat}{w W:World}{ms:List Lg}(h:zaB lo hi w bo ms)(hM:Marked lo hi w W)(i j:Nat)(hi':i<ms.length)(hj:j<4)(v:Value)(hv:∀a n c,v≠Value.slice a n c):Marked lo hi w (W.setCell (aD bo (i*4+j)) v):=by
 obtain⟨C,hC,hs,hn⟩:=h.rows;exact hM.put h.low h.high hC (hn i hi' j hj) v hv
set_option maxRecDepth 20000 in
theorem zfp (lo hi bo cap:Nat)(ms:List Lg)(k:Int)(w:World)(h:zaB lo hi w bo ms)(hl:ms.length<=1048576)(hk:0<k)(hk2:k<5000000000000000000) :
 Calls Tryz.prog 50 #[.l (some (aD bo 0)) ms.length cap,.i k] w fun e w'=>∃k',e=.returned (.i k')/\k<=k'/\k'<=k+ms.length*4/\Marked lo hi w w':=by
 have HF:Hid (zaB lo hi w bo ms):=h;have HL:Hid (ms.length<=1048576):=hl;have HK:Hid (0<k/\k<5000000000000000000):=⟨hk,hk2⟩
 clear h hl hk hk2;go_enter Tryz.func50,Tryz.ntmps50;go_wp2_with fail
 go_loopw [1,5] (fun kv iv wr=>∃(i:Nat) (kk:Int),i<=ms.length/\kv=.i kk/\iv=.i i/\k<=kk/\kk<=k+i*4/\Marked lo hi w wr) (fun _ iv _=>ms.length-(intOf iv).toNat)
 case atStart=>exact⟨0,k,Nat.zero_le _,rfl,rfl,Int.le_refl _,by simp,Marked.refl _ _ _⟩
 case round=>
  obtain⟨i,kk,hile,rfl,rfl,h1,h2,hM⟩:=hrel
  by_cases hlt:i<ms.length
  ·have hltI:(i:Int)<(ms.length:Int):=by omega
   have HB:Hid (0<kk/\kk<7000000000000000000/\kk<=k+i*4/\k<=kk):=by have a:=HK.o;have b:=HL.o;exact⟨by omega,by omega,h2,h1⟩
   have HM:=hid hM;clear h1 h2 hM;go_wp2_with fail
   refine(zN _ _ (by have a0:=HB.o;omega) (by have a0:=HB.o;omega)).mono ?_;rintro e wm1⟨s1,rfl,hb⟩;have HM1:Hid (Marked lo hi w wm1):=(HM.o).trans (Marked.of_below hb);clear hb;obtain⟨hex,hfz1⟩:=HF.o.ready (HM1.o) i hlt;obtain⟨v1,hv1⟩:=hex 0 (by omega);rw[Nat.add_zero]at hv1;clear hex;have HP1_0:Hid (Marked lo hi w (wm1.setCell (aD bo (i*4)) (.s s1))):=HF.o.put (HM1.o) i 0 hlt (by omega)  (.s s1) (fun _ _ _ h=>by cases h);have hw1:wrap64 (kk+1)=kk+1:=zA _ ⟨by have a0:=HB.o;omega,by have a0:=HB.o;omega⟩;go_wp2_with fail
   clear hfz1 hv1;refine(zN _ _ (by have a0:=HB.o;omega) (by have a0:=HB.o;omega)).mono ?_;rintro e wm2⟨s2,rfl,hb⟩;have HM2:Hid (Marked lo hi w wm2):=(HP1_0.o).trans (Marked.of_below hb);clear hb;obtain⟨hex,hfz2⟩:=HF.o.ready (HM2.o) i hlt;obtain⟨v2,hv2⟩:=hex 1 (by omega);clear hex;have HP2_1:Hid (Marked lo hi w (wm2.setCell (aD bo (i*4+1)) (.s s2))):=HF.o.put (HM2.o) i 1 hlt (by omega)  (.s s2) (fun _ _ _ h=>by cases h);have hw2:wrap64 (kk+1+1)=kk+1+1:=zA _ ⟨by have a0:=HB.o;omega,by have a0:=HB.o;omega⟩;obtain⟨hex,hfz3⟩:=HF.o.ready (HP2_1.o) i hlt;obtain⟨v3,hv3⟩:=hex 2 (by omega);clear hex;have HP2_2:Hid (Marked lo hi w ((wm2.setCell (aD bo (i*4+1)) (.s s2)).setCell (aD bo (i*4+2)) (.i (kk+1+1)))):=HF.o.put (HP2_1.o) i 2 hlt (by omega)  (.i (kk+1+1)) (fun _ _ _ h=>by cases h);have hw3:wrap64 (kk+1+1+1)=kk+1+1+1:=zA _ ⟨by have a0:=HB.o;omega,by have a0:=HB.o;omega⟩;obtain⟨hex,hfz4⟩:=HF.o.ready (HP2_2.o) i hlt;obtain⟨v4,hv4⟩:=hex 3 (by omega);clear hex;have HP2_3:Hid (Marked lo hi w (((wm2.setCell (aD bo (i*4+1)) (.s s2)).setCell (aD bo (i*4+2)) (.i (kk+1+1))).setCell (aD bo (i*4+3)) (.i (kk+1+1+1)))):=HF.o.put (HP2_2.o) i 3 hlt (by omega)  (.i (kk+1+1+1)) (fun _ _ _ h=>by cases h);have hw4:wrap64 (kk+1+1+1+1)=kk+1+1+1+1:=zA _ ⟨by have a0:=HB.o;omega,by have a0:=HB.o;omega⟩;go_wp2_with fail
   go_roundw
   case rel=>exact⟨i+1,kk+1+1+1+1,by omega,by first|rfl|rw[hw4],by rw[wrap_one (by have:=HL.o;omega)],by have a0:=HB.o;omega,by have a0:=HB.o;omega,HP2_3.o⟩
   case measure=>exact yO hlt (by have:=HL.o;omega)
  ·have e:i=ms.length:=by omega
   subst e;go_wp2_with fail
   go_ret;exact⟨kk,rfl,h1,h2,hM⟩
structure zaA (lo hi:Nat)(w:World)(bo:Nat)(ms:List Pu):Prop where
 low:lo<=bo
 high:bo<hi
 rows:∃C,w.heap[bo]?=some (.cells C 79)/\C.size=ms.length*5/\∀i,i<ms.length->(∀j,j<5->zaS C (i*5+j))
theorem zaA.mono {lo hi:Nat}{w w':World}{b:Nat}{ms:List Pu}(h:zaA lo hi w b ms)(hM:Marked lo hi w w'):zaA lo hi w' b ms:=by
 obtain⟨C,hC,hs,hn⟩:=h.rows;obtain⟨C',hC',hs',hk⟩:=hM.inn b C _ h.low h.high hC;refine⟨h.low,h.high,C',hC',by omega,fun i hi=>?_⟩;have h0:=hn i hi;exact fun j hj a m c he=>h0 j hj a m c ((hk _ a m c).1 he)
theorem j6.form {lo:Nat}{w:World}{bo:Nat}{ms:List Pu}(h:j6 lo w bo ms ms.length):zaA lo w.heap.size w bo ms:=by
 obtain⟨C,hC,hsz,hr⟩:=h.rows;refine⟨h.low,(gES hC).1,C,hC,hsz,fun i hi j hj a n c he=>?_⟩;rw[hr i hi hi j hj]at he
 rcases j with _|_|_|_|_|j <;> first|omega|(simp[Pu.cells]at he)
theorem zaA.ready {lo hi bo:Nat}{w W:World}{ms:List Pu}(h:zaA lo hi w bo ms)(hM:Marked lo hi w W)(i:Nat)(hi':i<ms.length) :
 (∀j,j<5->∃v,W.cell? (aD bo (i*5+j))=some v)/\(∀o,W.frozen? (aD bo o)=false):=by
 have h':=h.mono hM;obtain⟨C,hC,hs,hn⟩:=h'.rows;exact⟨fun j hj=>⟨C[i*5+j]'(by omega),by rw[cell_of_block hC];exact Array.getElem?_eq_getElem (by omega)⟩,fun o=>zh hC⟩
theorem zaA.put {lo hi bo:Nat}{w W:World}{ms:List Pu}(h:zaA lo hi w bo ms)(hM:Marked lo hi w W)(i j:Nat)(hi':i<ms.length)(hj:j<5)(v:Value)(hv:∀a n c,v≠Value.slice a n c):Marked lo hi w (W.setCell (aD bo (i*5+j)) v):=by
 obtain⟨C,hC,hs,hn⟩:=h.rows;exact hM.put h.low h.high hC (hn i hi' j hj) v hv
set_option maxRecDepth 20000 in
theorem zfM (lo hi bo cap:Nat)(ms:List Pu)(k:Int)(w:World)(h:zaA lo hi w bo ms)(hl:ms.length<=1048576)(hk:0<k)(hk2:k<5000000000000000000) :
 Calls Tryz.prog 51 #[.l (some (aD bo 0)) ms.length cap,.i k] w fun e w'=>∃k',e=.returned (.i k')/\k<=k'/\k'<=k+ms.length*5/\Marked lo hi w w':=by
 have HF:Hid (zaA lo hi w bo ms):=h;have HL:Hid (ms.length<=1048576):=hl;have HK:Hid (0<k/\k<5000000000000000000):=⟨hk,hk2⟩
 clear h hl hk hk2;go_enter Tryz.func51,Tryz.ntmps51;go_wp2_with fail
 go_loopw [1,5] (fun kv iv wr=>∃(i:Nat) (kk:Int),i<=ms.length/\kv=.i kk/\iv=.i i/\k<=kk/\kk<=k+i*5/\Marked lo hi w wr) (fun _ iv _=>ms.length-(intOf iv).toNat)
 case atStart=>exact⟨0,k,Nat.zero_le _,rfl,rfl,Int.le_refl _,by simp,Marked.refl _ _ _⟩
 case round=>
  obtain⟨i,kk,hile,rfl,rfl,h1,h2,hM⟩:=hrel
  by_cases hlt:i<ms.length
  ·have hltI:(i:Int)<(ms.length:Int):=by omega
   have HB:Hid (0<kk/\kk<7000000000000000000/\kk<=k+i*5/\k<=kk):=by have a:=HK.o;have b:=HL.o;exact⟨by omega,by omega,h2,h1⟩
   have HM:=hid hM;clear h1 h2 hM;go_wp2_with fail
   refine(zN _ _ (by have a0:=HB.o;omega) (by have a0:=HB.o;omega)).mono ?_;rintro e wm1⟨s1,rfl,hb⟩;have HM1:Hid (Marked lo hi w wm1):=(HM.o).trans (Marked.of_below hb);clear hb;obtain⟨hex,hfz1⟩:=HF.o.ready (HM1.o) i hlt;obtain⟨v1,hv1⟩:=hex 0 (by omega);rw[Nat.add_zero]at hv1;clear hex;have HP1_0:Hid (Marked lo hi w (wm1.setCell (aD bo (i*5)) (.s s1))):=HF.o.put (HM1.o) i 0 hlt (by omega)  (.s s1) (fun _ _ _ h=>by cases h);have hw1:wrap64 (kk+1)=kk+1:=zA _ ⟨by have a0:=HB.o;omega,by have a0:=HB.o;omega⟩;go_wp2_with fail
   clear hfz1 hv1;refine(zN _ _ (by have a0:=HB.o;omega) (by have a0:=HB.o;omega)).mono ?_;rintro e wm2⟨s2,rfl,hb⟩;have HM2:Hid (Marked lo hi w wm2):=(HP1_0.o).trans (Marked.of_below hb);clear hb;obtain⟨hex,hfz2⟩:=HF.o.ready (HM2.o) i hlt;obtain⟨v2,hv2⟩:=hex 1 (by omega);clear hex;have HP2_1:Hid (Marked lo hi w (wm2.setCell (aD bo (i*5+1)) (.s s2))):=HF.o.put (HM2.o) i 1 hlt (by omega)  (.s s2) (fun _ _ _ h=>by cases h);have hw2:wrap64 (kk+1+1)=kk+1+1:=zA _ ⟨by have a0:=HB.o;omega,by have a0:=HB.o;omega⟩;go_wp2_with fail
   clear hfz2 hv2;refine(zN _ _ (by have a0:=HB.o;omega) (by have a0:=HB.o;omega)).mono ?_;rintro e wm3⟨s3,rfl,hb⟩;have HM3:Hid (Marked lo hi w wm3):=(HP2_1.o).trans (Marked.of_below hb);clear hb;obtain⟨hex,hfz3⟩:=HF.o.ready (HM3.o) i hlt;obtain⟨v3,hv3⟩:=hex 2 (by omega);clear hex;have HP3_2:Hid (Marked lo hi w (wm3.setCell (aD bo (i*5+2)) (.s s3))):=HF.o.put (HM3.o) i 2 hlt (by omega)  (.s s3) (fun _ _ _ h=>by cases h);have hw3:wrap64 (kk+1+1+1)=kk+1+1+1:=zA _ ⟨by have a0:=HB.o;omega,by have a0:=HB.o;omega⟩;obtain⟨hex,hfz4⟩:=HF.o.ready (HP3_2.o) i hlt;obtain⟨v4,hv4⟩:=hex 3 (by omega);clear hex;have HP3_3:Hid (Marked lo hi w ((wm3.setCell (aD bo (i*5+2)) (.s s3)).setCell (aD bo (i*5+3)) (.i (kk+1+1+1)))):=HF.o.put (HP3_2.o) i 3 hlt (by omega)  (.i (kk+1+1+1)) (fun _ _ _ h=>by cases h);have hw4:wrap64 (kk+1+1+1+1)=kk+1+1+1+1:=zA _ ⟨by have a0:=HB.o;omega,by have a0:=HB.o;omega⟩;obtain⟨hex,hfz5⟩:=HF.o.ready (HP3_3.o) i hlt;obtain⟨v5,hv5⟩:=hex 4 (by omega);clear hex;have HP3_4:Hid (Marked lo hi w (((wm3.setCell (aD bo (i*5+2)) (.s s3)).setCell (aD bo (i*5+3)) (.i (kk+1+1+1))).setCell (aD bo (i*5+4)) (.i (kk+1+1+1+1)))):=HF.o.put (HP3_3.o) i 4 hlt (by omega)  (.i (kk+1+1+1+1)) (fun _ _ _ h=>by cases h);have hw5:wrap64 (kk+1+1+1+1+1)=kk+1+1+1+1+1:=zA _ ⟨by have a0:=HB.o;omega,by have a0:=HB.o;omega⟩;go_wp2_with fail
   go_roundw
   case rel=>exact⟨i+1,kk+1+1+1+1+1,by omega,by first|rfl|rw[hw5],by rw[wrap_one (by have:=HL.o;omega)],by have a0:=HB.o;omega,by have a0:=HB.o;omega,HP3_4.o⟩
   case measure=>exact yO hlt (by have:=HL.o;omega)
  ·have e:i=ms.length:=by omega
   subst e;go_wp2_with fail
   go_ret;exact⟨kk,rfl,h1,h2,hM⟩
end Go.Proofs.YtecncindgjdbiaaGreat
