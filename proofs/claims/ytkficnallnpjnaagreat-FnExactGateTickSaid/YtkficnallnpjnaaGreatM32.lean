import Derived.Test.YtkficnallnpjnaaGreatM30
import Derived.Test.YtkficnallnpjnaaGreatM29
set_option maxHeartbeats 8000000
namespace Go.Proofs.YtkficnallnpjnaaGreat
open Go.RowKit
def qz (ss:List Shp)(o:Ob):List ByteArray:=if zB ss o=true then zai (shapeOf ss o.kd).fs o.vs else o.vs
theorem zod {ss:List Shp}{o:Ob}(h:zZ ss=true):ziZ ss o=qz ss o:=by
 unfold ziZ qz zB
 by_cases h1:zJ ss o.kd=true
 ·by_cases h2:o.vs.length=(shapeOf ss o.kd).fs.length
  ·rw[if_pos ⟨h1,h,h2⟩,if_pos (by rw[h1];simp[h2])]
  ·rw[if_neg (fun hh=>h2 hh.2.2),if_neg (by rw[h1];simp[h2])]
 ·rw[if_neg (fun hh=>h1 hh.1),if_neg (by simp[h1])]
theorem zfD (a0:Option Addr)(cap0:Nat)(ss:List Shp)(o:Ob)(a a':Option Addr)(cap cap':Nat)(w0 w:World)(hw0:yT w0 a0 ss)(hbb:Below w0.heap.size w0 w)(hc:zB ss o=true) :
 Calls Tryz.prog 107 #[.slice a0 ss.length cap0,.agg #[.string o.kd,.string o.nm,.string o.tm,.slice a o.vs.length cap,.bool o.en,.slice a' o.hs.length cap',.int .i64 o.vr]] w fun e w'=>∃fa fcap,e=.returned (.tuple #[.slice fa (shapeOf ss o.kd).fs.length fcap,.bool true])/\yc w0 fa (shapeOf ss o.kd).fs/\Below w.heap.size w w':=by
 unfold zB at hc;simp only[Bool.and_eq_true,decide_eq_true_eq]at hc;have HK:=hid hc.1;have HL:=hid hc.2;clear hc;have hw:=hw0.mono hbb;have hl:=hw.len;unfold maxLen at hl;go_enter Tryz.func107,Tryz.ntmps107;go_wp2_with fail
 refine(jV _ _ _ _ _ (hw.mono (bAl _ _)) HK.out).mono ?_;rintro e w1⟨ix,hix,rfl,hsh,rfl⟩;have HSh:=hid hsh;clear hsh;obtain⟨b,off,rfl,hb0,hr⟩:=hw0.rows (by rintro rfl;simp at hix);obtain⟨fa,fcap,hs0⟩:=hr ix hix;have hs:=hs0.mono hb0 hbb;have hcl:=hs.list;have hfl:=hs0.zdy;have hixI:(ix:Int)<(ss.length:Int):=by omega
 have hix0:decide ((ix:Int)<0)=false:=by simp
 have hneq:((ss[ix].fs.length:Int) != (o.vs.length:Int))=false:=by have h1:=HL.out;have h2:=HSh.out;rw[h2]at h1;simp[h1]
 have hbw:=nLt hb0 hbb.size;clear hr hs;go_wp2_with fail
 go_quiet (fail)
 go_wp2_with fail
 go_ret2
 rw[HSh.out];exact⟨fa,fcap,rfl,hfl,below_drewN (bAl _ _) _⟩
theorem zrc {fs:List Fld}(h:zbR fs):∀f∈fs,f.df.size<=maxLen:=by
 intro f hf;obtain⟨i,hi,rfl⟩:=List.mem_iff_getElem.1 hf;exact(h.small i hi).1.df
theorem zoN {ss:List Shp}{o:Ob}(hs:zdw ss)(ho:∀s∈o.vs,s.size<=maxLen):∀s∈ziZ ss o,s.size<=maxLen:=by
 unfold ziZ
 split
 ·rename_i h
  have hf:zbR (shapeOf ss o.kd).fs:=by
   obtain⟨hk,_,_⟩:=h;unfold zJ at hk;rw[List.any_eq_true]at hk;obtain⟨x,hx,he⟩:=hk;unfold shapeOf
   cases hfi:ss.find? (fun s=>decide (s.kd=o.kd)) with
   | none=>rw[List.find?_eq_none]at hfi;exact absurd he (hfi x hx)
   | some y=>
    obtain⟨i,hi,rfl⟩:=List.mem_iff_getElem.1 (List.mem_of_find?_eq_some hfi);exact(hs.small i hi).2.2
  intro s hm;obtain⟨i,hi,rfl⟩:=List.mem_iff_getElem.1 hm;have hl:=qN h.2.2;have e:(zai (shapeOf ss o.kd).fs o.vs)[i]=zao ((shapeOf ss o.kd).fs[i]'(by have:=h.2.2;omega)) (o.vs[i]'(by omega)):=by simp[zai]
  rw[e];unfold zao
  split
  ·exact zrc hf _ (List.getElem_mem _)
  ·exact ho _ (List.getElem_mem _)
 ·exact ho
structure zaF (lo hi:Nat)(w:World)(bo:Nat)(ms:List Tm):Prop where
 low:lo<=bo
 high:bo<hi
 rows:∃C,w.heap[bo]?=some (.cells C 132)/\C.size=ms.length*2/\∀i,i<ms.length->(∀j,j<2->zaW C (i*2+j))
theorem zaF.mono {lo hi:Nat}{w w':World}{b:Nat}{ms:List Tm}(h:zaF lo hi w b ms)(hM:Marked lo hi w w'):zaF lo hi w' b ms:=by
 obtain⟨C,hC,hs,hn⟩:=h.rows;obtain⟨C',hC',hs',hk⟩:=hM.inn b C _ h.low h.high hC;refine⟨h.low,h.high,C',hC',by omega,fun i hi=>?_⟩;have h0:=hn i hi;exact fun j hj a m c he=>h0 j hj a m c ((hk _ a m c).1 he)
theorem zaf.form {lo:Nat}{w:World}{bo:Nat}{ms:List Tm}(h:zaf 132 lo w bo ms ms.length):zaF lo w.heap.size w bo ms:=by
 obtain⟨C,hC,hsz,hr⟩:=h.rows;refine⟨h.low,(gES hC).1,C,hC,hsz,fun i hi j hj a n c he=>?_⟩;rw[hr i hi hi j hj]at he
 rcases j with _|_|j <;> first|omega|(simp[Tm.cells]at he)
theorem zaF.ready {lo hi bo:Nat}{w W:World}{ms:List Tm}(h:zaF lo hi w bo ms)(hM:Marked lo hi w W)(i:Nat)(hi':i<ms.length) :
 (∀j,j<2->∃v,W.cell? ⟨bo,i*2+j,none⟩=some v)/\(∀o,W.frozen? ⟨bo,o,none⟩=false):=by
 have h':=h.mono hM;obtain⟨C,hC,hs,hn⟩:=h'.rows;exact⟨fun j hj=>⟨C[i*2+j]'(by omega),by rw[cell_of_block hC];exact Array.getElem?_eq_getElem (by omega)⟩,fun o=>zh hC⟩
theorem zaF.put {lo hi bo:Nat}{w W:World}{ms:List Tm}(h:zaF lo hi w bo ms)(hM:Marked lo hi w W)(i j:Nat)(hi':i<ms.length)(hj:j<2)(v:Value)(hv:∀a n c,v≠Value.slice a n c):Marked lo hi w (W.setCell ⟨bo,i*2+j,none⟩ v):=by
 obtain⟨C,hC,hs,hn⟩:=h.rows;exact hM.put h.low h.high hC (hn i hi' j hj) v hv
set_option maxRecDepth 20000 in
theorem zf7 (lo hi bo cap:Nat)(ms:List Tm)(k:Int)(w:World)(h:zaF lo hi w bo ms)(hl:ms.length<=1048576)(hk:0<k)(hk2:k<5000000000000000000) :
 Calls Tryz.prog 44 #[.slice (some ⟨bo,0,none⟩) ms.length cap,.int .i64 k] w fun e w'=>∃k',e=.returned (.int .i64 k')/\k<=k'/\k'<=k+ms.length*2/\Marked lo hi w w':=by
 have HF:Hid (zaF lo hi w bo ms):=h;have HL:Hid (ms.length<=1048576):=hl;have HK:Hid (0<k/\k<5000000000000000000):=⟨hk,hk2⟩
 clear h hl hk hk2;go_enter Tryz.func44,Tryz.ntmps44;go_wp2_with fail
 go_loopw [1,5] (fun kv iv wr=>∃(i:Nat) (kk:Int),i<=ms.length/\kv=.int .i64 kk/\iv=.int .i64 i/\k<=kk/\kk<=k+i*2/\Marked lo hi w wr) (fun _ iv _=>ms.length-(intOf iv).toNat)
 case atStart=>exact⟨0,k,Nat.zero_le _,rfl,rfl,Int.le_refl _,by simp,Marked.refl _ _ _⟩
 case round=>
  obtain⟨i,kk,hile,rfl,rfl,h1,h2,hM⟩:=hrel
  by_cases hlt:i<ms.length
  ·have hltI:(i:Int)<(ms.length:Int):=by omega
   have HB:Hid (0<kk/\kk<7000000000000000000/\kk<=k+i*2/\k<=kk):=by have a:=HK.out;have b:=HL.out;exact⟨by omega,by omega,h2,h1⟩
   have HM:Hid (Marked lo hi w wr):=hM;clear h1 h2 hM;go_wp2_with fail
   refine(zN _ _ (by have a0:=HB.out;omega) (by have a0:=HB.out;omega)).mono ?_;rintro e wm1⟨s1,rfl,hb⟩;have HM1:Hid (Marked lo hi w wm1):=(HM.out).trans (Marked.of_below hb);clear hb;obtain⟨hex,hfz1⟩:=HF.out.ready (HM1.out) i hlt;obtain⟨v1,hv1⟩:=hex 0 (by omega);rw[Nat.add_zero]at hv1;clear hex;have HP1_0:Hid (Marked lo hi w (wm1.setCell ⟨bo,i*2,none⟩ (.string s1))):=HF.out.put (HM1.out) i 0 hlt (by omega)  (.string s1) (fun _ _ _ h=>by cases h);have hw1:wrap64 (kk+1)=kk+1:=zy _ ⟨by have a0:=HB.out;omega,by have a0:=HB.out;omega⟩;go_wp2_with fail
   clear hfz1 hv1;refine(zN _ _ (by have a0:=HB.out;omega) (by have a0:=HB.out;omega)).mono ?_;rintro e wm2⟨s2,rfl,hb⟩;have HM2:Hid (Marked lo hi w wm2):=(HP1_0.out).trans (Marked.of_below hb);clear hb;obtain⟨hex,hfz2⟩:=HF.out.ready (HM2.out) i hlt;obtain⟨v2,hv2⟩:=hex 1 (by omega);clear hex;have HP2_1:Hid (Marked lo hi w (wm2.setCell ⟨bo,i*2+1,none⟩ (.string s2))):=HF.out.put (HM2.out) i 1 hlt (by omega)  (.string s2) (fun _ _ _ h=>by cases h);have hw2:wrap64 (kk+1+1)=kk+1+1:=zy _ ⟨by have a0:=HB.out;omega,by have a0:=HB.out;omega⟩;go_wp2_with fail
   go_roundw
   case rel=>exact⟨i+1,kk+1+1,by omega,by first|rfl|rw[hw2],by rw[wrap_one (by have:=HL.out;omega)],by have a0:=HB.out;omega,by have a0:=HB.out;omega,HP2_1.out⟩
   case measure=>exact yP hlt (by have:=HL.out;omega)
  ·have e:i=ms.length:=by omega
   subst e;go_wp2_with fail
   go_ret;exact⟨kk,rfl,h1,h2,hM⟩
structure zaE (lo hi:Nat)(w:World)(bo:Nat)(ms:List Lg):Prop where
 low:lo<=bo
 high:bo<hi
 rows:∃C,w.heap[bo]?=some (.cells C 124)/\C.size=ms.length*4/\∀i,i<ms.length->(∀j,j<4->zaW C (i*4+j))
theorem zaE.mono {lo hi:Nat}{w w':World}{b:Nat}{ms:List Lg}(h:zaE lo hi w b ms)(hM:Marked lo hi w w'):zaE lo hi w' b ms:=by
 obtain⟨C,hC,hs,hn⟩:=h.rows;obtain⟨C',hC',hs',hk⟩:=hM.inn b C _ h.low h.high hC;refine⟨h.low,h.high,C',hC',by omega,fun i hi=>?_⟩;have h0:=hn i hi;exact fun j hj a m c he=>h0 j hj a m c ((hk _ a m c).1 he)
theorem j3.form {lo:Nat}{w:World}{bo:Nat}{ms:List Lg}(h:j3 lo w bo ms ms.length):zaE lo w.heap.size w bo ms:=by
 obtain⟨C,hC,hsz,hr⟩:=h.rows;refine⟨h.low,(gES hC).1,C,hC,hsz,fun i hi j hj a n c he=>?_⟩;rw[hr i hi hi j hj]at he
 rcases j with _|_|_|_|j <;> first|omega|(simp[Lg.cells]at he)
theorem zaE.ready {lo hi bo:Nat}{w W:World}{ms:List Lg}(h:zaE lo hi w bo ms)(hM:Marked lo hi w W)(i:Nat)(hi':i<ms.length) :
 (∀j,j<4->∃v,W.cell? ⟨bo,i*4+j,none⟩=some v)/\(∀o,W.frozen? ⟨bo,o,none⟩=false):=by
 have h':=h.mono hM;obtain⟨C,hC,hs,hn⟩:=h'.rows;exact⟨fun j hj=>⟨C[i*4+j]'(by omega),by rw[cell_of_block hC];exact Array.getElem?_eq_getElem (by omega)⟩,fun o=>zh hC⟩
theorem zaE.put {lo hi bo:Nat}{w W:World}{ms:List Lg}(h:zaE lo hi w bo ms)(hM:Marked lo hi w W)(i j:Nat)(hi':i<ms.length)(hj:j<4)(v:Value)(hv:∀a n c,v≠Value.slice a n c):Marked lo hi w (W.setCell ⟨bo,i*4+j,none⟩ v):=by
 obtain⟨C,hC,hs,hn⟩:=h.rows;exact hM.put h.low h.high hC (hn i hi' j hj) v hv
set_option maxRecDepth 20000 in
theorem zfj (lo hi bo cap:Nat)(ms:List Lg)(k:Int)(w:World)(h:zaE lo hi w bo ms)(hl:ms.length<=1048576)(hk:0<k)(hk2:k<5000000000000000000) :
 Calls Tryz.prog 47 #[.slice (some ⟨bo,0,none⟩) ms.length cap,.int .i64 k] w fun e w'=>∃k',e=.returned (.int .i64 k')/\k<=k'/\k'<=k+ms.length*4/\Marked lo hi w w':=by
 have HF:Hid (zaE lo hi w bo ms):=h;have HL:Hid (ms.length<=1048576):=hl;have HK:Hid (0<k/\k<5000000000000000000):=⟨hk,hk2⟩
 clear h hl hk hk2;go_enter Tryz.func47,Tryz.ntmps47;go_wp2_with fail
 go_loopw [1,5] (fun kv iv wr=>∃(i:Nat) (kk:Int),i<=ms.length/\kv=.int .i64 kk/\iv=.int .i64 i/\k<=kk/\kk<=k+i*4/\Marked lo hi w wr) (fun _ iv _=>ms.length-(intOf iv).toNat)
 case atStart=>exact⟨0,k,Nat.zero_le _,rfl,rfl,Int.le_refl _,by simp,Marked.refl _ _ _⟩
 case round=>
  obtain⟨i,kk,hile,rfl,rfl,h1,h2,hM⟩:=hrel
  by_cases hlt:i<ms.length
  ·have hltI:(i:Int)<(ms.length:Int):=by omega
   have HB:Hid (0<kk/\kk<7000000000000000000/\kk<=k+i*4/\k<=kk):=by have a:=HK.out;have b:=HL.out;exact⟨by omega,by omega,h2,h1⟩
   have HM:=hid hM;clear h1 h2 hM;go_wp2_with fail
   refine(zN _ _ (by have a0:=HB.out;omega) (by have a0:=HB.out;omega)).mono ?_;rintro e wm1⟨s1,rfl,hb⟩;have HM1:Hid (Marked lo hi w wm1):=(HM.out).trans (Marked.of_below hb);clear hb;obtain⟨hex,hfz1⟩:=HF.out.ready (HM1.out) i hlt;obtain⟨v1,hv1⟩:=hex 0 (by omega);rw[Nat.add_zero]at hv1;clear hex;have HP1_0:Hid (Marked lo hi w (wm1.setCell ⟨bo,i*4,none⟩ (.string s1))):=HF.out.put (HM1.out) i 0 hlt (by omega)  (.string s1) (fun _ _ _ h=>by cases h);have hw1:wrap64 (kk+1)=kk+1:=zy _ ⟨by have a0:=HB.out;omega,by have a0:=HB.out;omega⟩;go_wp2_with fail
   clear hfz1 hv1;refine(zN _ _ (by have a0:=HB.out;omega) (by have a0:=HB.out;omega)).mono ?_;rintro e wm2⟨s2,rfl,hb⟩;have HM2:Hid (Marked lo hi w wm2):=(HP1_0.out).trans (Marked.of_below hb);clear hb;obtain⟨hex,hfz2⟩:=HF.out.ready (HM2.out) i hlt;obtain⟨v2,hv2⟩:=hex 1 (by omega);clear hex;have HP2_1:Hid (Marked lo hi w (wm2.setCell ⟨bo,i*4+1,none⟩ (.string s2))):=HF.out.put (HM2.out) i 1 hlt (by omega)  (.string s2) (fun _ _ _ h=>by cases h);have hw2:wrap64 (kk+1+1)=kk+1+1:=zy _ ⟨by have a0:=HB.out;omega,by have a0:=HB.out;omega⟩;obtain⟨hex,hfz3⟩:=HF.out.ready (HP2_1.out) i hlt;obtain⟨v3,hv3⟩:=hex 2 (by omega);clear hex;have HP2_2:Hid (Marked lo hi w ((wm2.setCell ⟨bo,i*4+1,none⟩ (.string s2)).setCell ⟨bo,i*4+2,none⟩ (.int .i64 (kk+1+1)))):=HF.out.put (HP2_1.out) i 2 hlt (by omega)  (.int .i64 (kk+1+1)) (fun _ _ _ h=>by cases h);have hw3:wrap64 (kk+1+1+1)=kk+1+1+1:=zy _ ⟨by have a0:=HB.out;omega,by have a0:=HB.out;omega⟩;obtain⟨hex,hfz4⟩:=HF.out.ready (HP2_2.out) i hlt;obtain⟨v4,hv4⟩:=hex 3 (by omega);clear hex;have HP2_3:Hid (Marked lo hi w (((wm2.setCell ⟨bo,i*4+1,none⟩ (.string s2)).setCell ⟨bo,i*4+2,none⟩ (.int .i64 (kk+1+1))).setCell ⟨bo,i*4+3,none⟩ (.int .i64 (kk+1+1+1)))):=HF.out.put (HP2_2.out) i 3 hlt (by omega)  (.int .i64 (kk+1+1+1)) (fun _ _ _ h=>by cases h);have hw4:wrap64 (kk+1+1+1+1)=kk+1+1+1+1:=zy _ ⟨by have a0:=HB.out;omega,by have a0:=HB.out;omega⟩;go_wp2_with fail
   go_roundw
   case rel=>exact⟨i+1,kk+1+1+1+1,by omega,by first|rfl|rw[hw4],by rw[wrap_one (by have:=HL.out;omega)],by have a0:=HB.out;omega,by have a0:=HB.out;omega,HP2_3.out⟩
   case measure=>exact yP hlt (by have:=HL.out;omega)
  ·have e:i=ms.length:=by omega
   subst e;go_wp2_with fail
   go_ret;exact⟨kk,rfl,h1,h2,hM⟩
structure zaB (lo hi:Nat)(w:World)(bo:Nat)(ms:List Pu):Prop where
 low:lo<=bo
 high:bo<hi
 rows:∃C,w.heap[bo]?=some (.cells C 65)/\C.size=ms.length*5/\∀i,i<ms.length->(∀j,j<5->zaW C (i*5+j))
theorem zaB.mono {lo hi:Nat}{w w':World}{b:Nat}{ms:List Pu}(h:zaB lo hi w b ms)(hM:Marked lo hi w w'):zaB lo hi w' b ms:=by
 obtain⟨C,hC,hs,hn⟩:=h.rows;obtain⟨C',hC',hs',hk⟩:=hM.inn b C _ h.low h.high hC;refine⟨h.low,h.high,C',hC',by omega,fun i hi=>?_⟩;have h0:=hn i hi;exact fun j hj a m c he=>h0 j hj a m c ((hk _ a m c).1 he)
theorem j4.form {lo:Nat}{w:World}{bo:Nat}{ms:List Pu}(h:j4 lo w bo ms ms.length):zaB lo w.heap.size w bo ms:=by
 obtain⟨C,hC,hsz,hr⟩:=h.rows;refine⟨h.low,(gES hC).1,C,hC,hsz,fun i hi j hj a n c he=>?_⟩;rw[hr i hi hi j hj]at he
 rcases j with _|_|_|_|_|j <;> first|omega|(simp[Pu.cells]at he)
theorem zaB.ready {lo hi bo:Nat}{w W:World}{ms:List Pu}(h:zaB lo hi w bo ms)(hM:Marked lo hi w W)(i:Nat)(hi':i<ms.length) :
 (∀j,j<5->∃v,W.cell? ⟨bo,i*5+j,none⟩=some v)/\(∀o,W.frozen? ⟨bo,o,none⟩=false):=by
 have h':=h.mono hM;obtain⟨C,hC,hs,hn⟩:=h'.rows;exact⟨fun j hj=>⟨C[i*5+j]'(by omega),by rw[cell_of_block hC];exact Array.getElem?_eq_getElem (by omega)⟩,fun o=>zh hC⟩
theorem zaB.put {lo hi bo:Nat}{w W:World}{ms:List Pu}(h:zaB lo hi w bo ms)(hM:Marked lo hi w W)(i j:Nat)(hi':i<ms.length)(hj:j<5)(v:Value)(hv:∀a n c,v≠Value.slice a n c):Marked lo hi w (W.setCell ⟨bo,i*5+j,none⟩ v):=by
 obtain⟨C,hC,hs,hn⟩:=h.rows;exact hM.put h.low h.high hC (hn i hi' j hj) v hv
set_option maxRecDepth 20000 in
theorem zfH (lo hi bo cap:Nat)(ms:List Pu)(k:Int)(w:World)(h:zaB lo hi w bo ms)(hl:ms.length<=1048576)(hk:0<k)(hk2:k<5000000000000000000) :
 Calls Tryz.prog 48 #[.slice (some ⟨bo,0,none⟩) ms.length cap,.int .i64 k] w fun e w'=>∃k',e=.returned (.int .i64 k')/\k<=k'/\k'<=k+ms.length*5/\Marked lo hi w w':=by
 have HF:Hid (zaB lo hi w bo ms):=h;have HL:Hid (ms.length<=1048576):=hl;have HK:Hid (0<k/\k<5000000000000000000):=⟨hk,hk2⟩
 clear h hl hk hk2;go_enter Tryz.func48,Tryz.ntmps48;go_wp2_with fail
 go_loopw [1,5] (fun kv iv wr=>∃(i:Nat) (kk:Int),i<=ms.length/\kv=.int .i64 kk/\iv=.int .i64 i/\k<=kk/\kk<=k+i*5/\Marked lo hi w wr) (fun _ iv _=>ms.length-(intOf iv).toNat)
 case atStart=>exact⟨0,k,Nat.zero_le _,rfl,rfl,Int.le_refl _,by simp,Marked.refl _ _ _⟩
 case round=>
  obtain⟨i,kk,hile,rfl,rfl,h1,h2,hM⟩:=hrel
  by_cases hlt:i<ms.length
  ·have hltI:(i:Int)<(ms.length:Int):=by omega
   have HB:Hid (0<kk/\kk<7000000000000000000/\kk<=k+i*5/\k<=kk):=by have a:=HK.out;have b:=HL.out;exact⟨by omega,by omega,h2,h1⟩
   have HM:=hid hM;clear h1 h2 hM;go_wp2_with fail
   refine(zN _ _ (by have a0:=HB.out;omega) (by have a0:=HB.out;omega)).mono ?_;rintro e wm1⟨s1,rfl,hb⟩;have HM1:Hid (Marked lo hi w wm1):=(HM.out).trans (Marked.of_below hb);clear hb;obtain⟨hex,hfz1⟩:=HF.out.ready (HM1.out) i hlt;obtain⟨v1,hv1⟩:=hex 0 (by omega);rw[Nat.add_zero]at hv1;clear hex;have HP1_0:Hid (Marked lo hi w (wm1.setCell ⟨bo,i*5,none⟩ (.string s1))):=HF.out.put (HM1.out) i 0 hlt (by omega)  (.string s1) (fun _ _ _ h=>by cases h);have hw1:wrap64 (kk+1)=kk+1:=zy _ ⟨by have a0:=HB.out;omega,by have a0:=HB.out;omega⟩;go_wp2_with fail
   clear hfz1 hv1;refine(zN _ _ (by have a0:=HB.out;omega) (by have a0:=HB.out;omega)).mono ?_;rintro e wm2⟨s2,rfl,hb⟩;have HM2:Hid (Marked lo hi w wm2):=(HP1_0.out).trans (Marked.of_below hb);clear hb;obtain⟨hex,hfz2⟩:=HF.out.ready (HM2.out) i hlt;obtain⟨v2,hv2⟩:=hex 1 (by omega);clear hex;have HP2_1:Hid (Marked lo hi w (wm2.setCell ⟨bo,i*5+1,none⟩ (.string s2))):=HF.out.put (HM2.out) i 1 hlt (by omega)  (.string s2) (fun _ _ _ h=>by cases h);have hw2:wrap64 (kk+1+1)=kk+1+1:=zy _ ⟨by have a0:=HB.out;omega,by have a0:=HB.out;omega⟩;go_wp2_with fail
   clear hfz2 hv2;refine(zN _ _ (by have a0:=HB.out;omega) (by have a0:=HB.out;omega)).mono ?_;rintro e wm3⟨s3,rfl,hb⟩;have HM3:Hid (Marked lo hi w wm3):=(HP2_1.out).trans (Marked.of_below hb);clear hb;obtain⟨hex,hfz3⟩:=HF.out.ready (HM3.out) i hlt;obtain⟨v3,hv3⟩:=hex 2 (by omega);clear hex;have HP3_2:Hid (Marked lo hi w (wm3.setCell ⟨bo,i*5+2,none⟩ (.string s3))):=HF.out.put (HM3.out) i 2 hlt (by omega)  (.string s3) (fun _ _ _ h=>by cases h);have hw3:wrap64 (kk+1+1+1)=kk+1+1+1:=zy _ ⟨by have a0:=HB.out;omega,by have a0:=HB.out;omega⟩;obtain⟨hex,hfz4⟩:=HF.out.ready (HP3_2.out) i hlt;obtain⟨v4,hv4⟩:=hex 3 (by omega);clear hex;have HP3_3:Hid (Marked lo hi w ((wm3.setCell ⟨bo,i*5+2,none⟩ (.string s3)).setCell ⟨bo,i*5+3,none⟩ (.int .i64 (kk+1+1+1)))):=HF.out.put (HP3_2.out) i 3 hlt (by omega)  (.int .i64 (kk+1+1+1)) (fun _ _ _ h=>by cases h);have hw4:wrap64 (kk+1+1+1+1)=kk+1+1+1+1:=zy _ ⟨by have a0:=HB.out;omega,by have a0:=HB.out;omega⟩;obtain⟨hex,hfz5⟩:=HF.out.ready (HP3_3.out) i hlt;obtain⟨v5,hv5⟩:=hex 4 (by omega);clear hex;have HP3_4:Hid (Marked lo hi w (((wm3.setCell ⟨bo,i*5+2,none⟩ (.string s3)).setCell ⟨bo,i*5+3,none⟩ (.int .i64 (kk+1+1+1))).setCell ⟨bo,i*5+4,none⟩ (.int .i64 (kk+1+1+1+1)))):=HF.out.put (HP3_3.out) i 4 hlt (by omega)  (.int .i64 (kk+1+1+1+1)) (fun _ _ _ h=>by cases h);have hw5:wrap64 (kk+1+1+1+1+1)=kk+1+1+1+1+1:=zy _ ⟨by have a0:=HB.out;omega,by have a0:=HB.out;omega⟩;go_wp2_with fail
   go_roundw
   case rel=>exact⟨i+1,kk+1+1+1+1+1,by omega,by first|rfl|rw[hw5],by rw[wrap_one (by have:=HL.out;omega)],by have a0:=HB.out;omega,by have a0:=HB.out;omega,HP3_4.out⟩
   case measure=>exact yP hlt (by have:=HL.out;omega)
  ·have e:i=ms.length:=by omega
   subst e;go_wp2_with fail
   go_ret;exact⟨kk,rfl,h1,h2,hM⟩
structure zad (lo hi:Nat)(w:World)(bo:Nat)(ms:List Gr):Prop where
 low:lo<=bo
 high:bo<hi
 rows:∃C,w.heap[bo]?=some (.cells C 121)/\C.size=ms.length*7/\∀i (h:i<ms.length),(∀j,j<7->j≠3->zaW C (i*7+j))/\(∃bk cap,za5 lo hi w bk ms[i].r.vs.length/\C[i*7+3]?=some (.slice (some ⟨bk,0,none⟩) ms[i].r.vs.length cap))
theorem zad.mono {lo hi:Nat}{w w':World}{b:Nat}{ms:List Gr}(h:zad lo hi w b ms)(hM:Marked lo hi w w'):zad lo hi w' b ms:=by
 obtain⟨C,hC,hs,hn⟩:=h.rows;obtain⟨C',hC',hs',hk⟩:=hM.inn b C _ h.low h.high hC;refine⟨h.low,h.high,C',hC',by omega,fun i hi=>?_⟩;obtain⟨h0,⟨bk3,cap3,f3,g3⟩⟩:=hn i hi;exact⟨fun j hj n3 a m c he=>h0 j hj n3 a m c ((hk _ a m c).1 he),bk3,cap3,f3.mono hM,(hk _ _ _ _).2 g3⟩
theorem zjE (ws:List Int)(j:Nat):zaW (zbN ws) j:=by
 intro a n c h
 simp[zbN]at h
theorem zaa.form {lo:Nat}{w:World}{bo:Nat}{ms:List Gr}(h:zaa lo w bo ms ms.length):zad lo w.heap.size w bo ms:=by
 obtain⟨C,hC,hsz,hr⟩:=h.rows;refine⟨h.low,(gES hC).1,C,hC,hsz,fun i hi=>?_⟩;obtain⟨g0,hl0,hn0,hg0,hc⟩:=hr i hi hi;refine⟨fun j hj n3 a n c he=>?_,g0,_,⟨hl0,(gES hg0).1,_,hg0,by simp[zbN],fun j _=>zjE _ j⟩,hc 3 (by omega)⟩;rw[hc j hj]at he
 rcases j with _|_|_|_|_|_|_|j <;> first|omega|(simp[Gr.cells]at he)
theorem zad.ready {lo hi bo:Nat}{w W:World}{ms:List Gr}(h:zad lo hi w bo ms)(hM:Marked lo hi w W)(i:Nat)(hi':i<ms.length) :
 (∀j,j<7->∃v,W.cell? ⟨bo,i*7+j,none⟩=some v)/\(∀o,W.frozen? ⟨bo,o,none⟩=false):=by
 have h':=h.mono hM;obtain⟨C,hC,hs,hn⟩:=h'.rows;exact⟨fun j hj=>⟨C[i*7+j]'(by omega),by rw[cell_of_block hC];exact Array.getElem?_eq_getElem (by omega)⟩,fun o=>zh hC⟩
theorem zad.put {lo hi bo:Nat}{w W:World}{ms:List Gr}(h:zad lo hi w bo ms)(hM:Marked lo hi w W)(i j:Nat)(hi':i<ms.length)(hj:j<7)(n3:j≠3)(v:Value)(hv:∀a n c,v≠Value.slice a n c):Marked lo hi w (W.setCell ⟨bo,i*7+j,none⟩ v):=by
 obtain⟨C,hC,hs,hn⟩:=h.rows;exact hM.put h.low h.high hC ((hn i hi').1 j hj n3) v hv
theorem zad.zqg {lo hi bo:Nat}{w:World}{ms:List Gr}(h:zad lo hi w bo ms)(i:Nat)(hi':i<ms.length) :
 ∃bk cap,za5 lo hi w bk ms[i].r.vs.length/\∀W,Marked lo hi w W->W.cell? ⟨bo,i*7+3,none⟩=some (.slice (some ⟨bk,0,none⟩) ms[i].r.vs.length cap):=by
 obtain⟨C,hC,hs,hn⟩:=h.rows;obtain⟨bk,cap,h1,h2⟩:=(hn i hi').2;refine⟨bk,cap,h1,fun W hM=>?_⟩;obtain⟨C',hC',_,hk⟩:=hM.inn bo C _ h.low h.high hC;rw[cell_of_block hC'];exact(hk _ _ _ _).2 h2
set_option maxRecDepth 20000 in
theorem zfM (lo hi bo cap:Nat)(ms:List Gr)(k:Int)(w:World)(h:zad lo hi w bo ms)(hl:ms.length<=1048576)(hls:∀i (h:i<ms.length),ms[i].r.vs.length<=1048576)(hk:0<k)(hk2:k<5000000000000000000) :
 Calls Tryz.prog 46 #[.slice (some ⟨bo,0,none⟩) ms.length cap,.int .i64 k] w fun e w'=>∃k',e=.returned (.int .i64 k')/\k<=k'/\k'<=k+ms.length*1048583/\Marked lo hi w w':=by
 have HF:Hid (zad lo hi w bo ms):=h;have HL:Hid (ms.length<=1048576/\∀i (h:i<ms.length),ms[i].r.vs.length<=1048576):=⟨hl,hls⟩
 have HK:Hid (0<k/\k<5000000000000000000):=⟨hk,hk2⟩
 clear h hl hk hk2 hls;go_enter Tryz.func46,Tryz.ntmps46;go_wp2_with fail
 go_loopw [1,5] (fun kv iv wr=>∃(i:Nat) (kk:Int),i<=ms.length/\kv=.int .i64 kk/\iv=.int .i64 i/\k<=kk/\kk<=k+i*1048583/\Marked lo hi w wr) (fun _ iv _=>ms.length-(intOf iv).toNat)
 case atStart=>exact⟨0,k,Nat.zero_le _,rfl,rfl,Int.le_refl _,by simp,Marked.refl _ _ _⟩
 case round=>
  obtain⟨i,kk,hile,rfl,rfl,h1,h2,hM⟩:=hrel
  by_cases hlt:i<ms.length
  ·have hltI:(i:Int)<(ms.length:Int):=by omega
   have HB:Hid (0<kk/\kk<7000000000000000000/\kk<=k+i*1048583/\k<=kk):=by have a:=HK.out;have b:=HL.out.1;exact⟨by omega,by omega,h2,h1⟩
   have HM:Hid (Marked lo hi w wr):=hM;clear h1 h2 hM;obtain⟨bk3,bc3,hT,hsl⟩:=HF.out.zqg i hlt;have HT3:Hid (za5 lo hi w bk3 ms[i].r.vs.length/\∀W,Marked lo hi w W->W.cell? ⟨bo,i*7+3,none⟩=some (.slice (some ⟨bk3,0,none⟩) ms[i].r.vs.length bc3)):=⟨hT,hsl⟩
   clear hT hsl;obtain⟨hex,hfz1⟩:=HF.out.ready (HM.out) i hlt;obtain⟨v1,hv1⟩:=hex 0 (by omega);rw[Nat.add_zero]at hv1;clear hex;have HP0_0:Hid (Marked lo hi w (wr.setCell ⟨bo,i*7,none⟩ (.int .i64 (kk)))):=HF.out.put (HM.out) i 0 hlt (by omega) (by omega) (.int .i64 (kk)) (fun _ _ _ h=>by cases h);have hw1:wrap64 (kk+1)=kk+1:=zy _ ⟨by have a0:=HB.out;omega,by have a0:=HB.out;omega⟩;go_wp2_with fail
   clear hfz1 hv1;refine(zN _ _ (by have a0:=HB.out;omega) (by have a0:=HB.out;omega)).mono ?_;rintro e wm1⟨s1,rfl,hb⟩;have HM1:Hid (Marked lo hi w wm1):=(HP0_0.out).trans (Marked.of_below hb);clear hb;obtain⟨hex,hfz2⟩:=HF.out.ready (HM1.out) i hlt;obtain⟨v2,hv2⟩:=hex 1 (by omega);clear hex;have HP1_1:Hid (Marked lo hi w (wm1.setCell ⟨bo,i*7+1,none⟩ (.string s1))):=HF.out.put (HM1.out) i 1 hlt (by omega) (by omega) (.string s1) (fun _ _ _ h=>by cases h);have hw2:wrap64 (kk+1+1)=kk+1+1:=zy _ ⟨by have a0:=HB.out;omega,by have a0:=HB.out;omega⟩;go_wp2_with fail
   clear hfz2 hv2;refine(zN _ _ (by have a0:=HB.out;omega) (by have a0:=HB.out;omega)).mono ?_;rintro e wm2⟨s2,rfl,hb⟩;have HM2:Hid (Marked lo hi w wm2):=(HP1_1.out).trans (Marked.of_below hb);clear hb;obtain⟨hex,hfz3⟩:=HF.out.ready (HM2.out) i hlt;obtain⟨v3,hv3⟩:=hex 2 (by omega);clear hex;have HP2_2:Hid (Marked lo hi w (wm2.setCell ⟨bo,i*7+2,none⟩ (.string s2))):=HF.out.put (HM2.out) i 2 hlt (by omega) (by omega) (.string s2) (fun _ _ _ h=>by cases h);have hw3:wrap64 (kk+1+1+1)=kk+1+1+1:=zy _ ⟨by have a0:=HB.out;omega,by have a0:=HB.out;omega⟩;have hsl3:=HT3.out.2 _ (HP2_2.out);go_wp2_with fail
   clear hfz3 hv3 hsl3;refine(zkK lo hi bk3 _ bc3 _ _ (HT3.out.1.mono (HP2_2.out)) ((HL.out.2 i hlt)) (by have a0:=HB.out;omega) (by have a0:=HB.out;omega)).mono ?_;rintro e wm3⟨k3,rfl,hke,hMn⟩;have HM3:Hid (Marked lo hi w wm3):=(HP2_2.out).trans hMn;have HK3:Hid (k3=kk+1+1+1+ms[i].r.vs.length/\ms[i].r.vs.length<=1048576):=⟨by omega,(HL.out.2 i hlt)⟩
   clear hMn hke;go_wp2_with fail
   refine(zN _ _ (by have a0:=HB.out;have a1:=HK3.out;omega) (by have a0:=HB.out;have a1:=HK3.out;omega)).mono ?_;rintro e wm4⟨s4,rfl,hb⟩;have HM4:Hid (Marked lo hi w wm4):=(HM3.out).trans (Marked.of_below hb);clear hb;obtain⟨hex,hfz4⟩:=HF.out.ready (HM4.out) i hlt;obtain⟨v4,hv4⟩:=hex 4 (by omega);clear hex;have HP4_4:Hid (Marked lo hi w (wm4.setCell ⟨bo,i*7+4,none⟩ (.string s4))):=HF.out.put (HM4.out) i 4 hlt (by omega) (by omega) (.string s4) (fun _ _ _ h=>by cases h);have hw4:wrap64 (k3+1)=k3+1:=zy _ ⟨by have a0:=HB.out;have a1:=HK3.out;omega,by have a0:=HB.out;have a1:=HK3.out;omega⟩;go_wp2_with fail
   clear hfz4 hv4;refine(zN _ _ (by have a0:=HB.out;have a1:=HK3.out;omega) (by have a0:=HB.out;have a1:=HK3.out;omega)).mono ?_;rintro e wm5⟨s5,rfl,hb⟩;have HM5:Hid (Marked lo hi w wm5):=(HP4_4.out).trans (Marked.of_below hb);clear hb;obtain⟨hex,hfz5⟩:=HF.out.ready (HM5.out) i hlt;obtain⟨v5,hv5⟩:=hex 5 (by omega);clear hex;have HP5_5:Hid (Marked lo hi w (wm5.setCell ⟨bo,i*7+5,none⟩ (.string s5))):=HF.out.put (HM5.out) i 5 hlt (by omega) (by omega) (.string s5) (fun _ _ _ h=>by cases h);have hw5:wrap64 (k3+1+1)=k3+1+1:=zy _ ⟨by have a0:=HB.out;have a1:=HK3.out;omega,by have a0:=HB.out;have a1:=HK3.out;omega⟩;go_wp2_with fail
   clear hfz5 hv5;refine(zN _ _ (by have a0:=HB.out;have a1:=HK3.out;omega) (by have a0:=HB.out;have a1:=HK3.out;omega)).mono ?_;rintro e wm6⟨s6,rfl,hb⟩;have HM6:Hid (Marked lo hi w wm6):=(HP5_5.out).trans (Marked.of_below hb);clear hb;obtain⟨hex,hfz6⟩:=HF.out.ready (HM6.out) i hlt;obtain⟨v6,hv6⟩:=hex 6 (by omega);clear hex;have HP6_6:Hid (Marked lo hi w (wm6.setCell ⟨bo,i*7+6,none⟩ (.string s6))):=HF.out.put (HM6.out) i 6 hlt (by omega) (by omega) (.string s6) (fun _ _ _ h=>by cases h);have hw6:wrap64 (k3+1+1+1)=k3+1+1+1:=zy _ ⟨by have a0:=HB.out;have a1:=HK3.out;omega,by have a0:=HB.out;have a1:=HK3.out;omega⟩;go_wp2_with fail
   go_roundw
   case rel=>exact⟨i+1,k3+1+1+1,by omega,by first|rfl|rw[hw6],by rw[wrap_one (by have:=HL.out.1;omega)],by have a0:=HB.out;have a1:=HK3.out;omega,by have a0:=HB.out;have a1:=HK3.out;omega,HP6_6.out⟩
   case measure=>exact yP hlt (by have:=HL.out.1;omega)
  ·have e:i=ms.length:=by omega
   subst e;go_wp2_with fail
   go_ret;exact⟨kk,rfl,h1,h2,hM⟩
structure jM (lo hi:Nat)(w:World)(bo:Nat)(ms:List Ob):Prop where
 low:lo<=bo
 high:bo<hi
 rows:∃C,w.heap[bo]?=some (.cells C 117)/\C.size=ms.length*7/\∀i (h:i<ms.length),(∀j,j<7->j≠3->j≠5->zaW C (i*7+j))/\(∃bk cap,jI lo hi w bk ms[i].vs.length/\C[i*7+3]?=some (.slice (some ⟨bk,0,none⟩) ms[i].vs.length cap))/\(∃bk cap,jI lo hi w bk ms[i].hs.length/\C[i*7+5]?=some (.slice (some ⟨bk,0,none⟩) ms[i].hs.length cap))
theorem jM.mono {lo hi:Nat}{w w':World}{b:Nat}{ms:List Ob}(h:jM lo hi w b ms)(hM:Marked lo hi w w'):jM lo hi w' b ms:=by
 obtain⟨C,hC,hs,hn⟩:=h.rows;obtain⟨C',hC',hs',hk⟩:=hM.inn b C _ h.low h.high hC;refine⟨h.low,h.high,C',hC',by omega,fun i hi=>?_⟩;obtain⟨h0,⟨bk3,cap3,f3,g3⟩,⟨bk5,cap5,f5,g5⟩⟩:=hn i hi;exact⟨fun j hj n3 n5 a m c he=>h0 j hj n3 n5 a m c ((hk _ a m c).1 he),⟨bk3,cap3,f3.mono hM,(hk _ _ _ _).2 g3⟩,⟨bk5,cap5,f5.mono hM,(hk _ _ _ _).2 g5⟩⟩
theorem zah.form {lo:Nat}{w:World}{bo:Nat}{ms:List Ob}(h:zah lo w bo ms ms.length):jM lo w.heap.size w bo ms:=by
 obtain⟨C,hC,hsz,hr⟩:=h.rows;refine⟨h.low,(gES hC).1,C,hC,hsz,fun i hi=>?_⟩;obtain⟨g0,g1,hl0,hn0,hg0,hl1,hn1,hg1,hc⟩:=hr i hi hi;refine⟨fun j hj n3 n5 a n c he=>?_,⟨g0,_,⟨hl0,(gES hg0).1,_,hg0,by simp[jR],fun j _=>zcJ _ j⟩,hc 3 (by omega)⟩,⟨g1,_,⟨hl1,(gES hg1).1,_,hg1,by simp[jR],fun j _=>zcJ _ j⟩,hc 5 (by omega)⟩⟩;rw[hc j hj]at he
 rcases j with _|_|_|_|_|_|_|j <;> first|omega|(simp[Ob.row]at he)
theorem jM.ready {lo hi bo:Nat}{w W:World}{ms:List Ob}(h:jM lo hi w bo ms)(hM:Marked lo hi w W)(i:Nat)(hi':i<ms.length) :
 (∀j,j<7->∃v,W.cell? ⟨bo,i*7+j,none⟩=some v)/\(∀o,W.frozen? ⟨bo,o,none⟩=false):=by
 have h':=h.mono hM;obtain⟨C,hC,hs,hn⟩:=h'.rows;exact⟨fun j hj=>⟨C[i*7+j]'(by omega),by rw[cell_of_block hC];exact Array.getElem?_eq_getElem (by omega)⟩,fun o=>zh hC⟩
theorem jM.put {lo hi bo:Nat}{w W:World}{ms:List Ob}(h:jM lo hi w bo ms)(hM:Marked lo hi w W)(i j:Nat)(hi':i<ms.length)(hj:j<7)(n3:j≠3)(n5:j≠5)(v:Value)(hv:∀a n c,v≠Value.slice a n c):Marked lo hi w (W.setCell ⟨bo,i*7+j,none⟩ v):=by
 obtain⟨C,hC,hs,hn⟩:=h.rows;exact hM.put h.low h.high hC ((hn i hi').1 j hj n3 n5) v hv
theorem jM.zqg {lo hi bo:Nat}{w:World}{ms:List Ob}(h:jM lo hi w bo ms)(i:Nat)(hi':i<ms.length) :
 ∃bk cap,jI lo hi w bk ms[i].vs.length/\∀W,Marked lo hi w W->W.cell? ⟨bo,i*7+3,none⟩=some (.slice (some ⟨bk,0,none⟩) ms[i].vs.length cap):=by
 obtain⟨C,hC,hs,hn⟩:=h.rows;obtain⟨bk,cap,h1,h2⟩:=(hn i hi').2.1;refine⟨bk,cap,h1,fun W hM=>?_⟩;obtain⟨C',hC',_,hk⟩:=hM.inn bo C _ h.low h.high hC;rw[cell_of_block hC'];exact(hk _ _ _ _).2 h2
theorem jM.zrm {lo hi bo:Nat}{w:World}{ms:List Ob}(h:jM lo hi w bo ms)(i:Nat)(hi':i<ms.length) :
 ∃bk cap,jI lo hi w bk ms[i].hs.length/\∀W,Marked lo hi w W->W.cell? ⟨bo,i*7+5,none⟩=some (.slice (some ⟨bk,0,none⟩) ms[i].hs.length cap):=by
 obtain⟨C,hC,hs,hn⟩:=h.rows;obtain⟨bk,cap,h1,h2⟩:=(hn i hi').2.2;refine⟨bk,cap,h1,fun W hM=>?_⟩;obtain⟨C',hC',_,hk⟩:=hM.inn bo C _ h.low h.high hC;rw[cell_of_block hC'];exact(hk _ _ _ _).2 h2
set_option maxRecDepth 20000 in
theorem zfm (lo hi bo cap:Nat)(ms:List Ob)(k:Int)(w:World)(h:jM lo hi w bo ms)(hl:ms.length<=1048576)(hls:∀i (h:i<ms.length),ms[i].vs.length<=1048576/\ms[i].hs.length<=1048576)(hk:0<k)(hk2:k<5000000000000000000) :
 Calls Tryz.prog 45 #[.slice (some ⟨bo,0,none⟩) ms.length cap,.int .i64 k] w fun e w'=>∃k',e=.returned (.int .i64 k')/\k<=k'/\k'<=k+ms.length*2097159/\Marked lo hi w w':=by
 have HF:Hid (jM lo hi w bo ms):=h;have HL:Hid (ms.length<=1048576/\∀i (h:i<ms.length),ms[i].vs.length<=1048576/\ms[i].hs.length<=1048576):=⟨hl,hls⟩
 have HK:Hid (0<k/\k<5000000000000000000):=⟨hk,hk2⟩
 clear h hl hk hk2 hls;go_enter Tryz.func45,Tryz.ntmps45;go_wp2_with fail
 go_loopw [1,5] (fun kv iv wr=>∃(i:Nat) (kk:Int),i<=ms.length/\kv=.int .i64 kk/\iv=.int .i64 i/\k<=kk/\kk<=k+i*2097159/\Marked lo hi w wr) (fun _ iv _=>ms.length-(intOf iv).toNat)
 case atStart=>exact⟨0,k,Nat.zero_le _,rfl,rfl,Int.le_refl _,by simp,Marked.refl _ _ _⟩
 case round=>
  obtain⟨i,kk,hile,rfl,rfl,h1,h2,hM⟩:=hrel
  by_cases hlt:i<ms.length
  ·have hltI:(i:Int)<(ms.length:Int):=by omega
   have HB:Hid (0<kk/\kk<7000000000000000000/\kk<=k+i*2097159/\k<=kk):=by have a:=HK.out;have b:=HL.out.1;exact⟨by omega,by omega,h2,h1⟩
   have HM:Hid (Marked lo hi w wr):=hM;clear h1 h2 hM;obtain⟨bk3,bc3,hT,hsl⟩:=HF.out.zqg i hlt;have HT3:Hid (jI lo hi w bk3 ms[i].vs.length/\∀W,Marked lo hi w W->W.cell? ⟨bo,i*7+3,none⟩=some (.slice (some ⟨bk3,0,none⟩) ms[i].vs.length bc3)):=⟨hT,hsl⟩
   clear hT hsl;obtain⟨bk5,bc5,hT,hsl⟩:=HF.out.zrm i hlt;have HT5:Hid (jI lo hi w bk5 ms[i].hs.length/\∀W,Marked lo hi w W->W.cell? ⟨bo,i*7+5,none⟩=some (.slice (some ⟨bk5,0,none⟩) ms[i].hs.length bc5)):=⟨hT,hsl⟩
   clear hT hsl;go_wp2_with fail
   refine(zN _ _ (by have a0:=HB.out;omega) (by have a0:=HB.out;omega)).mono ?_;rintro e wm1⟨s1,rfl,hb⟩;have HM1:Hid (Marked lo hi w wm1):=(HM.out).trans (Marked.of_below hb);clear hb;obtain⟨hex,hfz1⟩:=HF.out.ready (HM1.out) i hlt;obtain⟨v1,hv1⟩:=hex 0 (by omega);rw[Nat.add_zero]at hv1;clear hex;have HP1_0:Hid (Marked lo hi w (wm1.setCell ⟨bo,i*7,none⟩ (.string s1))):=HF.out.put (HM1.out) i 0 hlt (by omega) (by omega) (by omega) (.string s1) (fun _ _ _ h=>by cases h);have hw1:wrap64 (kk+1)=kk+1:=zy _ ⟨by have a0:=HB.out;omega,by have a0:=HB.out;omega⟩;go_wp2_with fail
   clear hfz1 hv1;refine(zN _ _ (by have a0:=HB.out;omega) (by have a0:=HB.out;omega)).mono ?_;rintro e wm2⟨s2,rfl,hb⟩;have HM2:Hid (Marked lo hi w wm2):=(HP1_0.out).trans (Marked.of_below hb);clear hb;obtain⟨hex,hfz2⟩:=HF.out.ready (HM2.out) i hlt;obtain⟨v2,hv2⟩:=hex 1 (by omega);clear hex;have HP2_1:Hid (Marked lo hi w (wm2.setCell ⟨bo,i*7+1,none⟩ (.string s2))):=HF.out.put (HM2.out) i 1 hlt (by omega) (by omega) (by omega) (.string s2) (fun _ _ _ h=>by cases h);have hw2:wrap64 (kk+1+1)=kk+1+1:=zy _ ⟨by have a0:=HB.out;omega,by have a0:=HB.out;omega⟩;go_wp2_with fail
   clear hfz2 hv2;refine(zN _ _ (by have a0:=HB.out;omega) (by have a0:=HB.out;omega)).mono ?_;rintro e wm3⟨s3,rfl,hb⟩;have HM3:Hid (Marked lo hi w wm3):=(HP2_1.out).trans (Marked.of_below hb);clear hb;obtain⟨hex,hfz3⟩:=HF.out.ready (HM3.out) i hlt;obtain⟨v3,hv3⟩:=hex 2 (by omega);clear hex;have HP3_2:Hid (Marked lo hi w (wm3.setCell ⟨bo,i*7+2,none⟩ (.string s3))):=HF.out.put (HM3.out) i 2 hlt (by omega) (by omega) (by omega) (.string s3) (fun _ _ _ h=>by cases h);have hw3:wrap64 (kk+1+1+1)=kk+1+1+1:=zy _ ⟨by have a0:=HB.out;omega,by have a0:=HB.out;omega⟩;have hsl3:=HT3.out.2 _ (HP3_2.out);go_wp2_with fail
   clear hfz3 hv3 hsl3;refine(zbU lo hi bk3 _ bc3 _ _ (HT3.out.1.mono (HP3_2.out)) ((HL.out.2 i hlt).1) (by have a0:=HB.out;omega) (by have a0:=HB.out;omega)).mono ?_;rintro e wm4⟨k4,rfl,hke,hMn⟩;have HM4:Hid (Marked lo hi w wm4):=(HP3_2.out).trans hMn;have HK4:Hid (k4=kk+1+1+1+ms[i].vs.length/\ms[i].vs.length<=1048576):=⟨by omega,(HL.out.2 i hlt).1⟩
   clear hMn hke;obtain⟨hex,hfz4⟩:=HF.out.ready (HM4.out) i hlt;obtain⟨v4,hv4⟩:=hex 4 (by omega);clear hex;have HP4_4:Hid (Marked lo hi w (wm4.setCell ⟨bo,i*7+4,none⟩ (.bool (k4 % 3 == 0)))):=HF.out.put (HM4.out) i 4 hlt (by omega) (by omega) (by omega) (.bool (k4 % 3 == 0)) (fun _ _ _ h=>by cases h);have htm:(k4).tmod 3=k4 % 3:=Int.tmod_eq_emod_of_nonneg (by have a0:=HB.out;have a1:=HK4.out;omega);have hwm:wrap64 (k4 % 3)=k4 % 3:=zy _ ⟨by omega,by omega⟩;have hw4:wrap64 (k4+1)=k4+1:=zy _ ⟨by have a0:=HB.out;have a1:=HK4.out;omega,by have a0:=HB.out;have a1:=HK4.out;omega⟩;have hsl5:=HT5.out.2 _ (HP4_4.out);go_wp2_with fail
   clear hfz4 hv4 htm hwm hsl5;refine(zbU lo hi bk5 _ bc5 _ _ (HT5.out.1.mono (HP4_4.out)) ((HL.out.2 i hlt).2) (by have a0:=HB.out;have a1:=HK4.out;omega) (by have a0:=HB.out;have a1:=HK4.out;omega)).mono ?_;rintro e wm5⟨k5,rfl,hke,hMn⟩;have HM5:Hid (Marked lo hi w wm5):=(HP4_4.out).trans hMn;have HK5:Hid (k5=k4+1+ms[i].hs.length/\ms[i].hs.length<=1048576):=⟨by omega,(HL.out.2 i hlt).2⟩
   clear hMn hke;obtain⟨hex,hfz5⟩:=HF.out.ready (HM5.out) i hlt;obtain⟨v5,hv5⟩:=hex 6 (by omega);clear hex;have HP5_6:Hid (Marked lo hi w (wm5.setCell ⟨bo,i*7+6,none⟩ (.int .i64 (k5)))):=HF.out.put (HM5.out) i 6 hlt (by omega) (by omega) (by omega) (.int .i64 (k5)) (fun _ _ _ h=>by cases h);have hw5:wrap64 (k5+1)=k5+1:=zy _ ⟨by have a0:=HB.out;have a1:=HK4.out;have a2:=HK5.out;omega,by have a0:=HB.out;have a1:=HK4.out;have a2:=HK5.out;omega⟩;go_wp2_with fail
   go_roundw
   case rel=>exact⟨i+1,k5+1,by omega,by first|rfl|rw[hw5],by rw[wrap_one (by have:=HL.out.1;omega)],by have a0:=HB.out;have a1:=HK4.out;have a2:=HK5.out;omega,by have a0:=HB.out;have a1:=HK4.out;have a2:=HK5.out;omega,HP5_6.out⟩
   case measure=>exact yP hlt (by have:=HL.out.1;omega)
  ·have e:i=ms.length:=by omega
   subst e;go_wp2_with fail
   go_ret;exact⟨kk,rfl,h1,h2,hM⟩
end Go.Proofs.YtkficnallnpjnaaGreat
