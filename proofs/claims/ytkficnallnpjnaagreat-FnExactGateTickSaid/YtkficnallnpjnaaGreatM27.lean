import Derived.Test.YtkficnallnpjnaaGreatM25
import Derived.Laws.EntriesVeiled
import Derived.Test.YtkficnallnpjnaaGreatM26
set_option maxHeartbeats 4000000
namespace Go.Proofs.YtkficnallnpjnaaGreat
open Go.RowKit
theorem jo.ready {lo hi bo:Nat}{w W:World}{fs:List Fld}(h:jo lo hi w bo fs)(hM:Marked lo hi w W)(i:Nat)(hi':i<fs.length) :
 (∀j,j<11->∃v,W.cell? ⟨bo,i*11+j,none⟩=some v)/\(∀o,W.frozen? ⟨bo,o,none⟩=false):=by
 have h':=h.mono hM;obtain⟨C,hC,hs,hn⟩:=h'.rows;exact⟨fun j hj=>⟨C[i*11+j]'(by omega),by rw[cell_of_block hC];exact Array.getElem?_eq_getElem (by omega)⟩,fun o=>zh hC⟩
theorem jo.words {lo hi bo:Nat}{w:World}{fs:List Fld}(h:jo lo hi w bo fs)(i:Nat)(hi':i<fs.length) :
 ∃bk cap,jI lo hi w bk fs[i].ws.length/\∀W,Marked lo hi w W->W.cell? ⟨bo,i*11+4,none⟩=some (.slice (some ⟨bk,0,none⟩) fs[i].ws.length cap):=by
 obtain⟨C,hC,hs,hn⟩:=h.rows;obtain⟨bk,cap,h1,h2,_⟩:=hn i hi';refine⟨bk,cap,h1,fun W hM=>?_⟩;obtain⟨C',hC',_,hk⟩:=hM.inn bo C _ h.low h.high hC;rw[cell_of_block hC'];exact(hk _ _ _ _).2 h2
theorem jo.put {lo hi bo:Nat}{w W:World}{fs:List Fld}(h:jo lo hi w bo fs)(hM:Marked lo hi w W)(i j:Nat)(hi':i<fs.length)(hj:j<11)(hj4:j≠4)(v:Value)(hv:∀a n c,v≠Value.slice a n c):Marked lo hi w (W.setCell ⟨bo,i*11+j,none⟩ v):=by
 obtain⟨C,hC,_,hn⟩:=h.rows;obtain⟨_,_,_,_,h3⟩:=hn i hi';exact hM.put h.low h.high hC (h3 j hj hj4) v hv
set_option maxRecDepth 20000 in
theorem zfW (lo hi bo cap:Nat)(fs:List Fld)(k:Int)(w:World)(h:jo lo hi w bo fs)(hl:fs.length<=1048576)(hls:∀i (h:i<fs.length),fs[i].ws.length<=1048576)(hk:0<k)(hk2:k<4000000000000000000) :
 Calls Tryz.prog 92 #[.slice (some ⟨bo,0,none⟩) fs.length cap,.int .i64 k] w fun e w'=>∃k',e=.returned (.int .i64 k')/\k<=k'/\k'<=k+fs.length*1048586/\Marked lo hi w w':=by
 have HF:=hid h;have HL:=qE hl hls;have HK:=qE hk hk2;clear h hl hls hk hk2;go_enter Tryz.func92,Tryz.ntmps92;go_wp2_with fail
 go_loopw [1,5] (fun kv iv wr=>∃(i:Nat) (kk:Int),i<=fs.length/\kv=.int .i64 kk/\iv=.int .i64 i/\k<=kk/\kk<=k+i*1048586/\Marked lo hi w wr) (fun _ iv _=>fs.length-(intOf iv).toNat)
 case atStart=>exact⟨0,k,Nat.zero_le _,rfl,rfl,Int.le_refl _,by simp,Marked.refl _ _ _⟩
 case round=>
  obtain⟨i,kk,hile,rfl,rfl,h1,h2,hM⟩:=hrel
  by_cases hlt:i<fs.length
  ·have hltI:(i:Int)<(fs.length:Int):=by omega
   have HB:Hid (0<kk/\kk<7000000000000000000/\kk<=k+i*1048586/\k<=kk):=by have a:=HK.out;have b:=HL.out.1;exact⟨by omega,by omega,h2,h1⟩
   have HM:=hid hM;clear h1 h2 hM;obtain⟨bk,bcap,hT,hsl⟩:=HF.out.words i hlt;have HT:=qE hT hsl;clear hT hsl;go_wp2_with fail
   refine(zN _ _ HB.out.1 (by have:=HB.out;omega)).mono ?_;rintro e w1⟨s1,rfl,hb1⟩;have HM1:=hid (HM.out.trans (Marked.of_below hb1));clear hb1;have hsl:=HT.out.2 _ HM1.out;obtain⟨hex,hfz⟩:=HF.out.ready HM1.out i hlt;obtain⟨v0,hv0⟩:=hex 0 (by omega);obtain⟨v1,hv1⟩:=hex 1 (by omega);obtain⟨v2,hv2⟩:=hex 2 (by omega);obtain⟨v3,hv3⟩:=hex 3 (by omega);rw[Nat.add_zero]at hv0;have hwkk1:wrap64 (kk+1)=kk+1:=by have:=HB.out;exact zy _ ⟨by omega,by omega⟩
   have hwkk2:wrap64 (kk+1+1)=kk+1+1:=by have:=HB.out;exact zy _ ⟨by omega,by omega⟩
   have hwkk3:wrap64 (kk+1+1+1)=kk+1+1+1:=by have:=HB.out;exact zy _ ⟨by omega,by omega⟩
   have hwkk4:wrap64 (kk+1+1+1+1)=kk+1+1+1+1:=by have:=HB.out;exact zy _ ⟨by omega,by omega⟩
   clear hex;go_wp2_with fail
   have HMW:=HF.out.put (HF.out.put (HF.out.put (HF.out.put HM1.out i 0 hlt (by omega) (by omega) (.string s1) (fun _ _ _ h=>by cases h)) i 1 hlt (by omega) (by omega) (.int .i64 (kk+1)) (fun _ _ _ h=>by cases h)) i 2 hlt (by omega) (by omega) (.int .i64 (kk+1+1)) (fun _ _ _ h=>by cases h)) i 3 hlt (by omega) (by omega) (.int .i64 (kk+1+1+1)) (fun _ _ _ h=>by cases h);refine(zbU lo hi bk _ bcap _ _ (HT.out.1.mono HMW) (HL.out.2 i hlt) (by have:=HB.out;omega) (by have:=HB.out;omega)).mono ?_;rintro e w2⟨k2,rfl,hk2,hM2⟩;have HM2:=hid (HMW.trans hM2);have HB2:Hid (kk<k2/\k2<=kk+4+1048576/\0<k2):=by have a:=HL.out.2 i hlt;have b:=HB.out;exact⟨by omega,by omega,by omega⟩
   clear HMW hM2 hk2 hv0 hv1 hv2 hv3 hfz hsl;go_wp2_with fail
   refine(zN _ _ HB2.out.2.2 (by have:=HB.out;have:=HB2.out;omega)).mono ?_;rintro e w3⟨s3,rfl,hb3⟩;have HM3:=hid (HM2.out.trans (Marked.of_below hb3));clear hb3;obtain⟨hex,hfz⟩:=HF.out.ready HM3.out i hlt;obtain⟨v5,hv5⟩:=hex 5 (by omega);obtain⟨v6,hv6⟩:=hex 6 (by omega);obtain⟨v7,hv7⟩:=hex 7 (by omega);obtain⟨v8,hv8⟩:=hex 8 (by omega);have hwk21:wrap64 (k2+1)=k2+1:=by have:=HB.out;have:=HB2.out;exact zy _ ⟨by omega,by omega⟩
   have hwk22:wrap64 (k2+1+1)=k2+1+1:=by have:=HB.out;have:=HB2.out;exact zy _ ⟨by omega,by omega⟩
   have hwk23:wrap64 (k2+1+1+1)=k2+1+1+1:=by have:=HB.out;have:=HB2.out;exact zy _ ⟨by omega,by omega⟩
   have hwk24:wrap64 (k2+1+1+1+1)=k2+1+1+1+1:=by have:=HB.out;have:=HB2.out;exact zy _ ⟨by omega,by omega⟩
   have hwk25:wrap64 (k2+1+1+1+1+1)=k2+1+1+1+1+1:=by have:=HB.out;have:=HB2.out;exact zy _ ⟨by omega,by omega⟩
   have hwk26:wrap64 (k2+1+1+1+1+1+1)=k2+1+1+1+1+1+1:=by have:=HB.out;have:=HB2.out;exact zy _ ⟨by omega,by omega⟩
   clear hex;go_wp2_with fail
   have HMW:=HF.out.put (HF.out.put (HF.out.put (HF.out.put HM3.out i 5 hlt (by omega) (by omega) (.string s3) (fun _ _ _ h=>by cases h)) i 6 hlt (by omega) (by omega) (.int .i64 (k2+1)) (fun _ _ _ h=>by cases h)) i 7 hlt (by omega) (by omega) (.bool ((k2+1+1).tmod 3 == 0)) (fun _ _ _ h=>by cases h)) i 8 hlt (by omega) (by omega) (.bool ((k2+1+1+1).tmod 3 == 0)) (fun _ _ _ h=>by cases h);refine(zN _ _ (by have:=HB2.out;omega) (by have:=HB.out;have:=HB2.out;omega)).mono ?_;rintro e w4⟨s4,rfl,hb4⟩;have HM4:=hid (HMW.trans (Marked.of_below hb4));clear HMW hb4 hv5 hv6 hv7 hv8 hfz;obtain⟨hex,hfz⟩:=HF.out.ready HM4.out i hlt;obtain⟨v9,hv9⟩:=hex 9 (by omega);clear hex;go_wp2_with fail
   have HMW:=HF.out.put HM4.out i 9 hlt (by omega) (by omega) (.string s4) (fun _ _ _ h=>by cases h);refine(zN _ _ (by have:=HB2.out;omega) (by have:=HB.out;have:=HB2.out;omega)).mono ?_;rintro e w5⟨s5,rfl,hb5⟩;have HM5:=hid (HMW.trans (Marked.of_below hb5));clear HMW hb5 hv9 hfz;obtain⟨hex,hfz⟩:=HF.out.ready HM5.out i hlt;obtain⟨v10,hv10⟩:=hex 10 (by omega);clear hex;go_wp2_with fail
   go_roundw
   case rel=>exact⟨i+1,k2+1+1+1+1+1+1,by omega,by rw[hwk26],by rw[wrap_one (by have:=HL.out.1;omega)],by have a:=HB.out;have b:=HB2.out;omega,by have a:=HB.out;have b:=HB2.out;omega,HF.out.put HM5.out i 10 hlt (by omega) (by omega) (.string s5) (fun _ _ _ h=>by cases h)⟩
   case measure=>exact yP hlt (by have:=HL.out.1;omega)
  ·have e:i=fs.length:=by omega
   subst e;go_wp2_with fail
   go_ret;exact⟨kk,rfl,h1,h2,hM⟩
theorem jH.ready {lo hi bo:Nat}{w W:World}{ss:List Shp}(h:jH lo hi w bo ss)(hM:Marked lo hi w W)(i:Nat)(hi':i<ss.length) :
 (∀j,j<2->∃v,W.cell? ⟨bo,i*2+j,none⟩=some v)/\(∀o,W.frozen? ⟨bo,o,none⟩=false):=by
 have h':=h.mono hM;obtain⟨C,hC,hs,hn⟩:=h'.rows;exact⟨fun j hj=>⟨C[i*2+j]'(by omega),by rw[cell_of_block hC];exact Array.getElem?_eq_getElem (by omega)⟩,fun o=>zh hC⟩
theorem jH.zdy {lo hi bo:Nat}{w:World}{ss:List Shp}(h:jH lo hi w bo ss)(i:Nat)(hi':i<ss.length) :
 ∃bf cap,jo lo hi w bf ss[i].fs/\∀W,Marked lo hi w W->W.cell? ⟨bo,i*2+1,none⟩=some (.slice (some ⟨bf,0,none⟩) ss[i].fs.length cap):=by
 obtain⟨C,hC,hs,hn⟩:=h.rows;obtain⟨bk,cap,h1,h2,_⟩:=hn i hi';refine⟨bk,cap,h1,fun W hM=>?_⟩;obtain⟨C',hC',_,hk⟩:=hM.inn bo C _ h.low h.high hC;rw[cell_of_block hC'];exact(hk _ _ _ _).2 h2
theorem jH.put {lo hi bo:Nat}{w W:World}{ss:List Shp}(h:jH lo hi w bo ss)(hM:Marked lo hi w W)(i:Nat)(hi':i<ss.length)(v:Value)(hv:∀a n c,v≠Value.slice a n c):Marked lo hi w (W.setCell ⟨bo,i*2,none⟩ v):=by
 obtain⟨C,hC,_,hn⟩:=h.rows;obtain⟨_,_,_,_,h3⟩:=hn i hi';exact hM.put h.low h.high hC h3 v hv
theorem zfG (lo hi bo cap:Nat)(ss:List Shp)(k:Int)(w:World)(h:jH lo hi w bo ss)(hl:ss.length<=1048576)(hls:∀i (h:i<ss.length),ss[i].fs.length<=1048576/\∀j (h':j<ss[i].fs.length),ss[i].fs[j].ws.length<=1048576)(hk:0<k)(hk2:k<1000000000000000000) :
 Calls Tryz.prog 42 #[.slice (some ⟨bo,0,none⟩) ss.length cap,.int .i64 k] w fun e w'=>∃k',e=.returned (.int .i64 k')/\k<=k'/\k'<=k+ss.length*1099522113537/\Marked lo hi w w':=by
 have HF:=hid h;have HL:=qE hl hls;have HK:=qE hk hk2;clear h hl hls hk hk2;go_enter Tryz.func42,Tryz.ntmps42;go_wp2_with fail
 go_loopw [1,5] (fun kv iv wr=>∃(i:Nat) (kk:Int),i<=ss.length/\kv=.int .i64 kk/\iv=.int .i64 i/\k<=kk/\kk<=k+i*1099522113537/\Marked lo hi w wr) (fun _ iv _=>ss.length-(intOf iv).toNat)
 case atStart=>exact⟨0,k,Nat.zero_le _,rfl,rfl,Int.le_refl _,by simp,Marked.refl _ _ _⟩
 case round=>
  obtain⟨i,kk,hile,rfl,rfl,h1,h2,hM⟩:=hrel
  by_cases hlt:i<ss.length
  ·have hltI:(i:Int)<(ss.length:Int):=by omega
   have HB:Hid (0<kk/\kk<3000000000000000000/\kk<=k+i*1099522113537/\k<=kk):=by have a:=HK.out;have b:=HL.out.1;exact⟨by omega,by omega,h2,h1⟩
   have HM:=hid hM;clear h1 h2 hM;obtain⟨bf,bcap,hT,hsl⟩:=HF.out.zdy i hlt;have HT:=qE hT hsl;clear hT hsl;go_wp2_with fail
   refine(zN _ _ HB.out.1 (by have:=HB.out;omega)).mono ?_;rintro e w1⟨s1,rfl,hb1⟩;have HM1:=hid (HM.out.trans (Marked.of_below hb1));clear hb1;have hsl:=HT.out.2 _ HM1.out;obtain⟨hex,hfz⟩:=HF.out.ready HM1.out i hlt;obtain⟨v0,hv0⟩:=hex 0 (by omega);rw[Nat.add_zero]at hv0;have hw1:wrap64 (kk+1)=kk+1:=by have:=HB.out;exact zy _ ⟨by omega,by omega⟩
   clear hex;go_wp2_with fail
   have HMW:=HF.out.put HM1.out i hlt (.string s1) (fun _ _ _ h=>by cases h);refine(zfW lo hi bf bcap _ _ _ (HT.out.1.mono HMW) (HL.out.2 i hlt).1 (HL.out.2 i hlt).2 (by have:=HB.out;omega) (by have:=HB.out;omega)).mono ?_;rintro e w2⟨k2,rfl,h3,h4,hM2⟩;have HM2:=hid (HMW.trans hM2);have HB2:Hid (kk<k2/\k2<=kk+1099522113537):=by have a:=(HL.out.2 i hlt).1;exact⟨by omega,by omega⟩
   clear HMW hM2 h3 h4 hv0 hfz hsl;go_wp2_with fail
   go_roundw
   case rel=>exact⟨i+1,k2,by omega,rfl,by rw[wrap_one (by have:=HL.out.1;omega)],by have a:=HB.out;have b:=HB2.out;omega,by have a:=HB.out;have b:=HB2.out;omega,HM2.out⟩
   case measure=>exact yP hlt (by have:=HL.out.1;omega)
  ·have e:i=ss.length:=by omega
   subst e;go_wp2_with fail
   go_ret;exact⟨kk,rfl,h1,h2,hM⟩
def zao (f:Fld)(v:ByteArray):ByteArray:=if v.toList.isEmpty=true then f.df else v
def zai (fs:List Fld)(vs:List ByteArray):List ByteArray:=List.zipWith zao fs vs
def jk (fs:List Fld)(vs:List ByteArray)(k:Nat):List ByteArray:=(zai fs vs).take k++vs.drop k
theorem qN {fs:List Fld}{vs:List ByteArray}(h:vs.length=fs.length):(zai fs vs).length=vs.length:=by simp[zai];omega
theorem zav {fs:List Fld}{vs:List ByteArray}(h:vs.length=fs.length)(k:Nat):(jk fs vs k).length=vs.length:=by
 simp[jk,qN h];omega
theorem zh9 (fs:List Fld)(vs:List ByteArray):jk fs vs 0=vs:=by simp[jk]
theorem zjB {fs:List Fld}{vs:List ByteArray}(h:vs.length=fs.length):jk fs vs fs.length=zai fs vs:=by
 unfold jk;rw[tOl (by rw[qN h];omega),List.drop_of_length_le (by omega),List.append_nil]
theorem zfe {fs:List Fld}{vs:List ByteArray}(h:vs.length=fs.length)(k:Nat)(hk:k<fs.length):(jk fs vs k)[k]?=vs[k]?:=by
 unfold jk;rw[List.getElem?_append_right (by simp;omega)]
 simp[qN h,Nat.min_eq_left (show k<=vs.length by omega)]
theorem zc5 {fs:List Fld}{vs:List ByteArray}(h:vs.length=fs.length)(k:Nat)(hk:k<fs.length):jk fs vs (k+1)=(jk fs vs k).set k (zao fs[k] (vs[k]'(by omega))):=by
 have hl:=qN h;have hv:(zai fs vs)[k]'(by omega)=zao fs[k] (vs[k]'(by omega)):=by simp[zai]
 unfold jk;rw[List.set_append_right _ _ (by simp;omega)];have e:k-((zai fs vs).take k).length=0:=by simp;omega
 rw[e,List.drop_eq_getElem_cons (show k<vs.length by omega),List.set_cons_zero,tSe (by omega),hv]
 simp
theorem zn.set {lo:Nat}{w:World}{g:Nat}{ws:List ByteArray}(h:zn lo w (some ⟨g,0,none⟩) ws)(k:Nat)(s:ByteArray):zn lo (w.setCell ⟨g,k,none⟩ (.string s)) (some ⟨g,0,none⟩) (ws.set k s):=by
 rcases h with⟨h0,_⟩|⟨b,C,h0,hg,hh,hc⟩
 ·cases h0
 ·cases h0
  refine Or.inr ⟨g,_,rfl,hg,zi hh _,fun i hi=>?_⟩;have hi':i<ws.length:=by rw[List.length_set]at hi;exact hi
  by_cases e:i=k
  ·subst e
   have hsz:i<C.size:=by
    rcases Nat.lt_or_ge i C.size with h1|h1
    ·exact h1
    ·have:=hc i hi';rw[Array.getElem?_eq_none h1]at this;cases this
   rw[Array.getElem?_setIfInBounds_self_of_lt hsz,List.getElem_set_self]
  ·rw[Array.getElem?_setIfInBounds_ne (fun h=>e h.symm),hc i hi',List.getElem_set_ne (fun h=>e h.symm)]
def zj5 (w:World)(b:Nat)(v0 v1 v2 v3 v4 v5 v6:Value):World:=((((((w.setCell ⟨b,0,none⟩ v0).setCell ⟨b,1,none⟩ v1).setCell ⟨b,2,none⟩ v2).setCell ⟨b,3,none⟩ v3).setCell ⟨b,4,none⟩ v4).setCell ⟨b,5,none⟩ v5).setCell ⟨b,6,none⟩ v6
theorem jL {lo:Nat}{w:World}{a:Option Addr}{ws:List ByteArray}(h:zn lo w a ws)(b:Nat)(hb:b<lo)(v0 v1 v2 v3 v4 v5 v6:Value):zn lo (zj5 w b v0 v1 v2 v3 v4 v5 v6) a ws:=
 ((((((h.setCell _ hb _).setCell _ hb _).setCell _ hb _).setCell _ hb _).setCell _ hb _).setCell _ hb _).setCell _ hb _
theorem jZ {B:Nat}{w0 w:World}(h:Below B w0 w)(b:Nat)(hb:B<=b)(v0 v1 v2 v3 v4 v5 v6:Value):Below B w0 (zj5 w b v0 v1 v2 v3 v4 v5 v6):=
 ((((((h.setCell (p:=⟨b,0,none⟩) hb _).setCell (p:=⟨b,1,none⟩) hb _).setCell (p:=⟨b,2,none⟩) hb _).setCell (p:=⟨b,3,none⟩) hb _).setCell (p:=⟨b,4,none⟩) hb _).setCell (p:=⟨b,5,none⟩) hb _).setCell (p:=⟨b,6,none⟩) hb _
def znr (w:World)(a:Option Addr)(n:Nat):Prop:=0<n->∃g,a=some ⟨g,0,none⟩/\g<w.heap.size/\∀q,q<n->w.cell? ⟨g,q,none⟩=some (.int .i64 (q:Int))
set_option maxRecDepth 20000 in
theorem zpO (s:Shp)(ms:List Mnd)(w0:World)(ma fa ia:Option Addr)(mcap fcap icap bm bs:Nat)(w:World)(hm:qK w0 ma ms)(hf:yc w0 fa s.fs)(hl:ms.length<=1048576)(hn:s.fs.length<=6)
 (hrd:∀q,q<s.fs.length->∀x∈yw s ms q,0<=x/\x<s.fs.length) (hB:Below w0.heap.size w0 w) (hbm:bm<w.heap.size) (hbs:bs<w.heap.size) (hcm:w.cell? ⟨bm,0,none⟩=some (.slice ma ms.length mcap)) (hcs:∀j,w.cell? ⟨bs,j,none⟩=(#[.string s.kd,.slice fa s.fs.length fcap]:Array Value)[j]?)
 (hit:znr w ia s.fs.length) :
 Calls Tryz.prog 194 #[.slice ia s.fs.length icap,.func (.func 195) #[] #[.pointer (some ⟨bm,0,none⟩),.pointer (some ⟨bs,0,none⟩)]] w
  fun e w'=>∃v,e=.returned (.tuple #[v,.bool (zI (zm s ms) s.fs.length).1])/\Below w0.heap.size w0 w'/\((zI (zm s ms) s.fs.length).1=true->w'.ownsRow w.heap.size 3 1 v (zI (zm s ms) s.fs.length).2.row.length (zeA (zI (zm s ms) s.fs.length).2.row)):=by
 have hmk:∀w:World,(Instr.makeMap 264 none).run Tryz.prog w=.ok (.map (some w.heap.size)) (w.alloc (.map #[] 0)):=fun w=>by kernel_rfl
 go_enter Tryz.func194,Tryz.ntmps194;go_wp2_with fail
 have hb2:Below w.heap.size w ((w.alloc (.map #[] 0)).alloc (.cells #[(.func (.func 195) #[] #[.pointer (some ⟨bm,0,none⟩),.pointer (some ⟨bs,0,none⟩)]),.map (some w.heap.size),.slice none 0 0] 266)):=zw _ _ _;have hs0:=hB.size;obtain⟨c,hceq⟩:∃c,c=(⟨s,ms,w0,ma,fa,mcap,fcap,bm,bs,w.heap.size+1,w.heap.size,w.heap.size+2⟩:WalkC):=⟨_,rfl⟩
 have hc:c.Ok:=by
  subst hceq;exact⟨hm,hf,hl,hn,hrd,by show w0.heap.size<=w.heap.size+1;omega,hs0,by show w.heap.size+1<w.heap.size+2;omega,by show w.heap.size<w.heap.size+2;omega,by show bm<w.heap.size+2;omega,by show bs<w.heap.size+2;omega,by show w.heap.size+1≠w.heap.size;omega,by show bm≠w.heap.size+1;omega,by show bm≠w.heap.size;omega,by show bs≠w.heap.size+1;omega,by show bs≠w.heap.size;omega⟩
 have hW:zan c ((w.alloc (.map #[] 0)).alloc (.cells #[(.func (.func 195) #[] #[.pointer (some ⟨bm,0,none⟩),.pointer (some ⟨bs,0,none⟩)]),.map (some w.heap.size),.slice none 0 0] 266)) jG (.slice none 0 0):=by
  subst hceq;refine⟨hB.trans (hb2.mono hs0),(hb2.cell (p:=⟨bm,0,none⟩) hbm).trans hcm,za hcs hbs hb2,by show w.heap.size+2<=_;simp,(zT _ _ _).2,World.ownsRow_nil _ _ _ _,⟨#[],0,(zT _ _ _).1,fun x hx=>by simp at hx,fun k v hk=>?_,fun i j x y hx=>by simp at hx⟩⟩;unfold zfX jG at hk
  simp at hk
 have HC:Hid (c.Ok/\c.s=s/\c.ms=ms/\c.w0=w0/\c.p=w.heap.size+1/\c.mr=w.heap.size/\c.lo=w.heap.size+2):=⟨hc,by rw[hceq],by rw[hceq],by rw[hceq],by rw[hceq],by rw[hceq],by rw[hceq]⟩
 have HW:=hid hW;have HRD:Hid (∀p,p<s.fs.length->∀q∈zm s ms p,q<s.fs.length):=by have h:=hc.rd;rw[hceq]at h;exact h
 have HIT:=hid hit;have HN:=hid hn
 have HOP:Hid (∀T,open' s.fs.length T<=s.fs.length):=by
  intro T;unfold open';exact Nat.le_trans (List.length_filter_le _ _) (by simp)
 have HW2:Hid (∃W,W=((w.alloc (.map #[] 0)).alloc (.cells #[(.func (.func 195) #[] #[.pointer (some ⟨bm,0,none⟩),.pointer (some ⟨bs,0,none⟩)]),.map (some w.heap.size),.slice none 0 0] 266))):=⟨_,rfl⟩
 clear hW hc hceq hmk hB hcm hcs hrd hit hs0
 go_loopw [14] (fun iv wr=>∃(j:Nat) (v:Value),j<=s.fs.length/\iv=.int .i64 j/\(zu (down (zm s ms) (s.fs.length+1)) ((List.range s.fs.length).take j) jG).1=true/\zan c wr (zu (down (zm s ms) (s.fs.length+1)) ((List.range s.fs.length).take j) jG).2 v/\Moves c (.slice none 0 0) ((w.alloc (.map #[] 0)).alloc (.cells #[(.func (.func 195) #[] #[.pointer (some ⟨bm,0,none⟩),.pointer (some ⟨bs,0,none⟩)]),.map (some w.heap.size),.slice none 0 0] 266)) v wr) (fun iv _=>s.fs.length-(intOf iv).toNat)
 case atStart=>exact⟨0,_,Nat.zero_le _,rfl,rfl,HW.out,Moves.refl _ _ _⟩
 case round=>
  obtain⟨j,v,hj,rfl,hD,hWr,hMr⟩:=hrel;have HWr:=qE hWr hMr;have HD:=hid hD;clear hWr hMr hD
  by_cases hjl:j<s.fs.length
  ·have HTK:Hid ((List.range s.fs.length).take (j+1)=(List.range s.fs.length).take j++[j]):=by
    unfold Hid;rw[tSe (by simpa using hjl)]
    simp
   obtain⟨g,rfl,hgl,hgc⟩:=HIT.out (by omega)
   have hcell:wr.cell? ⟨g,j,none⟩=some (.int .i64 (j:Int)):=by
    rw[zhk (HWr.out.2.out g (by have:=hb2.size;omega) (by rw[HC.out.2.2.2.2.1];omega) (by rw[HC.out.2.2.2.2.2.1];omega) (by simp[Value.ownBlock]))];exact(hb2.cell (p:=⟨g,j,none⟩) hgl).trans (hgc j hjl)
   have hjI:(j:Int)<(s.fs.length:Int):=by omega
   have HSX:Hid ((zu (down (zm s ms) (s.fs.length+1)) ((List.range s.fs.length).take j) jG).2.row.length+open' s.fs.length (zu (down (zm s ms) (s.fs.length+1)) ((List.range s.fs.length).take j) jG).2<=6):=by
    have h1:=zfC HRD.out (s.fs.length+1) _ jG (fun a ha=>List.mem_range.1 (List.mem_of_mem_take ha)) HD.out;have h2:=HOP.out jG;have h3:jG.row.length=0:=rfl;have h4:=HN.out
    show _<=_
    omega
   have HDA:Hid (Calls Tryz.prog 214 #[.pointer (some ⟨w.heap.size+1,0,none⟩),.int .i64 (j:Int)] wr fun e w'=>∃v',e=.returned (.bool (down (zm s ms) (s.fs.length+1) j (zu (down (zm s ms) (s.fs.length+1)) ((List.range s.fs.length).take j) jG).2).1)/\Below w0.heap.size w0 w'/\((down (zm s ms) (s.fs.length+1) j (zu (down (zm s ms) (s.fs.length+1)) ((List.range s.fs.length).take j) jG).2).1=true->zan c w' (down (zm s ms) (s.fs.length+1) j (zu (down (zm s ms) (s.fs.length+1)) ((List.range s.fs.length).take j) jG).2).2 v'/\Moves c v wr v' w')):=by
    have h:=zqj c HC.out.1 (s.fs.length+1) j (zu (down (zm s ms) (s.fs.length+1)) ((List.range s.fs.length).take j) jG).2 v wr (by rw[HC.out.2.1];exact hjl) (by rw[HC.out.2.1];have:=HOP.out (zu (down (zm s ms) (s.fs.length+1)) ((List.range s.fs.length).take j) jG).2;omega) (by rw[HC.out.2.1];exact HSX.out) HWr.out.1;rw[HC.out.2.1,HC.out.2.2.1,HC.out.2.2.2.1,HC.out.2.2.2.2.1]at h;exact h
   go_wp2_with fail
   refine HDA.out.mono ?_;rintro e w3⟨v3,rfl,hb3,hyes⟩
   by_cases hd:(down (zm s ms) (s.fs.length+1) j (zu (down (zm s ms) (s.fs.length+1)) ((List.range s.fs.length).take j) jG).2).1=true
   ·have HS:Hid ((zu (down (zm s ms) (s.fs.length+1)) ((List.range s.fs.length).take (j+1)) jG)=down (zm s ms) (s.fs.length+1) j (zu (down (zm s ms) (s.fs.length+1)) ((List.range s.fs.length).take j) jG).2):=by unfold Hid;rw[HTK.out,za3,if_pos HD.out]
    have HY:=hid (hyes hd);have HDD:=hid hd;rw[hd];clear hyes hb3 hd hcell hgc HDA;go_wp2_with fail
    exact⟨⟨j+1,v3,by omega,by go_num,by rw[HS.out];exact HDD.out,by rw[HS.out];exact HY.out.1,HWr.out.2.trans HY.out.2⟩,zq hjl⟩
   ·have hdf:(down (zm s ms) (s.fs.length+1) j (zu (down (zm s ms) (s.fs.length+1)) ((List.range s.fs.length).take j) jG).2).1=false:=by simpa using hd
    have HF:Hid ((zI (zm s ms) s.fs.length).1=false):=by
     have h1:(zu (down (zm s ms) (s.fs.length+1)) ((List.range s.fs.length).take (j+1)) jG).1=false:=by rw[HTK.out,za3,if_pos HD.out];exact hdf
     have h2:=zcP (down (zm s ms) (s.fs.length+1)) ((List.range s.fs.length).take (j+1)) ((List.range s.fs.length).drop (j+1)) jG h1;rw[List.take_append_drop]at h2;exact h2
    have HB3:Hid (Below w0.heap.size w0 w3):=hb3;rw[hdf];clear hyes hb3 hd hdf hcell hgc HDA;go_wp2_with fail
    go_ret2
    exact⟨_,by rw[HF.out];rfl,HB3.out,fun h=>by rw[HF.out]at h;cases h⟩
  ·have e:j=s.fs.length:=by omega
   have hall:(List.range s.fs.length).take j=List.range s.fs.length:=tOl (by simp;omega);rw[hall]at HWr HD;have HY:Hid ((zI (zm s ms) s.fs.length).1=true):=HD.out;have HWW:Hid (zan c wr (zI (zm s ms) s.fs.length).2 v):=HWr.out.1;have hpc:∀k,wr.cell? ⟨w.heap.size+1,k,none⟩=(#[c.fn,.map (some c.mr),v]:Array Value)[k]?:=by have h:=zbm HWW.out.cells;rw[HC.out.2.2.2.2.1]at h;exact h
   obtain⟨va,vcap,hve⟩:=qC HWW.out.row;subst hve;subst e;clear HWr HD hall;go_wp2_with fail
   go_ret2
   refine⟨_,by rw[HY.out];rfl,by have h:=HWW.out.base;rw[HC.out.2.2.2.1]at h;exact h,fun _=>?_⟩;have h:=HWW.out.row;rw[HC.out.2.2.2.2.2.2]at h;exact zc1 h (by omega)
def zmd (c p:Int):Value:=if c=0 then .nilIface else .iface 277 (.agg #[.int .i64 c,.int .i64 p])
theorem ziq (w:World):Calls Tryz.prog 229 #[.bool true] w fun e w'=>e=.returned .nilIface/\w'=w:=by
 go_enter Tryz.func229,Tryz.ntmps229
 go_wp2
 go_ret;exact⟨rfl,rfl⟩
theorem zjd (w:World):Calls Tryz.prog 229 #[.bool false] w fun e w'=>e=.returned (.iface 277 (.agg #[.int .i64 1,.int .i64 0]))/\w'=w:=by
 go_enter Tryz.func229,Tryz.ntmps229
 go_wp2
 go_ret;exact⟨rfl,rfl⟩
def jK (b:Bool):Value:=if b then .nilIface else .iface 277 (.agg #[.int .i64 1,.int .i64 0])
theorem jm (b:Bool)(w:World):Calls Tryz.prog 229 #[.bool b] w fun e w'=>e=.returned (jK b)/\w'=w:=by
 cases b
 ·exact zjd w
 ·exact ziq w
theorem zda {a b:Bool}(h:a=b):Ending.returned (jK a)=.returned (jK b):=by rw[h]
theorem ze6 (a0:Option Addr)(cap0:Nat)(ss:List Shp)(o:Ob)(a a':Option Addr)(cap cap':Nat)(w:World)(ho:jP w o a a') :
 Calls Tryz.prog 216 #[.slice a0 ss.length cap0,.agg #[.string o.kd,.string o.nm,.string o.tm,.slice a o.vs.length cap,.bool o.en,.slice a' o.hs.length cap',.int .i64 o.vr]] w fun e w'=>e=.returned (jK (qH o))/\Below w.heap.size w w':=by
 have h1:=ho.small.nm;have h2:=ho.small.tm
 by_cases hn:zA o.nm=true
 ·have HN:Hid (zA o.nm=true):=hn
  clear hn ho;go_enter Tryz.func216,Tryz.ntmps216;go_wp2_with fail
  refine(zf HN.out (zH _ _ h1)).mono ?_;rintro e w1⟨rfl,rfl⟩;go_wp2_with fail
  refine(zH _ _ h2).mono ?_;rintro e w1⟨rfl,rfl⟩;go_wp2_with fail
  refine(jm _ _).mono ?_;rintro e w1⟨rfl,rfl⟩;go_wp2_with fail
  go_ret;exact⟨zda (by unfold qH;rw[HN.out];rfl),bAl _ _⟩
 ·have HN:Hid (zA o.nm=false):=by simpa[Hid] using hn
  clear hn ho;go_enter Tryz.func216,Tryz.ntmps216;go_wp2_with fail
  refine(zf HN.out (zH _ _ h1)).mono ?_;rintro e w1⟨rfl,rfl⟩;go_wp2_with fail
  refine(jm _ _).mono ?_;rintro e w1⟨rfl,rfl⟩;go_wp2_with fail
  go_ret;exact⟨zda (a:=false) (b:=qH o) (by unfold qH;rw[HN.out];rfl),bAl _ _⟩
theorem ze1 (a0:Option Addr)(cap0:Nat)(ss:List Shp)(o:Ob)(a a':Option Addr)(cap cap':Nat)(w:World)(ho:jP w o a a') :
 Calls Tryz.prog 217 #[.slice a0 ss.length cap0,.agg #[.string o.kd,.string o.nm,.string o.tm,.slice a o.vs.length cap,.bool o.en,.slice a' o.hs.length cap',.int .i64 o.vr]] w fun e w'=>e=.returned (jK (qW o))/\Below w.heap.size w w':=by
 have hl:=ho.holds.len;unfold maxLen at hl
 by_cases h3:o.hs.length<=3
 ·go_enter Tryz.func217,Tryz.ntmps217
  go_wp2_with fail
  refine(zjc _ _ _ _ (ho.holds.mono (bAl _ _))).mono ?_;rintro e w1⟨rfl,rfl⟩;go_wp2_with fail
  refine(jm _ _).mono ?_;rintro e w1⟨rfl,rfl⟩;go_wp2_with fail
  go_ret;exact⟨zda (by unfold qW;rw[decide_eq_true h3];rfl),bAl _ _⟩
 ·go_enter Tryz.func217,Tryz.ntmps217
  go_wp2_with fail
  refine(jm _ _).mono ?_;rintro e w1⟨rfl,rfl⟩;go_wp2_with fail
  go_ret;exact⟨zda (a:=false) (b:=qW o) (by unfold qW;rw[decide_eq_false (show ¬o.hs.length<=3 by omega)];rfl),bAl _ _⟩
theorem zdL (a0:Option Addr)(cap0:Nat)(ss:List Shp)(o:Ob)(a a':Option Addr)(cap cap':Nat)(w:World) :
 Calls Tryz.prog 218 #[.slice a0 ss.length cap0,.agg #[.string o.kd,.string o.nm,.string o.tm,.slice a o.vs.length cap,.bool o.en,.slice a' o.hs.length cap',.int .i64 o.vr]] w fun e w'=>e=.returned (jK (qx o))/\Below w.heap.size w w':=by
 by_cases h0:0<=o.vr
 ·have HV:Hid (qx o=decide (o.vr<=1000000)):=by unfold Hid qx;rw[decide_eq_true h0];rfl
  go_enter Tryz.func218,Tryz.ntmps218
  go_wp2_with (go_at_call 229;refine(jm _ _).mono ?_;rintro e w1⟨rfl,rfl⟩)
  go_ret;exact⟨zda HV.out.symm,bAl _ _⟩
 ·have HV:Hid (qx o=false):=by unfold Hid qx;rw[decide_eq_false h0];rfl
  go_enter Tryz.func218,Tryz.ntmps218
  go_wp2_with (go_at_call 229;refine(jm _ _).mono ?_;rintro e w1⟨rfl,rfl⟩)
  go_ret;exact⟨zda HV.out.symm,bAl _ _⟩
theorem zeN (a0:Option Addr)(cap0:Nat)(ss:List Shp)(o:Ob)(a a':Option Addr)(cap cap':Nat)(w:World)(hw:yT w a0 ss)(_ho:jP w o a a') :
 Calls Tryz.prog 219 #[.slice a0 ss.length cap0,.agg #[.string o.kd,.string o.nm,.string o.tm,.slice a o.vs.length cap,.bool o.en,.slice a' o.hs.length cap',.int .i64 o.vr]] w fun e w'=>e=.returned (jK (zB ss o))/\Below w.heap.size w w':=by
 by_cases hk:zJ ss o.kd=true
 all_goals
  first
   | (have HK:Hid (zJ ss o.kd=true):=hk)
   | (have HK:Hid (zJ ss o.kd=false):=by simpa[Hid] using hk)
  clear hk;go_enter Tryz.func219,Tryz.ntmps219;go_wp2_with fail
  refine(qI _ _ _ _ _ (hw.mono (bAl _ _))).mono ?_;rintro e w1⟨fa,fcap,rfl,_,hb1⟩;rw[HK.out];have hX1:=za (zl w _ _) (by simp) hb1;have hz1:w.heap.size<w1.heap.size:=by have:=hb1.size;simp at this;omega
  have hB1:Below w.heap.size w w1:=(bAl _ _).trans (hb1.mono (by simp));clear hb1
  go_wp2_with (go_at_call 229;refine(jm _ _).mono ?_;rintro e w2⟨rfl,rfl⟩)
  go_ret
 ·refine⟨zda ?_,hB1.alloc (by omega) _⟩
  unfold zB;rw[HK.out];rw[Bool.eq_iff_iff];simp;omega
 ·refine⟨zda (a:=false) (b:=zB ss o) ?_,hB1.alloc (by omega) _⟩
  unfold zB;rw[HK.out];rfl
def zaX {α:Type}(key:α->α->Int)(ms:List α)(k:Nat):Prop:=∀i (h:i+1<ms.length),i+1<k->key ms[i] ms[i+1]<0
def rising {α:Type}(key:α->α->Int)(ms:List α):Prop:=∀i (h:i+1<ms.length),key ms[i] ms[i+1]<0
noncomputable def zbM {α:Type}(key:α->α->Int)(ms:List α):Bool:=@decide (rising key ms) (Classical.propDecidable _)
theorem zdR {α:Type}{key:α->α->Int}{ms:List α}{m:Nat}(h:zaX key ms (m+1))(hl:m+1<ms.length)(hk:key ms[m] ms[m+1]<0):zaX key ms (m+1+1):=by
 intro i hi hik
 rcases Nat.lt_or_ge i m with hlt|hge
 ·exact h i hi (by omega)
 ·have e:i=m:=by omega
  subst e;exact hk
theorem zf3 {α:Type}{key:α->α->Int}{ms:List α}{m:Nat}(hl:m+1<ms.length)(hk:¬key ms[m] ms[m+1]<0):zbM key ms=false:=by
 unfold zbM;simp only[decide_eq_false_iff_not];exact fun h=>hk (h m hl)
theorem zgQ {α:Type}{key:α->α->Int}{ms:List α}{m:Nat}(h:zaX key ms (m+1))(hl:ms.length<=m+1):zbM key ms=true:=by
 unfold zbM;simp only[decide_eq_true_eq];exact fun i hi=>h i hi (by omega)
theorem zne {α:Type}(key:α->α->Int)(ms:List α):zbM key ms=true↔rising key ms:=by
 unfold zbM;simp only[decide_eq_true_eq]
def zd8 (a b:Int):Int:=if a<b then -1 else if b<a then 1 else 0
def zcp (a b:Gr):Int:=zd8 a.no b.no
theorem zgj {n m:Nat}(h:m+1<n):n+1-(intOf (Value.int IntKind.i64 ((m:Int)+1+1))).toNat<n+1-(intOf (Value.int IntKind.i64 ((m:Int)+1))).toNat:=by
 show n+1-((m:Int)+1+1).toNat<n+1-((m:Int)+1).toNat
 omega
theorem zpf (x:Int)(w:World):Calls Tryz.prog 224 #[.int .i64 x] w fun e w'=>e=.returned (.bool false)/\w'=w:=by
 have h:(x != x)=false:=by simp
 go_enter Tryz.func224,Tryz.ntmps224;go_wp2_with fail
 go_ret;exact⟨rfl,rfl⟩
theorem zjq (x y:Int)(w:World):Calls Tryz.prog 206 #[.int .i64 x,.int .i64 y] w fun e w'=>e=.returned (.int .i64 (zd8 x y))/\w'=w:=by
 have HN:=hid zpf
 by_cases h1:x<y
 ·have HF:Hid (zd8 x y=-1):=by unfold Hid zd8;rw[if_pos h1]
  go_enter Tryz.func206,Tryz.ntmps206
  go_wp2_with (go_at_call 224;refine(HN.out _ _).mono ?_;rintro e w2⟨rfl,rfl⟩)
  go_ret;exact⟨zo HF.out.symm,rfl⟩
 ·by_cases h2:y<x
  ·have HF:Hid (zd8 x y=1):=by unfold Hid zd8;rw[if_neg h1,if_pos h2]
   go_enter Tryz.func206,Tryz.ntmps206
   go_wp2_with (go_at_call 224;refine(HN.out _ _).mono ?_;rintro e w2⟨rfl,rfl⟩)
   go_ret;exact⟨zo HF.out.symm,rfl⟩
  ·have HF:Hid (zd8 x y=0):=by unfold Hid zd8;rw[if_neg h1,if_neg h2]
   go_enter Tryz.func206,Tryz.ntmps206
   go_wp2_with (go_at_call 224;refine(HN.out _ _).mono ?_;rintro e w2⟨rfl,rfl⟩)
   go_ret;exact⟨zo HF.out.symm,rfl⟩
theorem zja (g h:Gr)(a b:Option Addr)(c d:Nat)(w:World) :
 Calls Tryz.prog 166 #[.agg (g.cells a c),.agg (h.cells b d)] w fun e w'=>e=.returned (.int .i64 (zcp g h))/\Below w.heap.size w w':=by
 unfold Gr.cells;go_enter Tryz.func166,Tryz.ntmps166
 go_wp2_with (go_at_call 206;refine(zjq _ _ _).mono ?_;rintro e w2⟨rfl,rfl⟩)
 go_ret;exact⟨rfl,zw _ _ _⟩
theorem ziO (a:Option Addr)(cap:Nat)(ms:List Ob)(w:World)(hw:zbA w a ms) :
 Calls Tryz.prog 160 #[.slice a ms.length cap,.func (.func 161) #[] #[]] w fun e w'=>e=.returned (.bool (zbM zb9 ms))/\Below w.heap.size w w':=by
 have hl:=hw.len;unfold maxLen at hl;have HW:=hid hw;clear hw;go_enter Tryz.func160,Tryz.ntmps160;go_wp2_with fail
 go_loopw [5] (fun iv wr=>∃m:Nat,iv=.int .i64 ((m:Int)+1)/\m<=ms.length/\Hid (zaX zb9 ms (m+1)/\Below w.heap.size w wr)) (fun iv _=>ms.length+1-(intOf iv).toNat)
 case atStart=>exact⟨0,rfl,Nat.zero_le _,fun i h h'=>by omega,bRf _ _⟩
 case round=>
  obtain⟨m,rfl,hml,HQ⟩:=hrel
  by_cases hlt:m+1<ms.length
  ·have hm:m<ms.length:=by omega
   obtain⟨b,off,p0,p1,p2,p3,rfl,hb,_,_,_,d0,d1,d2,d3,d4,d5,d6⟩:=HW.out.load HQ.out.2 m hm;obtain⟨b2,off2,q0,q1,q2,q3,ha2,hbq,_,_,_,e0,e1,e2,e3,e4,e5,e6⟩:=HW.out.load HQ.out.2 (m+1) hlt
   obtain⟨rfl,rfl⟩:b=b2/\off=off2:=by
    have h:=ha2
    simpa using h
   have hb':=nLt hb HQ.out.2.size;have hltI:(m:Int)+1<(ms.length:Int):=by omega
   have h0m:(0:Int)<=(m:Int):=by omega
   have h01:(0:Int)<=(m:Int)+1:=by omega
   have hsub:IntKind.i64.wrap ((m:Int)+1-1)=(m:Int):=by rw[IntKind.wrap_i64];omega
   have hsub2:IntKind.i64.wrap (m:Int)=(m:Int):=by rw[IntKind.wrap_i64];omega
   have hsub3:wrap64 (m:Int)=(m:Int):=by unfold wrap64;omega
   have htn:((m:Int)+1).toNat=m+1:=by omega
   have hlmI:(m:Int)<(ms.length:Int):=by omega
   have HBr:=hid HQ.out.2;have hS:wr.drew.cell? ⟨b,off+m*7,none⟩=some (.string ms[m].kd)/\wr.drew.cell? ⟨b,off+m*7+1,none⟩=some (.string ms[m].nm)/\wr.drew.cell? ⟨b,off+m*7+2,none⟩=some (.string ms[m].tm)/\wr.drew.cell? ⟨b,off+m*7+3,none⟩=some (.slice p0 ms[m].vs.length p2)/\wr.drew.cell? ⟨b,off+m*7+4,none⟩=some (.bool ms[m].en)/\wr.drew.cell? ⟨b,off+m*7+5,none⟩=some (.slice p1 ms[m].hs.length p3)/\wr.drew.cell? ⟨b,off+m*7+6,none⟩=some (.int .i64 ms[m].vr)/\wr.drew.cell? ⟨b,off+(m+1)*7,none⟩=some (.string ms[m+1].kd)/\wr.drew.cell? ⟨b,off+(m+1)*7+1,none⟩=some (.string ms[m+1].nm)/\wr.drew.cell? ⟨b,off+(m+1)*7+2,none⟩=some (.string ms[m+1].tm)/\wr.drew.cell? ⟨b,off+(m+1)*7+3,none⟩=some (.slice q0 ms[m+1].vs.length q2)/\wr.drew.cell? ⟨b,off+(m+1)*7+4,none⟩=some (.bool ms[m+1].en)/\wr.drew.cell? ⟨b,off+(m+1)*7+5,none⟩=some (.slice q1 ms[m+1].hs.length q3)/\wr.drew.cell? ⟨b,off+(m+1)*7+6,none⟩=some (.int .i64 ms[m+1].vr):=⟨d0,d1,d2,d3,d4,d5,d6,e0,e1,e2,e3,e4,e5,e6⟩
   clear d0 d1 d2 d3 d4 d5 d6 e0 e1 e2 e3 e4 e5 e6;have HM:=hid HQ.out.1;clear HQ;go_wp2_with fail
   go_region_held3 (fun w'=>w'.cell? ⟨b,off+m*7,none⟩=some (.string ms[m].kd)/\w'.cell? ⟨b,off+m*7+1,none⟩=some (.string ms[m].nm)/\w'.cell? ⟨b,off+m*7+2,none⟩=some (.string ms[m].tm)/\w'.cell? ⟨b,off+m*7+3,none⟩=some (.slice p0 ms[m].vs.length p2)/\w'.cell? ⟨b,off+m*7+4,none⟩=some (.bool ms[m].en)/\w'.cell? ⟨b,off+m*7+5,none⟩=some (.slice p1 ms[m].hs.length p3)/\w'.cell? ⟨b,off+m*7+6,none⟩=some (.int .i64 ms[m].vr)/\w'.cell? ⟨b,off+(m+1)*7,none⟩=some (.string ms[m+1].kd)/\w'.cell? ⟨b,off+(m+1)*7+1,none⟩=some (.string ms[m+1].nm)/\w'.cell? ⟨b,off+(m+1)*7+2,none⟩=some (.string ms[m+1].tm)/\w'.cell? ⟨b,off+(m+1)*7+3,none⟩=some (.slice q0 ms[m+1].vs.length q2)/\w'.cell? ⟨b,off+(m+1)*7+4,none⟩=some (.bool ms[m+1].en)/\w'.cell? ⟨b,off+(m+1)*7+5,none⟩=some (.slice q1 ms[m+1].hs.length q3)/\w'.cell? ⟨b,off+(m+1)*7+6,none⟩=some (.int .i64 ms[m+1].vr)) (exact hS) (first|(go_at_call 161;refine(ziz ms[m] ms[m+1] p0 p1 q0 q1 p2 p3 q2 q3 _).mono ?_;rintro e w2⟨rfl,hb2⟩;have hS:=(⟨(hb2.cell (p:=⟨b,_,none⟩) hb').trans hS.1,(hb2.cell (p:=⟨b,_,none⟩) hb').trans hS.2.1,(hb2.cell (p:=⟨b,_,none⟩) hb').trans hS.2.2.1,(hb2.cell (p:=⟨b,_,none⟩) hb').trans hS.2.2.2.1,(hb2.cell (p:=⟨b,_,none⟩) hb').trans hS.2.2.2.2.1,(hb2.cell (p:=⟨b,_,none⟩) hb').trans hS.2.2.2.2.2.1,(hb2.cell (p:=⟨b,_,none⟩) hb').trans hS.2.2.2.2.2.2.1,(hb2.cell (p:=⟨b,_,none⟩) hb').trans hS.2.2.2.2.2.2.2.1,(hb2.cell (p:=⟨b,_,none⟩) hb').trans hS.2.2.2.2.2.2.2.2.1,(hb2.cell (p:=⟨b,_,none⟩) hb').trans hS.2.2.2.2.2.2.2.2.2.1,(hb2.cell (p:=⟨b,_,none⟩) hb').trans hS.2.2.2.2.2.2.2.2.2.2.1,(hb2.cell (p:=⟨b,_,none⟩) hb').trans hS.2.2.2.2.2.2.2.2.2.2.2.1,(hb2.cell (p:=⟨b,_,none⟩) hb').trans hS.2.2.2.2.2.2.2.2.2.2.2.2.1,(hb2.cell (p:=⟨b,_,none⟩) hb').trans hS.2.2.2.2.2.2.2.2.2.2.2.2.2⟩:_/\_/\_/\_/\_/\_/\_/\_/\_/\_/\_/\_/\_/\_);have hB2:=HBr.out.drew.trans (hb2.mono HBr.out.drew.size);clear hb2))
   by_cases hk:zb9 ms[m] ms[m+1]<0
   ·have HA:=hid (zdR HM.out hlt hk)
    have hd:decide (0<=zb9 ms[m] ms[m+1])=false:=by simp;omega
    rw[hd];clear hk hd;go_wp2_with fail
    exact⟨⟨m+1,by go_num,by omega,HA.out,hB2⟩,zgj (by omega)⟩
   ·have HA:=hid (zf3 hlt hk)
    have hd:decide (0<=zb9 ms[m] ms[m+1])=true:=by simp;omega
    rw[hd];clear hk hd;go_wp2_with fail
    go_ret;exact⟨ze HA.out.symm,hB2⟩
  ·have HA:Hid (zbM zb9 ms=true):=zgQ HQ.out.1 (by omega)
   have HB:=hid HQ.out.2;clear HQ;go_wp2_with fail
   go_ret;exact⟨ze HA.out.symm,HB.out⟩
theorem zii (a:Option Addr)(cap:Nat)(ms:List Gr)(w:World)(hw:zcf w a ms) :
 Calls Tryz.prog 165 #[.slice a ms.length cap,.func (.func 166) #[] #[]] w fun e w'=>e=.returned (.bool (zbM zcp ms))/\Below w.heap.size w w':=by
 have hl:=hw.len;unfold maxLen at hl;have HW:=hid hw;clear hw;go_enter Tryz.func165,Tryz.ntmps165;go_wp2_with fail
 go_loopw [5] (fun iv wr=>∃m:Nat,iv=.int .i64 ((m:Int)+1)/\m<=ms.length/\Hid (zaX zcp ms (m+1)/\Below w.heap.size w wr)) (fun iv _=>ms.length+1-(intOf iv).toNat)
 case atStart=>exact⟨0,rfl,Nat.zero_le _,fun i h h'=>by omega,bRf _ _⟩
 case round=>
  obtain⟨m,rfl,hml,HQ⟩:=hrel
  by_cases hlt:m+1<ms.length
  ·have hm:m<ms.length:=by omega
   obtain⟨b,off,p0,p1,rfl,hb,_,_,d0,d1,d2,d3,d4,d5,d6⟩:=HW.out.load HQ.out.2 m hm;obtain⟨b2,off2,q0,q1,ha2,hbq,_,_,e0,e1,e2,e3,e4,e5,e6⟩:=HW.out.load HQ.out.2 (m+1) hlt
   obtain⟨rfl,rfl⟩:b=b2/\off=off2:=by
    have h:=ha2
    simpa using h
   have hb':=nLt hb HQ.out.2.size;have hltI:(m:Int)+1<(ms.length:Int):=by omega
   have h0m:(0:Int)<=(m:Int):=by omega
   have h01:(0:Int)<=(m:Int)+1:=by omega
   have hsub:IntKind.i64.wrap ((m:Int)+1-1)=(m:Int):=by rw[IntKind.wrap_i64];omega
   have hsub2:IntKind.i64.wrap (m:Int)=(m:Int):=by rw[IntKind.wrap_i64];omega
   have hsub3:wrap64 (m:Int)=(m:Int):=by unfold wrap64;omega
   have htn:((m:Int)+1).toNat=m+1:=by omega
   have hlmI:(m:Int)<(ms.length:Int):=by omega
   have HBr:=hid HQ.out.2;have hS:wr.drew.cell? ⟨b,off+m*7,none⟩=some (.int .i64 ms[m].no)/\wr.drew.cell? ⟨b,off+m*7+1,none⟩=some (.string ms[m].to)/\wr.drew.cell? ⟨b,off+m*7+2,none⟩=some (.string ms[m].gb)/\wr.drew.cell? ⟨b,off+m*7+3,none⟩=some (.slice p0 ms[m].r.vs.length p1)/\wr.drew.cell? ⟨b,off+m*7+4,none⟩=some (.string ms[m].r.kd)/\wr.drew.cell? ⟨b,off+m*7+5,none⟩=some (.string ms[m].r.tm)/\wr.drew.cell? ⟨b,off+m*7+6,none⟩=some (.string ms[m].r.px)/\wr.drew.cell? ⟨b,off+(m+1)*7,none⟩=some (.int .i64 ms[m+1].no)/\wr.drew.cell? ⟨b,off+(m+1)*7+1,none⟩=some (.string ms[m+1].to)/\wr.drew.cell? ⟨b,off+(m+1)*7+2,none⟩=some (.string ms[m+1].gb)/\wr.drew.cell? ⟨b,off+(m+1)*7+3,none⟩=some (.slice q0 ms[m+1].r.vs.length q1)/\wr.drew.cell? ⟨b,off+(m+1)*7+4,none⟩=some (.string ms[m+1].r.kd)/\wr.drew.cell? ⟨b,off+(m+1)*7+5,none⟩=some (.string ms[m+1].r.tm)/\wr.drew.cell? ⟨b,off+(m+1)*7+6,none⟩=some (.string ms[m+1].r.px):=⟨d0,d1,d2,d3,d4,d5,d6,e0,e1,e2,e3,e4,e5,e6⟩
   clear d0 d1 d2 d3 d4 d5 d6 e0 e1 e2 e3 e4 e5 e6;have HM:=hid HQ.out.1;clear HQ;go_wp2_with fail
   go_region_held3 (fun w'=>w'.cell? ⟨b,off+m*7,none⟩=some (.int .i64 ms[m].no)/\w'.cell? ⟨b,off+m*7+1,none⟩=some (.string ms[m].to)/\w'.cell? ⟨b,off+m*7+2,none⟩=some (.string ms[m].gb)/\w'.cell? ⟨b,off+m*7+3,none⟩=some (.slice p0 ms[m].r.vs.length p1)/\w'.cell? ⟨b,off+m*7+4,none⟩=some (.string ms[m].r.kd)/\w'.cell? ⟨b,off+m*7+5,none⟩=some (.string ms[m].r.tm)/\w'.cell? ⟨b,off+m*7+6,none⟩=some (.string ms[m].r.px)/\w'.cell? ⟨b,off+(m+1)*7,none⟩=some (.int .i64 ms[m+1].no)/\w'.cell? ⟨b,off+(m+1)*7+1,none⟩=some (.string ms[m+1].to)/\w'.cell? ⟨b,off+(m+1)*7+2,none⟩=some (.string ms[m+1].gb)/\w'.cell? ⟨b,off+(m+1)*7+3,none⟩=some (.slice q0 ms[m+1].r.vs.length q1)/\w'.cell? ⟨b,off+(m+1)*7+4,none⟩=some (.string ms[m+1].r.kd)/\w'.cell? ⟨b,off+(m+1)*7+5,none⟩=some (.string ms[m+1].r.tm)/\w'.cell? ⟨b,off+(m+1)*7+6,none⟩=some (.string ms[m+1].r.px)) (exact hS) (first|(go_at_call 166;refine(zja ms[m] ms[m+1] p0 q0 p1 q1 _).mono ?_;rintro e w2⟨rfl,hb2⟩;have hS:=(⟨(hb2.cell (p:=⟨b,_,none⟩) hb').trans hS.1,(hb2.cell (p:=⟨b,_,none⟩) hb').trans hS.2.1,(hb2.cell (p:=⟨b,_,none⟩) hb').trans hS.2.2.1,(hb2.cell (p:=⟨b,_,none⟩) hb').trans hS.2.2.2.1,(hb2.cell (p:=⟨b,_,none⟩) hb').trans hS.2.2.2.2.1,(hb2.cell (p:=⟨b,_,none⟩) hb').trans hS.2.2.2.2.2.1,(hb2.cell (p:=⟨b,_,none⟩) hb').trans hS.2.2.2.2.2.2.1,(hb2.cell (p:=⟨b,_,none⟩) hb').trans hS.2.2.2.2.2.2.2.1,(hb2.cell (p:=⟨b,_,none⟩) hb').trans hS.2.2.2.2.2.2.2.2.1,(hb2.cell (p:=⟨b,_,none⟩) hb').trans hS.2.2.2.2.2.2.2.2.2.1,(hb2.cell (p:=⟨b,_,none⟩) hb').trans hS.2.2.2.2.2.2.2.2.2.2.1,(hb2.cell (p:=⟨b,_,none⟩) hb').trans hS.2.2.2.2.2.2.2.2.2.2.2.1,(hb2.cell (p:=⟨b,_,none⟩) hb').trans hS.2.2.2.2.2.2.2.2.2.2.2.2.1,(hb2.cell (p:=⟨b,_,none⟩) hb').trans hS.2.2.2.2.2.2.2.2.2.2.2.2.2⟩:_/\_/\_/\_/\_/\_/\_/\_/\_/\_/\_/\_/\_/\_);have hB2:=HBr.out.drew.trans (hb2.mono HBr.out.drew.size);clear hb2))
   by_cases hk:zcp ms[m] ms[m+1]<0
   ·have HA:=hid (zdR HM.out hlt hk)
    have hd:decide (0<=zcp ms[m] ms[m+1])=false:=by simp;omega
    rw[hd];clear hk hd;go_wp2_with fail
    exact⟨⟨m+1,by go_num,by omega,HA.out,hB2⟩,zgj (by omega)⟩
   ·have HA:=hid (zf3 hlt hk)
    have hd:decide (0<=zcp ms[m] ms[m+1])=true:=by simp;omega
    rw[hd];clear hk hd;go_wp2_with fail
    go_ret;exact⟨ze HA.out.symm,hB2⟩
  ·have HA:Hid (zbM zcp ms=true):=zgQ HQ.out.1 (by omega)
   have HB:=hid HQ.out.2;clear HQ;go_wp2_with fail
   go_ret;exact⟨ze HA.out.symm,HB.out⟩
theorem ziE (a:Option Addr)(cap:Nat)(ms:List Lg)(w:World)(hw:zbG w a ms) :
 Calls Tryz.prog 168 #[.slice a ms.length cap,.func (.func 128) #[] #[]] w fun e w'=>e=.returned (.bool (zbM qj ms))/\Below w.heap.size w w':=by
 have hl:=hw.len;unfold maxLen at hl;have HW:=hid hw;clear hw;go_enter Tryz.func168,Tryz.ntmps168;go_wp2_with fail
 go_loopw [5] (fun iv wr=>∃m:Nat,iv=.int .i64 ((m:Int)+1)/\m<=ms.length/\Hid (zaX qj ms (m+1)/\Below w.heap.size w wr)) (fun iv _=>ms.length+1-(intOf iv).toNat)
 case atStart=>exact⟨0,rfl,Nat.zero_le _,fun i h h'=>by omega,bRf _ _⟩
 case round=>
  obtain⟨m,rfl,hml,HQ⟩:=hrel
  by_cases hlt:m+1<ms.length
  ·have hm:m<ms.length:=by omega
   obtain⟨b,off,rfl,hb,d0,d1,d2,d3⟩:=HW.out.load HQ.out.2 m hm;obtain⟨b2,off2,ha2,hbq,e0,e1,e2,e3⟩:=HW.out.load HQ.out.2 (m+1) hlt
   obtain⟨rfl,rfl⟩:b=b2/\off=off2:=by
    have h:=ha2
    simpa using h
   have hb':=nLt hb HQ.out.2.size;have hltI:(m:Int)+1<(ms.length:Int):=by omega
   have h0m:(0:Int)<=(m:Int):=by omega
   have h01:(0:Int)<=(m:Int)+1:=by omega
   have hsub:IntKind.i64.wrap ((m:Int)+1-1)=(m:Int):=by rw[IntKind.wrap_i64];omega
   have hsub2:IntKind.i64.wrap (m:Int)=(m:Int):=by rw[IntKind.wrap_i64];omega
   have hsub3:wrap64 (m:Int)=(m:Int):=by unfold wrap64;omega
   have htn:((m:Int)+1).toNat=m+1:=by omega
   have hlmI:(m:Int)<(ms.length:Int):=by omega
   have HBr:=hid HQ.out.2;have hS:wr.drew.cell? ⟨b,off+m*4,none⟩=some (.string ms[m].tm)/\wr.drew.cell? ⟨b,off+m*4+1,none⟩=some (.string ms[m].rs)/\wr.drew.cell? ⟨b,off+m*4+2,none⟩=some (.int .i64 ms[m].mo)/\wr.drew.cell? ⟨b,off+m*4+3,none⟩=some (.int .i64 ms[m].fr)/\wr.drew.cell? ⟨b,off+(m+1)*4,none⟩=some (.string ms[m+1].tm)/\wr.drew.cell? ⟨b,off+(m+1)*4+1,none⟩=some (.string ms[m+1].rs)/\wr.drew.cell? ⟨b,off+(m+1)*4+2,none⟩=some (.int .i64 ms[m+1].mo)/\wr.drew.cell? ⟨b,off+(m+1)*4+3,none⟩=some (.int .i64 ms[m+1].fr):=⟨d0,d1,d2,d3,e0,e1,e2,e3⟩
   clear d0 d1 d2 d3 e0 e1 e2 e3;have HM:=hid HQ.out.1;clear HQ;go_wp2_with fail
   go_region_held3 (fun w'=>w'.cell? ⟨b,off+m*4,none⟩=some (.string ms[m].tm)/\w'.cell? ⟨b,off+m*4+1,none⟩=some (.string ms[m].rs)/\w'.cell? ⟨b,off+m*4+2,none⟩=some (.int .i64 ms[m].mo)/\w'.cell? ⟨b,off+m*4+3,none⟩=some (.int .i64 ms[m].fr)/\w'.cell? ⟨b,off+(m+1)*4,none⟩=some (.string ms[m+1].tm)/\w'.cell? ⟨b,off+(m+1)*4+1,none⟩=some (.string ms[m+1].rs)/\w'.cell? ⟨b,off+(m+1)*4+2,none⟩=some (.int .i64 ms[m+1].mo)/\w'.cell? ⟨b,off+(m+1)*4+3,none⟩=some (.int .i64 ms[m+1].fr)) (exact hS) (first|(go_at_call 128;refine(zck ms[m] ms[m+1] _).mono ?_;rintro e w2⟨rfl,hb2⟩;have hS:=(⟨(hb2.cell (p:=⟨b,_,none⟩) hb').trans hS.1,(hb2.cell (p:=⟨b,_,none⟩) hb').trans hS.2.1,(hb2.cell (p:=⟨b,_,none⟩) hb').trans hS.2.2.1,(hb2.cell (p:=⟨b,_,none⟩) hb').trans hS.2.2.2.1,(hb2.cell (p:=⟨b,_,none⟩) hb').trans hS.2.2.2.2.1,(hb2.cell (p:=⟨b,_,none⟩) hb').trans hS.2.2.2.2.2.1,(hb2.cell (p:=⟨b,_,none⟩) hb').trans hS.2.2.2.2.2.2.1,(hb2.cell (p:=⟨b,_,none⟩) hb').trans hS.2.2.2.2.2.2.2⟩:_/\_/\_/\_/\_/\_/\_/\_);have hB2:=HBr.out.drew.trans (hb2.mono HBr.out.drew.size);clear hb2))
   by_cases hk:qj ms[m] ms[m+1]<0
   ·have HA:=hid (zdR HM.out hlt hk)
    have hd:decide (0<=qj ms[m] ms[m+1])=false:=by simp;omega
    rw[hd];clear hk hd;go_wp2_with fail
    exact⟨⟨m+1,by go_num,by omega,HA.out,hB2⟩,zgj (by omega)⟩
   ·have HA:=hid (zf3 hlt hk)
    have hd:decide (0<=qj ms[m] ms[m+1])=true:=by simp;omega
    rw[hd];clear hk hd;go_wp2_with fail
    go_ret;exact⟨ze HA.out.symm,hB2⟩
  ·have HA:Hid (zbM qj ms=true):=zgQ HQ.out.1 (by omega)
   have HB:=hid HQ.out.2;clear HQ;go_wp2_with fail
   go_ret;exact⟨ze HA.out.symm,HB.out⟩
theorem ziP (a:Option Addr)(cap:Nat)(ms:List Pu)(w:World)(hw:zcb w a ms) :
 Calls Tryz.prog 170 #[.slice a ms.length cap,.func (.func 171) #[] #[]] w fun e w'=>e=.returned (.bool (zbM zas ms))/\Below w.heap.size w w':=by
 have hl:=hw.len;unfold maxLen at hl;have HW:=hid hw;clear hw;go_enter Tryz.func170,Tryz.ntmps170;go_wp2_with fail
 go_loopw [5] (fun iv wr=>∃m:Nat,iv=.int .i64 ((m:Int)+1)/\m<=ms.length/\Hid (zaX zas ms (m+1)/\Below w.heap.size w wr)) (fun iv _=>ms.length+1-(intOf iv).toNat)
 case atStart=>exact⟨0,rfl,Nat.zero_le _,fun i h h'=>by omega,bRf _ _⟩
 case round=>
  obtain⟨m,rfl,hml,HQ⟩:=hrel
  by_cases hlt:m+1<ms.length
  ·have hm:m<ms.length:=by omega
   obtain⟨b,off,rfl,hb,d0,d1,d2,d3,d4⟩:=HW.out.load HQ.out.2 m hm;obtain⟨b2,off2,ha2,hbq,e0,e1,e2,e3,e4⟩:=HW.out.load HQ.out.2 (m+1) hlt
   obtain⟨rfl,rfl⟩:b=b2/\off=off2:=by
    have h:=ha2
    simpa using h
   have hb':=nLt hb HQ.out.2.size;have hltI:(m:Int)+1<(ms.length:Int):=by omega
   have h0m:(0:Int)<=(m:Int):=by omega
   have h01:(0:Int)<=(m:Int)+1:=by omega
   have hsub:IntKind.i64.wrap ((m:Int)+1-1)=(m:Int):=by rw[IntKind.wrap_i64];omega
   have hsub2:IntKind.i64.wrap (m:Int)=(m:Int):=by rw[IntKind.wrap_i64];omega
   have hsub3:wrap64 (m:Int)=(m:Int):=by unfold wrap64;omega
   have htn:((m:Int)+1).toNat=m+1:=by omega
   have hlmI:(m:Int)<(ms.length:Int):=by omega
   have HBr:=hid HQ.out.2;have hS:wr.drew.cell? ⟨b,off+m*5,none⟩=some (.string ms[m].dr)/\wr.drew.cell? ⟨b,off+m*5+1,none⟩=some (.string ms[m].tm)/\wr.drew.cell? ⟨b,off+m*5+2,none⟩=some (.string ms[m].rs)/\wr.drew.cell? ⟨b,off+m*5+3,none⟩=some (.int .i64 ms[m].am)/\wr.drew.cell? ⟨b,off+m*5+4,none⟩=some (.int .i64 ms[m].un)/\wr.drew.cell? ⟨b,off+(m+1)*5,none⟩=some (.string ms[m+1].dr)/\wr.drew.cell? ⟨b,off+(m+1)*5+1,none⟩=some (.string ms[m+1].tm)/\wr.drew.cell? ⟨b,off+(m+1)*5+2,none⟩=some (.string ms[m+1].rs)/\wr.drew.cell? ⟨b,off+(m+1)*5+3,none⟩=some (.int .i64 ms[m+1].am)/\wr.drew.cell? ⟨b,off+(m+1)*5+4,none⟩=some (.int .i64 ms[m+1].un):=⟨d0,d1,d2,d3,d4,e0,e1,e2,e3,e4⟩
   clear d0 d1 d2 d3 d4 e0 e1 e2 e3 e4;have HM:=hid HQ.out.1;clear HQ;go_wp2_with fail
   go_region_held3 (fun w'=>w'.cell? ⟨b,off+m*5,none⟩=some (.string ms[m].dr)/\w'.cell? ⟨b,off+m*5+1,none⟩=some (.string ms[m].tm)/\w'.cell? ⟨b,off+m*5+2,none⟩=some (.string ms[m].rs)/\w'.cell? ⟨b,off+m*5+3,none⟩=some (.int .i64 ms[m].am)/\w'.cell? ⟨b,off+m*5+4,none⟩=some (.int .i64 ms[m].un)/\w'.cell? ⟨b,off+(m+1)*5,none⟩=some (.string ms[m+1].dr)/\w'.cell? ⟨b,off+(m+1)*5+1,none⟩=some (.string ms[m+1].tm)/\w'.cell? ⟨b,off+(m+1)*5+2,none⟩=some (.string ms[m+1].rs)/\w'.cell? ⟨b,off+(m+1)*5+3,none⟩=some (.int .i64 ms[m+1].am)/\w'.cell? ⟨b,off+(m+1)*5+4,none⟩=some (.int .i64 ms[m+1].un)) (exact hS) (first|(go_at_call 171;refine(zjv ms[m] ms[m+1] _).mono ?_;rintro e w2⟨rfl,hb2⟩;have hS:=(⟨(hb2.cell (p:=⟨b,_,none⟩) hb').trans hS.1,(hb2.cell (p:=⟨b,_,none⟩) hb').trans hS.2.1,(hb2.cell (p:=⟨b,_,none⟩) hb').trans hS.2.2.1,(hb2.cell (p:=⟨b,_,none⟩) hb').trans hS.2.2.2.1,(hb2.cell (p:=⟨b,_,none⟩) hb').trans hS.2.2.2.2.1,(hb2.cell (p:=⟨b,_,none⟩) hb').trans hS.2.2.2.2.2.1,(hb2.cell (p:=⟨b,_,none⟩) hb').trans hS.2.2.2.2.2.2.1,(hb2.cell (p:=⟨b,_,none⟩) hb').trans hS.2.2.2.2.2.2.2.1,(hb2.cell (p:=⟨b,_,none⟩) hb').trans hS.2.2.2.2.2.2.2.2.1,(hb2.cell (p:=⟨b,_,none⟩) hb').trans hS.2.2.2.2.2.2.2.2.2⟩:_/\_/\_/\_/\_/\_/\_/\_/\_/\_);have hB2:=HBr.out.drew.trans (hb2.mono HBr.out.drew.size);clear hb2))
   by_cases hk:zas ms[m] ms[m+1]<0
   ·have HA:=hid (zdR HM.out hlt hk)
    have hd:decide (0<=zas ms[m] ms[m+1])=false:=by simp;omega
    rw[hd];clear hk hd;go_wp2_with fail
    exact⟨⟨m+1,by go_num,by omega,HA.out,hB2⟩,zgj (by omega)⟩
   ·have HA:=hid (zf3 hlt hk)
    have hd:decide (0<=zas ms[m] ms[m+1])=true:=by simp;omega
    rw[hd];clear hk hd;go_wp2_with fail
    go_ret;exact⟨ze HA.out.symm,hB2⟩
  ·have HA:Hid (zbM zas ms=true):=zgQ HQ.out.1 (by omega)
   have HB:=hid HQ.out.2;clear HQ;go_wp2_with fail
   go_ret;exact⟨ze HA.out.symm,HB.out⟩
end Go.Proofs.YtkficnallnpjnaaGreat
