import Derived.Test.YtcgpjfcocmcodaaGreatM22
set_option maxHeartbeats 1000000
namespace Go.Proofs.YtcgpjfcocmcodaaGreat
open Go.RowKit
def zaX (C:AV)(j:Nat):Prop:=∀a n c,C[j]?≠some (Value.slice a n c)
structure jH (lo hi:Nat)(w:World)(b n:Nat):Prop where
 low:lo<=b
 high:b<hi
 rows:∃C,w.heap[b]?=some (.cells C 9)/\n<=C.size/\∀j,j<n->zaX C j
structure jy (lo hi:Nat)(w:World)(bo:Nat)(fs:List Fld):Prop where
 low:lo<=bo
 high:bo<hi
 rows:∃C,w.heap[bo]?=some (.cells C 178)/\C.size=fs.length*11 /\
  ∀i (h:i<fs.length),∃bk cap,jH lo hi w bk fs[i].ws.length/\C[i*11+4]?=some (.l (some (aD bk 0)) fs[i].ws.length cap)/\∀j,j<11->j≠4->zaX C (i*11+j)
structure jM (lo hi:Nat)(w:World)(bo:Nat)(ss:List Shp):Prop where
 low:lo<=bo
 high:bo<hi
 rows:∃C,w.heap[bo]?=some (.cells C 134)/\C.size=ss.length*2 /\
  ∀i (h:i<ss.length),∃bf cap,jy lo hi w bf ss[i].fs/\C[i*2+1]?=some (.l (some (aD bf 0)) ss[i].fs.length cap)/\zaX C (i*2)
theorem jH.mono {lo hi:Nat}{w w':World}{b n:Nat}(h:jH lo hi w b n)(hM:Marked lo hi w w'):jH lo hi w' b n:=by
 obtain⟨C,hC,hs,hn⟩:=h.rows;obtain⟨C',hC',hs',hk⟩:=hM.inn b C _ h.low h.high hC;exact⟨h.low,h.high,C',hC',by omega,fun j hj a m c he=>hn j hj a m c ((hk j a m c).1 he)⟩
theorem jy.mono {lo hi:Nat}{w w':World}{b:Nat}{fs:List Fld}(h:jy lo hi w b fs)(hM:Marked lo hi w w'):jy lo hi w' b fs:=by
 obtain⟨C,hC,hs,hn⟩:=h.rows;obtain⟨C',hC',hs',hk⟩:=hM.inn b C _ h.low h.high hC;refine⟨h.low,h.high,C',hC',by omega,fun i hi=>?_⟩;obtain⟨bk,cap,h1,h2,h3⟩:=hn i hi;exact⟨bk,cap,h1.mono hM,(hk _ _ _ _).2 h2,fun j hj hj4 a m c he=>h3 j hj hj4 a m c ((hk _ a m c).1 he)⟩
theorem jM.mono {lo hi:Nat}{w w':World}{b:Nat}{ss:List Shp}(h:jM lo hi w b ss)(hM:Marked lo hi w w'):jM lo hi w' b ss:=by
 obtain⟨C,hC,hs,hn⟩:=h.rows;obtain⟨C',hC',hs',hk⟩:=hM.inn b C _ h.low h.high hC;refine⟨h.low,h.high,C',hC',by omega,fun i hi=>?_⟩;obtain⟨bk,cap,h1,h2,h3⟩:=hn i hi;exact⟨bk,cap,h1.mono hM,(hk _ _ _ _).2 h2,fun a m c he=>h3 a m c ((hk _ a m c).1 he)⟩
theorem zcR (ws:List BA)(j:Nat):zaX (jT ws) j:=by
 intro a n c h;simp only[jT,List.getElem?_toArray,List.getElem?_map,Option.map_eq_some_iff]at h;obtain⟨_,_,h⟩:=h
 cases h
theorem qF.form {lo:Nat}{w:World}{bo:Nat}{fs:List Fld}(h:qF lo w bo fs fs.length):jy lo w.heap.size w bo fs:=by
 obtain⟨C,hC,hsz,hr⟩:=h.rows;refine⟨h.low,(gES hC).1,C,hC,hsz,fun i hi=>?_⟩;obtain⟨bk,h1,_,hk,hc⟩:=hr i hi hi;refine⟨bk,fs[i].ws.length,⟨h1,(gES hk).1,jT fs[i].ws,hk,by simp[jT],fun j _=>zcR _ _⟩,by rw[hc 4 (by omega)];rfl,fun j hj hj4 a n c he=>?_⟩;rw[hc j hj]at he
 rcases j with _|_|_|_|_|_|_|_|_|_|_|j <;> first|omega|(simp[Fld.cells]at he)
theorem jQ.form {lo:Nat}{w:World}{bo:Nat}{ss:List Shp}(h:jQ lo w bo ss ss.length):jM lo w.heap.size w bo ss:=by
 obtain⟨C,hC,hsz,hr⟩:=h.rows;refine⟨h.low,(gES hC).1,C,hC,hsz,fun i hi=>?_⟩;obtain⟨bf,h1,h2,hf,hk,hl⟩:=hr i hi hi;have hf':=hf.form;have hlow:lo<=bo:=h.low;refine⟨bf,ss[i].fs.length,⟨h1,hf'.high,?_⟩,hl,fun a n c he=>by rw[hk]at he;cases he⟩;obtain⟨C',hC',hs',hr'⟩:=hf'.rows;refine⟨C',hC',hs',fun j hj=>?_⟩;obtain⟨bk,cap,g1,g2,g3⟩:=hr' j hj;exact⟨bk,cap,⟨by have:=g1.low;omega,g1.high,g1.rows⟩,g2,g3⟩
theorem zN (k:Int)(w:World)(hk:0<k)(hk2:k<9000000000000000000) :
 Calls Tryz.prog 107 #[.i k] w fun e w'=>∃s,e=.returned (.s s)/\Bw w w':=by
 obtain⟨n,rfl⟩:∃n:Nat,k=n:=⟨k.toNat,by omega⟩
 exact(zcH n w (by omega) (by omega)).mono fun e w' ⟨h1,h2⟩=>⟨_,h1,h2⟩
theorem zbY (lo hi b n cap:Nat)(k:Int)(w:World)(h:jH lo hi w b n)(hn:n<=1048576)(hk:0<k)(hk2:k<8000000000000000000) :
 Calls Tryz.prog 109 #[.l (some (aD b 0)) n cap,.i k] w fun e w'=>∃k',e=.returned (.i k')/\k'=k+n/\Marked lo hi w w':=by
 obtain⟨m,rfl⟩:∃m:Nat,k=m:=⟨k.toNat,by omega⟩
 obtain⟨C,hC,hs,hns⟩:=h.rows;refine(zeO b n cap C m w hC hs hns (by omega) (by omega)).mono fun e w' ⟨h1,h2,_⟩=>⟨_,h1,Int.natCast_add _ _,h2.wide h.low h.high⟩
theorem ziH (a:OA)(cap:Nat)(ws:List BA)(k:Nat)(w:World)(hw:zG w a ws)(hk:0<k)(hkn:k+ws.length<9000000000000000000)(hws:∀i (h:i<ws.length),ws[i]=zaG (k+i)) :
 Calls Tryz.prog 111 #[.l a ws.length cap,.i k] w fun e w'=>e=.returned (.i ((k+ws.length:Nat):Int))/\Bw w w':=by
 have HS:Hid (∀i (h:i<ws.length),ws[i]=zaG (k+i)):=hws;have HKN:Hid (k+ws.length<9000000000000000000):=hkn;clear hws hkn;go_enter Tryz.func111,Tryz.ntmps111;go_wp2_with fail
 go_loopw [1,5] (fun kv iv wr=>∃i:Nat,i<=ws.length/\kv=.i ((k+i:Nat):Int)/\iv=.i i/\Bw w wr) (fun _ iv _=>ws.length-(intOf iv).toNat)
 case atStart=>exact⟨0,Nat.zero_le _,by simp,rfl,bRf _ _⟩
 case round=>
  obtain⟨i,hi,rfl,rfl,hB⟩:=hrel
  by_cases hlt:i<ws.length
  ·obtain⟨b,off,rfl,hb,hc⟩:=hw.cells (by rintro rfl;simp at hlt)
   have hltI:(i:Int)<(ws.length:Int):=by omega
   have hckd:wr.drew.cell? (aD b (off+i))=some (.s (zaG (k+i))):=by
    rw[<- HS.o i hlt];exact(hB.cell (p:=(aD b (off+i))) hb).trans (hc i hlt)
   have hBd:=hB.drew;have hbd:b<wr.drew.heap.size:=nLt hb hB.size;have HR:Hid (wrap64 ((k:Int)+i+1)=((k+(i+1):Nat):Int)):=by have:=HKN.o;rw[Hid,zA _ ⟨by omega,by omega⟩];omega
   clear hw hc;go_wp2_with fail
   go_region_held3 (fun w'=>w'.cell? (aD b (off+i))=some (.s (zaG (k+i)))) (exact hckd) (first
    | (go_at_call 107;(try rw[<- Int.natCast_add]);refine(zcH (k+i) _ (by omega) (by have:=HKN.o;omega)).mono ?_;rintro e w1⟨rfl,hb1⟩;have hckd:=(hb1.cell (p:=(aD b (off+i))) hbd).trans hckd;have hBd:=hBd.trans (hb1.mono hBd.size);clear hb1))
   go_wp2_with fail
   exact⟨⟨i+1,by omega,by rw[HR.o],by rw[wrap_one (by have:=HKN.o;omega)],hBd⟩,yR hlt (by have:=HKN.o;omega)⟩
  ·have e:i=ws.length:=by omega
   subst e;clear hw;go_wp2_with fail
   go_ret;exact⟨rfl,hB⟩
structure zcp (w:World)(a:OA)(ms:List Ob):Prop where
 len:ms.length<=maxLen
 rows:ms≠[]->∃b off,a=some (aD b off)/\b<w.heap.size/\∀i (h:i<ms.length),∃g0 g1 c0 c1,zpU w b (off+i*7) ms[i] (some (aD g0 0)) (some (aD g1 0)) c0 c1
theorem zcp.mono {w w':World}{a:OA}{ms:List Ob}(h:zcp w a ms)(hl:Bw w w'):zcp w' a ms:=
 ⟨h.len,fun hne=>by
  obtain⟨b,off,ha,hb,hr⟩:=h.rows hne;refine⟨b,off,ha,nLt hb hl.size,fun i hi=>?_⟩;obtain⟨g0,g1,c0,c1,hf⟩:=hr i hi;exact⟨g0,g1,c0,c1,hf.mono hb hl⟩⟩
theorem zcp.load {w w':World}{a:OA}{ms:List Ob}(h:zcp w a ms)(hl:Bw w w')(i:Nat)(hi:i<ms.length):∃b off g0 g1 c0 c1,a=some (aD b off)/\b<w.heap.size/\ms[i].Small/\zG w' (some (aD g0 0)) ms[i].vs/\zG w' (some (aD g1 0)) ms[i].hs /\
 w'.cell? (aD b (off+i*7))=some (.s ms[i].kd)/\w'.cell? (aD b (off+i*7+1))=some (.s ms[i].nm)/\w'.cell? (aD b (off+i*7+2))=some (.s ms[i].tm)/\w'.cell? (aD b (off+i*7+3))=some (.l (some (aD g0 0)) ms[i].vs.length c0)/\w'.cell? (aD b (off+i*7+4))=some (.bool ms[i].en)/\w'.cell? (aD b (off+i*7+5))=some (.l (some (aD g1 0)) ms[i].hs.length c1)/\w'.cell? (aD b (off+i*7+6))=some (.i ms[i].vr):=by
 obtain⟨b,off,ha,hb,hr⟩:=h.rows (by rintro rfl;simp at hi);obtain⟨g0,g1,c0,c1,hf0⟩:=hr i hi;have hf:=hf0.mono hb hl;exact⟨b,off,g0,g1,c0,c1,ha,hb,hf.small,hf.l0,hf.l1,hf.cell 0 (by omega),hf.cell 1 (by omega),hf.cell 2 (by omega),hf.cell 3 (by omega),hf.cell 4 (by omega),hf.cell 5 (by omega),hf.cell 6 (by omega)⟩
theorem zah.has {lo:Nat}{w:World}{bo:Nat}{ms:List Ob}(h:zah lo w bo ms ms.length)(hs:zfb ms)(hl:ms.length<=maxLen):zcp w (some (aD bo 0)) ms:=by
 obtain⟨C,hC,hsz,hr⟩:=h.rows;refine⟨hl,fun _=>⟨bo,0,rfl,(gES hC).1,fun i hi=>?_⟩⟩;obtain⟨g0,g1,_,_,hk0,_,_,hk1,hc⟩:=hr i hi hi;obtain⟨s0,s1,s2⟩:=hs.small i hi;refine⟨g0,g1,ms[i].vs.length,ms[i].hs.length,s0,zd2 hk0 s1.1 s1.2,zd2 hk1 s2.1 s2.2,fun j hj=>?_⟩;rw[cell_of_block hC,Nat.zero_add];exact hc j hj
theorem zke (b:Bk)(a0 a1 a2 a3:OA)(c0 c1 c2 c3:Nat)(w:World)(hl:ji w b a0 a1 a2 a3)(hf:b.Few) :
 Calls Tryz.prog 8 #[.agg (b.cells a0 a1 a2 a3 c0 c1 c2 c3)] w fun e w'=>∃a0' a1' a2' a3',e=.returned (.agg (b.cells a0' a1' a2' a3' b.os.length b.gs.length b.ls.length b.ps.length))/\ji w' b a0' a1' a2' a3'/\zcp w' a0' b.os/\Bw w w':=by
 refine(zcM b a0 a1 a2 a3 c0 c1 c2 c3 w hl hf).mono ?_;rintro e w'⟨lo,g0,g1,g2,g3,he,_,ho,hb⟩;exact⟨_,_,_,_,he,ho.at hl.small,ho.os.has hl.os.smalls hl.os.len,hb⟩
end Go.Proofs.YtcgpjfcocmcodaaGreat
