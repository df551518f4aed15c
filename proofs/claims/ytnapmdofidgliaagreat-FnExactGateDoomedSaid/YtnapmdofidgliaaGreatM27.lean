import Derived.Test.YtnapmdofidgliaaGreatM25
namespace Go.Proofs.YtnapmdofidgliaaGreat
open Go.RowKit
def zbi (C:Array Value)(j:Nat):Prop:=∀a n c,C[j]?≠some (Value.slice a n c)
structure jQ (lo hi:Nat)(w:World)(b n:Nat):Prop where
 low:lo<=b
 high:b<hi
 rows:∃C,w.heap[b]?=some (.cells C 9)/\n<=C.size/\∀j,j<n->zbi C j
structure jB (lo hi:Nat)(w:World)(bo:Nat)(fs:List Fld):Prop where
 low:lo<=bo
 high:bo<hi
 rows:∃C,w.heap[bo]?=some (.cells C 128)/\C.size=fs.length*11 /\
  ∀i (h:i<fs.length),∃bk cap,jQ lo hi w bk fs[i].ws.length/\C[i*11+4]?=some (.slice (some ⟨bk,0,none⟩) fs[i].ws.length cap)/\∀j,j<11->j≠4->zbi C (i*11+j)
structure jP (lo hi:Nat)(w:World)(bo:Nat)(ss:List Shp):Prop where
 low:lo<=bo
 high:bo<hi
 rows:∃C,w.heap[bo]?=some (.cells C 131)/\C.size=ss.length*2 /\
  ∀i (h:i<ss.length),∃bf cap,jB lo hi w bf ss[i].fs/\C[i*2+1]?=some (.slice (some ⟨bf,0,none⟩) ss[i].fs.length cap)/\zbi C (i*2)
theorem jQ.mono {lo hi:Nat}{w w':World}{b n:Nat}(h:jQ lo hi w b n)(hM:Marked lo hi w w'):jQ lo hi w' b n:=by
 obtain⟨C,hC,hs,hn⟩:=h.rows;obtain⟨C',hC',hs',hk⟩:=hM.inn b C _ h.low h.high hC;exact⟨h.low,h.high,C',hC',by omega,fun j hj a m c he=>hn j hj a m c ((hk j a m c).1 he)⟩
theorem jB.mono {lo hi:Nat}{w w':World}{b:Nat}{fs:List Fld}(h:jB lo hi w b fs)(hM:Marked lo hi w w'):jB lo hi w' b fs:=by
 obtain⟨C,hC,hs,hn⟩:=h.rows;obtain⟨C',hC',hs',hk⟩:=hM.inn b C _ h.low h.high hC;refine⟨h.low,h.high,C',hC',by omega,fun i hi=>?_⟩;obtain⟨bk,cap,h1,h2,h3⟩:=hn i hi;exact⟨bk,cap,h1.mono hM,(hk _ _ _ _).2 h2,fun j hj hj4 a m c he=>h3 j hj hj4 a m c ((hk _ a m c).1 he)⟩
theorem jP.mono {lo hi:Nat}{w w':World}{b:Nat}{ss:List Shp}(h:jP lo hi w b ss)(hM:Marked lo hi w w'):jP lo hi w' b ss:=by
 obtain⟨C,hC,hs,hn⟩:=h.rows;obtain⟨C',hC',hs',hk⟩:=hM.inn b C _ h.low h.high hC;refine⟨h.low,h.high,C',hC',by omega,fun i hi=>?_⟩;obtain⟨bk,cap,h1,h2,h3⟩:=hn i hi;exact⟨bk,cap,h1.mono hM,(hk _ _ _ _).2 h2,fun a m c he=>h3 a m c ((hk _ a m c).1 he)⟩
theorem zc5 (ws:List ByteArray)(j:Nat):zbi (jY ws) j:=by
 intro a n c h;simp only[jY,List.getElem?_toArray,List.getElem?_map,Option.map_eq_some_iff]at h;obtain⟨_,_,h⟩:=h
 cases h
theorem qF.form {lo:Nat}{w:World}{bo:Nat}{fs:List Fld}(h:qF lo w bo fs fs.length):jB lo w.heap.size w bo fs:=by
 obtain⟨C,hC,hsz,hr⟩:=h.rows;refine⟨h.low,(gES hC).1,C,hC,hsz,fun i hi=>?_⟩;obtain⟨bk,h1,_,hk,hc⟩:=hr i hi hi;refine⟨bk,fs[i].ws.length,⟨h1,(gES hk).1,jY fs[i].ws,hk,by simp[jY],fun j _=>zc5 _ _⟩,by rw[hc 4 (by omega)];rfl,fun j hj hj4 a n c he=>?_⟩;rw[hc j hj]at he
 rcases j with _|_|_|_|_|_|_|_|_|_|_|j <;> first|omega|(simp[Fld.cells]at he)
theorem jU.form {lo:Nat}{w:World}{bo:Nat}{ss:List Shp}(h:jU lo w bo ss ss.length):jP lo w.heap.size w bo ss:=by
 obtain⟨C,hC,hsz,hr⟩:=h.rows;refine⟨h.low,(gES hC).1,C,hC,hsz,fun i hi=>?_⟩;obtain⟨bf,h1,h2,hf,hk,hl⟩:=hr i hi hi;have hf':=hf.form;have hlow:lo<=bo:=h.low;refine⟨bf,ss[i].fs.length,⟨h1,hf'.high,?_⟩,hl,fun a n c he=>by rw[hk]at he;cases he⟩;obtain⟨C',hC',hs',hr'⟩:=hf'.rows;refine⟨C',hC',hs',fun j hj=>?_⟩;obtain⟨bk,cap,g1,g2,g3⟩:=hr' j hj;exact⟨bk,cap,⟨by have:=g1.low;omega,g1.high,g1.rows⟩,g2,g3⟩
theorem zP (k:Int)(w:World)(hk:0<k)(hk2:k<9000000000000000000) :
 Calls Tryz.prog 90 #[.int .i64 k] w fun e w'=>∃s,e=.returned (.string s)/\Below w.heap.size w w':=by
 obtain⟨n,rfl⟩:∃n:Nat,k=n:=⟨k.toNat,by omega⟩
 exact(zgO n w (by omega) (by omega)).mono fun e w' ⟨h1,h2⟩=>⟨_,h1,h2⟩
theorem zb8 (lo hi b n cap:Nat)(k:Int)(w:World)(h:jQ lo hi w b n)(hn:n<=1048576)(hk:0<k)(hk2:k<8000000000000000000) :
 Calls Tryz.prog 92 #[.slice (some ⟨b,0,none⟩) n cap,.int .i64 k] w fun e w'=>∃k',e=.returned (.int .i64 k')/\k'=k+n/\Marked lo hi w w':=by
 obtain⟨m,rfl⟩:∃m:Nat,k=m:=⟨k.toNat,by omega⟩
 obtain⟨C,hC,hs,hns⟩:=h.rows;refine(ziv b n cap C m w hC hs hns (by omega) (by omega)).mono fun e w' ⟨h1,h2,_⟩=>⟨_,h1,Int.natCast_add _ _,h2.wide h.low h.high⟩
end Go.Proofs.YtnapmdofidgliaaGreat
