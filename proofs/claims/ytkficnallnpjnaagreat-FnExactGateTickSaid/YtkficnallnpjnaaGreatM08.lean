import Derived.Test.YtkficnallnpjnaaGreatM07
import Derived.Deep.RegionWith
set_option maxHeartbeats 2000000
namespace Go.Proofs.YtkficnallnpjnaaGreat
open Go.RowKit
theorem yg {w:World}{p:Addr}{v:Value}{b o:Nat}(h:b≠p.block):(w.setCell p v).cell? ⟨b,o,none⟩=w.cell? ⟨b,o,none⟩:=by
 unfold World.cell?;rw[Below.heap_setCell _ _ _ _ h]
theorem zbX {w:World}{b g o:Nat}(h:b≠g){v0 v1 v2 v3 v4 v5 v6:Value}:(((((((w.setCell ⟨g,0,none⟩ v0).setCell ⟨g,1,none⟩ v1).setCell ⟨g,2,none⟩ v2).setCell ⟨g,3,none⟩ v3).setCell ⟨g,4,none⟩ v4).setCell ⟨g,5,none⟩ v5).setCell ⟨g,6,none⟩ v6).cell? ⟨b,o,none⟩=w.cell? ⟨b,o,none⟩:=by
 rw[yg h,yg h,yg h,yg h,yg h,yg h,yg h]
theorem zax {w:World}{b:Nat}{X:Array Value}{t:TypeId}(h:w.heap[b]?=some (.cells X t)):∀j,w.cell? ⟨b,j,none⟩=X[j]?:=fun _=>cell_of_block h
theorem zbg {w:World}{b:Nat}{X:Array Value}{t:TypeId}(h:w.heap[b]?=some (.cells X t)):∀j,w.frozen? ⟨b,j,none⟩=false:=fun _=>zh h
theorem zcE {w w3:World}{b:Nat}{X:Array Value}{t:TypeId}(HZ:Hid (w.heap[b]?=some (.cells X t)))(hb:Below w.heap.size w w3):Hid (w3.heap[b]?=some (.cells X t)):=(hb.block b (gES HZ.out).1).trans HZ.out
theorem zdK {w w3:World}{X:Array Value}{t:TypeId}(hb:Below (w.alloc (.cells X t)).heap.size (w.alloc (.cells X t)) w3):Hid (w3.heap[w.heap.size]?=some (.cells X t)):=(hb.block _ (by simp)).trans (alloc_at _ _)
theorem zbL {w:World}{ob:Obj}{b j:Nat}(h:b<w.heap.size):(w.alloc ob).cell? ⟨b,j,none⟩=w.cell? ⟨b,j,none⟩:=World.cell?_alloc_lt _ _ _ h
theorem zbc {w:World}{ob:Obj}{b j:Nat}(h:b<w.heap.size):(w.alloc ob).drew.cell? ⟨b,j,none⟩=w.cell? ⟨b,j,none⟩:=World.cell?_alloc_lt _ _ _ h
theorem zcG {w w3:World}{X:Array Value}{t:TypeId}(hb:Below (w.alloc (.cells X t)).drew.heap.size (w.alloc (.cells X t)).drew w3):Hid (w3.heap[w.heap.size]?=some (.cells X t)):=(hb.block _ (by show w.heap.size<(w.alloc (.cells X t)).heap.size;simp)).trans (alloc_at _ _)
theorem zfu {w w3:World}{ob:Obj}(_hb:Below (w.alloc ob).heap.size (w.alloc ob) w3):w.heap.size<(w.alloc ob).heap.size:=by simp
end Go.Proofs.YtkficnallnpjnaaGreat
namespace Go.Proofs.YtkficnallnpjnaaGreat
open Go.ChangeShapes Go.WideShapes Go.ChangeAt Go.RowKit
theorem Tryz.zjG:Tryz.prog.cellsOf 92=2:=by kernel_rfl
theorem Tryz.zmq:Tryz.prog.cellsOf 90=1:=by kernel_rfl
section
variable {H:Type} {enc:TypeId × Value->H} {w:World} {base:Nat} {spare:Nat->Bool} {held:Bool}
theorem zni {fuel:Nat}{cs:List Value}{x:DataW H × List MemPlace}(h:DataW.trod enc Tryz.prog w base spare held fuel 90 cs=some x) :
 ∃a cap fs,cs=[.slice a (List.length fs) cap]/\yc w a fs:=by
 obtain⟨a,len,cap,rfl,hm,hr⟩:=zaU Tryz.underlying90 Tryz.zjK (by omega) h
 rcases Nat.eq_zero_or_pos len with h0|hp
 ·subst h0
  exact⟨a,cap,[],rfl,⟨by simp[maxLen],fun h=>absurd rfl h⟩⟩
 ·obtain⟨b,off,rfl,hb,hrow⟩:=hr hp
  have hf:∀i,i<len->∃f:Fld,∃wa wcap,zeB w b (off+i*11) f wa wcap:=by
   intro i hi;obtain⟨es,n,y,hel,hcell,hy⟩:=hrow i hi;obtain⟨nm,kd,ls,ms,wa,wcap,ws,to,rl,mu,fx,df,wg,rfl,hS,s0,s5,s9,s10⟩:=znR hy;refine⟨⟨nm,kd,ls,ms,ws,to,rl,mu,fx,df,wg⟩,wa,wcap,⟨s0,s5,s9,s10⟩,hS,fun j hj=>?_⟩;rw[hcell j hj]
   simp[Fld.cells]
  obtain⟨fs,hl,hfs⟩:=zb0 len hf;refine⟨_,cap,fs,by rw[hl],⟨by omega,fun _=>⟨b,off,rfl,hb,fun i hi=>hfs i hi⟩⟩⟩
theorem zot {fuel:Nat}{cs:List Value}{x:DataW H × List MemPlace}(h:DataW.trod enc Tryz.prog w base spare held fuel 92 cs=some x) :
 ∃kd a cap fs,cs=[.string kd,.slice a (List.length fs) cap]/\kd.size<=maxLen/\yc w a fs:=by
 have hlen:cs.length=2:=by
  obtain⟨_,_,_,_,hl,_,_⟩:=DataW.trod_struct Tryz.underlying92 h;rw[hl];exact Tryz.zjG
 match cs,hlen with
 | [c0,c1],_=>
  have hf:=zae Tryz.underlying92 h;obtain⟨_,_,f0⟩:=hf 0 9 0 c0 rfl Tryz.zS rfl;obtain⟨_,_,f1⟩:=hf 1 90 1 c1 rfl Tryz.zmq rfl;obtain⟨kd,e0,_,s0⟩:=DataW.trod_string Tryz.underlying9 f0;obtain⟨a,cap,fs,e1,hF⟩:=zni f1;simp only[List.cons.injEq,and_true]at e0 e1;subst e0 e1;exact⟨kd,a,cap,fs,rfl,s0,hF⟩
theorem zmx {fuel:Nat}{cs:List Value}{x:DataW H × List MemPlace}(h:DataW.trod enc Tryz.prog w base spare held fuel 22 cs=some x) :
 ∃a cap ss,cs=[.slice a (List.length ss) cap]/\yT w a ss:=by
 obtain⟨a,len,cap,rfl,hm,hr⟩:=zaU Tryz.underlying22 Tryz.zjG (by omega) h
 rcases Nat.eq_zero_or_pos len with h0|hp
 ·subst h0
  exact⟨a,cap,[],rfl,⟨by simp[maxLen],fun h=>absurd rfl h⟩⟩
 ·obtain⟨b,off,rfl,hb,hrow⟩:=hr hp
  have hf:∀i,i<len->∃s:Shp,∃fa fcap,zll w b (off+i*2) s fa fcap:=by
   intro i hi;obtain⟨es,n,y,hel,hcell,hy⟩:=hrow i hi;obtain⟨kd,fa,fcap,fs,rfl,s0,hF⟩:=zot hy;exact⟨⟨kd,fs⟩,fa,fcap,s0,hF,hcell 0 (by omega),hcell 1 (by omega)⟩
  obtain⟨ss,hl,hss⟩:=zb0 len hf;exact⟨_,cap,ss,by rw[hl],⟨by omega,fun _=>⟨b,off,rfl,hb,fun i hi=>hss i hi⟩⟩⟩
end
end Go.Proofs.YtkficnallnpjnaaGreat
namespace Go.Proofs.YtkficnallnpjnaaGreat
open Go.RowKit
structure qF (lo:Nat)(w:World)(bo:Nat)(fs:List Fld)(k:Nat):Prop where
 low:lo<=bo
 rows:∃C,w.heap[bo]?=some (.cells C 171)/\C.size=fs.length*11 /\
  ∀i (h:i<fs.length),i<k->∃bk,lo<=bk/\bk≠bo/\w.heap[bk]?=some (.cells (jR fs[i].ws) 9)/\∀j,j<11->C[i*11+j]?=(fs[i].cells (some ⟨bk,0,none⟩) fs[i].ws.length)[j]?
theorem qF.at {lo:Nat}{w:World}{bo:Nat}{fs:List Fld}(h:qF lo w bo fs fs.length)(hs:zbR fs)(hl:fs.length<=maxLen):yc w (some ⟨bo,0,none⟩) fs:=by
 obtain⟨C,hC,hsz,hr⟩:=h.rows;refine⟨hl,fun _=>⟨bo,0,rfl,(gES hC).1,fun i hi=>?_⟩⟩;obtain⟨bk,_,_,hk,hc⟩:=hr i hi hi;obtain⟨s1,s2,s3⟩:=hs.small i hi;refine⟨some ⟨bk,0,none⟩,fs[i].ws.length,s1,zdB hk s2 s3,fun j hj=>?_⟩;rw[cell_of_block hC,Nat.zero_add];exact hc j hj
theorem qF.later {lo:Nat}{w w':World}{bo:Nat}{fs:List Fld}{k:Nat}(h:qF lo w bo fs k)(hb:Below w.heap.size w w'):qF lo w' bo fs k:=by
 obtain⟨C,hC,hsz,hr⟩:=h.rows;refine⟨h.low,C,(hb.block bo (gES hC).1).trans hC,hsz,fun i hi hk=>?_⟩;obtain⟨bk,h1,h2,h3,h4⟩:=hr i hi hk;exact⟨bk,h1,h2,(hb.block bk (gES h3).1).trans h3,h4⟩
theorem qF.put {lo:Nat}{w:World}{bo:Nat}{fs:List Fld}{k:Nat}(h:qF lo w bo fs k)(hk:k<fs.length)(bk:Nat)(h1:lo<=bk)(h2:bk≠bo)(h3:w.heap[bk]?=some (.cells (jR fs[k].ws) 9)) :
 qF lo (zmB w bo (k*11) (.string fs[k].nm) (.int .i64 fs[k].kd) (.int .i64 fs[k].ls) (.int .i64 fs[k].ms) (.slice (some ⟨bk,0,none⟩) fs[k].ws.length fs[k].ws.length) (.string fs[k].to) (.int .i64 fs[k].rl) (.bool fs[k].mu) (.bool fs[k].fx) (.string fs[k].df) (.string fs[k].wg)) bo fs (k+1):=by
 obtain⟨C,hC,hsz,hr⟩:=h.rows;refine⟨h.low,_,zm1 hC _ _ _ _ _ _ _ _ _ _ _,by rw[zov];exact hsz,fun i hi hik=>?_⟩
 rcases Nat.lt_or_ge i k with hlt|hge
 ·obtain⟨bi,g1,g2,g3,g4⟩:=hr i hi hlt
  refine⟨bi,g1,g2,by rw[zhW _ _ _ _ g2];exact g3,fun j hj=>?_⟩;rw[zpI _ _ _ _ _ _ _ _ _ _ _ _ _ _ (by omega)];exact g4 j hj
 ·have e:i=k:=by omega
  subst e;refine⟨bk,h1,h2,by rw[zhW _ _ _ _ h2];exact h3,fun j hj=>?_⟩;rw[zqp _ _ _ _ _ _ _ _ _ _ _ _ _ _ hj (by omega)]
  rfl
def zoW:Array Value:=#[.string ByteArray.empty,.int .i64 0,.int .i64 0,.int .i64 0,.slice none 0 0,.string ByteArray.empty,.int .i64 0,.bool false,.bool false,.string ByteArray.empty,.string ByteArray.empty]
def zmP (n:Nat):Array Value:=madeCells zoW (n*11)
theorem zhL (a:Option Addr)(cap:Nat)(fs:List Fld)(w:World)(hw:yc w a fs)(hl:fs.length<=1048576)(hls:∀i (h:i<fs.length),fs[i].ws.length<=1048576) :
 Calls Tryz.prog 114 #[.slice a fs.length cap] w fun e w'=>e=.returned (.slice (some ⟨w.heap.size,0,none⟩) fs.length fs.length)/\qF w.heap.size w' w.heap.size fs fs.length/\Below w.heap.size w w':=by
 have hmk:∀w:World,(Instr.makeSlice 126 (.int .i64 fs.length) (.int .i64 fs.length)).run Tryz.prog w=.ok (.slice (some ⟨w.heap.size,0,none⟩) fs.length fs.length) (w.alloc (.cells (zmP fs.length) 171)):=
  fun w=>jA (P:=Tryz.prog) 126 171 (.agg zoW) 11 128 Tryz.underlying126 (by kernel_rfl) fs.length (by omega) (by omega) w
 go_enter Tryz.func114,Tryz.ntmps114;go_wp2_with fail
 clear hmk
 go_loopw [4] (fun i wr=>∃k:Nat,k<=fs.length/\i=.int .i64 k/\qF w.heap.size wr w.heap.size fs k/\Below w.heap.size w wr) (fun i _=>fs.length-(intOf i).toNat)
 case atStart=>exact⟨0,Nat.zero_le _,rfl,⟨Nat.le_refl _,zmP fs.length,(MapKept.heap_alloc w _).1,size_madeCells _ _,fun i _ h=>absurd h (by omega)⟩,bAl _ _⟩
 case round=>
  obtain⟨k,hk,rfl,hown,hB⟩:=hrel
  by_cases hlt:k<fs.length
  ·obtain⟨b,off,rfl,hb,hr⟩:=hw.rows (by rintro rfl;simp at hlt)
   obtain⟨wa,wcap,hf0⟩:=hr k hlt;have hf:=hf0.mono hb hB;obtain⟨c0,c1,c2,c3,c4,c5,c6,c7,c8,c9,c10⟩:=hf.load;have hst:=hf.strs;have HLS:Hid (fs[k].ws.length<=1048576):=hls k hlt;have hltI:(k:Int)<(fs.length:Int):=by omega
   clear hw hr hf0 hf;go_wp2_with fail
   refine(ziv _ _ _ _ _ _ _ _ _ _ _ _ _ _ hst HLS.out).mono ?_;rintro e w1⟨bk,rfl,hlo,hhi,hbk,hb1⟩;have hB1:=hB.trans (hb1.mono hB.size);have hown1:=hown.later hb1;obtain⟨C,hC,hsz,_⟩:=hown1.rows;have hfz:∀o,w1.frozen? ⟨w.heap.size,o,none⟩=false:=fun o=>zh hC
   have hex:∀o,o<fs.length*11->∃v,w1.cell? ⟨w.heap.size,o,none⟩=some v:=fun o ho=>⟨C[o]'(by omega),by rw[cell_of_block hC];exact Array.getElem?_eq_getElem (by omega)⟩
   obtain⟨v0,hv0⟩:=hex (k*11) (by omega);obtain⟨v1,hv1⟩:=hex (k*11+1) (by omega);obtain⟨v2,hv2⟩:=hex (k*11+2) (by omega);obtain⟨v3,hv3⟩:=hex (k*11+3) (by omega);obtain⟨v4,hv4⟩:=hex (k*11+4) (by omega);obtain⟨v5,hv5⟩:=hex (k*11+5) (by omega);obtain⟨v6,hv6⟩:=hex (k*11+6) (by omega);obtain⟨v7,hv7⟩:=hex (k*11+7) (by omega);obtain⟨v8,hv8⟩:=hex (k*11+8) (by omega);obtain⟨v9,hv9⟩:=hex (k*11+9) (by omega);obtain⟨v10,hv10⟩:=hex (k*11+10) (by omega);clear hex hC hsz c0 c1 c2 c3 c4 c5 c6 c7 c8 c9 c10
   have hbo:w.heap.size<wr.heap.size:=by
    obtain⟨C',hC',_⟩:=hown.rows;exact(gES hC').1
   go_wp2_with fail
   exact⟨⟨k+1,by omega,by go_num,hown1.put hlt bk (by omega) (by omega) hbk,znd hB1 (Nat.le_refl _) _ _ _ _ _ _ _ _ _ _ _ _⟩,by simp[intOf];omega⟩
  ·have HF:Hid (qF w.heap.size wr w.heap.size fs fs.length):=by
    have e:k=fs.length:=by omega
    subst e;exact hown
   clear hw hown;go_wp2_with fail
   go_ret;exact⟨rfl,HF.out,hB⟩
structure jN (lo:Nat)(w:World)(bo:Nat)(ss:List Shp)(k:Nat):Prop where
 low:lo<=bo
 rows:∃C,w.heap[bo]?=some (.cells C 128)/\C.size=ss.length*2 /\
  ∀i (h:i<ss.length),i<k->∃bf,lo<=bf/\bo<bf/\qF (bo+1) w bf ss[i].fs ss[i].fs.length/\C[i*2]?=some (.string ss[i].kd)/\C[i*2+1]?=some (.slice (some ⟨bf,0,none⟩) ss[i].fs.length ss[i].fs.length)
theorem jN.at {lo:Nat}{w:World}{bo:Nat}{ss:List Shp}(h:jN lo w bo ss ss.length)(hs:zdw ss)(hl:ss.length<=maxLen):yT w (some ⟨bo,0,none⟩) ss:=by
 obtain⟨C,hC,hsz,hr⟩:=h.rows;refine⟨hl,fun _=>⟨bo,0,rfl,(gES hC).1,fun i hi=>?_⟩⟩;obtain⟨bf,_,_,hf,h1,h2⟩:=hr i hi hi;obtain⟨s1,s2,s3⟩:=hs.small i hi;refine⟨some ⟨bf,0,none⟩,ss[i].fs.length,s1,hf.at s3 s2,?_,?_⟩
 ·rw[cell_of_block hC,Nat.zero_add];exact h1
 ·rw[cell_of_block hC,Nat.zero_add];exact h2
theorem jN.later {lo:Nat}{w w':World}{bo:Nat}{ss:List Shp}{k:Nat}(h:jN lo w bo ss k)(hb:Below w.heap.size w w'):jN lo w' bo ss k:=by
 obtain⟨C,hC,hsz,hr⟩:=h.rows;refine⟨h.low,C,(hb.block bo (gES hC).1).trans hC,hsz,fun i hi hk=>?_⟩;obtain⟨bf,h1,h2,h3,h4⟩:=hr i hi hk;exact⟨bf,h1,h2,h3.later hb,h4⟩
theorem qF.setCell {lo:Nat}{w:World}{bf:Nat}{fs:List Fld}{k:Nat}(h:qF lo w bf fs k){p:Addr}(hp:p.block<lo)(v:Value):qF lo (w.setCell p v) bf fs k:=by
 obtain⟨C,hC,hsz,hr⟩:=h.rows;have hl:=h.low;refine⟨h.low,C,by rw[Below.heap_setCell _ _ _ _ (by omega)];exact hC,hsz,fun i hi hk=>?_⟩;obtain⟨bk,h1,h2,h3,h4⟩:=hr i hi hk;exact⟨bk,h1,h2,by rw[Below.heap_setCell _ _ _ _ (by omega)];exact h3,h4⟩
theorem qF.weaken {lo lo':Nat}{w:World}{bf:Nat}{fs:List Fld}{k:Nat}(h:qF lo w bf fs k)(hl:lo'<=lo):qF lo' w bf fs k:=by
 obtain⟨C,hC,hsz,hr⟩:=h.rows;refine⟨Nat.le_trans hl h.low,C,hC,hsz,fun i hi hk=>?_⟩;obtain⟨bk,h1,h2⟩:=hr i hi hk;exact⟨bk,Nat.le_trans hl h1,h2⟩
theorem jN.put {lo:Nat}{w:World}{bo:Nat}{ss:List Shp}{k:Nat}(h:jN lo w bo ss k)(hk:k<ss.length)(bf:Nat)(h1:bo<bf)(h3:qF (bo+1) w bf ss[k].fs ss[k].fs.length) :
 jN lo ((w.setCell ⟨bo,k*2,none⟩ (.string ss[k].kd)).setCell ⟨bo,k*2+1,none⟩ (.slice (some ⟨bf,0,none⟩) ss[k].fs.length ss[k].fs.length)) bo ss (k+1):=by
 obtain⟨C,hC,hsz,hr⟩:=h.rows;have hl:=h.low;refine⟨h.low,_,zi (zi hC _) _,by simp[hsz],fun i hi hik=>?_⟩
 rcases Nat.lt_or_ge i k with hlt|hge
 ·obtain⟨bi,g1,g2,g3,g4,g5⟩:=hr i hi hlt
  refine⟨bi,g1,g2,(g3.setCell (by simp) _).setCell (by simp) _,?_,?_⟩
  ·rw[Array.getElem?_setIfInBounds,if_neg (by omega),Array.getElem?_setIfInBounds,if_neg (by omega)];exact g4
  ·rw[Array.getElem?_setIfInBounds,if_neg (by omega),Array.getElem?_setIfInBounds,if_neg (by omega)];exact g5
 ·have e:i=k:=by omega
  subst e;refine⟨bf,by omega,h1,(h3.setCell (by simp) _).setCell (by simp) _,?_,?_⟩
  ·rw[Array.getElem?_setIfInBounds,if_neg (by omega),Array.getElem?_setIfInBounds,if_pos rfl,if_pos (by omega)]
  ·rw[Array.getElem?_setIfInBounds,if_pos rfl,if_pos (by simp;omega)]
theorem ziF (kd:ByteArray)(a:Option Addr)(cap:Nat)(fs:List Fld)(w:World)(hw:yc w a fs)(hl:fs.length<=1048576)(hls:∀i (h:i<fs.length),fs[i].ws.length<=1048576) :
 Calls Tryz.prog 69 #[.agg #[.string kd,.slice a fs.length cap]] w fun e w'=>∃bf,e=.returned (.agg #[.string kd,.slice (some ⟨bf,0,none⟩) fs.length fs.length])/\qF w.heap.size w' bf fs fs.length/\Below w.heap.size w w':=by
 go_enter Tryz.func69,Tryz.ntmps69;go_wp2_with fail
 refine(zhL _ _ _ _ (hw.mono (((bAl _ _).alloc (by simp) _).alloc (by simp;omega) _)) hl hls).mono ?_;rintro e w1⟨rfl,hown,hb1⟩;have qr0:w1.cell? ⟨w.heap.size+1,0,none⟩=some (.string { data:=#[] }):=(hb1.cell (p:=⟨w.heap.size+1,0,none⟩) (by simp)).trans (by simp[World.cell?_alloc_at,World.cell?_alloc_past]);have fr0:w1.frozen? ⟨w.heap.size+1,0,none⟩=false:=(hb1.frozen (p:=⟨w.heap.size+1,0,none⟩) (by simp)).trans (by simp[World.frozen?_alloc_at,World.frozen?_alloc_past]);have qr1:w1.cell? ⟨w.heap.size+1,1,none⟩=some (.slice none 0 0):=(hb1.cell (p:=⟨w.heap.size+1,1,none⟩) (by simp)).trans (by simp[World.cell?_alloc_at,World.cell?_alloc_past]);have fr1:w1.frozen? ⟨w.heap.size+1,1,none⟩=false:=(hb1.frozen (p:=⟨w.heap.size+1,1,none⟩) (by simp)).trans (by simp[World.frozen?_alloc_at,World.frozen?_alloc_past]);have qo0:w1.cell? ⟨w.heap.size+1+1,0,none⟩=some (.string kd):=(hb1.cell (p:=⟨w.heap.size+1+1,0,none⟩) (by simp)).trans (by simp[World.cell?_alloc_at]);have fo0:w1.frozen? ⟨w.heap.size+1+1,0,none⟩=false:=(hb1.frozen (p:=⟨w.heap.size+1+1,0,none⟩) (by simp)).trans (by simp[World.frozen?_alloc_at]);have qo1:w1.cell? ⟨w.heap.size+1+1,1,none⟩=some (.slice none 0 0):=(hb1.cell (p:=⟨w.heap.size+1+1,1,none⟩) (by simp)).trans (by simp[World.cell?_alloc_at]);have fo1:w1.frozen? ⟨w.heap.size+1+1,1,none⟩=false:=(hb1.frozen (p:=⟨w.heap.size+1+1,1,none⟩) (by simp)).trans (by simp[World.frozen?_alloc_at]);have hz1:w.heap.size+1+1<w1.heap.size:=by have:=hb1.size;simp at this;omega
 go_wp2_with fail
 have hsz:(((w.alloc (.cells #[.string kd,.slice a fs.length cap] 92)).alloc (.cells #[.string { data:=#[] },.slice none 0 0] 128)).alloc (.cells #[.string kd,.slice none 0 0] 128)).heap.size=w.heap.size+1+1+1:=by simp
 have hB1:Below w.heap.size w w1:=(((bAl _ _).alloc (by simp) _).alloc (by simp;omega) _).trans (hb1.mono (by simp;omega));rw[hsz]at hown;refine bodyPost_ret (v:=.agg #[.string kd,.slice (some ⟨w.heap.size+1+1+1,0,none⟩) fs.length fs.length]) (by simp[results,Tryz.results69,go_sem,qr0,qr1]) rfl ⟨w.heap.size+1+1+1,rfl,?_,?_⟩
 ·exact(((hown.setCell (by simp) _).setCell (by simp) _).setCell (by simp) _).weaken (by omega)
 ·exact((hB1.setCell (by simp;omega) _).setCell (by simp) _).setCell (by simp) _
def zpa:Array Value:=#[.string ByteArray.empty,.slice none 0 0]
def zmz (n:Nat):Array Value:=madeCells zpa (n*2)
theorem zha (a:Option Addr)(cap:Nat)(ss:List Shp)(w:World)(hw:yT w a ss)(hl:ss.length<=1048576)(hls:∀i (h:i<ss.length),ss[i].fs.length<=1048576/\∀j (h':j<ss[i].fs.length),ss[i].fs[j].ws.length<=1048576) :
 Calls Tryz.prog 25 #[.slice a ss.length cap] w fun e w'=>e=.returned (.slice (some ⟨w.heap.size,0,none⟩) ss.length ss.length)/\jN w.heap.size w' w.heap.size ss ss.length/\Below w.heap.size w w':=by
 have hmk:∀w:World,(Instr.makeSlice 43 (.int .i64 ss.length) (.int .i64 ss.length)).run Tryz.prog w=.ok (.slice (some ⟨w.heap.size,0,none⟩) ss.length ss.length) (w.alloc (.cells (zmz ss.length) 128)):=
  fun w=>jA (P:=Tryz.prog) 43 128 (.agg zpa) 2 40 Tryz.underlying43 (by kernel_rfl) ss.length (by omega) (by omega) w
 go_enter Tryz.func25,Tryz.ntmps25;go_wp2_with fail
 clear hmk
 go_loopw [4] (fun i wr=>∃k:Nat,k<=ss.length/\i=.int .i64 k/\jN w.heap.size wr w.heap.size ss k/\Below w.heap.size w wr) (fun i _=>ss.length-(intOf i).toNat)
 case atStart=>exact⟨0,Nat.zero_le _,rfl,⟨Nat.le_refl _,zmz ss.length,(MapKept.heap_alloc w _).1,size_madeCells _ _,fun i _ h=>absurd h (by omega)⟩,bAl _ _⟩
 case round=>
  obtain⟨k,hk,rfl,hown,hB⟩:=hrel
  by_cases hlt:k<ss.length
  ·obtain⟨b,off,rfl,hb,hr⟩:=hw.rows (by rintro rfl;simp at hlt)
   obtain⟨fa,fcap,hs0⟩:=hr k hlt;have hs:=hs0.mono hb hB;have hck:=hs.kind;have hcl:=hs.list;have hfl:=hs.zdy;have HLS:=hls k hlt;have HLS':Hid (ss[k].fs.length<=1048576/\∀j (h':j<ss[k].fs.length),ss[k].fs[j].ws.length<=1048576):=HLS;have hltI:(k:Int)<(ss.length:Int):=by omega
   clear hw hr hs0 hs HLS;go_wp2_with fail
   refine(ziF _ _ _ _ _ hfl HLS'.out.1 HLS'.out.2).mono ?_;rintro e w1⟨bf,rfl,hof,hb1⟩;have hB1:=hB.trans (hb1.mono hB.size);have hown1:=hown.later hb1
   have hbo:w.heap.size<wr.heap.size:=by
    obtain⟨C',hC',_⟩:=hown.rows;exact(gES hC').1
   obtain⟨C,hC,hsz,_⟩:=hown1.rows;have hfz:∀o,w1.frozen? ⟨w.heap.size,o,none⟩=false:=fun o=>zh hC
   have hex:∀o,o<ss.length*2->∃v,w1.cell? ⟨w.heap.size,o,none⟩=some v:=fun o ho=>⟨C[o]'(by omega),by rw[cell_of_block hC];exact Array.getElem?_eq_getElem (by omega)⟩
   obtain⟨v0,hv0⟩:=hex (k*2) (by omega);obtain⟨v1,hv1⟩:=hex (k*2+1) (by omega);clear hex hC hsz hck hcl;have hlow:=hof.low;go_wp2_with fail
   exact⟨⟨k+1,by omega,by go_num,hown1.put hlt bf (by omega) (hof.weaken (by omega)),(hB1.setCell (Nat.le_refl _) _).setCell (Nat.le_refl _) _⟩,by simp[intOf];omega⟩
  ·have HF:Hid (jN w.heap.size wr w.heap.size ss ss.length):=by
    have e:k=ss.length:=by omega
    subst e;exact hown
   clear hw hown;go_wp2_with fail
   go_ret;exact⟨rfl,HF.out,hB⟩
structure jP (w:World)(o:Ob)(a a':Option Addr):Prop where
 small:o.Small
 vals:zF w a o.vs
 holds:zF w a' o.hs
theorem jP.mono {w w':World}{o:Ob}{a a':Option Addr}(h:jP w o a a')(hb:Below w.heap.size w w'):jP w' o a a':=
 ⟨h.small,h.vals.mono hb,h.holds.mono hb⟩
end Go.Proofs.YtkficnallnpjnaaGreat
namespace Go.Proofs.YtkficnallnpjnaaGreat
structure Rl where
 vs:List Int
 kd:ByteArray
 tm:ByteArray
 px:ByteArray
def za1 (v:Int):Bool:=decide (1<=v)&&decide (v<=5)
def qp (vs:List Int)(i:Nat):Bool:=za1 (vs.getD i 0)&&(decide (i=0)||decide (vs.getD (i-1) 0<vs.getD i 0))
def jd (vs:List Int):Bool:=decide (0<vs.length)&&up (qp vs) vs.length
def qJ (r:Rl):Bool:=(r.kd.toList.isEmpty||zA r.kd)&&(r.tm.toList.isEmpty||zA r.tm)
def zQ (r:Rl):Bool:=qJ r&&(jd r.vs&&(decide (r.px.size<=16)&&yV r.px))
end Go.Proofs.YtkficnallnpjnaaGreat
namespace Go.Proofs.YtkficnallnpjnaaGreat
open Go.RowKit
def Tm.cells (m:Tm):Array Value:=#[.string m.nm,.string m.ov]
structure Tm.Small (m:Tm):Prop where
 nm:m.nm.size<=maxLen
 ov:m.ov.size<=maxLen
structure jO (w:World)(a:Option Addr)(ts:List Tm):Prop where
 len:ts.length<=maxLen
 small:∀i (h:i<ts.length),ts[i].Small
 rows:ts≠[]->∃b off,a=some ⟨b,off,none⟩/\b<w.heap.size/\∀i (h:i<ts.length),∀j,j<2->w.cell? ⟨b,off+i*2+j,none⟩=ts[i].cells[j]?
theorem jO.mono {w w':World}{a:Option Addr}{ts:List Tm}(h:jO w a ts)(hl:Below w.heap.size w w'):jO w' a ts:=
 ⟨h.len,h.small,fun hne=>by
  obtain⟨b,off,ha,hb,hr⟩:=h.rows hne;exact⟨b,off,ha,nLt hb hl.size,fun i hi j hj=>(hl.cell (p:=⟨b,off+i*2+j,none⟩) hb).trans (hr i hi j hj)⟩⟩
theorem jO.load {w w':World}{a:Option Addr}{ts:List Tm}(h:jO w a ts)(hl:Below w.heap.size w w')(i:Nat)(hi:i<ts.length):∃b off,a=some ⟨b,off,none⟩/\b<w.heap.size /\
 w'.cell? ⟨b,off+i*2,none⟩=some (.string ts[i].nm)/\w'.cell? ⟨b,off+i*2+1,none⟩=some (.string ts[i].ov):=by
 obtain⟨b,off,ha,hb,hr⟩:=h.rows (by rintro rfl;simp at hi);have hc:∀j,j<2->w'.cell? ⟨b,off+i*2+j,none⟩=ts[i].cells[j]?:=fun j hj=>(hl.cell (p:=⟨b,off+i*2+j,none⟩) hb).trans (hr i hi j hj)
 exact⟨b,off,ha,hb,hc 0 (by omega),hc 1 (by omega)⟩
def Tm.sz (m:Tm):Nat:=m.nm.size+m.ov.size
def zil (ts:List Tm):Nat:=(ts.map Tm.sz).sum
def zc9 (ts:List Tm):Nat:=ts.length+zil ts
def zrg (w:World)(b o:Nat)(v0 v1:Value):World:=(w.setCell ⟨b,o,none⟩ v0).setCell ⟨b,o+1,none⟩ v1
def set2 (C:Array Value)(o:Nat)(v0 v1:Value):Array Value:=(C.setIfInBounds o v0).setIfInBounds (o+1) v1
theorem zoC {w:World}{b o:Nat}{C:Array Value}{t:TypeId}(h:w.heap[b]?=some (.cells C t))(v0 v1:Value):(zrg w b o v0 v1).heap[b]?=some (.cells (set2 C o v0 v1) t):=
 zi (zi h v0) v1
theorem znW {B:Nat}{a w:World}(h:Below B a w){b:Nat}(hb:B<=b)(o:Nat)(v0 v1:Value):Below B a (zrg w b o v0 v1):=
 (h.setCell hb v0).setCell hb v1
theorem zpP (C:Array Value)(o:Nat)(v0 v1:Value):(set2 C o v0 v1).size=C.size:=by simp[set2]
theorem zp5 (C:Array Value)(o i:Nat)(v0 v1:Value)(h:i<o \/ o+2<=i):(set2 C o v0 v1)[i]?=C[i]?:=by
 unfold set2
 iterate 2 rw[Array.getElem?_setIfInBounds,if_neg (by omega)]
theorem zqY (C:Array Value)(o j:Nat)(v0 v1:Value)(hj:j<2)(ho:o+2<=C.size):(set2 C o v0 v1)[o+j]?=(#[v0,v1]:Array Value)[j]?:=by
 have hc:j=0 \/ j=1:=by omega
 unfold set2
 rcases hc with h|h <;> subst h <;> simp[Array.getElem?_setIfInBounds] <;> omega
structure zaf (ty:TypeId)(lo:Nat)(w:World)(bo:Nat)(ts:List Tm)(k:Nat):Prop where
 low:lo<=bo
 rows:∃C,w.heap[bo]?=some (.cells C ty)/\C.size=ts.length*2/\∀i (h:i<ts.length),i<k->∀j,j<2->C[i*2+j]?=ts[i].cells[j]?
theorem zaf.at {ty:TypeId}{lo:Nat}{w:World}{bo:Nat}{ts:List Tm}(h:zaf ty lo w bo ts ts.length)(hs:∀i (h:i<ts.length),ts[i].Small)(hl:ts.length<=maxLen):jO w (some ⟨bo,0,none⟩) ts:=by
 obtain⟨C,hC,hsz,hr⟩:=h.rows;refine⟨hl,hs,fun _=>⟨bo,0,rfl,(gES hC).1,fun i hi j hj=>?_⟩⟩;rw[cell_of_block hC,Nat.zero_add];exact hr i hi hi j hj
theorem zaf.later {ty:TypeId}{lo:Nat}{w w':World}{bo:Nat}{ts:List Tm}{k:Nat}(h:zaf ty lo w bo ts k)(hb:Below w.heap.size w w'):zaf ty lo w' bo ts k:=by
 obtain⟨C,hC,hsz,hr⟩:=h.rows;exact⟨h.low,C,(hb.block bo (gES hC).1).trans hC,hsz,hr⟩
theorem zaf.put {ty:TypeId}{lo:Nat}{w:World}{bo:Nat}{ts:List Tm}{k:Nat}(h:zaf ty lo w bo ts k)(hk:k<ts.length) :
 zaf ty lo (zrg w bo (k*2) (.string ts[k].nm) (.string ts[k].ov)) bo ts (k+1):=by
 obtain⟨C,hC,hsz,hr⟩:=h.rows;refine⟨h.low,_,zoC hC _ _,by rw[zpP];exact hsz,fun i hi hik j hj=>?_⟩
 rcases Nat.lt_or_ge i k with hlt|hge
 ·rw[zp5 _ _ _ _ _ (by omega)]
  exact hr i hi hlt j hj
 ·have e:i=k:=by omega
  subst e;rw[zqY _ _ _ _ _ hj (by omega)]
  rfl
def zqt:Array Value:=#[.string ByteArray.empty,.string ByteArray.empty]
def zpd (n:Nat):Array Value:=madeCells zqt (n*2)
theorem zcC (a:Option Addr)(cap:Nat)(ws:List ByteArray)(v:ByteArray)(w:World)(hw:zF w a ws) :
 Calls Tryz.prog 181 #[.slice a ws.length cap,.string v] w fun e w'=>e=.returned (.bool (has ws v))/\w'=w:=by
 have hl:=hw.len;unfold maxLen at hl
 by_cases hne:ws=[]
 ·subst hne
  go_enter Tryz.func181,Tryz.ntmps181
  go_wp2
  go_loop [5] (fun i=>i=.int .i64 0) (fun i=>0)
  case atStart=>rfl
  case round=>
   subst hrel
   go_wp2
   go_ret;exact⟨rfl,rfl⟩
 ·obtain⟨b,off,rfl,hb,hc⟩:=hw.cells hne
  clear hw;have HL:Hid (0<ws.length):=List.length_pos_iff.2 hne;clear hne;go_enter Tryz.func181,Tryz.ntmps181
  go_wp2
  go_loop [5] (fun i=>∃k:Nat,k<=ws.length/\i=.int .i64 k/\has (ws.take k) v=false) (fun i=>ws.length-(intOf i).toNat)
  case atStart=>exact⟨0,Nat.zero_le _,rfl,rfl⟩
  case round=>
   obtain⟨k,hk,rfl,hall⟩:=hrel
   by_cases hlt:k<ws.length
   ·have hck:=hc k hlt
    clear hc;have HS:Hid (has (ws.take (k+1)) v=(false||decide (ws[k]=v))):=by rw[znf ws v k hlt,hall];rfl
    have HN:Hid (ws[k]=v->has ws v=true):=fun h=>zqR ws v k hlt h
    clear hall
    by_cases he:ws[k]=v
    ·have hbe:(ws[k].toList == v.toList)=true:=by rw[beq_toList];simpa using he
     have HE:Hid (ws[k]=v):=he;clear he
     go_wp2
     go_ret;exact⟨ze (HN.out HE.out).symm,rfl⟩
    ·have hbe:(ws[k].toList == v.toList)=false:=by rw[beq_toList];simpa using he
     have HE:Hid (¬ws[k]=v):=he;clear he
     go_wp2
     go_round
     case rel=>exact⟨k+1,by omega,by go_num,by rw[HS.out,decide_eq_false HE.out];rfl⟩
     case measure=>simp[intOf];omega
   ·have HA:Hid (has ws v=false):=by rw[<- zo7 ws v k (by omega)];exact hall
    clear hall hc
    go_wp2
    go_ret;exact⟨ze HA.out.symm,rfl⟩
theorem zhq (a a':Option Addr)(cap cap':Nat)(fs:List Fld)(w:World)(hw:yc w a fs)(hw':yc w a' fs) :
 Calls Tryz.prog 131 #[.slice a fs.length cap,.slice a' fs.length cap'] w fun e w'=>e=.returned (.bool true)/\Below w.heap.size w w':=by
 have hl:=hw.len;unfold maxLen at hl;have hnn:((fs.length:Int) != fs.length)=false:=by simp
 go_enter Tryz.func131,Tryz.ntmps131;go_wp2_with fail
 go_loopw [5] (fun i wr=>∃k:Nat,k<=fs.length/\i=.int .i64 k/\Below w.heap.size w wr) (fun i _=>fs.length-(intOf i).toNat)
 case atStart=>exact⟨0,Nat.zero_le _,rfl,bRf _ _⟩
 case round=>
  obtain⟨k,hk,rfl,hB⟩:=hrel
  by_cases hlt:k<fs.length
  ·obtain⟨b,off,rfl,hb,hr⟩:=hw.rows (by rintro rfl;simp at hlt)
   obtain⟨b',off',rfl,hb',hr'⟩:=hw'.rows (by rintro rfl;simp at hlt);obtain⟨wa,wcap,hf0⟩:=hr k hlt;obtain⟨wa',wcap',hf0'⟩:=hr' k hlt;have hf:=hf0.mono hb hB;have hf':=hf0'.mono hb' hB;obtain⟨c0,c1,c2,c3,c4,c5,c6,c7,c8,c9,c10⟩:=hf.load;obtain⟨d0,d1,d2,d3,d4,d5,d6,d7,d8,d9,d10⟩:=hf'.load;have hst:=hf.strs;have hst':=hf'.strs;have hltI:(k:Int)<(fs.length:Int):=by omega
   clear hw hw' hr hr' hf0 hf0' hf hf';go_wp2_with fail
   go_region_with (go_at_call 177;refine(zit _ _ _ _ _ _ _ _ _ _ _ _ _ _ _ _ (by exact hst.mono ((bRf _ _).drew)) (by exact hst'.mono ((bRf _ _).drew))).mono ?_;rintro e w1⟨rfl,hb1'⟩;have hb1:=(bRf wr.heap.size wr).drew.trans hb1';clear hb1')
   all_goals go_wp2_with fail
   all_goals exact⟨⟨k+1,by omega,by go_num,hB.trans (hb1.mono hB.size)⟩,by simp[intOf];omega⟩
  ·clear hw hw'
   go_wp2_with fail
   go_ret;exact⟨rfl,hB⟩
theorem ziC (kd:ByteArray)(a a':Option Addr)(cap cap':Nat)(fs:List Fld)(w:World)(hw:yc w a fs)(hw':yc w a' fs) :
 Calls Tryz.prog 88 #[.agg #[.string kd,.slice a fs.length cap],.agg #[.string kd,.slice a' fs.length cap']] w fun e w'=>e=.returned (.bool true)/\Below w.heap.size w w':=by
 go_enter Tryz.func88,Tryz.ntmps88;go_wp2_with fail
 refine(zhq _ _ _ _ _ _ (hw.mono (zw _ _ _)) (hw'.mono (zw _ _ _))).mono ?_;rintro e w1⟨rfl,hb1⟩;go_wp2_with fail
 go_ret;exact⟨rfl,(zw _ _ _).trans (hb1.mono (by simp;omega))⟩
theorem zg4 (a a':Option Addr)(cap cap':Nat)(ss:List Shp)(w:World)(hw:yT w a ss)(hw':yT w a' ss) :
 Calls Tryz.prog 39 #[.slice a ss.length cap,.slice a' ss.length cap'] w fun e w'=>e=.returned (.bool true)/\Below w.heap.size w w':=by
 have hl:=hw.len;unfold maxLen at hl;have hnn:((ss.length:Int) != ss.length)=false:=by simp
 go_enter Tryz.func39,Tryz.ntmps39;go_wp2_with fail
 go_loopw [5] (fun i wr=>∃k:Nat,k<=ss.length/\i=.int .i64 k/\Below w.heap.size w wr) (fun i _=>ss.length-(intOf i).toNat)
 case atStart=>exact⟨0,Nat.zero_le _,rfl,bRf _ _⟩
 case round=>
  obtain⟨k,hk,rfl,hB⟩:=hrel
  by_cases hlt:k<ss.length
  ·obtain⟨b,off,rfl,hb,hr⟩:=hw.rows (by rintro rfl;simp at hlt)
   obtain⟨b',off',rfl,hb',hr'⟩:=hw'.rows (by rintro rfl;simp at hlt);obtain⟨wa,wcap,hf0⟩:=hr k hlt;obtain⟨wa',wcap',hf0'⟩:=hr' k hlt;have hf:=hf0.mono hb hB;have hf':=hf0'.mono hb' hB;have c0:=hf.kind;have c1:=hf.list;have d0:=hf'.kind;have d1:=hf'.list;have hst:=hf.zdy;have hst':=hf'.zdy;have hltI:(k:Int)<(ss.length:Int):=by omega
   clear hw hw' hr hr' hf0 hf0' hf hf';go_wp2_with fail
   go_region_with (go_at_call 88;refine(ziC _ _ _ _ _ _ _ (by exact hst.mono ((bRf _ _).drew)) (by exact hst'.mono ((bRf _ _).drew))).mono ?_;rintro e w1⟨rfl,hb1'⟩;have hb1:=(bRf wr.heap.size wr).drew.trans hb1';clear hb1')
   all_goals go_wp2_with fail
   all_goals exact⟨⟨k+1,by omega,by go_num,hB.trans (hb1.mono hB.size)⟩,by simp[intOf];omega⟩
  ·clear hw hw'
   go_wp2_with fail
   go_ret;exact⟨rfl,hB⟩
theorem zqq {ss:List Shp}(h:(zaI ss:Int)<=1048576):ss.length<=1048576/\∀i (h:i<ss.length),ss[i].fs.length<=1048576/\∀j (h':j<ss[i].fs.length),ss[i].fs[j].ws.length<=1048576:=by
 unfold zaI at h;refine⟨by omega,fun i hi=>?_⟩;have h1:Shp.sz ss[i]<=zhN ss:=zi0 Shp.sz ss i hi;unfold Shp.sz zaM at h1;refine⟨by omega,fun j hj=>?_⟩;have h2:Fld.sz ss[i].fs[j]<=zhK ss[i].fs:=zi0 Fld.sz ss[i].fs j hj;unfold Fld.sz zaq qU at h2;omega
end Go.Proofs.YtkficnallnpjnaaGreat
namespace Go.Proofs.YtkficnallnpjnaaGreat
open Go.ChangeShapes Go.WideShapes Go.ChangeAt Go.RowKit
theorem Tryz.zlo:Tryz.prog.cellsOf 95=6:=by kernel_rfl
section
variable {H:Type} {enc:TypeId × Value->H} {w:World} {base:Nat} {spare:Nat->Bool} {held:Bool}
theorem zpp {fuel:Nat}{cs:List Value}{x:DataW H × List MemPlace}(h:DataW.trod enc Tryz.prog w base spare held fuel 95 cs=some x) :
 ∃m:Mnd,cs=m.cells.toList/\m.Small:=by
 have hlen:cs.length=6:=by
  obtain⟨_,_,_,_,hl,_,_⟩:=DataW.trod_struct Tryz.underlying95 h;rw[hl];exact Tryz.zlo
 match cs,hlen with
 | [c0,c1,c2,c3,c4,c5],_=>
  have hf:=zae Tryz.underlying95 h;obtain⟨_,_,f0⟩:=hf 0 9 0 c0 rfl Tryz.zS rfl;obtain⟨_,_,f1⟩:=hf 1 9 1 c1 rfl Tryz.zS rfl;obtain⟨_,_,f2⟩:=hf 2 9 2 c2 rfl Tryz.zS rfl;obtain⟨_,_,f3⟩:=hf 3 9 3 c3 rfl Tryz.zS rfl;obtain⟨_,_,f4⟩:=hf 4 9 4 c4 rfl Tryz.zS rfl;obtain⟨_,_,f5⟩:=hf 5 9 5 c5 rfl Tryz.zS rfl;obtain⟨x0,e0,_,s0⟩:=DataW.trod_string Tryz.underlying9 f0;obtain⟨x1,e1,_,s1⟩:=DataW.trod_string Tryz.underlying9 f1;obtain⟨x2,e2,_,s2⟩:=DataW.trod_string Tryz.underlying9 f2;obtain⟨x3,e3,_,s3⟩:=DataW.trod_string Tryz.underlying9 f3;obtain⟨x4,e4,_,s4⟩:=DataW.trod_string Tryz.underlying9 f4;obtain⟨x5,e5,_,s5⟩:=DataW.trod_string Tryz.underlying9 f5;simp only[List.cons.injEq,and_true]at e0 e1 e2 e3 e4 e5;subst e0 e1 e2 e3 e4 e5;exact⟨⟨x0,x1,x2,x3,x4,x5⟩,rfl,s0,s1,s2,s3,s4,s5⟩
theorem zoG {fuel:Nat}{cs:List Value}{x:DataW H × List MemPlace}(h:DataW.trod enc Tryz.prog w base spare held fuel 23 cs=some x) :
 ∃a cap ms,cs=[.slice a (List.length ms) cap]/\qK w a ms:=by
 obtain⟨a,len,cap,rfl,hm,hr⟩:=zaU Tryz.underlying23 Tryz.zlo (by omega) h
 rcases Nat.eq_zero_or_pos len with h0|hp
 ·subst h0
  exact⟨a,cap,[],rfl,⟨by simp[maxLen],fun i h=>absurd h (by simp),fun h=>absurd rfl h⟩⟩
 ·obtain⟨b,off,rfl,hb,hrow⟩:=hr hp
  have hf:∀i,i<len->∃m:Mnd,m.Small/\∀j,j<6->w.cell? ⟨b,off+i*6+j,none⟩=m.cells[j]?:=by
   intro i hi;obtain⟨es,n,y,hel,hcell,hy⟩:=hrow i hi;obtain⟨m,rfl,hs⟩:=zpp hy;exact⟨m,hs,fun j hj=>by rw[hcell j hj];simp⟩
  obtain⟨ms,hl,hms⟩:=zb0 len hf;exact⟨_,cap,ms,by rw[hl],⟨by omega,fun i hi=>(hms i hi).1,fun _=>⟨b,off,rfl,hb,fun i hi=>(hms i hi).2⟩⟩⟩
end
end Go.Proofs.YtkficnallnpjnaaGreat
