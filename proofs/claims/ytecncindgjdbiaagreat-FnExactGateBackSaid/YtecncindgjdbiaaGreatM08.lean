import Derived.Test.YtecncindgjdbiaaGreatM05
import Derived.Deep.RegionWith
set_option maxHeartbeats 2000000
namespace Go.Proofs.YtecncindgjdbiaaGreat
open Go.RowKit
structure qF (lo:Nat)(w:World)(bo:Nat)(fs:List Fld)(k:Nat):Prop where
 low:lo<=bo
 rows:∃C,w.heap[bo]?=some (.cells C 176)/\C.size=fs.length*11 /\
  ∀i (h:i<fs.length),i<k->∃bk,lo<=bk/\bk≠bo/\w.heap[bk]?=some (.cells (jS fs[i].ws) 9)/\∀j,j<11->C[i*11+j]?=(fs[i].cells (some (aD bk 0)) fs[i].ws.length)[j]?
theorem qF.at {lo:Nat}{w:World}{bo:Nat}{fs:List Fld}(h:qF lo w bo fs fs.length)(hs:zbN fs)(hl:fs.length<=maxLen):yc w (some (aD bo 0)) fs:=by
 obtain⟨C,hC,hsz,hr⟩:=h.rows;refine⟨hl,fun _=>⟨bo,0,rfl,(gES hC).1,fun i hi=>?_⟩⟩;obtain⟨bk,_,_,hk,hc⟩:=hr i hi hi;obtain⟨s1,s2,s3⟩:=hs.small i hi;refine⟨some (aD bk 0),fs[i].ws.length,s1,zdE hk s2 s3,fun j hj=>?_⟩;rw[cell_of_block hC,Nat.zero_add];exact hc j hj
theorem qF.later {lo:Nat}{w w':World}{bo:Nat}{fs:List Fld}{k:Nat}(h:qF lo w bo fs k)(hb:Bw w w'):qF lo w' bo fs k:=by
 obtain⟨C,hC,hsz,hr⟩:=h.rows;refine⟨h.low,C,(hb.block bo (gES hC).1).trans hC,hsz,fun i hi hk=>?_⟩;obtain⟨bk,h1,h2,h3,h4⟩:=hr i hi hk;exact⟨bk,h1,h2,(hb.block bk (gES h3).1).trans h3,h4⟩
theorem qF.put {lo:Nat}{w:World}{bo:Nat}{fs:List Fld}{k:Nat}(h:qF lo w bo fs k)(hk:k<fs.length)(bk:Nat)(h1:lo<=bk)(h2:bk≠bo)(h3:w.heap[bk]?=some (.cells (jS fs[k].ws) 9)) :
 qF lo (zmn w bo (k*11) (.s fs[k].nm) (.i fs[k].kd) (.i fs[k].ls) (.i fs[k].ms) (.l (some (aD bk 0)) fs[k].ws.length fs[k].ws.length) (.s fs[k].to) (.i fs[k].rl) (.bool fs[k].mu) (.bool fs[k].fx) (.s fs[k].df) (.s fs[k].wg)) bo fs (k+1):=by
 obtain⟨C,hC,hsz,hr⟩:=h.rows;refine⟨h.low,_,zm2 hC _ _ _ _ _ _ _ _ _ _ _,by rw[zot];exact hsz,fun i hi hik=>?_⟩
 rcases Nat.lt_or_ge i k with hlt|hge
 ·obtain⟨bi,g1,g2,g3,g4⟩:=hr i hi hlt
  refine⟨bi,g1,g2,by rw[zif _ _ _ _ g2];exact g3,fun j hj=>?_⟩;rw[zpX _ _ _ _ _ _ _ _ _ _ _ _ _ _ (by omega)];exact g4 j hj
 ·have e:i=k:=by omega
  subst e;refine⟨bk,h1,h2,by rw[zif _ _ _ _ h2];exact h3,fun j hj=>?_⟩;rw[zqo _ _ _ _ _ _ _ _ _ _ _ _ _ _ hj (by omega)]
  rfl
def zpe:AV:=#[.s ByteArray.empty,.i 0,.i 0,.i 0,.l none 0 0,.s ByteArray.empty,.i 0,.bool false,.bool false,.s ByteArray.empty,.s ByteArray.empty]
def zmP (n:Nat):AV:=madeCells zpe (n*11)
theorem zhf (a:OA)(cap:Nat)(fs:List Fld)(w:World)(hw:yc w a fs)(hl:fs.length<=1048576)(hls:∀i (h:i<fs.length),fs[i].ws.length<=1048576) :
 Calls Tryz.prog 119 #[.l a fs.length cap] w fun e w'=>e=.returned (.l (some (aD w.heap.size 0)) fs.length fs.length)/\qF w.heap.size w' w.heap.size fs fs.length/\Bw w w':=by
 have hmk:∀w:World,(Instr.makeSlice 132 (.i fs.length) (.i fs.length)).run Tryz.prog w=.ok (.l (some (aD w.heap.size 0)) fs.length fs.length) (w.alloc (.cells (zmP fs.length) 176)):=
  fun w=>jy (P:=Tryz.prog) 132 176 (.agg zpe) 11 128 Tryz.underlying132 (by kernel_rfl) fs.length (by omega) (by omega) w
 go_enter Tryz.func119,Tryz.ntmps119;go_wp2_with fail
 clear hmk
 go_loopw [4] (fun i wr=>∃k:Nat,k<=fs.length/\i=.i k/\qF w.heap.size wr w.heap.size fs k/\Bw w wr) (fun i _=>fs.length-(intOf i).toNat)
 case atStart=>exact⟨0,Nat.zero_le _,rfl,⟨Nat.le_refl _,zmP fs.length,(MapKept.heap_alloc w _).1,size_madeCells _ _,fun i _ h=>absurd h (by omega)⟩,bAl _ _⟩
 case round=>
  obtain⟨k,hk,rfl,hown,hB⟩:=hrel
  by_cases hlt:k<fs.length
  ·obtain⟨b,off,rfl,hb,hr⟩:=hw.rows (by rintro rfl;simp at hlt)
   obtain⟨wa,wcap,hf0⟩:=hr k hlt;have hf:=hf0.mono hb hB;obtain⟨c0,c1,c2,c3,c4,c5,c6,c7,c8,c9,c10⟩:=hf.load;have hst:=hf.strs;have HLS:Hid (fs[k].ws.length<=1048576):=hls k hlt;have hltI:(k:Int)<(fs.length:Int):=by omega
   clear hw hr hf0 hf;go_wp2_with fail
   refine(zi1 _ _ _ _ _ _ _ _ _ _ _ _ _ _ hst HLS.o).mono ?_;rintro e w1⟨bk,rfl,hlo,hhi,hbk,hb1⟩;have hB1:=hB.trans (hb1.mono hB.size);have hown1:=hown.later hb1;obtain⟨C,hC,hsz,_⟩:=hown1.rows;have hfz:∀o,w1.frozen? (aD w.heap.size o)=false:=fun o=>zh hC
   have hex:∀o,o<fs.length*11->∃v,w1.cell? (aD w.heap.size o)=some v:=fun o ho=>⟨C[o]'(by omega),by rw[cell_of_block hC];exact Array.getElem?_eq_getElem (by omega)⟩
   obtain⟨v0,hv0⟩:=hex (k*11) (by omega);obtain⟨v1,hv1⟩:=hex (k*11+1) (by omega);obtain⟨v2,hv2⟩:=hex (k*11+2) (by omega);obtain⟨v3,hv3⟩:=hex (k*11+3) (by omega);obtain⟨v4,hv4⟩:=hex (k*11+4) (by omega);obtain⟨v5,hv5⟩:=hex (k*11+5) (by omega);obtain⟨v6,hv6⟩:=hex (k*11+6) (by omega);obtain⟨v7,hv7⟩:=hex (k*11+7) (by omega);obtain⟨v8,hv8⟩:=hex (k*11+8) (by omega);obtain⟨v9,hv9⟩:=hex (k*11+9) (by omega);obtain⟨v10,hv10⟩:=hex (k*11+10) (by omega);clear hex hC hsz c0 c1 c2 c3 c4 c5 c6 c7 c8 c9 c10
   have hbo:w.heap.size<wr.heap.size:=by
    obtain⟨C',hC',_⟩:=hown.rows;exact(gES hC').1
   go_wp2_with fail
   exact⟨⟨k+1,by omega,by go_num,hown1.put hlt bk (by omega) (by omega) hbk,zmJ hB1 (Nat.le_refl _) _ _ _ _ _ _ _ _ _ _ _ _⟩,by simp[intOf];omega⟩
  ·have HF:Hid (qF w.heap.size wr w.heap.size fs fs.length):=by
    have e:k=fs.length:=by omega
    subst e;exact hown
   clear hw hown;go_wp2_with fail
   go_ret;exact⟨rfl,HF.o,hB⟩
structure jO (lo:Nat)(w:World)(bo:Nat)(ss:List Shp)(k:Nat):Prop where
 low:lo<=bo
 rows:∃C,w.heap[bo]?=some (.cells C 134)/\C.size=ss.length*2 /\
  ∀i (h:i<ss.length),i<k->∃bf,lo<=bf/\bo<bf/\qF (bo+1) w bf ss[i].fs ss[i].fs.length/\C[i*2]?=some (.s ss[i].kd)/\C[i*2+1]?=some (.l (some (aD bf 0)) ss[i].fs.length ss[i].fs.length)
theorem jO.at {lo:Nat}{w:World}{bo:Nat}{ss:List Shp}(h:jO lo w bo ss ss.length)(hs:zdF ss)(hl:ss.length<=maxLen):yR w (some (aD bo 0)) ss:=by
 obtain⟨C,hC,hsz,hr⟩:=h.rows;refine⟨hl,fun _=>⟨bo,0,rfl,(gES hC).1,fun i hi=>?_⟩⟩;obtain⟨bf,_,_,hf,h1,h2⟩:=hr i hi hi;obtain⟨s1,s2,s3⟩:=hs.small i hi;refine⟨some (aD bf 0),ss[i].fs.length,s1,hf.at s3 s2,?_,?_⟩
 ·rw[cell_of_block hC,Nat.zero_add];exact h1
 ·rw[cell_of_block hC,Nat.zero_add];exact h2
theorem jO.later {lo:Nat}{w w':World}{bo:Nat}{ss:List Shp}{k:Nat}(h:jO lo w bo ss k)(hb:Bw w w'):jO lo w' bo ss k:=by
 obtain⟨C,hC,hsz,hr⟩:=h.rows;refine⟨h.low,C,(hb.block bo (gES hC).1).trans hC,hsz,fun i hi hk=>?_⟩;obtain⟨bf,h1,h2,h3,h4⟩:=hr i hi hk;exact⟨bf,h1,h2,h3.later hb,h4⟩
theorem qF.setCell {lo:Nat}{w:World}{bf:Nat}{fs:List Fld}{k:Nat}(h:qF lo w bf fs k){p:Addr}(hp:p.block<lo)(v:Value):qF lo (w.setCell p v) bf fs k:=by
 obtain⟨C,hC,hsz,hr⟩:=h.rows;have hl:=h.low;refine⟨h.low,C,by rw[Below.heap_setCell _ _ _ _ (by omega)];exact hC,hsz,fun i hi hk=>?_⟩;obtain⟨bk,h1,h2,h3,h4⟩:=hr i hi hk;exact⟨bk,h1,h2,by rw[Below.heap_setCell _ _ _ _ (by omega)];exact h3,h4⟩
theorem qF.weaken {lo lo':Nat}{w:World}{bf:Nat}{fs:List Fld}{k:Nat}(h:qF lo w bf fs k)(hl:lo'<=lo):qF lo' w bf fs k:=by
 obtain⟨C,hC,hsz,hr⟩:=h.rows;refine⟨Nat.le_trans hl h.low,C,hC,hsz,fun i hi hk=>?_⟩;obtain⟨bk,h1,h2⟩:=hr i hi hk;exact⟨bk,Nat.le_trans hl h1,h2⟩
theorem jO.put {lo:Nat}{w:World}{bo:Nat}{ss:List Shp}{k:Nat}(h:jO lo w bo ss k)(hk:k<ss.length)(bf:Nat)(h1:bo<bf)(h3:qF (bo+1) w bf ss[k].fs ss[k].fs.length) :
 jO lo ((w.setCell (aD bo (k*2)) (.s ss[k].kd)).setCell (aD bo (k*2+1)) (.l (some (aD bf 0)) ss[k].fs.length ss[k].fs.length)) bo ss (k+1):=by
 obtain⟨C,hC,hsz,hr⟩:=h.rows;have hl:=h.low;refine⟨h.low,_,zi (zi hC _) _,by simp[hsz],fun i hi hik=>?_⟩
 rcases Nat.lt_or_ge i k with hlt|hge
 ·obtain⟨bi,g1,g2,g3,g4,g5⟩:=hr i hi hlt
  refine⟨bi,g1,g2,(g3.setCell (by simp) _).setCell (by simp) _,?_,?_⟩
  ·rw[Array.getElem?_setIfInBounds,if_neg (by omega),Array.getElem?_setIfInBounds,if_neg (by omega)];exact g4
  ·rw[Array.getElem?_setIfInBounds,if_neg (by omega),Array.getElem?_setIfInBounds,if_neg (by omega)];exact g5
 ·have e:i=k:=by omega
  subst e;refine⟨bf,by omega,h1,(h3.setCell (by simp) _).setCell (by simp) _,?_,?_⟩
  ·rw[Array.getElem?_setIfInBounds,if_neg (by omega),Array.getElem?_setIfInBounds,if_pos rfl,if_pos (by omega)]
  ·rw[Array.getElem?_setIfInBounds,if_pos rfl,if_pos (by simp;omega)]
theorem ziC (kd:BA)(a:OA)(cap:Nat)(fs:List Fld)(w:World)(hw:yc w a fs)(hl:fs.length<=1048576)(hls:∀i (h:i<fs.length),fs[i].ws.length<=1048576) :
 Calls Tryz.prog 72 #[.agg #[.s kd,.l a fs.length cap]] w fun e w'=>∃bf,e=.returned (.agg #[.s kd,.l (some (aD bf 0)) fs.length fs.length])/\qF w.heap.size w' bf fs fs.length/\Bw w w':=by
 go_enter Tryz.func72,Tryz.ntmps72;go_wp2_with fail
 refine(zhf _ _ _ _ (hw.mono (((bAl _ _).alloc (by simp) _).alloc (by simp;omega) _)) hl hls).mono ?_;rintro e w1⟨rfl,hown,hb1⟩;have qr0:w1.cell? (aD (w.heap.size+1) 0)=some (.s { data:=#[] }):=(hb1.cell (p:=(aD (w.heap.size+1) 0)) (by simp)).trans (by simp[World.cell?_alloc_at,World.cell?_alloc_past]);have fr0:w1.frozen? (aD (w.heap.size+1) 0)=false:=(hb1.frozen (p:=(aD (w.heap.size+1) 0)) (by simp)).trans (by simp[World.frozen?_alloc_at,World.frozen?_alloc_past]);have qr1:w1.cell? (aD (w.heap.size+1) 1)=some (.l none 0 0):=(hb1.cell (p:=(aD (w.heap.size+1) 1)) (by simp)).trans (by simp[World.cell?_alloc_at,World.cell?_alloc_past]);have fr1:w1.frozen? (aD (w.heap.size+1) 1)=false:=(hb1.frozen (p:=(aD (w.heap.size+1) 1)) (by simp)).trans (by simp[World.frozen?_alloc_at,World.frozen?_alloc_past]);have qo0:w1.cell? (aD (w.heap.size+1+1) 0)=some (.s kd):=(hb1.cell (p:=(aD (w.heap.size+1+1) 0)) (by simp)).trans (by simp[World.cell?_alloc_at]);have fo0:w1.frozen? (aD (w.heap.size+1+1) 0)=false:=(hb1.frozen (p:=(aD (w.heap.size+1+1) 0)) (by simp)).trans (by simp[World.frozen?_alloc_at]);have qo1:w1.cell? (aD (w.heap.size+1+1) 1)=some (.l none 0 0):=(hb1.cell (p:=(aD (w.heap.size+1+1) 1)) (by simp)).trans (by simp[World.cell?_alloc_at]);have fo1:w1.frozen? (aD (w.heap.size+1+1) 1)=false:=(hb1.frozen (p:=(aD (w.heap.size+1+1) 1)) (by simp)).trans (by simp[World.frozen?_alloc_at]);have hz1:w.heap.size+1+1<w1.heap.size:=by have:=hb1.size;simp at this;omega
 go_wp2_with fail
 have hsz:(((w.alloc (.cells #[.s kd,.l a fs.length cap] 98)).alloc (.cells #[.s { data:=#[] },.l none 0 0] 134)).alloc (.cells #[.s kd,.l none 0 0] 134)).heap.size=w.heap.size+1+1+1:=by simp
 have hB1:Bw w w1:=(((bAl _ _).alloc (by simp) _).alloc (by simp;omega) _).trans (hb1.mono (by simp;omega));rw[hsz]at hown;refine bodyPost_ret (v:=.agg #[.s kd,.l (some (aD (w.heap.size+1+1+1) 0)) fs.length fs.length]) (by simp[results,Tryz.results72,go_sem,qr0,qr1]) rfl ⟨w.heap.size+1+1+1,rfl,?_,?_⟩
 ·exact(((hown.setCell (by simp) _).setCell (by simp) _).setCell (by simp) _).weaken (by omega)
 ·exact((hB1.setCell (by simp;omega) _).setCell (by simp) _).setCell (by simp) _
def zo2:AV:=#[.s ByteArray.empty,.l none 0 0]
def znh (n:Nat):AV:=madeCells zo2 (n*2)
theorem zhQ (a:OA)(cap:Nat)(ss:List Shp)(w:World)(hw:yR w a ss)(hl:ss.length<=1048576)(hls:∀i (h:i<ss.length),ss[i].fs.length<=1048576/\∀j (h':j<ss[i].fs.length),ss[i].fs[j].ws.length<=1048576) :
 Calls Tryz.prog 26 #[.l a ss.length cap] w fun e w'=>e=.returned (.l (some (aD w.heap.size 0)) ss.length ss.length)/\jO w.heap.size w' w.heap.size ss ss.length/\Bw w w':=by
 have hmk:∀w:World,(Instr.makeSlice 43 (.i ss.length) (.i ss.length)).run Tryz.prog w=.ok (.l (some (aD w.heap.size 0)) ss.length ss.length) (w.alloc (.cells (znh ss.length) 134)):=
  fun w=>jy (P:=Tryz.prog) 43 134 (.agg zo2) 2 40 Tryz.underlying43 (by kernel_rfl) ss.length (by omega) (by omega) w
 go_enter Tryz.func26,Tryz.ntmps26;go_wp2_with fail
 clear hmk
 go_loopw [4] (fun i wr=>∃k:Nat,k<=ss.length/\i=.i k/\jO w.heap.size wr w.heap.size ss k/\Bw w wr) (fun i _=>ss.length-(intOf i).toNat)
 case atStart=>exact⟨0,Nat.zero_le _,rfl,⟨Nat.le_refl _,znh ss.length,(MapKept.heap_alloc w _).1,size_madeCells _ _,fun i _ h=>absurd h (by omega)⟩,bAl _ _⟩
 case round=>
  obtain⟨k,hk,rfl,hown,hB⟩:=hrel
  by_cases hlt:k<ss.length
  ·obtain⟨b,off,rfl,hb,hr⟩:=hw.rows (by rintro rfl;simp at hlt)
   obtain⟨fa,fcap,hs0⟩:=hr k hlt;have hs:=hs0.mono hb hB;have hck:=hs.kind;have hcl:=hs.list;have hfl:=hs.zdB;have HLS:=hls k hlt;have HLS':Hid (ss[k].fs.length<=1048576/\∀j (h':j<ss[k].fs.length),ss[k].fs[j].ws.length<=1048576):=HLS;have hltI:(k:Int)<(ss.length:Int):=by omega
   clear hw hr hs0 hs HLS;go_wp2_with fail
   refine(ziC _ _ _ _ _ hfl HLS'.out.1 HLS'.out.2).mono ?_;rintro e w1⟨bf,rfl,hof,hb1⟩;have hB1:=hB.trans (hb1.mono hB.size);have hown1:=hown.later hb1
   have hbo:w.heap.size<wr.heap.size:=by
    obtain⟨C',hC',_⟩:=hown.rows;exact(gES hC').1
   obtain⟨C,hC,hsz,_⟩:=hown1.rows;have hfz:∀o,w1.frozen? (aD w.heap.size o)=false:=fun o=>zh hC
   have hex:∀o,o<ss.length*2->∃v,w1.cell? (aD w.heap.size o)=some v:=fun o ho=>⟨C[o]'(by omega),by rw[cell_of_block hC];exact Array.getElem?_eq_getElem (by omega)⟩
   obtain⟨v0,hv0⟩:=hex (k*2) (by omega);obtain⟨v1,hv1⟩:=hex (k*2+1) (by omega);clear hex hC hsz hck hcl;have hlow:=hof.low;go_wp2_with fail
   exact⟨⟨k+1,by omega,by go_num,hown1.put hlt bf (by omega) (hof.weaken (by omega)),(hB1.setCell (Nat.le_refl _) _).setCell (Nat.le_refl _) _⟩,by simp[intOf];omega⟩
  ·have HF:Hid (jO w.heap.size wr w.heap.size ss ss.length):=by
    have e:k=ss.length:=by omega
    subst e;exact hown
   clear hw hown;go_wp2_with fail
   go_ret;exact⟨rfl,HF.o,hB⟩
theorem zhD (a a':OA)(cap cap':Nat)(fs:List Fld)(w:World)(hw:yc w a fs)(hw':yc w a' fs) :
 Calls Tryz.prog 138 #[.l a fs.length cap,.l a' fs.length cap'] w fun e w'=>e=.returned (.bool true)/\Bw w w':=by
 have hl:=hw.len;unfold maxLen at hl;have hnn:((fs.length:Int) != fs.length)=false:=by simp
 go_enter Tryz.func138,Tryz.ntmps138;go_wp2_with fail
 go_loopw [5] (fun i wr=>∃k:Nat,k<=fs.length/\i=.i k/\Bw w wr) (fun i _=>fs.length-(intOf i).toNat)
 case atStart=>exact⟨0,Nat.zero_le _,rfl,bRf _ _⟩
 case round=>
  obtain⟨k,hk,rfl,hB⟩:=hrel
  by_cases hlt:k<fs.length
  ·obtain⟨b,off,rfl,hb,hr⟩:=hw.rows (by rintro rfl;simp at hlt)
   obtain⟨b',off',rfl,hb',hr'⟩:=hw'.rows (by rintro rfl;simp at hlt);obtain⟨wa,wcap,hf0⟩:=hr k hlt;obtain⟨wa',wcap',hf0'⟩:=hr' k hlt;have hf:=hf0.mono hb hB;have hf':=hf0'.mono hb' hB;obtain⟨c0,c1,c2,c3,c4,c5,c6,c7,c8,c9,c10⟩:=hf.load;obtain⟨d0,d1,d2,d3,d4,d5,d6,d7,d8,d9,d10⟩:=hf'.load;have hst:=hf.strs;have hst':=hf'.strs;have hltI:(k:Int)<(fs.length:Int):=by omega
   clear hw hw' hr hr' hf0 hf0' hf hf';go_wp2_with fail
   go_region_with (go_at_call 182;refine(ziM _ _ _ _ _ _ _ _ _ _ _ _ _ _ _ _ (by exact hst.mono ((bRf _ _).drew)) (by exact hst'.mono ((bRf _ _).drew))).mono ?_;rintro e w1⟨rfl,hb1'⟩;have hb1:=(bRf wr.heap.size wr).drew.trans hb1';clear hb1')
   all_goals go_wp2_with fail
   all_goals exact⟨⟨k+1,by omega,by go_num,hB.trans (hb1.mono hB.size)⟩,by simp[intOf];omega⟩
  ·clear hw hw'
   go_wp2_with fail
   go_ret;exact⟨rfl,hB⟩
theorem zii (kd:BA)(a a':OA)(cap cap':Nat)(fs:List Fld)(w:World)(hw:yc w a fs)(hw':yc w a' fs) :
 Calls Tryz.prog 93 #[.agg #[.s kd,.l a fs.length cap],.agg #[.s kd,.l a' fs.length cap']] w fun e w'=>e=.returned (.bool true)/\Bw w w':=by
 go_enter Tryz.func93,Tryz.ntmps93;go_wp2_with fail
 refine(zhD _ _ _ _ _ _ (hw.mono (zw _ _ _)) (hw'.mono (zw _ _ _))).mono ?_;rintro e w1⟨rfl,hb1⟩;go_wp2_with fail
 go_ret;exact⟨rfl,(zw _ _ _).trans (hb1.mono (by simp;omega))⟩
theorem zhx (a a':OA)(cap cap':Nat)(ss:List Shp)(w:World)(hw:yR w a ss)(hw':yR w a' ss) :
 Calls Tryz.prog 42 #[.l a ss.length cap,.l a' ss.length cap'] w fun e w'=>e=.returned (.bool true)/\Bw w w':=by
 have hl:=hw.len;unfold maxLen at hl;have hnn:((ss.length:Int) != ss.length)=false:=by simp
 go_enter Tryz.func42,Tryz.ntmps42;go_wp2_with fail
 go_loopw [5] (fun i wr=>∃k:Nat,k<=ss.length/\i=.i k/\Bw w wr) (fun i _=>ss.length-(intOf i).toNat)
 case atStart=>exact⟨0,Nat.zero_le _,rfl,bRf _ _⟩
 case round=>
  obtain⟨k,hk,rfl,hB⟩:=hrel
  by_cases hlt:k<ss.length
  ·obtain⟨b,off,rfl,hb,hr⟩:=hw.rows (by rintro rfl;simp at hlt)
   obtain⟨b',off',rfl,hb',hr'⟩:=hw'.rows (by rintro rfl;simp at hlt);obtain⟨wa,wcap,hf0⟩:=hr k hlt;obtain⟨wa',wcap',hf0'⟩:=hr' k hlt;have hf:=hf0.mono hb hB;have hf':=hf0'.mono hb' hB;have c0:=hf.kind;have c1:=hf.list;have d0:=hf'.kind;have d1:=hf'.list;have hst:=hf.zdB;have hst':=hf'.zdB;have hltI:(k:Int)<(ss.length:Int):=by omega
   clear hw hw' hr hr' hf0 hf0' hf hf';go_wp2_with fail
   go_region_with (go_at_call 93;refine(zii _ _ _ _ _ _ _ (by exact hst.mono ((bRf _ _).drew)) (by exact hst'.mono ((bRf _ _).drew))).mono ?_;rintro e w1⟨rfl,hb1'⟩;have hb1:=(bRf wr.heap.size wr).drew.trans hb1';clear hb1')
   all_goals go_wp2_with fail
   all_goals exact⟨⟨k+1,by omega,by go_num,hB.trans (hb1.mono hB.size)⟩,by simp[intOf];omega⟩
  ·clear hw hw'
   go_wp2_with fail
   go_ret;exact⟨rfl,hB⟩
theorem zqk {ss:List Shp}(h:(zaR ss:Int)<=1048576):ss.length<=1048576/\∀i (h:i<ss.length),ss[i].fs.length<=1048576/\∀j (h':j<ss[i].fs.length),ss[i].fs[j].ws.length<=1048576:=by
 unfold zaR at h;refine⟨by omega,fun i hi=>?_⟩;have h1:Shp.sz ss[i]<=zhl ss:=zi7 Shp.sz ss i hi;unfold Shp.sz zaK at h1;refine⟨by omega,fun j hj=>?_⟩;have h2:Fld.sz ss[i].fs[j]<=zhI ss[i].fs:=zi7 Fld.sz ss[i].fs j hj;unfold Fld.sz zas qX at h2;omega
def Tm.cells (m:Tm):AV:=#[.s m.nm,.s m.ov]
structure Tm.Small (m:Tm):Prop where
 nm:m.nm.size<=maxLen
 ov:m.ov.size<=maxLen
structure jQ (w:World)(a:OA)(ts:List Tm):Prop where
 len:ts.length<=maxLen
 small:∀i (h:i<ts.length),ts[i].Small
 rows:ts≠[]->∃b off,a=some (aD b off)/\b<w.heap.size/\∀i (h:i<ts.length),∀j,j<2->w.cell? (aD b (off+i*2+j))=ts[i].cells[j]?
theorem jQ.mono {w w':World}{a:OA}{ts:List Tm}(h:jQ w a ts)(hl:Bw w w'):jQ w' a ts:=
 ⟨h.len,h.small,fun hne=>by
  obtain⟨b,off,ha,hb,hr⟩:=h.rows hne;exact⟨b,off,ha,nLt hb hl.size,fun i hi j hj=>(hl.cell (p:=(aD b (off+i*2+j))) hb).trans (hr i hi j hj)⟩⟩
theorem jQ.load {w w':World}{a:OA}{ts:List Tm}(h:jQ w a ts)(hl:Bw w w')(i:Nat)(hi:i<ts.length):∃b off,a=some (aD b off)/\b<w.heap.size /\
 w'.cell? (aD b (off+i*2))=some (.s ts[i].nm)/\w'.cell? (aD b (off+i*2+1))=some (.s ts[i].ov):=by
 obtain⟨b,off,ha,hb,hr⟩:=h.rows (by rintro rfl;simp at hi);have hc:∀j,j<2->w'.cell? (aD b (off+i*2+j))=ts[i].cells[j]?:=fun j hj=>(hl.cell (p:=(aD b (off+i*2+j))) hb).trans (hr i hi j hj)
 exact⟨b,off,ha,hb,hc 0 (by omega),hc 1 (by omega)⟩
def Tm.sz (m:Tm):Nat:=m.nm.size+m.ov.size
def zil (ts:List Tm):Nat:=(ts.map Tm.sz).sum
def zdc (ts:List Tm):Nat:=ts.length+zil ts
def zra (w:World)(b o:Nat)(v0 v1:Value):World:=(w.setCell (aD b o) v0).setCell (aD b (o+1)) v1
def set2 (C:AV)(o:Nat)(v0 v1:Value):AV:=(C.setIfInBounds o v0).setIfInBounds (o+1) v1
theorem zoD {w:World}{b o:Nat}{C:AV}{t:TypeId}(h:w.heap[b]?=some (.cells C t))(v0 v1:Value):(zra w b o v0 v1).heap[b]?=some (.cells (set2 C o v0 v1) t):=
 zi (zi h v0) v1
theorem zoF {B:Nat}{a w:World}(h:Below B a w){b:Nat}(hb:B<=b)(o:Nat)(v0 v1:Value):Below B a (zra w b o v0 v1):=
 (h.setCell hb v0).setCell hb v1
theorem zpp (C:AV)(o:Nat)(v0 v1:Value):(set2 C o v0 v1).size=C.size:=by simp[set2]
theorem zqD (C:AV)(o i:Nat)(v0 v1:Value)(h:i<o \/ o+2<=i):(set2 C o v0 v1)[i]?=C[i]?:=by
 unfold set2
 iterate 2 rw[Array.getElem?_setIfInBounds,if_neg (by omega)]
theorem zq1 (C:AV)(o j:Nat)(v0 v1:Value)(hj:j<2)(ho:o+2<=C.size):(set2 C o v0 v1)[o+j]?=(#[v0,v1]:AV)[j]?:=by
 have hc:j=0 \/ j=1:=by omega
 unfold set2
 rcases hc with h|h <;> subst h <;> simp[Array.getElem?_setIfInBounds] <;> omega
structure zae (ty:TypeId)(lo:Nat)(w:World)(bo:Nat)(ts:List Tm)(k:Nat):Prop where
 low:lo<=bo
 rows:∃C,w.heap[bo]?=some (.cells C ty)/\C.size=ts.length*2/\∀i (h:i<ts.length),i<k->∀j,j<2->C[i*2+j]?=ts[i].cells[j]?
theorem zae.at {ty:TypeId}{lo:Nat}{w:World}{bo:Nat}{ts:List Tm}(h:zae ty lo w bo ts ts.length)(hs:∀i (h:i<ts.length),ts[i].Small)(hl:ts.length<=maxLen):jQ w (some (aD bo 0)) ts:=by
 obtain⟨C,hC,hsz,hr⟩:=h.rows;refine⟨hl,hs,fun _=>⟨bo,0,rfl,(gES hC).1,fun i hi j hj=>?_⟩⟩;rw[cell_of_block hC,Nat.zero_add];exact hr i hi hi j hj
theorem zae.later {ty:TypeId}{lo:Nat}{w w':World}{bo:Nat}{ts:List Tm}{k:Nat}(h:zae ty lo w bo ts k)(hb:Bw w w'):zae ty lo w' bo ts k:=by
 obtain⟨C,hC,hsz,hr⟩:=h.rows;exact⟨h.low,C,(hb.block bo (gES hC).1).trans hC,hsz,hr⟩
theorem zae.put {ty:TypeId}{lo:Nat}{w:World}{bo:Nat}{ts:List Tm}{k:Nat}(h:zae ty lo w bo ts k)(hk:k<ts.length) :
 zae ty lo (zra w bo (k*2) (.s ts[k].nm) (.s ts[k].ov)) bo ts (k+1):=by
 obtain⟨C,hC,hsz,hr⟩:=h.rows;refine⟨h.low,_,zoD hC _ _,by rw[zpp];exact hsz,fun i hi hik j hj=>?_⟩
 rcases Nat.lt_or_ge i k with hlt|hge
 ·rw[zqD _ _ _ _ _ (by omega)]
  exact hr i hi hlt j hj
 ·have e:i=k:=by omega
  subst e;rw[zq1 _ _ _ _ _ hj (by omega)]
  rfl
def zqJ:AV:=#[.s ByteArray.empty,.s ByteArray.empty]
def zpf (n:Nat):AV:=madeCells zqJ (n*2)
end Go.Proofs.YtecncindgjdbiaaGreat
namespace Go.Proofs.YtecncindgjdbiaaGreat
structure Rl where
 vs:List Int
 kd:BA
 tm:BA
 px:BA
def zaZ (v:Int):Bool:=decide (1<=v)&&decide (v<=5)
def qm (vs:List Int)(i:Nat):Bool:=zaZ (vs.getD i 0)&&(decide (i=0)||decide (vs.getD (i-1) 0<vs.getD i 0))
def jh (vs:List Int):Bool:=decide (0<vs.length)&&up (qm vs) vs.length
def qK (r:Rl):Bool:=(r.kd.toList.isEmpty||zy r.kd)&&(r.tm.toList.isEmpty||zy r.tm)
def zQ (r:Rl):Bool:=qK r&&(jh r.vs&&(decide (r.px.size<=16)&&yV r.px))
end Go.Proofs.YtecncindgjdbiaaGreat
