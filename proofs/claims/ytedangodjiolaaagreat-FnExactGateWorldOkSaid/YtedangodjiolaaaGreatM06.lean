import Derived.Test.YtedangodjiolaaaGreatM05
import Derived.Deep.RegionWith
set_option maxHeartbeats 2000000
namespace Go.Proofs.YtedangodjiolaaaGreat
open Go.RowKit
structure qW (lo:Nat)(w:World)(bo:Nat)(fs:List Fld)(k:Nat):Prop where
 low:lo<=bo
 rows:∃C,w.heap[bo]?=some (.cells C 164)/\C.size=fs.length*11 /\
  ∀i (h:i<fs.length),i<k->∃bk,lo<=bk/\bk≠bo/\w.heap[bk]?=some (.cells (jI fs[i].ws) 9)/\∀j,j<11->C[i*11+j]?=(fs[i].cells (some (aD bk 0)) fs[i].ws.length)[j]?
theorem qW.at {lo:Nat}{w:World}{bo:Nat}{fs:List Fld}(h:qW lo w bo fs fs.length)(hs:zbX fs)(hl:fs.length<=maxLen):yh w (some (aD bo 0)) fs:=by
 obtain⟨C,hC,hsz,hr⟩:=h.rows;refine⟨hl,fun _=>⟨bo,0,rfl,(gES hC).1,fun i hi=>?_⟩⟩;obtain⟨bk,_,_,hk,hc⟩:=hr i hi hi;obtain⟨s1,s2,s3⟩:=hs.small i hi;refine⟨some (aD bk 0),fs[i].ws.length,s1,zb2 hk s2 s3,fun j hj=>?_⟩;rw[cell_of_block hC,Nat.zero_add];exact hc j hj
theorem qW.later {lo:Nat}{w w':World}{bo:Nat}{fs:List Fld}{k:Nat}(h:qW lo w bo fs k)(hb:Bw w w'):qW lo w' bo fs k:=by
 obtain⟨C,hC,hsz,hr⟩:=h.rows;refine⟨h.low,C,(hb.block bo (gES hC).1).trans hC,hsz,fun i hi hk=>?_⟩;obtain⟨bk,h1,h2,h3,h4⟩:=hr i hi hk;exact⟨bk,h1,h2,(hb.block bk (gES h3).1).trans h3,h4⟩
theorem qW.put {lo:Nat}{w:World}{bo:Nat}{fs:List Fld}{k:Nat}(h:qW lo w bo fs k)(hk:k<fs.length)(bk:Nat)(h1:lo<=bk)(h2:bk≠bo)(h3:w.heap[bk]?=some (.cells (jI fs[k].ws) 9)) :
 qW lo (zmU w bo (k*11) (.s fs[k].nm) (.i fs[k].kd) (.i fs[k].ls) (.i fs[k].ms) (.l (some (aD bk 0)) fs[k].ws.length fs[k].ws.length) (.s fs[k].to) (.i fs[k].rl) (.bool fs[k].mu) (.bool fs[k].fx) (.s fs[k].df) (.s fs[k].wg)) bo fs (k+1):=by
 obtain⟨C,hC,hsz,hr⟩:=h.rows;refine⟨h.low,_,zmL hC _ _ _ _ _ _ _ _ _ _ _,by rw[zoa];exact hsz,fun i hi hik=>?_⟩
 rcases Nat.lt_or_ge i k with hlt|hge
 ·obtain⟨bi,g1,g2,g3,g4⟩:=hr i hi hlt
  refine⟨bi,g1,g2,by rw[zhW _ _ _ _ g2];exact g3,fun j hj=>?_⟩;rw[zph _ _ _ _ _ _ _ _ _ _ _ _ _ _ (by omega)];exact g4 j hj
 ·have e:i=k:=by omega
  subst e;refine⟨bk,h1,h2,by rw[zhW _ _ _ _ h2];exact h3,fun j hj=>?_⟩;rw[zqH _ _ _ _ _ _ _ _ _ _ _ _ _ _ hj (by omega)]
  rfl
def zoY:AV:=#[.s ByteArray.empty,.i 0,.i 0,.i 0,.l none 0 0,.s ByteArray.empty,.i 0,.bool false,.bool false,.s ByteArray.empty,.s ByteArray.empty]
def zmS (n:Nat):AV:=madeCells zoY (n*11)
theorem zgT (a:OA)(cap:Nat)(fs:List Fld)(w:World)(hw:yh w a fs)(hl:fs.length<=1048576)(hls:∀i (h:i<fs.length),fs[i].ws.length<=1048576) :
 Calls Tryz.prog 91 #[.l a fs.length cap] w fun e w'=>e=.returned (.l (some (aD w.heap.size 0)) fs.length fs.length)/\qW w.heap.size w' w.heap.size fs fs.length/\Bw w w':=by
 have hmk:∀w:World,(Instr.makeSlice 111 (.i fs.length) (.i fs.length)).run Tryz.prog w=.ok (.l (some (aD w.heap.size 0)) fs.length fs.length) (w.alloc (.cells (zmS fs.length) 164)):=
  fun w=>qE (P:=Tryz.prog) 111 164 (.agg zoY) 11 128 Tryz.underlying111 (by kernel_rfl) fs.length (by omega) (by omega) w
 go_enter Tryz.func91,Tryz.ntmps91;go_wp2_with fail
 clear hmk
 go_loopw [4] (fun i wr=>∃k:Nat,k<=fs.length/\i=.i k/\qW w.heap.size wr w.heap.size fs k/\Bw w wr) (fun i _=>fs.length-(intOf i).toNat)
 case atStart=>exact⟨0,Nat.zero_le _,rfl,⟨Nat.le_refl _,zmS fs.length,(MapKept.heap_alloc w _).1,size_madeCells _ _,fun i _ h=>absurd h (by omega)⟩,bAl _ _⟩
 case round=>
  obtain⟨k,hk,rfl,hown,hB⟩:=hrel
  by_cases hlt:k<fs.length
  ·obtain⟨b,off,rfl,hb,hr⟩:=hw.rows (by rintro rfl;simp at hlt)
   obtain⟨wa,wcap,hf0⟩:=hr k hlt;have hf:=hf0.mono hb hB;obtain⟨c0,c1,c2,c3,c4,c5,c6,c7,c8,c9,c10⟩:=hf.load;have hst:=hf.strs;have HLS:Hid (fs[k].ws.length<=1048576):=hls k hlt;have hltI:(k:Int)<(fs.length:Int):=by omega
   clear hw hr hf0 hf;go_wp2_with fail
   refine(zif _ _ _ _ _ _ _ _ _ _ _ _ _ _ hst HLS.o).mono ?_;rintro e w1⟨bk,rfl,hlo,hhi,hbk,hb1⟩;have hB1:=hB.trans (hb1.mono hB.size);have hown1:=hown.later hb1;obtain⟨C,hC,hsz,_⟩:=hown1.rows;have hfz:∀o,w1.frozen? (aD w.heap.size o)=false:=fun o=>zm hC
   have hex:∀o,o<fs.length*11->∃v,w1.cell? (aD w.heap.size o)=some v:=fun o ho=>⟨C[o]'(by omega),by rw[cell_of_block hC];exact Array.getElem?_eq_getElem (by omega)⟩
   obtain⟨v0,hv0⟩:=hex (k*11) (by omega);obtain⟨v1,hv1⟩:=hex (k*11+1) (by omega);obtain⟨v2,hv2⟩:=hex (k*11+2) (by omega);obtain⟨v3,hv3⟩:=hex (k*11+3) (by omega);obtain⟨v4,hv4⟩:=hex (k*11+4) (by omega);obtain⟨v5,hv5⟩:=hex (k*11+5) (by omega);obtain⟨v6,hv6⟩:=hex (k*11+6) (by omega);obtain⟨v7,hv7⟩:=hex (k*11+7) (by omega);obtain⟨v8,hv8⟩:=hex (k*11+8) (by omega);obtain⟨v9,hv9⟩:=hex (k*11+9) (by omega);obtain⟨v10,hv10⟩:=hex (k*11+10) (by omega);clear hex hC hsz c0 c1 c2 c3 c4 c5 c6 c7 c8 c9 c10
   have hbo:w.heap.size<wr.heap.size:=by
    obtain⟨C',hC',_⟩:=hown.rows;exact(gES hC').1
   go_wp2_with fail
   exact⟨⟨k+1,by omega,by go_num,hown1.put hlt bk (by omega) (by omega) hbk,zni hB1 (Nat.le_refl _) _ _ _ _ _ _ _ _ _ _ _ _⟩,by simp[intOf];omega⟩
  ·have HF:Hid (qW w.heap.size wr w.heap.size fs fs.length):=by
    have e:k=fs.length:=by omega
    subst e;exact hown
   clear hw hown;go_wp2_with fail
   go_ret;exact⟨rfl,HF.o,hB⟩
structure zaj (lo:Nat)(w:World)(bo:Nat)(ss:List Shp)(k:Nat):Prop where
 low:lo<=bo
 rows:∃C,w.heap[bo]?=some (.cells C 113)/\C.size=ss.length*2 /\
  ∀i (h:i<ss.length),i<k->∃bf,lo<=bf/\bo<bf/\qW (bo+1) w bf ss[i].fs ss[i].fs.length/\C[i*2]?=some (.s ss[i].kd)/\C[i*2+1]?=some (.l (some (aD bf 0)) ss[i].fs.length ss[i].fs.length)
theorem zaj.at {lo:Nat}{w:World}{bo:Nat}{ss:List Shp}(h:zaj lo w bo ss ss.length)(hs:zdP ss)(hl:ss.length<=maxLen):yM w (some (aD bo 0)) ss:=by
 obtain⟨C,hC,hsz,hr⟩:=h.rows;refine⟨hl,fun _=>⟨bo,0,rfl,(gES hC).1,fun i hi=>?_⟩⟩;obtain⟨bf,_,_,hf,h1,h2⟩:=hr i hi hi;obtain⟨s1,s2,s3⟩:=hs.small i hi;refine⟨some (aD bf 0),ss[i].fs.length,s1,hf.at s3 s2,?_,?_⟩
 ·rw[cell_of_block hC,Nat.zero_add];exact h1
 ·rw[cell_of_block hC,Nat.zero_add];exact h2
theorem zaj.later {lo:Nat}{w w':World}{bo:Nat}{ss:List Shp}{k:Nat}(h:zaj lo w bo ss k)(hb:Bw w w'):zaj lo w' bo ss k:=by
 obtain⟨C,hC,hsz,hr⟩:=h.rows;refine⟨h.low,C,(hb.block bo (gES hC).1).trans hC,hsz,fun i hi hk=>?_⟩;obtain⟨bf,h1,h2,h3,h4⟩:=hr i hi hk;exact⟨bf,h1,h2,h3.later hb,h4⟩
theorem qW.setCell {lo:Nat}{w:World}{bf:Nat}{fs:List Fld}{k:Nat}(h:qW lo w bf fs k){p:Addr}(hp:p.block<lo)(v:Value):qW lo (w.setCell p v) bf fs k:=by
 obtain⟨C,hC,hsz,hr⟩:=h.rows;have hl:=h.low;refine⟨h.low,C,by rw[Below.heap_setCell _ _ _ _ (by omega)];exact hC,hsz,fun i hi hk=>?_⟩;obtain⟨bk,h1,h2,h3,h4⟩:=hr i hi hk;exact⟨bk,h1,h2,by rw[Below.heap_setCell _ _ _ _ (by omega)];exact h3,h4⟩
theorem qW.weaken {lo lo':Nat}{w:World}{bf:Nat}{fs:List Fld}{k:Nat}(h:qW lo w bf fs k)(hl:lo'<=lo):qW lo' w bf fs k:=by
 obtain⟨C,hC,hsz,hr⟩:=h.rows;refine⟨Nat.le_trans hl h.low,C,hC,hsz,fun i hi hk=>?_⟩;obtain⟨bk,h1,h2⟩:=hr i hi hk;exact⟨bk,Nat.le_trans hl h1,h2⟩
theorem zaj.put {lo:Nat}{w:World}{bo:Nat}{ss:List Shp}{k:Nat}(h:zaj lo w bo ss k)(hk:k<ss.length)(bf:Nat)(h1:bo<bf)(h3:qW (bo+1) w bf ss[k].fs ss[k].fs.length) :
 zaj lo ((w.setCell (aD bo (k*2)) (.s ss[k].kd)).setCell (aD bo (k*2+1)) (.l (some (aD bf 0)) ss[k].fs.length ss[k].fs.length)) bo ss (k+1):=by
 obtain⟨C,hC,hsz,hr⟩:=h.rows;have hl:=h.low;refine⟨h.low,_,zi (zi hC _) _,by simp[hsz],fun i hi hik=>?_⟩
 rcases Nat.lt_or_ge i k with hlt|hge
 ·obtain⟨bi,g1,g2,g3,g4,g5⟩:=hr i hi hlt
  refine⟨bi,g1,g2,(g3.setCell (by simp) _).setCell (by simp) _,?_,?_⟩
  ·rw[Array.getElem?_setIfInBounds,if_neg (by omega),Array.getElem?_setIfInBounds,if_neg (by omega)];exact g4
  ·rw[Array.getElem?_setIfInBounds,if_neg (by omega),Array.getElem?_setIfInBounds,if_neg (by omega)];exact g5
 ·have e:i=k:=by omega
  subst e;refine⟨bf,by omega,h1,(h3.setCell (by simp) _).setCell (by simp) _,?_,?_⟩
  ·rw[Array.getElem?_setIfInBounds,if_neg (by omega),Array.getElem?_setIfInBounds,if_pos rfl,if_pos (by omega)]
  ·rw[Array.getElem?_setIfInBounds,if_pos rfl,if_pos (by simp;omega)]
theorem ziu (kd:BA)(a:OA)(cap:Nat)(fs:List Fld)(w:World)(hw:yh w a fs)(hl:fs.length<=1048576)(hls:∀i (h:i<fs.length),fs[i].ws.length<=1048576) :
 Calls Tryz.prog 46 #[.agg #[.s kd,.l a fs.length cap]] w fun e w'=>∃bf,e=.returned (.agg #[.s kd,.l (some (aD bf 0)) fs.length fs.length])/\qW w.heap.size w' bf fs fs.length/\Bw w w':=by
 go_enter Tryz.func46,Tryz.ntmps46;go_wp2_with fail
 refine(zgT _ _ _ _ (hw.mono (((bAl _ _).alloc (by simp) _).alloc (by simp;omega) _)) hl hls).mono ?_;rintro e w1⟨rfl,hown,hb1⟩;have qr0:w1.cell? (aD (w.heap.size+1) 0)=some (.s { data:=#[] }):=(hb1.cell (p:=(aD (w.heap.size+1) 0)) (by simp)).trans (by simp[World.cell?_alloc_at,World.cell?_alloc_past]);have fr0:w1.frozen? (aD (w.heap.size+1) 0)=false:=(hb1.frozen (p:=(aD (w.heap.size+1) 0)) (by simp)).trans (by simp[World.frozen?_alloc_at,World.frozen?_alloc_past]);have qr1:w1.cell? (aD (w.heap.size+1) 1)=some (.l none 0 0):=(hb1.cell (p:=(aD (w.heap.size+1) 1)) (by simp)).trans (by simp[World.cell?_alloc_at,World.cell?_alloc_past]);have fr1:w1.frozen? (aD (w.heap.size+1) 1)=false:=(hb1.frozen (p:=(aD (w.heap.size+1) 1)) (by simp)).trans (by simp[World.frozen?_alloc_at,World.frozen?_alloc_past]);have qo0:w1.cell? (aD (w.heap.size+1+1) 0)=some (.s kd):=(hb1.cell (p:=(aD (w.heap.size+1+1) 0)) (by simp)).trans (by simp[World.cell?_alloc_at]);have fo0:w1.frozen? (aD (w.heap.size+1+1) 0)=false:=(hb1.frozen (p:=(aD (w.heap.size+1+1) 0)) (by simp)).trans (by simp[World.frozen?_alloc_at]);have qo1:w1.cell? (aD (w.heap.size+1+1) 1)=some (.l none 0 0):=(hb1.cell (p:=(aD (w.heap.size+1+1) 1)) (by simp)).trans (by simp[World.cell?_alloc_at]);have fo1:w1.frozen? (aD (w.heap.size+1+1) 1)=false:=(hb1.frozen (p:=(aD (w.heap.size+1+1) 1)) (by simp)).trans (by simp[World.frozen?_alloc_at]);have hz1:w.heap.size+1+1<w1.heap.size:=by have:=hb1.size;simp at this;omega
 go_wp2_with fail
 have hsz:(((w.alloc (.cells #[.s kd,.l a fs.length cap] 82)).alloc (.cells #[.s { data:=#[] },.l none 0 0] 113)).alloc (.cells #[.s kd,.l none 0 0] 113)).heap.size=w.heap.size+1+1+1:=by simp
 have hB1:Bw w w1:=(((bAl _ _).alloc (by simp) _).alloc (by simp;omega) _).trans (hb1.mono (by simp;omega));rw[hsz]at hown;refine bodyPost_ret (v:=.agg #[.s kd,.l (some (aD (w.heap.size+1+1+1) 0)) fs.length fs.length]) (by simp[results,Tryz.results46,go_sem,qr0,qr1]) rfl ⟨w.heap.size+1+1+1,rfl,?_,?_⟩
 ·exact(((hown.setCell (by simp) _).setCell (by simp) _).setCell (by simp) _).weaken (by omega)
 ·exact((hB1.setCell (by simp;omega) _).setCell (by simp) _).setCell (by simp) _
def zo8:AV:=#[.s ByteArray.empty,.l none 0 0]
def zmn (n:Nat):AV:=madeCells zo8 (n*2)
theorem zhy (a:OA)(cap:Nat)(ss:List Shp)(w:World)(hw:yM w a ss)(hl:ss.length<=1048576)(hls:∀i (h:i<ss.length),ss[i].fs.length<=1048576/\∀j (h':j<ss[i].fs.length),ss[i].fs[j].ws.length<=1048576) :
 Calls Tryz.prog 19 #[.l a ss.length cap] w fun e w'=>e=.returned (.l (some (aD w.heap.size 0)) ss.length ss.length)/\zaj w.heap.size w' w.heap.size ss ss.length/\Bw w w':=by
 have hmk:∀w:World,(Instr.makeSlice 39 (.i ss.length) (.i ss.length)).run Tryz.prog w=.ok (.l (some (aD w.heap.size 0)) ss.length ss.length) (w.alloc (.cells (zmn ss.length) 113)):=
  fun w=>qE (P:=Tryz.prog) 39 113 (.agg zo8) 2 40 Tryz.underlying39 (by kernel_rfl) ss.length (by omega) (by omega) w
 go_enter Tryz.func19,Tryz.ntmps19;go_wp2_with fail
 clear hmk
 go_loopw [4] (fun i wr=>∃k:Nat,k<=ss.length/\i=.i k/\zaj w.heap.size wr w.heap.size ss k/\Bw w wr) (fun i _=>ss.length-(intOf i).toNat)
 case atStart=>exact⟨0,Nat.zero_le _,rfl,⟨Nat.le_refl _,zmn ss.length,(MapKept.heap_alloc w _).1,size_madeCells _ _,fun i _ h=>absurd h (by omega)⟩,bAl _ _⟩
 case round=>
  obtain⟨k,hk,rfl,hown,hB⟩:=hrel
  by_cases hlt:k<ss.length
  ·obtain⟨b,off,rfl,hb,hr⟩:=hw.rows (by rintro rfl;simp at hlt)
   obtain⟨fa,fcap,hs0⟩:=hr k hlt;have hs:=hs0.mono hb hB;have hck:=hs.kind;have hcl:=hs.list;have hfl:=hs.flds;have HLS:=hls k hlt;have HLS':Hid (ss[k].fs.length<=1048576/\∀j (h':j<ss[k].fs.length),ss[k].fs[j].ws.length<=1048576):=HLS;have hltI:(k:Int)<(ss.length:Int):=by omega
   clear hw hr hs0 hs HLS;go_wp2_with fail
   refine(ziu _ _ _ _ _ hfl HLS'.out.1 HLS'.out.2).mono ?_;rintro e w1⟨bf,rfl,hof,hb1⟩;have hB1:=hB.trans (hb1.mono hB.size);have hown1:=hown.later hb1
   have hbo:w.heap.size<wr.heap.size:=by
    obtain⟨C',hC',_⟩:=hown.rows;exact(gES hC').1
   obtain⟨C,hC,hsz,_⟩:=hown1.rows;have hfz:∀o,w1.frozen? (aD w.heap.size o)=false:=fun o=>zm hC
   have hex:∀o,o<ss.length*2->∃v,w1.cell? (aD w.heap.size o)=some v:=fun o ho=>⟨C[o]'(by omega),by rw[cell_of_block hC];exact Array.getElem?_eq_getElem (by omega)⟩
   obtain⟨v0,hv0⟩:=hex (k*2) (by omega);obtain⟨v1,hv1⟩:=hex (k*2+1) (by omega);clear hex hC hsz hck hcl;have hlow:=hof.low;go_wp2_with fail
   exact⟨⟨k+1,by omega,by go_num,hown1.put hlt bf (by omega) (hof.weaken (by omega)),(hB1.setCell (Nat.le_refl _) _).setCell (Nat.le_refl _) _⟩,by simp[intOf];omega⟩
  ·have HF:Hid (zaj w.heap.size wr w.heap.size ss ss.length):=by
    have e:k=ss.length:=by omega
    subst e;exact hown
   clear hw hown;go_wp2_with fail
   go_ret;exact⟨rfl,HF.o,hB⟩
theorem zgW (a a':OA)(cap cap':Nat)(fs:List Fld)(w:World)(hw:yh w a fs)(hw':yh w a' fs) :
 Calls Tryz.prog 111 #[.l a fs.length cap,.l a' fs.length cap'] w fun e w'=>e=.returned (.bool true)/\Bw w w':=by
 have hl:=hw.len;unfold maxLen at hl;have hnn:((fs.length:Int) != fs.length)=false:=by simp
 go_enter Tryz.func111,Tryz.ntmps111;go_wp2_with fail
 go_loopw [5] (fun i wr=>∃k:Nat,k<=fs.length/\i=.i k/\Bw w wr) (fun i _=>fs.length-(intOf i).toNat)
 case atStart=>exact⟨0,Nat.zero_le _,rfl,bRf _ _⟩
 case round=>
  obtain⟨k,hk,rfl,hB⟩:=hrel
  by_cases hlt:k<fs.length
  ·obtain⟨b,off,rfl,hb,hr⟩:=hw.rows (by rintro rfl;simp at hlt)
   obtain⟨b',off',rfl,hb',hr'⟩:=hw'.rows (by rintro rfl;simp at hlt);obtain⟨wa,wcap,hf0⟩:=hr k hlt;obtain⟨wa',wcap',hf0'⟩:=hr' k hlt;have hf:=hf0.mono hb hB;have hf':=hf0'.mono hb' hB;obtain⟨c0,c1,c2,c3,c4,c5,c6,c7,c8,c9,c10⟩:=hf.load;obtain⟨d0,d1,d2,d3,d4,d5,d6,d7,d8,d9,d10⟩:=hf'.load;have hst:=hf.strs;have hst':=hf'.strs;have hltI:(k:Int)<(fs.length:Int):=by omega
   clear hw hw' hr hr' hf0 hf0' hf hf';go_wp2_with fail
   go_region_with (go_at_call 172;refine(ziL _ _ _ _ _ _ _ _ _ _ _ _ _ _ _ _ (by exact hst.mono ((bRf _ _).drew)) (by exact hst'.mono ((bRf _ _).drew))).mono ?_;rintro e w1⟨rfl,hb1'⟩;have hb1:=(bRf wr.heap.size wr).drew.trans hb1';clear hb1')
   all_goals go_wp2_with fail
   all_goals exact⟨⟨k+1,by omega,by go_num,hB.trans (hb1.mono hB.size)⟩,by simp[intOf];omega⟩
  ·clear hw hw'
   go_wp2_with fail
   go_ret;exact⟨rfl,hB⟩
theorem ziT (kd:BA)(a a':OA)(cap cap':Nat)(fs:List Fld)(w:World)(hw:yh w a fs)(hw':yh w a' fs) :
 Calls Tryz.prog 61 #[.agg #[.s kd,.l a fs.length cap],.agg #[.s kd,.l a' fs.length cap']] w fun e w'=>e=.returned (.bool true)/\Bw w w':=by
 go_enter Tryz.func61,Tryz.ntmps61;go_wp2_with fail
 refine(zgW _ _ _ _ _ _ (hw.mono (zx _ _ _)) (hw'.mono (zx _ _ _))).mono ?_;rintro e w1⟨rfl,hb1⟩;go_wp2_with fail
 go_ret;exact⟨rfl,(zx _ _ _).trans (hb1.mono (by simp;omega))⟩
theorem zhe (a a':OA)(cap cap':Nat)(ss:List Shp)(w:World)(hw:yM w a ss)(hw':yM w a' ss) :
 Calls Tryz.prog 26 #[.l a ss.length cap,.l a' ss.length cap'] w fun e w'=>e=.returned (.bool true)/\Bw w w':=by
 have hl:=hw.len;unfold maxLen at hl;have hnn:((ss.length:Int) != ss.length)=false:=by simp
 go_enter Tryz.func26,Tryz.ntmps26;go_wp2_with fail
 go_loopw [5] (fun i wr=>∃k:Nat,k<=ss.length/\i=.i k/\Bw w wr) (fun i _=>ss.length-(intOf i).toNat)
 case atStart=>exact⟨0,Nat.zero_le _,rfl,bRf _ _⟩
 case round=>
  obtain⟨k,hk,rfl,hB⟩:=hrel
  by_cases hlt:k<ss.length
  ·obtain⟨b,off,rfl,hb,hr⟩:=hw.rows (by rintro rfl;simp at hlt)
   obtain⟨b',off',rfl,hb',hr'⟩:=hw'.rows (by rintro rfl;simp at hlt);obtain⟨wa,wcap,hf0⟩:=hr k hlt;obtain⟨wa',wcap',hf0'⟩:=hr' k hlt;have hf:=hf0.mono hb hB;have hf':=hf0'.mono hb' hB;have c0:=hf.kind;have c1:=hf.list;have d0:=hf'.kind;have d1:=hf'.list;have hst:=hf.flds;have hst':=hf'.flds;have hltI:(k:Int)<(ss.length:Int):=by omega
   clear hw hw' hr hr' hf0 hf0' hf hf';go_wp2_with fail
   go_region_with (go_at_call 61;refine(ziT _ _ _ _ _ _ _ (by exact hst.mono ((bRf _ _).drew)) (by exact hst'.mono ((bRf _ _).drew))).mono ?_;rintro e w1⟨rfl,hb1'⟩;have hb1:=(bRf wr.heap.size wr).drew.trans hb1';clear hb1')
   all_goals go_wp2_with fail
   all_goals exact⟨⟨k+1,by omega,by go_num,hB.trans (hb1.mono hB.size)⟩,by simp[intOf];omega⟩
  ·clear hw hw'
   go_wp2_with fail
   go_ret;exact⟨rfl,hB⟩
theorem zqw {ss:List Shp}(h:(zaW ss:Int)<=1048576):ss.length<=1048576/\∀i (h:i<ss.length),ss[i].fs.length<=1048576/\∀j (h':j<ss[i].fs.length),ss[i].fs[j].ws.length<=1048576:=by
 unfold zaW at h;refine⟨by omega,fun i hi=>?_⟩;have h1:Shp.sz ss[i]<=zg4 ss:=zfp Shp.sz ss i hi;unfold Shp.sz zaP at h1;refine⟨by omega,fun j hj=>?_⟩;have h2:Fld.sz ss[i].fs[j]<=zg3 ss[i].fs:=zfp Fld.sz ss[i].fs j hj;unfold Fld.sz zaC yL at h2;omega
def Tm.cells (m:Tm):AV:=#[.s m.nm,.s m.ov]
structure Tm.Small (m:Tm):Prop where
 nm:m.nm.size<=maxLen
 ov:m.ov.size<=maxLen
structure jX (w:World)(a:OA)(ts:List Tm):Prop where
 len:ts.length<=maxLen
 small:∀i (h:i<ts.length),ts[i].Small
 rows:ts≠[]->∃b off,a=some (aD b off)/\b<w.heap.size/\∀i (h:i<ts.length),∀j,j<2->w.cell? (aD b (off+i*2+j))=ts[i].cells[j]?
theorem jX.mono {w w':World}{a:OA}{ts:List Tm}(h:jX w a ts)(hl:Bw w w'):jX w' a ts:=
 ⟨h.len,h.small,fun hne=>by
  obtain⟨b,off,ha,hb,hr⟩:=h.rows hne;exact⟨b,off,ha,nLt hb hl.size,fun i hi j hj=>(hl.cell (p:=(aD b (off+i*2+j))) hb).trans (hr i hi j hj)⟩⟩
theorem jX.load {w w':World}{a:OA}{ts:List Tm}(h:jX w a ts)(hl:Bw w w')(i:Nat)(hi:i<ts.length):∃b off,a=some (aD b off)/\b<w.heap.size /\
 w'.cell? (aD b (off+i*2))=some (.s ts[i].nm)/\w'.cell? (aD b (off+i*2+1))=some (.s ts[i].ov):=by
 obtain⟨b,off,ha,hb,hr⟩:=h.rows (by rintro rfl;simp at hi);have hc:∀j,j<2->w'.cell? (aD b (off+i*2+j))=ts[i].cells[j]?:=fun j hj=>(hl.cell (p:=(aD b (off+i*2+j))) hb).trans (hr i hi j hj)
 exact⟨b,off,ha,hb,hc 0 (by omega),hc 1 (by omega)⟩
def Tm.sz (m:Tm):Nat:=m.nm.size+m.ov.size
def ziF (ts:List Tm):Nat:=(ts.map Tm.sz).sum
def zdg (ts:List Tm):Nat:=ts.length+ziF ts
def zrc (w:World)(b o:Nat)(v0 v1:Value):World:=(w.setCell (aD b o) v0).setCell (aD b (o+1)) v1
def set2 (C:AV)(o:Nat)(v0 v1:Value):AV:=(C.setIfInBounds o v0).setIfInBounds (o+1) v1
theorem zoF {w:World}{b o:Nat}{C:AV}{t:TypeId}(h:w.heap[b]?=some (.cells C t))(v0 v1:Value):(zrc w b o v0 v1).heap[b]?=some (.cells (set2 C o v0 v1) t):=
 zi (zi h v0) v1
theorem znL {B:Nat}{a w:World}(h:Below B a w){b:Nat}(hb:B<=b)(o:Nat)(v0 v1:Value):Below B a (zrc w b o v0 v1):=
 (h.setCell hb v0).setCell hb v1
theorem zpA (C:AV)(o:Nat)(v0 v1:Value):(set2 C o v0 v1).size=C.size:=by simp[set2]
theorem zp6 (C:AV)(o i:Nat)(v0 v1:Value)(h:i<o \/ o+2<=i):(set2 C o v0 v1)[i]?=C[i]?:=by
 unfold set2
 iterate 2 rw[Array.getElem?_setIfInBounds,if_neg (by omega)]
theorem zq0 (C:AV)(o j:Nat)(v0 v1:Value)(hj:j<2)(ho:o+2<=C.size):(set2 C o v0 v1)[o+j]?=(#[v0,v1]:AV)[j]?:=by
 have hc:j=0 \/ j=1:=by omega
 unfold set2
 rcases hc with h|h <;> subst h <;> simp[Array.getElem?_setIfInBounds] <;> omega
structure zaI (ty:TypeId)(lo:Nat)(w:World)(bo:Nat)(ts:List Tm)(k:Nat):Prop where
 low:lo<=bo
 rows:∃C,w.heap[bo]?=some (.cells C ty)/\C.size=ts.length*2/\∀i (h:i<ts.length),i<k->∀j,j<2->C[i*2+j]?=ts[i].cells[j]?
theorem zaI.at {ty:TypeId}{lo:Nat}{w:World}{bo:Nat}{ts:List Tm}(h:zaI ty lo w bo ts ts.length)(hs:∀i (h:i<ts.length),ts[i].Small)(hl:ts.length<=maxLen):jX w (some (aD bo 0)) ts:=by
 obtain⟨C,hC,hsz,hr⟩:=h.rows;refine⟨hl,hs,fun _=>⟨bo,0,rfl,(gES hC).1,fun i hi j hj=>?_⟩⟩;rw[cell_of_block hC,Nat.zero_add];exact hr i hi hi j hj
theorem zaI.later {ty:TypeId}{lo:Nat}{w w':World}{bo:Nat}{ts:List Tm}{k:Nat}(h:zaI ty lo w bo ts k)(hb:Bw w w'):zaI ty lo w' bo ts k:=by
 obtain⟨C,hC,hsz,hr⟩:=h.rows;exact⟨h.low,C,(hb.block bo (gES hC).1).trans hC,hsz,hr⟩
theorem zaI.put {ty:TypeId}{lo:Nat}{w:World}{bo:Nat}{ts:List Tm}{k:Nat}(h:zaI ty lo w bo ts k)(hk:k<ts.length) :
 zaI ty lo (zrc w bo (k*2) (.s ts[k].nm) (.s ts[k].ov)) bo ts (k+1):=by
 obtain⟨C,hC,hsz,hr⟩:=h.rows;refine⟨h.low,_,zoF hC _ _,by rw[zpA];exact hsz,fun i hi hik j hj=>?_⟩
 rcases Nat.lt_or_ge i k with hlt|hge
 ·rw[zp6 _ _ _ _ _ (by omega)]
  exact hr i hi hlt j hj
 ·have e:i=k:=by omega
  subst e;rw[zq0 _ _ _ _ _ hj (by omega)]
  rfl
def zp7:AV:=#[.s ByteArray.empty,.s ByteArray.empty]
def zoU (n:Nat):AV:=madeCells zp7 (n*2)
end Go.Proofs.YtedangodjiolaaaGreat
namespace Go.Proofs.YtedangodjiolaaaGreat
structure Rl where
 vs:List Int
 kd:BA
 tm:BA
 px:BA
def za9 (v:Int):Bool:=decide (1<=v)&&decide (v<=5)
def qw (vs:List Int)(i:Nat):Bool:=za9 (vs.getD i 0)&&(decide (i=0)||decide (vs.getD (i-1) 0<vs.getD i 0))
def jm (vs:List Int):Bool:=decide (0<vs.length)&&up (qw vs) vs.length
def qL (r:Rl):Bool:=(r.kd.toList.isEmpty||zk r.kd)&&(r.tm.toList.isEmpty||zk r.tm)
def zQ (r:Rl):Bool:=qL r&&(jm r.vs&&(decide (r.px.size<=16)&&yY r.px))
end Go.Proofs.YtedangodjiolaaaGreat
namespace Go.Proofs.YtedangodjiolaaaGreat
open Go.RowKit
structure j3 (w:World)(o:Ob)(a a':OA):Prop where
 small:o.Small
 vals:zK w a o.vs
 holds:zK w a' o.hs
theorem j3.mono {w w':World}{o:Ob}{a a':OA}(h:j3 w o a a')(hb:Bw w w'):j3 w' o a a':=
 ⟨h.small,h.vals.mono hb,h.holds.mono hb⟩
theorem zcF (a:OA)(cap:Nat)(ws:List BA)(v:BA)(w:World)(hw:zK w a ws) :
 Calls Tryz.prog 182 #[.l a ws.length cap,.s v] w fun e w'=>e=.returned (.bool (has ws v))/\w'=w:=by
 have hl:=hw.len;unfold maxLen at hl
 by_cases hne:ws=[]
 ·subst hne
  go_enter Tryz.func182,Tryz.ntmps182
  go_wp2
  go_loop [5] (fun i=>i=.i 0) (fun i=>0)
  case atStart=>rfl
  case round=>
   subst hrel
   go_wp2
   go_ret;exact⟨rfl,rfl⟩
 ·obtain⟨b,off,rfl,hb,hc⟩:=hw.cells hne
  clear hw;have HL:Hid (0<ws.length):=List.length_pos_iff.2 hne;clear hne;go_enter Tryz.func182,Tryz.ntmps182
  go_wp2
  go_loop [5] (fun i=>∃k:Nat,k<=ws.length/\i=.i k/\has (ws.take k) v=false) (fun i=>ws.length-(intOf i).toNat)
  case atStart=>exact⟨0,Nat.zero_le _,rfl,rfl⟩
  case round=>
   obtain⟨k,hk,rfl,hall⟩:=hrel
   by_cases hlt:k<ws.length
   ·have hck:=hc k hlt
    clear hc;have HS:Hid (has (ws.take (k+1)) v=(false||decide (ws[k]=v))):=by rw[znc ws v k hlt,hall];rfl
    have HN:Hid (ws[k]=v->has ws v=true):=fun h=>zqx ws v k hlt h
    clear hall
    by_cases he:ws[k]=v
    ·have hbe:(ws[k].toList == v.toList)=true:=by rw[beq_toList];simpa using he
     have HE:Hid (ws[k]=v):=he;clear he
     go_wp2
     go_ret;exact⟨ze (HN.o HE.o).symm,rfl⟩
    ·have hbe:(ws[k].toList == v.toList)=false:=by rw[beq_toList];simpa using he
     have HE:Hid (¬ws[k]=v):=he;clear he
     go_wp2
     go_round
     case rel=>exact⟨k+1,by omega,by go_num,by rw[HS.o,decide_eq_false HE.o];rfl⟩
     case measure=>simp[intOf];omega
   ·have HA:Hid (has ws v=false):=by rw[<- zoT ws v k (by omega)];exact hall
    clear hall hc
    go_wp2
    go_ret;exact⟨ze HA.o.symm,rfl⟩
end Go.Proofs.YtedangodjiolaaaGreat
namespace Go.Proofs.YtedangodjiolaaaGreat
open Go.ChangeShapes Go.WideShapes Go.ChangeAt Go.RowKit
theorem Tryz.zlk:Tryz.prog.cellsOf 85=6:=by kernel_rfl
section
variable {H:Type} {enc:TypeId × Value->H} {w:World} {base:Nat} {spare:Nat->Bool} {held:Bool}
theorem zpB {fuel:Nat}{cs:List Value}{x:DataW H × List MemPlace}(h:DataW.trod enc Tryz.prog w base spare held fuel 85 cs=some x) :
 ∃m:Mnd,cs=m.cells.toList/\m.Small:=by
 have hlen:cs.length=6:=by
  obtain⟨_,_,_,_,hl,_,_⟩:=DataW.trod_struct Tryz.underlying85 h;rw[hl];exact Tryz.zlk
 match cs,hlen with
 | [c0,c1,c2,c3,c4,c5],_=>
  have hf:=jd Tryz.underlying85 h;obtain⟨_,_,f0⟩:=hf 0 9 0 c0 rfl Tryz.zL rfl;obtain⟨_,_,f1⟩:=hf 1 9 1 c1 rfl Tryz.zL rfl;obtain⟨_,_,f2⟩:=hf 2 9 2 c2 rfl Tryz.zL rfl;obtain⟨_,_,f3⟩:=hf 3 9 3 c3 rfl Tryz.zL rfl;obtain⟨_,_,f4⟩:=hf 4 9 4 c4 rfl Tryz.zL rfl;obtain⟨_,_,f5⟩:=hf 5 9 5 c5 rfl Tryz.zL rfl;obtain⟨x0,e0,_,s0⟩:=DataW.trod_string Tryz.underlying9 f0;obtain⟨x1,e1,_,s1⟩:=DataW.trod_string Tryz.underlying9 f1;obtain⟨x2,e2,_,s2⟩:=DataW.trod_string Tryz.underlying9 f2;obtain⟨x3,e3,_,s3⟩:=DataW.trod_string Tryz.underlying9 f3;obtain⟨x4,e4,_,s4⟩:=DataW.trod_string Tryz.underlying9 f4;obtain⟨x5,e5,_,s5⟩:=DataW.trod_string Tryz.underlying9 f5;simp only[List.cons.injEq,and_true]at e0 e1 e2 e3 e4 e5;subst e0 e1 e2 e3 e4 e5;exact⟨⟨x0,x1,x2,x3,x4,x5⟩,rfl,s0,s1,s2,s3,s4,s5⟩
theorem zoC {fuel:Nat}{cs:List Value}{x:DataW H × List MemPlace}(h:DataW.trod enc Tryz.prog w base spare held fuel 23 cs=some x) :
 ∃a cap ms,cs=[.l a (List.length ms) cap]/\qM w a ms:=by
 obtain⟨a,len,cap,rfl,hm,hr⟩:=j6 Tryz.underlying23 Tryz.zlk (by omega) h
 rcases Nat.eq_zero_or_pos len with h0|hp
 ·subst h0
  exact⟨a,cap,[],rfl,⟨by simp[maxLen],fun i h=>absurd h (by simp),fun h=>absurd rfl h⟩⟩
 ·obtain⟨b,off,rfl,hb,hrow⟩:=hr hp
  have hf:∀i,i<len->∃m:Mnd,m.Small/\∀j,j<6->w.cell? (aD b (off+i*6+j))=m.cells[j]?:=by
   intro i hi;obtain⟨es,n,y,hel,hcell,hy⟩:=hrow i hi;obtain⟨m,rfl,hs⟩:=zpB hy;exact⟨m,hs,fun j hj=>by rw[hcell j hj];simp⟩
  obtain⟨ms,hl,hms⟩:=za1 len hf;exact⟨_,cap,ms,by rw[hl],⟨by omega,fun i hi=>(hms i hi).1,fun _=>⟨b,off,rfl,hb,fun i hi=>(hms i hi).2⟩⟩⟩
end
end Go.Proofs.YtedangodjiolaaaGreat
