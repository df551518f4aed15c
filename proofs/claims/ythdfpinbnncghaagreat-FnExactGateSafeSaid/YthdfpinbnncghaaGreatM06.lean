import Derived.Test.YthdfpinbnncghaaGreatM05
import Derived.Deep.RegionWith
set_option maxHeartbeats 2000000
namespace Go.Proofs.YthdfpinbnncghaaGreat
open Go.RowKit
structure jl (lo:Nat)(w:World)(bo:Nat)(fs:List Fld)(k:Nat):Prop where
 low:lo<=bo
 rows:∃C,w.heap[bo]?=some (.cells C 182)/\C.size=fs.length*11 /\
  ∀i (h:i<fs.length),i<k->∃bk,lo<=bk/\bk≠bo/\w.heap[bk]?=some (.cells (jO fs[i].ws) 9)/\∀j,j<11->C[i*11+j]?=(fs[i].cells (some (aD bk 0)) fs[i].ws.length)[j]?
theorem jl.at {lo:Nat}{w:World}{bo:Nat}{fs:List Fld}(h:jl lo w bo fs fs.length)(hs:zcf fs)(hl:fs.length<=maxLen):yj w (some (aD bo 0)) fs:=by
 obtain⟨C,hC,hsz,hr⟩:=h.rows;refine⟨hl,fun _=>⟨bo,0,rfl,(gES hC).1,fun i hi=>?_⟩⟩;obtain⟨bk,_,_,hk,hc⟩:=hr i hi hi;obtain⟨s1,s2,s3⟩:=hs.small i hi;refine⟨some (aD bk 0),fs[i].ws.length,s1,zca hk s2 s3,fun j hj=>?_⟩;rw[cell_of_block hC,Nat.zero_add];exact hc j hj
theorem jl.later {lo:Nat}{w w':World}{bo:Nat}{fs:List Fld}{k:Nat}(h:jl lo w bo fs k)(hb:Bw w w'):jl lo w' bo fs k:=by
 obtain⟨C,hC,hsz,hr⟩:=h.rows;refine⟨h.low,C,(hb.block bo (gES hC).1).trans hC,hsz,fun i hi hk=>?_⟩;obtain⟨bk,h1,h2,h3,h4⟩:=hr i hi hk;exact⟨bk,h1,h2,(hb.block bk (gES h3).1).trans h3,h4⟩
theorem jl.put {lo:Nat}{w:World}{bo:Nat}{fs:List Fld}{k:Nat}(h:jl lo w bo fs k)(hk:k<fs.length)(bk:Nat)(h1:lo<=bk)(h2:bk≠bo)(h3:w.heap[bk]?=some (.cells (jO fs[k].ws) 9)) :
 jl lo (zol w bo (k*11) (.s fs[k].nm) (.i fs[k].kd) (.i fs[k].ls) (.i fs[k].ms) (.l (some (aD bk 0)) fs[k].ws.length fs[k].ws.length) (.s fs[k].to) (.i fs[k].rl) (.bool fs[k].mu) (.bool fs[k].fx) (.s fs[k].df) (.s fs[k].wg)) bo fs (k+1):=by
 obtain⟨C,hC,hsz,hr⟩:=h.rows;refine⟨h.low,_,zom hC _ _ _ _ _ _ _ _ _ _ _,by rw[zpc];exact hsz,fun i hi hik=>?_⟩
 rcases Nat.lt_or_ge i k with hlt|hge
 ·obtain⟨bi,g1,g2,g3,g4⟩:=hr i hi hlt
  refine⟨bi,g1,g2,by rw[zio _ _ _ _ g2];exact g3,fun j hj=>?_⟩;rw[zqF _ _ _ _ _ _ _ _ _ _ _ _ _ _ (by omega)];exact g4 j hj
 ·have e:i=k:=by omega
  subst e;refine⟨bk,h1,h2,by rw[zio _ _ _ _ h2];exact h3,fun j hj=>?_⟩;rw[zrP _ _ _ _ _ _ _ _ _ _ _ _ _ _ hj (by omega)]
  rfl
def zp4:AV:=#[.s ByteArray.empty,.i 0,.i 0,.i 0,.l none 0 0,.s ByteArray.empty,.i 0,.bool false,.bool false,.s ByteArray.empty,.s ByteArray.empty]
def zot (n:Nat):AV:=madeCells zp4 (n*11)
theorem zhZ (a:OA)(cap:Nat)(fs:List Fld)(w:World)(hw:yj w a fs)(hl:fs.length<=1048576)(hls:∀i (h:i<fs.length),fs[i].ws.length<=1048576) :
 Calls Tryz.prog 108 #[.l a fs.length cap] w fun e w'=>e=.returned (.l (some (aD w.heap.size 0)) fs.length fs.length)/\jl w.heap.size w' w.heap.size fs fs.length/\Bw w w':=by
 have hmk:∀w:World,(Instr.makeSlice 137 (.i fs.length) (.i fs.length)).run Tryz.prog w=.ok (.l (some (aD w.heap.size 0)) fs.length fs.length) (w.alloc (.cells (zot fs.length) 182)):=
  fun w=>qN (P:=Tryz.prog) 137 182 (.agg zp4) 11 128 Tryz.underlying137 (by kernel_rfl) fs.length (by omega) (by omega) w
 go_enter Tryz.func108,Tryz.ntmps108;go_wp2_with fail
 clear hmk
 go_loopw [4] (fun i wr=>∃k:Nat,k<=fs.length/\i=.i k/\jl w.heap.size wr w.heap.size fs k/\Bw w wr) (fun i _=>fs.length-(intOf i).toNat)
 case atStart=>exact⟨0,Nat.zero_le _,rfl,⟨Nat.le_refl _,zot fs.length,(MapKept.heap_alloc w _).1,size_madeCells _ _,fun i _ h=>absurd h (by omega)⟩,bAl _ _⟩
 case round=>
  obtain⟨k,hk,rfl,hown,hB⟩:=hrel
  by_cases hlt:k<fs.length
  ·obtain⟨b,off,rfl,hb,hr⟩:=hw.rows (by rintro rfl;simp at hlt)
   obtain⟨wa,wcap,hf0⟩:=hr k hlt;have hf:=hf0.mono hb hB;obtain⟨c0,c1,c2,c3,c4,c5,c6,c7,c8,c9,c10⟩:=hf.load;have hst:=hf.strs;have HLS:Hid (fs[k].ws.length<=1048576):=hls k hlt;have hltI:(k:Int)<(fs.length:Int):=by omega
   clear hw hr hf0 hf;go_wp2_with fail
   refine(zi7 _ _ _ _ _ _ _ _ _ _ _ _ _ _ hst HLS.o).mono ?_;rintro e w1⟨bk,rfl,hlo,hhi,hbk,hb1⟩;have hB1:=hB.trans (hb1.mono hB.size);have hown1:=hown.later hb1;obtain⟨C,hC,hsz,_⟩:=hown1.rows;have hfz:∀o,w1.frozen? (aD w.heap.size o)=false:=fun o=>zl hC
   have hex:∀o,o<fs.length*11->∃v,w1.cell? (aD w.heap.size o)=some v:=fun o ho=>⟨C[o]'(by omega),by rw[cell_of_block hC];exact Array.getElem?_eq_getElem (by omega)⟩
   obtain⟨v0,hv0⟩:=hex (k*11) (by omega);obtain⟨v1,hv1⟩:=hex (k*11+1) (by omega);obtain⟨v2,hv2⟩:=hex (k*11+2) (by omega);obtain⟨v3,hv3⟩:=hex (k*11+3) (by omega);obtain⟨v4,hv4⟩:=hex (k*11+4) (by omega);obtain⟨v5,hv5⟩:=hex (k*11+5) (by omega);obtain⟨v6,hv6⟩:=hex (k*11+6) (by omega);obtain⟨v7,hv7⟩:=hex (k*11+7) (by omega);obtain⟨v8,hv8⟩:=hex (k*11+8) (by omega);obtain⟨v9,hv9⟩:=hex (k*11+9) (by omega);obtain⟨v10,hv10⟩:=hex (k*11+10) (by omega);clear hex hC hsz c0 c1 c2 c3 c4 c5 c6 c7 c8 c9 c10
   have hbo:w.heap.size<wr.heap.size:=by
    obtain⟨C',hC',_⟩:=hown.rows;exact(gES hC').1
   go_wp2_with fail
   exact⟨⟨k+1,by omega,by go_num,hown1.put hlt bk (by omega) (by omega) hbk,znB hB1 (Nat.le_refl _) _ _ _ _ _ _ _ _ _ _ _ _⟩,by simp[intOf];omega⟩
  ·have HF:Hid (jl w.heap.size wr w.heap.size fs fs.length):=by
    have e:k=fs.length:=by omega
    subst e;exact hown
   clear hw hown;go_wp2_with fail
   go_ret;exact⟨rfl,HF.o,hB⟩
structure zao (lo:Nat)(w:World)(bo:Nat)(ss:List Shp)(k:Nat):Prop where
 low:lo<=bo
 rows:∃C,w.heap[bo]?=some (.cells C 139)/\C.size=ss.length*2 /\
  ∀i (h:i<ss.length),i<k->∃bf,lo<=bf/\bo<bf/\jl (bo+1) w bf ss[i].fs ss[i].fs.length/\C[i*2]?=some (.s ss[i].kd)/\C[i*2+1]?=some (.l (some (aD bf 0)) ss[i].fs.length ss[i].fs.length)
theorem zao.at {lo:Nat}{w:World}{bo:Nat}{ss:List Shp}(h:zao lo w bo ss ss.length)(hs:zdQ ss)(hl:ss.length<=maxLen):yR w (some (aD bo 0)) ss:=by
 obtain⟨C,hC,hsz,hr⟩:=h.rows;refine⟨hl,fun _=>⟨bo,0,rfl,(gES hC).1,fun i hi=>?_⟩⟩;obtain⟨bf,_,_,hf,h1,h2⟩:=hr i hi hi;obtain⟨s1,s2,s3⟩:=hs.small i hi;refine⟨some (aD bf 0),ss[i].fs.length,s1,hf.at s3 s2,?_,?_⟩
 ·rw[cell_of_block hC,Nat.zero_add];exact h1
 ·rw[cell_of_block hC,Nat.zero_add];exact h2
theorem zao.later {lo:Nat}{w w':World}{bo:Nat}{ss:List Shp}{k:Nat}(h:zao lo w bo ss k)(hb:Bw w w'):zao lo w' bo ss k:=by
 obtain⟨C,hC,hsz,hr⟩:=h.rows;refine⟨h.low,C,(hb.block bo (gES hC).1).trans hC,hsz,fun i hi hk=>?_⟩;obtain⟨bf,h1,h2,h3,h4⟩:=hr i hi hk;exact⟨bf,h1,h2,h3.later hb,h4⟩
theorem jl.setCell {lo:Nat}{w:World}{bf:Nat}{fs:List Fld}{k:Nat}(h:jl lo w bf fs k){p:Addr}(hp:p.block<lo)(v:Value):jl lo (w.setCell p v) bf fs k:=by
 obtain⟨C,hC,hsz,hr⟩:=h.rows;have hl:=h.low;refine⟨h.low,C,by rw[Below.heap_setCell _ _ _ _ (by omega)];exact hC,hsz,fun i hi hk=>?_⟩;obtain⟨bk,h1,h2,h3,h4⟩:=hr i hi hk;exact⟨bk,h1,h2,by rw[Below.heap_setCell _ _ _ _ (by omega)];exact h3,h4⟩
theorem jl.weaken {lo lo':Nat}{w:World}{bf:Nat}{fs:List Fld}{k:Nat}(h:jl lo w bf fs k)(hl:lo'<=lo):jl lo' w bf fs k:=by
 obtain⟨C,hC,hsz,hr⟩:=h.rows;refine⟨Nat.le_trans hl h.low,C,hC,hsz,fun i hi hk=>?_⟩;obtain⟨bk,h1,h2⟩:=hr i hi hk;exact⟨bk,Nat.le_trans hl h1,h2⟩
theorem zao.put {lo:Nat}{w:World}{bo:Nat}{ss:List Shp}{k:Nat}(h:zao lo w bo ss k)(hk:k<ss.length)(bf:Nat)(h1:bo<bf)(h3:jl (bo+1) w bf ss[k].fs ss[k].fs.length) :
 zao lo ((w.setCell (aD bo (k*2)) (.s ss[k].kd)).setCell (aD bo (k*2+1)) (.l (some (aD bf 0)) ss[k].fs.length ss[k].fs.length)) bo ss (k+1):=by
 obtain⟨C,hC,hsz,hr⟩:=h.rows;have hl:=h.low;refine⟨h.low,_,zh (zh hC _) _,by simp[hsz],fun i hi hik=>?_⟩
 rcases Nat.lt_or_ge i k with hlt|hge
 ·obtain⟨bi,g1,g2,g3,g4,g5⟩:=hr i hi hlt
  refine⟨bi,g1,g2,(g3.setCell (by simp) _).setCell (by simp) _,?_,?_⟩
  ·rw[Array.getElem?_setIfInBounds,if_neg (by omega),Array.getElem?_setIfInBounds,if_neg (by omega)];exact g4
  ·rw[Array.getElem?_setIfInBounds,if_neg (by omega),Array.getElem?_setIfInBounds,if_neg (by omega)];exact g5
 ·have e:i=k:=by omega
  subst e;refine⟨bf,by omega,h1,(h3.setCell (by simp) _).setCell (by simp) _,?_,?_⟩
  ·rw[Array.getElem?_setIfInBounds,if_neg (by omega),Array.getElem?_setIfInBounds,if_pos rfl,if_pos (by omega)]
  ·rw[Array.getElem?_setIfInBounds,if_pos rfl,if_pos (by simp;omega)]
theorem zjo (kd:BA)(a:OA)(cap:Nat)(fs:List Fld)(w:World)(hw:yj w a fs)(hl:fs.length<=1048576)(hls:∀i (h:i<fs.length),fs[i].ws.length<=1048576) :
 Calls Tryz.prog 65 #[.agg #[.s kd,.l a fs.length cap]] w fun e w'=>∃bf,e=.returned (.agg #[.s kd,.l (some (aD bf 0)) fs.length fs.length])/\jl w.heap.size w' bf fs fs.length/\Bw w w':=by
 go_enter Tryz.func65,Tryz.ntmps65;go_wp2_with fail
 refine(zhZ _ _ _ _ (hw.mono (((bAl _ _).alloc (by simp) _).alloc (by simp;omega) _)) hl hls).mono ?_;rintro e w1⟨rfl,hown,hb1⟩;have qr0:w1.cell? (aD (w.heap.size+1) 0)=some (.s { data:=#[] }):=(hb1.cell (p:=(aD (w.heap.size+1) 0)) (by simp)).trans (by simp[World.cell?_alloc_at,World.cell?_alloc_past]);have fr0:w1.frozen? (aD (w.heap.size+1) 0)=false:=(hb1.frozen (p:=(aD (w.heap.size+1) 0)) (by simp)).trans (by simp[World.frozen?_alloc_at,World.frozen?_alloc_past]);have qr1:w1.cell? (aD (w.heap.size+1) 1)=some (.l none 0 0):=(hb1.cell (p:=(aD (w.heap.size+1) 1)) (by simp)).trans (by simp[World.cell?_alloc_at,World.cell?_alloc_past]);have fr1:w1.frozen? (aD (w.heap.size+1) 1)=false:=(hb1.frozen (p:=(aD (w.heap.size+1) 1)) (by simp)).trans (by simp[World.frozen?_alloc_at,World.frozen?_alloc_past]);have qo0:w1.cell? (aD (w.heap.size+1+1) 0)=some (.s kd):=(hb1.cell (p:=(aD (w.heap.size+1+1) 0)) (by simp)).trans (by simp[World.cell?_alloc_at]);have fo0:w1.frozen? (aD (w.heap.size+1+1) 0)=false:=(hb1.frozen (p:=(aD (w.heap.size+1+1) 0)) (by simp)).trans (by simp[World.frozen?_alloc_at]);have qo1:w1.cell? (aD (w.heap.size+1+1) 1)=some (.l none 0 0):=(hb1.cell (p:=(aD (w.heap.size+1+1) 1)) (by simp)).trans (by simp[World.cell?_alloc_at]);have fo1:w1.frozen? (aD (w.heap.size+1+1) 1)=false:=(hb1.frozen (p:=(aD (w.heap.size+1+1) 1)) (by simp)).trans (by simp[World.frozen?_alloc_at]);have hz1:w.heap.size+1+1<w1.heap.size:=by have:=hb1.size;simp at this;omega
 go_wp2_with fail
 have hsz:(((w.alloc (.cells #[.s kd,.l a fs.length cap] 102)).alloc (.cells #[.s { data:=#[] },.l none 0 0] 139)).alloc (.cells #[.s kd,.l none 0 0] 139)).heap.size=w.heap.size+1+1+1:=by simp
 have hB1:Bw w w1:=(((bAl _ _).alloc (by simp) _).alloc (by simp;omega) _).trans (hb1.mono (by simp;omega));rw[hsz]at hown;refine bodyPost_ret (v:=.agg #[.s kd,.l (some (aD (w.heap.size+1+1+1) 0)) fs.length fs.length]) (by simp[results,Tryz.results65,go_sem,qr0,qr1]) rfl ⟨w.heap.size+1+1+1,rfl,?_,?_⟩
 ·exact(((hown.setCell (by simp) _).setCell (by simp) _).setCell (by simp) _).weaken (by omega)
 ·exact((hB1.setCell (by simp;omega) _).setCell (by simp) _).setCell (by simp) _
def zpW:AV:=#[.s ByteArray.empty,.l none 0 0]
def znu (n:Nat):AV:=madeCells zpW (n*2)
theorem zh9 (a:OA)(cap:Nat)(ss:List Shp)(w:World)(hw:yR w a ss)(hl:ss.length<=1048576)(hls:∀i (h:i<ss.length),ss[i].fs.length<=1048576/\∀j (h':j<ss[i].fs.length),ss[i].fs[j].ws.length<=1048576) :
 Calls Tryz.prog 26 #[.l a ss.length cap] w fun e w'=>e=.returned (.l (some (aD w.heap.size 0)) ss.length ss.length)/\zao w.heap.size w' w.heap.size ss ss.length/\Bw w w':=by
 have hmk:∀w:World,(Instr.makeSlice 40 (.i ss.length) (.i ss.length)).run Tryz.prog w=.ok (.l (some (aD w.heap.size 0)) ss.length ss.length) (w.alloc (.cells (znu ss.length) 139)):=
  fun w=>qN (P:=Tryz.prog) 40 139 (.agg zpW) 2 40 Tryz.underlying40 (by kernel_rfl) ss.length (by omega) (by omega) w
 go_enter Tryz.func26,Tryz.ntmps26;go_wp2_with fail
 clear hmk
 go_loopw [4] (fun i wr=>∃k:Nat,k<=ss.length/\i=.i k/\zao w.heap.size wr w.heap.size ss k/\Bw w wr) (fun i _=>ss.length-(intOf i).toNat)
 case atStart=>exact⟨0,Nat.zero_le _,rfl,⟨Nat.le_refl _,znu ss.length,(MapKept.heap_alloc w _).1,size_madeCells _ _,fun i _ h=>absurd h (by omega)⟩,bAl _ _⟩
 case round=>
  obtain⟨k,hk,rfl,hown,hB⟩:=hrel
  by_cases hlt:k<ss.length
  ·obtain⟨b,off,rfl,hb,hr⟩:=hw.rows (by rintro rfl;simp at hlt)
   obtain⟨fa,fcap,hs0⟩:=hr k hlt;have hs:=hs0.mono hb hB;have hck:=hs.kind;have hcl:=hs.list;have hfl:=hs.flds;have HLS:=hls k hlt;have HLS':Hid (ss[k].fs.length<=1048576/\∀j (h':j<ss[k].fs.length),ss[k].fs[j].ws.length<=1048576):=HLS;have hltI:(k:Int)<(ss.length:Int):=by omega
   clear hw hr hs0 hs HLS;go_wp2_with fail
   refine(zjo _ _ _ _ _ hfl HLS'.out.1 HLS'.out.2).mono ?_;rintro e w1⟨bf,rfl,hof,hb1⟩;have hB1:=hB.trans (hb1.mono hB.size);have hown1:=hown.later hb1
   have hbo:w.heap.size<wr.heap.size:=by
    obtain⟨C',hC',_⟩:=hown.rows;exact(gES hC').1
   obtain⟨C,hC,hsz,_⟩:=hown1.rows;have hfz:∀o,w1.frozen? (aD w.heap.size o)=false:=fun o=>zl hC
   have hex:∀o,o<ss.length*2->∃v,w1.cell? (aD w.heap.size o)=some v:=fun o ho=>⟨C[o]'(by omega),by rw[cell_of_block hC];exact Array.getElem?_eq_getElem (by omega)⟩
   obtain⟨v0,hv0⟩:=hex (k*2) (by omega);obtain⟨v1,hv1⟩:=hex (k*2+1) (by omega);clear hex hC hsz hck hcl;have hlow:=hof.low;go_wp2_with fail
   exact⟨⟨k+1,by omega,by go_num,hown1.put hlt bf (by omega) (hof.weaken (by omega)),(hB1.setCell (Nat.le_refl _) _).setCell (Nat.le_refl _) _⟩,by simp[intOf];omega⟩
  ·have HF:Hid (zao w.heap.size wr w.heap.size ss ss.length):=by
    have e:k=ss.length:=by omega
    subst e;exact hown
   clear hw hown;go_wp2_with fail
   go_ret;exact⟨rfl,HF.o,hB⟩
theorem zhH (a a':OA)(cap cap':Nat)(fs:List Fld)(w:World)(hw:yj w a fs)(hw':yj w a' fs) :
 Calls Tryz.prog 126 #[.l a fs.length cap,.l a' fs.length cap'] w fun e w'=>e=.returned (.bool true)/\Bw w w':=by
 have hl:=hw.len;unfold maxLen at hl;have hnn:((fs.length:Int) != fs.length)=false:=by simp
 go_enter Tryz.func126,Tryz.ntmps126;go_wp2_with fail
 go_loopw [5] (fun i wr=>∃k:Nat,k<=fs.length/\i=.i k/\Bw w wr) (fun i _=>fs.length-(intOf i).toNat)
 case atStart=>exact⟨0,Nat.zero_le _,rfl,bRf _ _⟩
 case round=>
  obtain⟨k,hk,rfl,hB⟩:=hrel
  by_cases hlt:k<fs.length
  ·obtain⟨b,off,rfl,hb,hr⟩:=hw.rows (by rintro rfl;simp at hlt)
   obtain⟨b',off',rfl,hb',hr'⟩:=hw'.rows (by rintro rfl;simp at hlt);obtain⟨wa,wcap,hf0⟩:=hr k hlt;obtain⟨wa',wcap',hf0'⟩:=hr' k hlt;have hf:=hf0.mono hb hB;have hf':=hf0'.mono hb' hB;obtain⟨c0,c1,c2,c3,c4,c5,c6,c7,c8,c9,c10⟩:=hf.load;obtain⟨d0,d1,d2,d3,d4,d5,d6,d7,d8,d9,d10⟩:=hf'.load;have hst:=hf.strs;have hst':=hf'.strs;have hltI:(k:Int)<(fs.length:Int):=by omega
   clear hw hw' hr hr' hf0 hf0' hf hf';go_wp2_with fail
   go_region_with (go_at_call 183;refine(zjm _ _ _ _ _ _ _ _ _ _ _ _ _ _ _ _ (by exact hst.mono ((bRf _ _).drew)) (by exact hst'.mono ((bRf _ _).drew))).mono ?_;rintro e w1⟨rfl,hb1'⟩;have hb1:=(bRf wr.heap.size wr).drew.trans hb1';clear hb1')
   all_goals go_wp2_with fail
   all_goals exact⟨⟨k+1,by omega,by go_num,hB.trans (hb1.mono hB.size)⟩,by simp[intOf];omega⟩
  ·clear hw hw'
   go_wp2_with fail
   go_ret;exact⟨rfl,hB⟩
theorem zjb (kd:BA)(a a':OA)(cap cap':Nat)(fs:List Fld)(w:World)(hw:yj w a fs)(hw':yj w a' fs) :
 Calls Tryz.prog 79 #[.agg #[.s kd,.l a fs.length cap],.agg #[.s kd,.l a' fs.length cap']] w fun e w'=>e=.returned (.bool true)/\Bw w w':=by
 go_enter Tryz.func79,Tryz.ntmps79;go_wp2_with fail
 refine(zhH _ _ _ _ _ _ (hw.mono (zx _ _ _)) (hw'.mono (zx _ _ _))).mono ?_;rintro e w1⟨rfl,hb1⟩;go_wp2_with fail
 go_ret;exact⟨rfl,(zx _ _ _).trans (hb1.mono (by simp;omega))⟩
theorem zhU (a a':OA)(cap cap':Nat)(ss:List Shp)(w:World)(hw:yR w a ss)(hw':yR w a' ss) :
 Calls Tryz.prog 40 #[.l a ss.length cap,.l a' ss.length cap'] w fun e w'=>e=.returned (.bool true)/\Bw w w':=by
 have hl:=hw.len;unfold maxLen at hl;have hnn:((ss.length:Int) != ss.length)=false:=by simp
 go_enter Tryz.func40,Tryz.ntmps40;go_wp2_with fail
 go_loopw [5] (fun i wr=>∃k:Nat,k<=ss.length/\i=.i k/\Bw w wr) (fun i _=>ss.length-(intOf i).toNat)
 case atStart=>exact⟨0,Nat.zero_le _,rfl,bRf _ _⟩
 case round=>
  obtain⟨k,hk,rfl,hB⟩:=hrel
  by_cases hlt:k<ss.length
  ·obtain⟨b,off,rfl,hb,hr⟩:=hw.rows (by rintro rfl;simp at hlt)
   obtain⟨b',off',rfl,hb',hr'⟩:=hw'.rows (by rintro rfl;simp at hlt);obtain⟨wa,wcap,hf0⟩:=hr k hlt;obtain⟨wa',wcap',hf0'⟩:=hr' k hlt;have hf:=hf0.mono hb hB;have hf':=hf0'.mono hb' hB;have c0:=hf.kind;have c1:=hf.list;have d0:=hf'.kind;have d1:=hf'.list;have hst:=hf.flds;have hst':=hf'.flds;have hltI:(k:Int)<(ss.length:Int):=by omega
   clear hw hw' hr hr' hf0 hf0' hf hf';go_wp2_with fail
   go_region_with (go_at_call 79;refine(zjb _ _ _ _ _ _ _ (by exact hst.mono ((bRf _ _).drew)) (by exact hst'.mono ((bRf _ _).drew))).mono ?_;rintro e w1⟨rfl,hb1'⟩;have hb1:=(bRf wr.heap.size wr).drew.trans hb1';clear hb1')
   all_goals go_wp2_with fail
   all_goals exact⟨⟨k+1,by omega,by go_num,hB.trans (hb1.mono hB.size)⟩,by simp[intOf];omega⟩
  ·clear hw hw'
   go_wp2_with fail
   go_ret;exact⟨rfl,hB⟩
theorem zqZ {ss:List Shp}(h:(zaR ss:Int)<=1048576):ss.length<=1048576/\∀i (h:i<ss.length),ss[i].fs.length<=1048576/\∀j (h':j<ss[i].fs.length),ss[i].fs[j].ws.length<=1048576:=by
 unfold zaR at h;refine⟨by omega,fun i hi=>?_⟩;have h1:Shp.sz ss[i]<=zhI ss:=zfB Shp.sz ss i hi;unfold Shp.sz zaU at h1;refine⟨by omega,fun j hj=>?_⟩;have h2:Fld.sz ss[i].fs[j]<=zhp ss[i].fs:=zfB Fld.sz ss[i].fs j hj;unfold Fld.sz zaG yQ at h2;omega
def Tm.cells (m:Tm):AV:=#[.s m.nm,.s m.ov]
structure Tm.Small (m:Tm):Prop where
 nm:m.nm.size<=maxLen
 ov:m.ov.size<=maxLen
structure jB (w:World)(a:OA)(ts:List Tm):Prop where
 len:ts.length<=maxLen
 small:∀i (h:i<ts.length),ts[i].Small
 rows:ts≠[]->∃b off,a=some (aD b off)/\b<w.heap.size/\∀i (h:i<ts.length),∀j,j<2->w.cell? (aD b (off+i*2+j))=ts[i].cells[j]?
theorem jB.mono {w w':World}{a:OA}{ts:List Tm}(h:jB w a ts)(hl:Bw w w'):jB w' a ts:=
 ⟨h.len,h.small,fun hne=>by
  obtain⟨b,off,ha,hb,hr⟩:=h.rows hne;exact⟨b,off,ha,nLt hb hl.size,fun i hi j hj=>(hl.cell (p:=(aD b (off+i*2+j))) hb).trans (hr i hi j hj)⟩⟩
theorem jB.load {w w':World}{a:OA}{ts:List Tm}(h:jB w a ts)(hl:Bw w w')(i:Nat)(hi:i<ts.length):∃b off,a=some (aD b off)/\b<w.heap.size /\
 w'.cell? (aD b (off+i*2))=some (.s ts[i].nm)/\w'.cell? (aD b (off+i*2+1))=some (.s ts[i].ov):=by
 obtain⟨b,off,ha,hb,hr⟩:=h.rows (by rintro rfl;simp at hi);have hc:∀j,j<2->w'.cell? (aD b (off+i*2+j))=ts[i].cells[j]?:=fun j hj=>(hl.cell (p:=(aD b (off+i*2+j))) hb).trans (hr i hi j hj)
 exact⟨b,off,ha,hb,hc 0 (by omega),hc 1 (by omega)⟩
def Tm.sz (m:Tm):Nat:=m.nm.size+m.ov.size
def ziY (ts:List Tm):Nat:=(ts.map Tm.sz).sum
def zdv (ts:List Tm):Nat:=ts.length+ziY ts
def zss (w:World)(b o:Nat)(v0 v1:Value):World:=(w.setCell (aD b o) v0).setCell (aD b (o+1)) v1
def set2 (C:AV)(o:Nat)(v0 v1:Value):AV:=(C.setIfInBounds o v0).setIfInBounds (o+1) v1
theorem zo4 {w:World}{b o:Nat}{C:AV}{t:TypeId}(h:w.heap[b]?=some (.cells C t))(v0 v1:Value):(zss w b o v0 v1).heap[b]?=some (.cells (set2 C o v0 v1) t):=
 zh (zh h v0) v1
theorem zpO {B:Nat}{a w:World}(h:Below B a w){b:Nat}(hb:B<=b)(o:Nat)(v0 v1:Value):Below B a (zss w b o v0 v1):=
 (h.setCell hb v0).setCell hb v1
theorem zqE (C:AV)(o:Nat)(v0 v1:Value):(set2 C o v0 v1).size=C.size:=by simp[set2]
theorem zry (C:AV)(o i:Nat)(v0 v1:Value)(h:i<o \/ o+2<=i):(set2 C o v0 v1)[i]?=C[i]?:=by
 unfold set2
 iterate 2 rw[Array.getElem?_setIfInBounds,if_neg (by omega)]
theorem zsf (C:AV)(o j:Nat)(v0 v1:Value)(hj:j<2)(ho:o+2<=C.size):(set2 C o v0 v1)[o+j]?=(#[v0,v1]:AV)[j]?:=by
 have hc:j=0 \/ j=1:=by omega
 unfold set2
 rcases hc with h|h <;> subst h <;> simp[Array.getElem?_setIfInBounds] <;> omega
structure zaL (ty:TypeId)(lo:Nat)(w:World)(bo:Nat)(ts:List Tm)(k:Nat):Prop where
 low:lo<=bo
 rows:∃C,w.heap[bo]?=some (.cells C ty)/\C.size=ts.length*2/\∀i (h:i<ts.length),i<k->∀j,j<2->C[i*2+j]?=ts[i].cells[j]?
theorem zaL.at {ty:TypeId}{lo:Nat}{w:World}{bo:Nat}{ts:List Tm}(h:zaL ty lo w bo ts ts.length)(hs:∀i (h:i<ts.length),ts[i].Small)(hl:ts.length<=maxLen):jB w (some (aD bo 0)) ts:=by
 obtain⟨C,hC,hsz,hr⟩:=h.rows;refine⟨hl,hs,fun _=>⟨bo,0,rfl,(gES hC).1,fun i hi j hj=>?_⟩⟩;rw[cell_of_block hC,Nat.zero_add];exact hr i hi hi j hj
theorem zaL.later {ty:TypeId}{lo:Nat}{w w':World}{bo:Nat}{ts:List Tm}{k:Nat}(h:zaL ty lo w bo ts k)(hb:Bw w w'):zaL ty lo w' bo ts k:=by
 obtain⟨C,hC,hsz,hr⟩:=h.rows;exact⟨h.low,C,(hb.block bo (gES hC).1).trans hC,hsz,hr⟩
theorem zaL.put {ty:TypeId}{lo:Nat}{w:World}{bo:Nat}{ts:List Tm}{k:Nat}(h:zaL ty lo w bo ts k)(hk:k<ts.length) :
 zaL ty lo (zss w bo (k*2) (.s ts[k].nm) (.s ts[k].ov)) bo ts (k+1):=by
 obtain⟨C,hC,hsz,hr⟩:=h.rows;refine⟨h.low,_,zo4 hC _ _,by rw[zqE];exact hsz,fun i hi hik j hj=>?_⟩
 rcases Nat.lt_or_ge i k with hlt|hge
 ·rw[zry _ _ _ _ _ (by omega)]
  exact hr i hi hlt j hj
 ·have e:i=k:=by omega
  subst e;rw[zsf _ _ _ _ _ hj (by omega)]
  rfl
def zrC:AV:=#[.s ByteArray.empty,.s ByteArray.empty]
def zp7 (n:Nat):AV:=madeCells zrC (n*2)
end Go.Proofs.YthdfpinbnncghaaGreat
namespace Go.Proofs.YthdfpinbnncghaaGreat
structure Rl where
 vs:List Int
 kd:BA
 tm:BA
 px:BA
def zaZ (v:Int):Bool:=decide (1<=v)&&decide (v<=5)
def qC (vs:List Int)(i:Nat):Bool:=zaZ (vs.getD i 0)&&(decide (i=0)||decide (vs.getD (i-1) 0<vs.getD i 0))
def yZ (vs:List Int):Bool:=decide (0<vs.length)&&up (qC vs) vs.length
def qY (r:Rl):Bool:=(r.kd.toList.isEmpty||zm r.kd)&&(r.tm.toList.isEmpty||zm r.tm)
def zQ (r:Rl):Bool:=qY r&&(yZ r.vs&&(decide (r.px.size<=16)&&qw r.px))
def zep (rs:List Rl):Bool:=rs.all zQ
def begins (s p:BA):Bool:=decide (p.size<=s.size)&&((s.extract 0 p.size).toList == p.toList)
def meets (ts:List Tm)(r:Rl)(kd tm nm:BA):Bool:=(r.kd.toList.isEmpty||decide (r.kd=kd))&&((r.tm.toList.isEmpty||under ts 4 tm r.tm)&&begins nm r.px)
def yG (vs:List Int)(v:Int):Bool:=vs.any fun x=>decide (x=v)
theorem zgn (vs:List Int)(v:Int)(k:Nat)(h:k<vs.length):yG (vs.take (k+1)) v=(yG (vs.take k) v||decide (vs[k]=v)):=by
 unfold yG;rw[tSe h,List.any_append];simp
theorem zoO (vs:List Int)(v:Int)(k:Nat)(h:k<vs.length)(e:vs[k]=v):yG vs v=true:=by
 unfold yG;rw[List.any_eq_true];exact⟨vs[k],List.getElem_mem h,by simpa using e⟩
theorem zn6 (vs:List Int)(v:Int)(k:Nat)(h:vs.length<=k):yG (vs.take k) v=yG vs v:=by rw[tOl h]
theorem zf3 {vs:List Int}(h:yZ vs=true)(i:Nat)(hi:i<vs.length):1<=vs[i]/\vs[i]<=5:=by
 unfold yZ at h;rw[Bool.and_eq_true]at h;have h1:=zgr hi h.2;unfold qC at h1;rw[getD_at vs i _ hi,Bool.and_eq_true]at h1;have h2:=h1.1
 simpa[zaZ] using h2
def zdc (a b c d e:Bool):Int:=(cond a 2 0)+(cond b 4 0)+(cond c 8 0)+(cond d 16 0)+(cond e 32 0)
def bitsOf (f:Int->Bool):Int:=zdc (f 1) (f 2) (f 3) (f 4) (f 5)
def orI (x y:Int):Int:=bits BinOp.or IntKind.u8 x y
def zr3 (x y:Int):Int:=bits BinOp.andNot IntKind.u8 x y
def zix (v:Int):Int:=2 ^ v.toNat % 256
theorem five (P:Int->Prop)(h1:P 1)(h2:P 2)(h3:P 3)(h4:P 4)(h5:P 5)(v:Int)(hv:1<=v/\v<=5):P v:=by
 have hc:v=1 \/ v=2 \/ v=3 \/ v=4 \/ v=5:=by omega
 rcases hc with rfl|rfl|rfl|rfl|rfl <;> assumption
theorem zf9 {f g:Int->Bool}(h:∀v,1<=v/\v<=5->f v=g v):bitsOf f=bitsOf g:=by
 unfold bitsOf;rw[h 1 (by omega),h 2 (by omega),h 3 (by omega),h 4 (by omega),h 5 (by omega)]
theorem zsp:∀a b c d e:Bool,orI (zdc a b c d e) (zix 1)=zdc (a||true) (b||false) (c||false) (d||false) (e||false)/\orI (zdc a b c d e) (zix 2)=zdc (a||false) (b||true) (c||false) (d||false) (e||false) /\
 orI (zdc a b c d e) (zix 3)=zdc (a||false) (b||false) (c||true) (d||false) (e||false)/\orI (zdc a b c d e) (zix 4)=zdc (a||false) (b||false) (c||false) (d||true) (e||false)/\orI (zdc a b c d e) (zix 5)=zdc (a||false) (b||false) (c||false) (d||false) (e||true):=by decide +kernel
theorem zsd:∀a b c d e a' b' c' d' e':Bool,zr3 (zdc a b c d e) (zdc a' b' c' d' e')=zdc (a&&!a') (b&&!b') (c&&!c') (d&&!d') (e&&!e'):=by decide +kernel
theorem zru:∀a b c d e:Bool,(zdc a b c d e == 0)=!(a||b||c||d||e):=by decide +kernel
theorem zrS (f:Int->Bool)(v:Int)(hv:1<=v/\v<=5):orI (bitsOf f) (zix v)=bitsOf (fun u=>f u||decide (v=u)):=by
 obtain⟨h1,h2,h3,h4,h5⟩:=zsp (f 1) (f 2) (f 3) (f 4) (f 5);exact five (fun v=>orI (bitsOf f) (zix v)=bitsOf (fun u=>f u||decide (v=u))) h1 h2 h3 h4 h5 v hv
theorem zrf (f g:Int->Bool):zr3 (bitsOf f) (bitsOf g)=bitsOf (fun v=>f v&&!g v):=zsd _ _ _ _ _ _ _ _ _ _
theorem zqj (f:Int->Bool):(bitsOf f == 0)=!(f 1||f 2||f 3||f 4||f 5):=zru _ _ _ _ _
end Go.Proofs.YthdfpinbnncghaaGreat
namespace Go.Proofs.YthdfpinbnncghaaGreat
open Go.RowKit
structure zab (w:World)(o:Ob)(a a':OA):Prop where
 small:o.Small
 vals:zJ w a o.vs
 holds:zJ w a' o.hs
theorem zab.mono {w w':World}{o:Ob}{a a':OA}(h:zab w o a a')(hb:Bw w w'):zab w' o a a':=
 ⟨h.small,h.vals.mono hb,h.holds.mono hb⟩
theorem zc0 (a:OA)(cap:Nat)(ws:List BA)(v:BA)(w:World)(hw:zJ w a ws) :
 Calls Tryz.prog 191 #[.l a ws.length cap,.s v] w fun e w'=>e=.returned (.bool (has ws v))/\w'=w:=by
 have hl:=hw.len;unfold maxLen at hl
 by_cases hne:ws=[]
 ·subst hne
  go_enter Tryz.func191,Tryz.ntmps191
  go_wp2
  go_loop [5] (fun i=>i=.i 0) (fun i=>0)
  case atStart=>rfl
  case round=>
   subst hrel
   go_wp2
   go_ret;exact⟨rfl,rfl⟩
 ·obtain⟨b,off,rfl,hb,hc⟩:=hw.cells hne
  clear hw;have HL:Hid (0<ws.length):=List.length_pos_iff.2 hne;clear hne;go_enter Tryz.func191,Tryz.ntmps191
  go_wp2
  go_loop [5] (fun i=>∃k:Nat,k<=ws.length/\i=.i k/\has (ws.take k) v=false) (fun i=>ws.length-(intOf i).toNat)
  case atStart=>exact⟨0,Nat.zero_le _,rfl,rfl⟩
  case round=>
   obtain⟨k,hk,rfl,hall⟩:=hrel
   by_cases hlt:k<ws.length
   ·have hck:=hc k hlt
    clear hc;have HS:Hid (has (ws.take (k+1)) v=(false||decide (ws[k]=v))):=by rw[znW ws v k hlt,hall];rfl
    have HN:Hid (ws[k]=v->has ws v=true):=fun h=>zrn ws v k hlt h
    clear hall
    by_cases he:ws[k]=v
    ·have hbe:(ws[k].toList == v.toList)=true:=by rw[beq_toList];simpa using he
     have HE:Hid (ws[k]=v):=he;clear he
     go_wp2
     go_ret;exact⟨ze (HN.o HE.o).symm,rfl⟩
    ·have hbe:(ws[k].toList == v.toList)=false:=by rw[beq_toList];simpa using he
     have HE:Hid (¬ws[k]=v):=he;clear he
     go_wp2
     go_round
     case rel=>exact⟨k+1,by omega,by go_num,by rw[HS.o,decide_eq_false HE.o];rfl⟩
     case measure=>simp[intOf];omega
   ·have HA:Hid (has ws v=false):=by rw[<- zpX ws v k (by omega)];exact hall
    clear hall hc
    go_wp2
    go_ret;exact⟨ze HA.o.symm,rfl⟩
end Go.Proofs.YthdfpinbnncghaaGreat
namespace Go.Proofs.YthdfpinbnncghaaGreat
open Go.ChangeShapes Go.WideShapes Go.ChangeAt Go.RowKit
theorem Tryz.zl0:Tryz.prog.cellsOf 105=6:=by kernel_rfl
section
variable {H:Type} {enc:TypeId × Value->H} {w:World} {base:Nat} {spare:Nat->Bool} {held:Bool}
theorem zqS {fuel:Nat}{cs:List Value}{x:DataW H × List MemPlace}(h:DataW.trod enc Tryz.prog w base spare held fuel 105 cs=some x) :
 ∃m:Mnd,cs=m.cells.toList/\m.Small:=by
 have hlen:cs.length=6:=by
  obtain⟨_,_,_,_,hl,_,_⟩:=DataW.trod_struct Tryz.underlying105 h;rw[hl];exact Tryz.zl0
 match cs,hlen with
 | [c0,c1,c2,c3,c4,c5],_=>
  have hf:=jo Tryz.underlying105 h;obtain⟨_,_,f0⟩:=hf 0 9 0 c0 rfl Tryz.zK rfl;obtain⟨_,_,f1⟩:=hf 1 9 1 c1 rfl Tryz.zK rfl;obtain⟨_,_,f2⟩:=hf 2 9 2 c2 rfl Tryz.zK rfl;obtain⟨_,_,f3⟩:=hf 3 9 3 c3 rfl Tryz.zK rfl;obtain⟨_,_,f4⟩:=hf 4 9 4 c4 rfl Tryz.zK rfl;obtain⟨_,_,f5⟩:=hf 5 9 5 c5 rfl Tryz.zK rfl;obtain⟨x0,e0,_,s0⟩:=DataW.trod_string Tryz.underlying9 f0;obtain⟨x1,e1,_,s1⟩:=DataW.trod_string Tryz.underlying9 f1;obtain⟨x2,e2,_,s2⟩:=DataW.trod_string Tryz.underlying9 f2;obtain⟨x3,e3,_,s3⟩:=DataW.trod_string Tryz.underlying9 f3;obtain⟨x4,e4,_,s4⟩:=DataW.trod_string Tryz.underlying9 f4;obtain⟨x5,e5,_,s5⟩:=DataW.trod_string Tryz.underlying9 f5;simp only[List.cons.injEq,and_true]at e0 e1 e2 e3 e4 e5;subst e0 e1 e2 e3 e4 e5;exact⟨⟨x0,x1,x2,x3,x4,x5⟩,rfl,s0,s1,s2,s3,s4,s5⟩
theorem zoD {fuel:Nat}{cs:List Value}{x:DataW H × List MemPlace}(h:DataW.trod enc Tryz.prog w base spare held fuel 23 cs=some x) :
 ∃a cap ms,cs=[.l a (List.length ms) cap]/\qZ w a ms:=by
 obtain⟨a,len,cap,rfl,hm,hr⟩:=zad Tryz.underlying23 Tryz.zl0 (by omega) h
 rcases Nat.eq_zero_or_pos len with h0|hp
 ·subst h0
  exact⟨a,cap,[],rfl,⟨by simp[maxLen],fun i h=>absurd h (by simp),fun h=>absurd rfl h⟩⟩
 ·obtain⟨b,off,rfl,hb,hrow⟩:=hr hp
  have hf:∀i,i<len->∃m:Mnd,m.Small/\∀j,j<6->w.cell? (aD b (off+i*6+j))=m.cells[j]?:=by
   intro i hi;obtain⟨es,n,y,hel,hcell,hy⟩:=hrow i hi;obtain⟨m,rfl,hs⟩:=zqS hy;exact⟨m,hs,fun j hj=>by rw[hcell j hj];simp⟩
  obtain⟨ms,hl,hms⟩:=za9 len hf;exact⟨_,cap,ms,by rw[hl],⟨by omega,fun i hi=>(hms i hi).1,fun _=>⟨b,off,rfl,hb,fun i hi=>(hms i hi).2⟩⟩⟩
end
end Go.Proofs.YthdfpinbnncghaaGreat
