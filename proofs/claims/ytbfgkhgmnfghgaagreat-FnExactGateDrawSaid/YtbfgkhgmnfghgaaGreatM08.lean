import Derived.Test.YtbfgkhgmnfghgaaGreatM06
import Derived.Test.YtbfgkhgmnfghgaaGreatM07
import Derived.Deep.RegionWith
set_option maxHeartbeats 2000000
namespace Go.Proofs.YtbfgkhgmnfghgaaGreat
open Go.RowKit
theorem zcP (a:OA)(cap:Nat)(ws:List BA)(v:BA)(w:World)(hw:zG w a ws) :
 Calls Tryz.prog 191 #[.l a ws.length cap,.s v] w fun e w'=>e=.returned (.bool (has ws v))/\w'=w:=by
 have hl:=hw.len;unfold maxLen at hl
 by_cases hne:ws=[]
 ·subst hne
  go_enter Tryz.func191,Tryz.ntmps191
  go_wp2
  go_loop [5] (fun i=>i=.i 0) (fun i=>0)
  case atStart=>rfl
  case round=>
   subst hrel
   go_wp2
   go_ret;exact⟨rfl,rfl⟩
 ·obtain⟨b,off,rfl,hb,hc⟩:=hw.cells hne
  clear hw;have HL:Hid (0<ws.length):=List.length_pos_iff.2 hne;clear hne;go_enter Tryz.func191,Tryz.ntmps191
  go_wp2
  go_loop [5] (fun i=>∃k:Nat,k<=ws.length/\i=.i k/\has (ws.take k) v=false) (fun i=>ws.length-(intOf i).toNat)
  case atStart=>exact⟨0,Nat.zero_le _,rfl,rfl⟩
  case round=>
   obtain⟨k,hk,rfl,hall⟩:=hrel
   by_cases hlt:k<ws.length
   ·have hck:=hc k hlt
    clear hc;have HS:Hid (has (ws.take (k+1)) v=(false||decide (ws[k]=v))):=by rw[znj ws v k hlt,hall];rfl
    have HN:Hid (ws[k]=v->has ws v=true):=fun h=>zrd ws v k hlt h
    clear hall
    by_cases he:ws[k]=v
    ·have hbe:(ws[k].toList == v.toList)=true:=by rw[beq_toList];simpa using he
     have HE:Hid (ws[k]=v):=he;clear he
     go_wp2
     go_ret;exact⟨ze (HN.o HE.o).symm,rfl⟩
    ·have hbe:(ws[k].toList == v.toList)=false:=by rw[beq_toList];simpa using he
     have HE:Hid (¬ws[k]=v):=he;clear he
     go_wp2
     go_round
     case rel=>exact⟨k+1,by omega,by go_num,by rw[HS.o,decide_eq_false HE.o];rfl⟩
     case measure=>simp[intOf];omega
   ·have HA:Hid (has ws v=false):=by rw[<- zpL ws v k (by omega)];exact hall
    clear hall hc
    go_wp2
    go_ret;exact⟨ze HA.o.symm,rfl⟩
structure jT (w:World)(o:Ob)(a a':OA):Prop where
 small:o.Small
 vals:zG w a o.vs
 holds:zG w a' o.hs
theorem jT.mono {w w':World}{o:Ob}{a a':OA}(h:jT w o a a')(hb:Bw w w'):jT w' o a a':=
 ⟨h.small,h.vals.mono hb,h.holds.mono hb⟩
structure qJ (lo:Nat)(w:World)(bo:Nat)(fs:List Fld)(k:Nat):Prop where
 low:lo<=bo
 rows:∃C,w.heap[bo]?=some (.cells C 175)/\C.size=fs.length*11 /\
  ∀i (h:i<fs.length),i<k->∃bk,lo<=bk/\bk≠bo/\w.heap[bk]?=some (.cells (jU fs[i].ws) 9)/\∀j,j<11->C[i*11+j]?=(fs[i].cells (some (aD bk 0)) fs[i].ws.length)[j]?
theorem qJ.at {lo:Nat}{w:World}{bo:Nat}{fs:List Fld}(h:qJ lo w bo fs fs.length)(hs:zb3 fs)(hl:fs.length<=maxLen):yc w (some (aD bo 0)) fs:=by
 obtain⟨C,hC,hsz,hr⟩:=h.rows;refine⟨hl,fun _=>⟨bo,0,rfl,(gES hC).1,fun i hi=>?_⟩⟩;obtain⟨bk,_,_,hk,hc⟩:=hr i hi hi;obtain⟨s1,s2,s3⟩:=hs.small i hi;refine⟨some (aD bk 0),fs[i].ws.length,s1,zdT hk s2 s3,fun j hj=>?_⟩;rw[cell_of_block hC,Nat.zero_add];exact hc j hj
theorem qJ.later {lo:Nat}{w w':World}{bo:Nat}{fs:List Fld}{k:Nat}(h:qJ lo w bo fs k)(hb:Bw w w'):qJ lo w' bo fs k:=by
 obtain⟨C,hC,hsz,hr⟩:=h.rows;refine⟨h.low,C,(hb.block bo (gES hC).1).trans hC,hsz,fun i hi hk=>?_⟩;obtain⟨bk,h1,h2,h3,h4⟩:=hr i hi hk;exact⟨bk,h1,h2,(hb.block bk (gES h3).1).trans h3,h4⟩
theorem qJ.put {lo:Nat}{w:World}{bo:Nat}{fs:List Fld}{k:Nat}(h:qJ lo w bo fs k)(hk:k<fs.length)(bk:Nat)(h1:lo<=bk)(h2:bk≠bo)(h3:w.heap[bk]?=some (.cells (jU fs[k].ws) 9)) :
 qJ lo (znK w bo (k*11) (.s fs[k].nm) (.i fs[k].kd) (.i fs[k].ls) (.i fs[k].ms) (.l (some (aD bk 0)) fs[k].ws.length fs[k].ws.length) (.s fs[k].to) (.i fs[k].rl) (.bool fs[k].mu) (.bool fs[k].fx) (.s fs[k].df) (.s fs[k].wg)) bo fs (k+1):=by
 obtain⟨C,hC,hsz,hr⟩:=h.rows;refine⟨h.low,_,znT hC _ _ _ _ _ _ _ _ _ _ _,by rw[zo7];exact hsz,fun i hi hik=>?_⟩
 rcases Nat.lt_or_ge i k with hlt|hge
 ·obtain⟨bi,g1,g2,g3,g4⟩:=hr i hi hlt
  refine⟨bi,g1,g2,by rw[zio _ _ _ _ g2];exact g3,fun j hj=>?_⟩;rw[zqf _ _ _ _ _ _ _ _ _ _ _ _ _ _ (by omega)];exact g4 j hj
 ·have e:i=k:=by omega
  subst e;refine⟨bk,h1,h2,by rw[zio _ _ _ _ h2];exact h3,fun j hj=>?_⟩;rw[zqH _ _ _ _ _ _ _ _ _ _ _ _ _ _ hj (by omega)]
  rfl
def zpz:AV:=#[.s ByteArray.empty,.i 0,.i 0,.i 0,.l none 0 0,.s ByteArray.empty,.i 0,.bool false,.bool false,.s ByteArray.empty,.s ByteArray.empty]
def zns (n:Nat):AV:=madeCells zpz (n*11)
theorem zhH (a:OA)(cap:Nat)(fs:List Fld)(w:World)(hw:yc w a fs)(hl:fs.length<=1048576)(hls:∀i (h:i<fs.length),fs[i].ws.length<=1048576) :
 Calls Tryz.prog 119 #[.l a fs.length cap] w fun e w'=>e=.returned (.l (some (aD w.heap.size 0)) fs.length fs.length)/\qJ w.heap.size w' w.heap.size fs fs.length/\Bw w w':=by
 have hmk:∀w:World,(Instr.makeSlice 131 (.i fs.length) (.i fs.length)).run Tryz.prog w=.ok (.l (some (aD w.heap.size 0)) fs.length fs.length) (w.alloc (.cells (zns fs.length) 175)):=
  fun w=>jC (P:=Tryz.prog) 131 175 (.agg zpz) 11 128 Tryz.underlying131 (by kernel_rfl) fs.length (by omega) (by omega) w
 go_enter Tryz.func119,Tryz.ntmps119;go_wp2_with fail
 clear hmk
 go_loopw [4] (fun i wr=>∃k:Nat,k<=fs.length/\i=.i k/\qJ w.heap.size wr w.heap.size fs k/\Bw w wr) (fun i _=>fs.length-(intOf i).toNat)
 case atStart=>exact⟨0,Nat.zero_le _,rfl,⟨Nat.le_refl _,zns fs.length,(MapKept.heap_alloc w _).1,size_madeCells _ _,fun i _ h=>absurd h (by omega)⟩,bAl _ _⟩
 case round=>
  obtain⟨k,hk,rfl,hown,hB⟩:=hrel
  by_cases hlt:k<fs.length
  ·obtain⟨b,off,rfl,hb,hr⟩:=hw.rows (by rintro rfl;simp at hlt)
   obtain⟨wa,wcap,hf0⟩:=hr k hlt;have hf:=hf0.mono hb hB;obtain⟨c0,c1,c2,c3,c4,c5,c6,c7,c8,c9,c10⟩:=hf.load;have hst:=hf.strs;have HLS:Hid (fs[k].ws.length<=1048576):=hls k hlt;have hltI:(k:Int)<(fs.length:Int):=by omega
   clear hw hr hf0 hf;go_wp2_with fail
   refine(zi0 _ _ _ _ _ _ _ _ _ _ _ _ _ _ hst HLS.o).mono ?_;rintro e w1⟨bk,rfl,hlo,hhi,hbk,hb1⟩;have hB1:=hB.trans (hb1.mono hB.size);have hown1:=hown.later hb1;obtain⟨C,hC,hsz,_⟩:=hown1.rows;have hfz:∀o,w1.frozen? (aD w.heap.size o)=false:=fun o=>zf hC
   have hex:∀o,o<fs.length*11->∃v,w1.cell? (aD w.heap.size o)=some v:=fun o ho=>⟨C[o]'(by omega),by rw[cell_of_block hC];exact Array.getElem?_eq_getElem (by omega)⟩
   obtain⟨v0,hv0⟩:=hex (k*11) (by omega);obtain⟨v1,hv1⟩:=hex (k*11+1) (by omega);obtain⟨v2,hv2⟩:=hex (k*11+2) (by omega);obtain⟨v3,hv3⟩:=hex (k*11+3) (by omega);obtain⟨v4,hv4⟩:=hex (k*11+4) (by omega);obtain⟨v5,hv5⟩:=hex (k*11+5) (by omega);obtain⟨v6,hv6⟩:=hex (k*11+6) (by omega);obtain⟨v7,hv7⟩:=hex (k*11+7) (by omega);obtain⟨v8,hv8⟩:=hex (k*11+8) (by omega);obtain⟨v9,hv9⟩:=hex (k*11+9) (by omega);obtain⟨v10,hv10⟩:=hex (k*11+10) (by omega);clear hex hC hsz c0 c1 c2 c3 c4 c5 c6 c7 c8 c9 c10
   have hbo:w.heap.size<wr.heap.size:=by
    obtain⟨C',hC',_⟩:=hown.rows;exact(gES hC').1
   go_wp2_with fail
   exact⟨⟨k+1,by omega,by go_num,hown1.put hlt bk (by omega) (by omega) hbk,znt hB1 (Nat.le_refl _) _ _ _ _ _ _ _ _ _ _ _ _⟩,by simp[intOf];omega⟩
  ·have HF:Hid (qJ w.heap.size wr w.heap.size fs fs.length):=by
    have e:k=fs.length:=by omega
    subst e;exact hown
   clear hw hown;go_wp2_with fail
   go_ret;exact⟨rfl,HF.o,hB⟩
structure jQ (lo:Nat)(w:World)(bo:Nat)(ss:List Shp)(k:Nat):Prop where
 low:lo<=bo
 rows:∃C,w.heap[bo]?=some (.cells C 133)/\C.size=ss.length*2 /\
  ∀i (h:i<ss.length),i<k->∃bf,lo<=bf/\bo<bf/\qJ (bo+1) w bf ss[i].fs ss[i].fs.length/\C[i*2]?=some (.s ss[i].kd)/\C[i*2+1]?=some (.l (some (aD bf 0)) ss[i].fs.length ss[i].fs.length)
theorem jQ.at {lo:Nat}{w:World}{bo:Nat}{ss:List Shp}(h:jQ lo w bo ss ss.length)(hs:zd4 ss)(hl:ss.length<=maxLen):yX w (some (aD bo 0)) ss:=by
 obtain⟨C,hC,hsz,hr⟩:=h.rows;refine⟨hl,fun _=>⟨bo,0,rfl,(gES hC).1,fun i hi=>?_⟩⟩;obtain⟨bf,_,_,hf,h1,h2⟩:=hr i hi hi;obtain⟨s1,s2,s3⟩:=hs.small i hi;refine⟨some (aD bf 0),ss[i].fs.length,s1,hf.at s3 s2,?_,?_⟩
 ·rw[cell_of_block hC,Nat.zero_add];exact h1
 ·rw[cell_of_block hC,Nat.zero_add];exact h2
theorem jQ.later {lo:Nat}{w w':World}{bo:Nat}{ss:List Shp}{k:Nat}(h:jQ lo w bo ss k)(hb:Bw w w'):jQ lo w' bo ss k:=by
 obtain⟨C,hC,hsz,hr⟩:=h.rows;refine⟨h.low,C,(hb.block bo (gES hC).1).trans hC,hsz,fun i hi hk=>?_⟩;obtain⟨bf,h1,h2,h3,h4⟩:=hr i hi hk;exact⟨bf,h1,h2,h3.later hb,h4⟩
theorem qJ.setCell {lo:Nat}{w:World}{bf:Nat}{fs:List Fld}{k:Nat}(h:qJ lo w bf fs k){p:Addr}(hp:p.block<lo)(v:Value):qJ lo (w.setCell p v) bf fs k:=by
 obtain⟨C,hC,hsz,hr⟩:=h.rows;have hl:=h.low;refine⟨h.low,C,by rw[Below.heap_setCell _ _ _ _ (by omega)];exact hC,hsz,fun i hi hk=>?_⟩;obtain⟨bk,h1,h2,h3,h4⟩:=hr i hi hk;exact⟨bk,h1,h2,by rw[Below.heap_setCell _ _ _ _ (by omega)];exact h3,h4⟩
theorem qJ.weaken {lo lo':Nat}{w:World}{bf:Nat}{fs:List Fld}{k:Nat}(h:qJ lo w bf fs k)(hl:lo'<=lo):qJ lo' w bf fs k:=by
 obtain⟨C,hC,hsz,hr⟩:=h.rows;refine⟨Nat.le_trans hl h.low,C,hC,hsz,fun i hi hk=>?_⟩;obtain⟨bk,h1,h2⟩:=hr i hi hk;exact⟨bk,Nat.le_trans hl h1,h2⟩
theorem jQ.put {lo:Nat}{w:World}{bo:Nat}{ss:List Shp}{k:Nat}(h:jQ lo w bo ss k)(hk:k<ss.length)(bf:Nat)(h1:bo<bf)(h3:qJ (bo+1) w bf ss[k].fs ss[k].fs.length) :
 jQ lo ((w.setCell (aD bo (k*2)) (.s ss[k].kd)).setCell (aD bo (k*2+1)) (.l (some (aD bf 0)) ss[k].fs.length ss[k].fs.length)) bo ss (k+1):=by
 obtain⟨C,hC,hsz,hr⟩:=h.rows;have hl:=h.low;refine⟨h.low,_,zi (zi hC _) _,by simp[hsz],fun i hi hik=>?_⟩
 rcases Nat.lt_or_ge i k with hlt|hge
 ·obtain⟨bi,g1,g2,g3,g4,g5⟩:=hr i hi hlt
  refine⟨bi,g1,g2,(g3.setCell (by simp) _).setCell (by simp) _,?_,?_⟩
  ·rw[Array.getElem?_setIfInBounds,if_neg (by omega),Array.getElem?_setIfInBounds,if_neg (by omega)];exact g4
  ·rw[Array.getElem?_setIfInBounds,if_neg (by omega),Array.getElem?_setIfInBounds,if_neg (by omega)];exact g5
 ·have e:i=k:=by omega
  subst e;refine⟨bf,by omega,h1,(h3.setCell (by simp) _).setCell (by simp) _,?_,?_⟩
  ·rw[Array.getElem?_setIfInBounds,if_neg (by omega),Array.getElem?_setIfInBounds,if_pos rfl,if_pos (by omega)]
  ·rw[Array.getElem?_setIfInBounds,if_pos rfl,if_pos (by simp;omega)]
theorem zi6 (kd:BA)(a:OA)(cap:Nat)(fs:List Fld)(w:World)(hw:yc w a fs)(hl:fs.length<=1048576)(hls:∀i (h:i<fs.length),fs[i].ws.length<=1048576) :
 Calls Tryz.prog 72 #[.agg #[.s kd,.l a fs.length cap]] w fun e w'=>∃bf,e=.returned (.agg #[.s kd,.l (some (aD bf 0)) fs.length fs.length])/\qJ w.heap.size w' bf fs fs.length/\Bw w w':=by
 go_enter Tryz.func72,Tryz.ntmps72;go_wp2_with fail
 refine(zhH _ _ _ _ (hw.mono (((bAl _ _).alloc (by simp) _).alloc (by simp;omega) _)) hl hls).mono ?_;rintro e w1⟨rfl,hown,hb1⟩;have qr0:w1.cell? (aD (w.heap.size+1) 0)=some (.s { data:=#[] }):=(hb1.cell (p:=(aD (w.heap.size+1) 0)) (by simp)).trans (by simp[World.cell?_alloc_at,World.cell?_alloc_past]);have fr0:w1.frozen? (aD (w.heap.size+1) 0)=false:=(hb1.frozen (p:=(aD (w.heap.size+1) 0)) (by simp)).trans (by simp[World.frozen?_alloc_at,World.frozen?_alloc_past]);have qr1:w1.cell? (aD (w.heap.size+1) 1)=some (.l none 0 0):=(hb1.cell (p:=(aD (w.heap.size+1) 1)) (by simp)).trans (by simp[World.cell?_alloc_at,World.cell?_alloc_past]);have fr1:w1.frozen? (aD (w.heap.size+1) 1)=false:=(hb1.frozen (p:=(aD (w.heap.size+1) 1)) (by simp)).trans (by simp[World.frozen?_alloc_at,World.frozen?_alloc_past]);have qo0:w1.cell? (aD (w.heap.size+1+1) 0)=some (.s kd):=(hb1.cell (p:=(aD (w.heap.size+1+1) 0)) (by simp)).trans (by simp[World.cell?_alloc_at]);have fo0:w1.frozen? (aD (w.heap.size+1+1) 0)=false:=(hb1.frozen (p:=(aD (w.heap.size+1+1) 0)) (by simp)).trans (by simp[World.frozen?_alloc_at]);have qo1:w1.cell? (aD (w.heap.size+1+1) 1)=some (.l none 0 0):=(hb1.cell (p:=(aD (w.heap.size+1+1) 1)) (by simp)).trans (by simp[World.cell?_alloc_at]);have fo1:w1.frozen? (aD (w.heap.size+1+1) 1)=false:=(hb1.frozen (p:=(aD (w.heap.size+1+1) 1)) (by simp)).trans (by simp[World.frozen?_alloc_at]);have hz1:w.heap.size+1+1<w1.heap.size:=by have:=hb1.size;simp at this;omega
 go_wp2_with fail
 have hsz:(((w.alloc (.cells #[.s kd,.l a fs.length cap] 100)).alloc (.cells #[.s { data:=#[] },.l none 0 0] 133)).alloc (.cells #[.s kd,.l none 0 0] 133)).heap.size=w.heap.size+1+1+1:=by simp
 have hB1:Bw w w1:=(((bAl _ _).alloc (by simp) _).alloc (by simp;omega) _).trans (hb1.mono (by simp;omega));rw[hsz]at hown;refine bodyPost_ret (v:=.agg #[.s kd,.l (some (aD (w.heap.size+1+1+1) 0)) fs.length fs.length]) (by simp[results,Tryz.results72,go_sem,qr0,qr1]) rfl ⟨w.heap.size+1+1+1,rfl,?_,?_⟩
 ·exact(((hown.setCell (by simp) _).setCell (by simp) _).setCell (by simp) _).weaken (by omega)
 ·exact((hB1.setCell (by simp;omega) _).setCell (by simp) _).setCell (by simp) _
def zpF:AV:=#[.s ByteArray.empty,.l none 0 0]
def zob (n:Nat):AV:=madeCells zpF (n*2)
theorem zhD (a:OA)(cap:Nat)(ss:List Shp)(w:World)(hw:yX w a ss)(hl:ss.length<=1048576)(hls:∀i (h:i<ss.length),ss[i].fs.length<=1048576/\∀j (h':j<ss[i].fs.length),ss[i].fs[j].ws.length<=1048576) :
 Calls Tryz.prog 29 #[.l a ss.length cap] w fun e w'=>e=.returned (.l (some (aD w.heap.size 0)) ss.length ss.length)/\jQ w.heap.size w' w.heap.size ss ss.length/\Bw w w':=by
 have hmk:∀w:World,(Instr.makeSlice 43 (.i ss.length) (.i ss.length)).run Tryz.prog w=.ok (.l (some (aD w.heap.size 0)) ss.length ss.length) (w.alloc (.cells (zob ss.length) 133)):=
  fun w=>jC (P:=Tryz.prog) 43 133 (.agg zpF) 2 40 Tryz.underlying43 (by kernel_rfl) ss.length (by omega) (by omega) w
 go_enter Tryz.func29,Tryz.ntmps29;go_wp2_with fail
 clear hmk
 go_loopw [4] (fun i wr=>∃k:Nat,k<=ss.length/\i=.i k/\jQ w.heap.size wr w.heap.size ss k/\Bw w wr) (fun i _=>ss.length-(intOf i).toNat)
 case atStart=>exact⟨0,Nat.zero_le _,rfl,⟨Nat.le_refl _,zob ss.length,(MapKept.heap_alloc w _).1,size_madeCells _ _,fun i _ h=>absurd h (by omega)⟩,bAl _ _⟩
 case round=>
  obtain⟨k,hk,rfl,hown,hB⟩:=hrel
  by_cases hlt:k<ss.length
  ·obtain⟨b,off,rfl,hb,hr⟩:=hw.rows (by rintro rfl;simp at hlt)
   obtain⟨fa,fcap,hs0⟩:=hr k hlt;have hs:=hs0.mono hb hB;have hck:=hs.kind;have hcl:=hs.list;have hfl:=hs.zdS;have HLS:=hls k hlt;have HLS':Hid (ss[k].fs.length<=1048576/\∀j (h':j<ss[k].fs.length),ss[k].fs[j].ws.length<=1048576):=HLS;have hltI:(k:Int)<(ss.length:Int):=by omega
   clear hw hr hs0 hs HLS;go_wp2_with fail
   refine(zi6 _ _ _ _ _ hfl HLS'.out.1 HLS'.out.2).mono ?_;rintro e w1⟨bf,rfl,hof,hb1⟩;have hB1:=hB.trans (hb1.mono hB.size);have hown1:=hown.later hb1
   have hbo:w.heap.size<wr.heap.size:=by
    obtain⟨C',hC',_⟩:=hown.rows;exact(gES hC').1
   obtain⟨C,hC,hsz,_⟩:=hown1.rows;have hfz:∀o,w1.frozen? (aD w.heap.size o)=false:=fun o=>zf hC
   have hex:∀o,o<ss.length*2->∃v,w1.cell? (aD w.heap.size o)=some v:=fun o ho=>⟨C[o]'(by omega),by rw[cell_of_block hC];exact Array.getElem?_eq_getElem (by omega)⟩
   obtain⟨v0,hv0⟩:=hex (k*2) (by omega);obtain⟨v1,hv1⟩:=hex (k*2+1) (by omega);clear hex hC hsz hck hcl;have hlow:=hof.low;go_wp2_with fail
   exact⟨⟨k+1,by omega,by go_num,hown1.put hlt bf (by omega) (hof.weaken (by omega)),(hB1.setCell (Nat.le_refl _) _).setCell (Nat.le_refl _) _⟩,by simp[intOf];omega⟩
  ·have HF:Hid (jQ w.heap.size wr w.heap.size ss ss.length):=by
    have e:k=ss.length:=by omega
    subst e;exact hown
   clear hw hown;go_wp2_with fail
   go_ret;exact⟨rfl,HF.o,hB⟩
theorem zhz (a a':OA)(cap cap':Nat)(fs:List Fld)(w:World)(hw:yc w a fs)(hw':yc w a' fs) :
 Calls Tryz.prog 140 #[.l a fs.length cap,.l a' fs.length cap'] w fun e w'=>e=.returned (.bool true)/\Bw w w':=by
 have hl:=hw.len;unfold maxLen at hl;have hnn:((fs.length:Int) != fs.length)=false:=by simp
 go_enter Tryz.func140,Tryz.ntmps140;go_wp2_with fail
 go_loopw [5] (fun i wr=>∃k:Nat,k<=fs.length/\i=.i k/\Bw w wr) (fun i _=>fs.length-(intOf i).toNat)
 case atStart=>exact⟨0,Nat.zero_le _,rfl,bRf _ _⟩
 case round=>
  obtain⟨k,hk,rfl,hB⟩:=hrel
  by_cases hlt:k<fs.length
  ·obtain⟨b,off,rfl,hb,hr⟩:=hw.rows (by rintro rfl;simp at hlt)
   obtain⟨b',off',rfl,hb',hr'⟩:=hw'.rows (by rintro rfl;simp at hlt);obtain⟨wa,wcap,hf0⟩:=hr k hlt;obtain⟨wa',wcap',hf0'⟩:=hr' k hlt;have hf:=hf0.mono hb hB;have hf':=hf0'.mono hb' hB;obtain⟨c0,c1,c2,c3,c4,c5,c6,c7,c8,c9,c10⟩:=hf.load;obtain⟨d0,d1,d2,d3,d4,d5,d6,d7,d8,d9,d10⟩:=hf'.load;have hst:=hf.strs;have hst':=hf'.strs;have hltI:(k:Int)<(fs.length:Int):=by omega
   clear hw hw' hr hr' hf0 hf0' hf hf';go_wp2_with fail
   go_region_with (go_at_call 187;refine(zjh _ _ _ _ _ _ _ _ _ _ _ _ _ _ _ _ (by exact hst.mono ((bRf _ _).drew)) (by exact hst'.mono ((bRf _ _).drew))).mono ?_;rintro e w1⟨rfl,hb1'⟩;have hb1:=(bRf wr.heap.size wr).drew.trans hb1';clear hb1')
   all_goals go_wp2_with fail
   all_goals exact⟨⟨k+1,by omega,by go_num,hB.trans (hb1.mono hB.size)⟩,by simp[intOf];omega⟩
  ·clear hw hw'
   go_wp2_with fail
   go_ret;exact⟨rfl,hB⟩
theorem ziM (kd:BA)(a a':OA)(cap cap':Nat)(fs:List Fld)(w:World)(hw:yc w a fs)(hw':yc w a' fs) :
 Calls Tryz.prog 94 #[.agg #[.s kd,.l a fs.length cap],.agg #[.s kd,.l a' fs.length cap']] w fun e w'=>e=.returned (.bool true)/\Bw w w':=by
 go_enter Tryz.func94,Tryz.ntmps94;go_wp2_with fail
 refine(zhz _ _ _ _ _ _ (hw.mono (zw _ _ _)) (hw'.mono (zw _ _ _))).mono ?_;rintro e w1⟨rfl,hb1⟩;go_wp2_with fail
 go_ret;exact⟨rfl,(zw _ _ _).trans (hb1.mono (by simp;omega))⟩
theorem zhk (a a':OA)(cap cap':Nat)(ss:List Shp)(w:World)(hw:yX w a ss)(hw':yX w a' ss) :
 Calls Tryz.prog 43 #[.l a ss.length cap,.l a' ss.length cap'] w fun e w'=>e=.returned (.bool true)/\Bw w w':=by
 have hl:=hw.len;unfold maxLen at hl;have hnn:((ss.length:Int) != ss.length)=false:=by simp
 go_enter Tryz.func43,Tryz.ntmps43;go_wp2_with fail
 go_loopw [5] (fun i wr=>∃k:Nat,k<=ss.length/\i=.i k/\Bw w wr) (fun i _=>ss.length-(intOf i).toNat)
 case atStart=>exact⟨0,Nat.zero_le _,rfl,bRf _ _⟩
 case round=>
  obtain⟨k,hk,rfl,hB⟩:=hrel
  by_cases hlt:k<ss.length
  ·obtain⟨b,off,rfl,hb,hr⟩:=hw.rows (by rintro rfl;simp at hlt)
   obtain⟨b',off',rfl,hb',hr'⟩:=hw'.rows (by rintro rfl;simp at hlt);obtain⟨wa,wcap,hf0⟩:=hr k hlt;obtain⟨wa',wcap',hf0'⟩:=hr' k hlt;have hf:=hf0.mono hb hB;have hf':=hf0'.mono hb' hB;have c0:=hf.kind;have c1:=hf.list;have d0:=hf'.kind;have d1:=hf'.list;have hst:=hf.zdS;have hst':=hf'.zdS;have hltI:(k:Int)<(ss.length:Int):=by omega
   clear hw hw' hr hr' hf0 hf0' hf hf';go_wp2_with fail
   go_region_with (go_at_call 94;refine(ziM _ _ _ _ _ _ _ (by exact hst.mono ((bRf _ _).drew)) (by exact hst'.mono ((bRf _ _).drew))).mono ?_;rintro e w1⟨rfl,hb1'⟩;have hb1:=(bRf wr.heap.size wr).drew.trans hb1';clear hb1')
   all_goals go_wp2_with fail
   all_goals exact⟨⟨k+1,by omega,by go_num,hB.trans (hb1.mono hB.size)⟩,by simp[intOf];omega⟩
  ·clear hw hw'
   go_wp2_with fail
   go_ret;exact⟨rfl,hB⟩
theorem zrq {ss:List Shp}(h:(zaO ss:Int)<=1048576):ss.length<=1048576/\∀i (h:i<ss.length),ss[i].fs.length<=1048576/\∀j (h':j<ss[i].fs.length),ss[i].fs[j].ws.length<=1048576:=by
 unfold zaO at h;refine⟨by omega,fun i hi=>?_⟩;have h1:Shp.sz ss[i]<=zhG ss:=zjm Shp.sz ss i hi;unfold Shp.sz zaS at h1;refine⟨by omega,fun j hj=>?_⟩;have h2:Fld.sz ss[i].fs[j]<=zhE ss[i].fs:=zjm Fld.sz ss[i].fs j hj;unfold Fld.sz zav qW at h2;omega
end Go.Proofs.YtbfgkhgmnfghgaaGreat
