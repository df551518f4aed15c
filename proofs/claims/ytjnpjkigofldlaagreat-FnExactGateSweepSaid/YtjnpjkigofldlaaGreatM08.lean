import Derived.Test.YtjnpjkigofldlaaGreatM04
import Derived.Test.YtjnpjkigofldlaaGreatM03
import Derived.Deep.MidRow
set_option maxHeartbeats 2000000
namespace Go.Proofs.YtjnpjkigofldlaaGreat
open Go.RowKit
variable {w w':World}{a:OA}{fs:List Fld}{ss:List Shp}{b bo k lo o:Nat}{v:Value}{ty:TypeId}
structure zb6 (fs:List Fld):Prop where
 small:∀i (h:i<fs.length),fs[i].Small/\fs[i].ws.length<=maxLen/\∀s∈fs[i].ws,s.size<=maxLen
theorem yw.smalls (h:yw w a fs):zb6 fs:=
 ⟨fun i hi=>by
  obtain⟨b,off,_,_,hr⟩:=h.rows (by rintro rfl;simp at hi);obtain⟨wa,wcap,hf⟩:=hr i hi;exact⟨hf.small,hf.strs.len,hf.strs.small⟩⟩
structure zea (ss:List Shp):Prop where
 small:∀i (h:i<ss.length),ss[i].kd.size<=maxLen/\ss[i].fs.length<=maxLen/\zb6 ss[i].fs
theorem yU.smalls (h:yU w a ss):zea ss:=
 ⟨fun i hi=>by
  obtain⟨b,off,_,_,hr⟩:=h.rows (by rintro rfl;simp at hi);obtain⟨fa,fcap,hs⟩:=hr i hi;exact⟨hs.small,hs.zdE.len,hs.zdE.smalls⟩⟩
theorem zj4 {a b:Int}{p q:Bool}(h:a=b)(h2:p=q):Ending.returned (.tuple #[.i a,.bool p])=.returned (.tuple #[.i b,.bool q]):=by rw[h,h2]
def zaI (s:BA):Int:=if zaC s=true then zg5 s else 0
theorem zlD (s:BA)(w:World)(h1:1<=s.size)(h7:s.size<=7)(hz:s.size<=1 \/ ¬(s[0].toNat:Int)=48) :
 Calls Tryz.prog 199 #[.s s] w fun e w'=>e=.returned (.tuple #[.i (zaI s),.bool (zaC s)])/\w'=w:=by
 have HF:Hid (zaC s=za3 s):=znl s h1 h7 hz;have hne:s.toList.isEmpty=false:=by rw[zu];exact decide_eq_false (by omega)
 rcases(show(¬(s[0].toNat:Int)=48) \/ (s.size<=1/\(s[0].toNat:Int)=48) by rcases hz with h|h <;> omega) with hz0|⟨hone,hz0⟩
 all_goals
  clear hz
  first
   | (have hz1:((s[0].toNat:Int) == 48)=true:=by simpa using hz0)
   | (have hz1:((s[0].toNat:Int) == 48)=false:=by simpa using hz0)
  clear hz0;go_in
  go_wp2
  go_loop [4,25] (fun n i=>∃k:Nat,k<=s.size/\i=.i k/\(s.data.toList.take k).all digit=true/\n=.i (dec (s.data.toList.take k))) (fun _ i=>s.size-(intOf i).toNat)
  case atStart=>exact⟨0,Nat.zero_le _,rfl,rfl,rfl⟩
  case round=>
   obtain⟨k,hk,rfl,hall,rfl⟩:=hrel;have hlen:(s.data.toList.take k).length<=k:=List.length_take_le _ _;obtain⟨hd0,hd1⟩:=zfV _ hall k hlen
   by_cases hlt:k<s.size
   ·have hp:=zne k (by omega)
    have hd2:dec (s.data.toList.take k)<10000000:=by omega
    clear hp hd1 hlen;have HS:Hid ((s.data.toList.take (k+1)).all digit=(true&&digit s[k])):=by rw[zcy _ s k hlt,hall];rfl
    have HD:Hid (dec (s.data.toList.take (k+1))=dec (s.data.toList.take k)*10+((s[k].toNat:Int)-48)):=by rw[zh8 s k hlt];exact zpw _ _
    have HN:Hid (digit s[k]=false->za3 s=false):=fun h=>zeJ digit s k hlt h
    clear hall
    by_cases hd:48<=(s[k].toNat:Int)/\(s[k].toNat:Int)<=57
    ·have HC:Hid (digit s[k]=true):=by simp[digit,Hid];omega
     obtain⟨h48,h57⟩:=hd
     go_wp2_with (go_at_call 232;refine(ziY _ _ h48 h57).mono ?_;rintro e w'⟨rfl,rfl⟩)
     go_round
     case rel=>exact⟨k+1,by omega,by go_num,by rw[HS.o,HC.o];rfl,by rw[HD.o]⟩
     case measure=>simp[intOf];omega
    ·have HC:Hid (digit s[k]=false):=by simp[digit,Hid];omega
     have HDD:Hid (¬(48<=(s[k].toNat:Int)/\(s[k].toNat:Int)<=57)):=hd;clear hd
     go_wp2_with (go_at_call 232;refine(zdi _ _ HDD.o).mono ?_;rintro e w'⟨rfl,rfl⟩)
     go_ret2
     exact⟨zj4 (by unfold zaI;rw[HF.o,HN.o HC.o];rfl) (by rw[HF.o,HN.o HC.o]),rfl⟩
   ·have HA:Hid (za3 s=true):=by unfold za3 Hid;rw[<- zbD s k (by omega)];exact hall
    have HB:Hid (dec (s.data.toList.take k)=zg5 s):=by rw[zbD s k (by omega)];rfl
    clear hall hd0 hd1 hlen
    go_wp2
    go_ret2
    exact⟨zj4 (by unfold zaI;rw[HF.o,HA.o,HB.o];rfl) (by rw[HF.o,HA.o]),rfl⟩
theorem zdL (s:BA)(w:World)(hs:s.size<=maxLen) :
 Calls Tryz.prog 199 #[.s s] w fun e w'=>e=.returned (.tuple #[.i (zaI s),.bool (zaC s)])/\w'=w:=by
 unfold maxLen at hs
 by_cases h0:s.size=0
 ·rw[zdG s h0]
  go_in
  go_wp2
  go_ret2
  exact⟨rfl,rfl⟩
 have hne:s.toList.isEmpty=false:=by rw[zu];simp[h0]
 by_cases h7:s.size<=7
 ·by_cases hz:1<s.size/\(s[0].toNat:Int)=48
  ·obtain⟨hm,hz0⟩:=hz
   have HF:Hid (zaC s=false):=zgc s hm hz0;have hz1:((s[0].toNat:Int) == 48)=true:=by simpa using hz0
   clear hz0;go_in
   go_wp2
   go_ret2
   exact⟨zj4 (by unfold zaI;rw[HF.o];rfl) HF.o.symm,rfl⟩
  ·exact zlD s w (by omega) h7 (by omega)
 ·have HF:Hid (zaC s=false):=zez s (by omega)
  go_in
  go_wp2
  go_ret2
  exact⟨zj4 (by unfold zaI;rw[HF.o];rfl) HF.o.symm,rfl⟩
theorem yu {p:Addr}(h:b≠p.block):(w.setCell p v).cell? (aD b o)=w.cell? (aD b o):=by
 unfold World.cell?;rw[Below.heap_setCell _ _ _ _ h]
theorem zcc {g:Nat}(h:b≠g){v0 v1 v2 v3 v4 v5 v6:Value}:(((((((w.setCell (aD g 0) v0).setCell (aD g 1) v1).setCell (aD g 2) v2).setCell (aD g 3) v3).setCell (aD g 4) v4).setCell (aD g 5) v5).setCell (aD g 6) v6).cell? (aD b o)=w.cell? (aD b o):=by
 rw[yu h,yu h,yu h,yu h,yu h,yu h,yu h]
structure qF (lo:Nat)(w:World)(bo:Nat)(fs:List Fld)(k:Nat):Prop where
 low:lo<=bo
 rows:∃C,w.heap[bo]?=some (.cells C 183)/\C.size=fs.length*11 /\
  ∀i (h:i<fs.length),i<k->∃bk,lo<=bk/\bk≠bo/\w.heap[bk]?=some (.cells (jS fs[i].ws) 9)/\∀j,j<11->C[i*11+j]?=(fs[i].cells (some (aD bk 0)) fs[i].ws.length)[j]?
theorem qF.at (h:qF lo w bo fs fs.length)(hs:zb6 fs)(hl:fs.length<=maxLen):yw w (some (aD bo 0)) fs:=by
 obtain⟨C,hC,hsz,hr⟩:=h.rows;refine⟨hl,fun _=>⟨bo,0,rfl,(gES hC).1,fun i hi=>?_⟩⟩;obtain⟨bk,_,_,hk,hc⟩:=hr i hi hi;obtain⟨s1,s2,s3⟩:=hs.small i hi;refine⟨some (aD bk 0),fs[i].ws.length,s1,zdX hk s2 s3,fun j hj=>?_⟩;rw[cell_of_block hC,Nat.zero_add];exact hc j hj
theorem qF.later (h:qF lo w bo fs k)(hb:Bw w w'):qF lo w' bo fs k:=by
 obtain⟨C,hC,hsz,hr⟩:=h.rows;refine⟨h.low,C,(hb.block bo (gES hC).1).trans hC,hsz,fun i hi hk=>?_⟩;obtain⟨bk,h1,h2,h3,h4⟩:=hr i hi hk;exact⟨bk,h1,h2,(hb.block bk (gES h3).1).trans h3,h4⟩
theorem qF.put (h:qF lo w bo fs k)(hk:k<fs.length)(bk:Nat)(h1:lo<=bk)(h2:bk≠bo)(h3:w.heap[bk]?=some (.cells (jS fs[k].ws) 9)) :
 qF lo (zpi w bo (k*11) (.s fs[k].nm) (.i fs[k].kd) (.i fs[k].ls) (.i fs[k].ms) (.l (some (aD bk 0)) fs[k].ws.length fs[k].ws.length) (.s fs[k].to) (.i fs[k].rl) (.bool fs[k].mu) (.bool fs[k].fx) (.s fs[k].df) (.s fs[k].wg)) bo fs (k+1):=by
 obtain⟨C,hC,hsz,hr⟩:=h.rows;refine⟨h.low,_,zp2 hC _ _ _ _ _ _ _ _ _ _ _,by rw[zrl];exact hsz,fun i hi hik=>?_⟩
 rcases Nat.lt_or_ge i k with hlt|hge
 ·obtain⟨bi,g1,g2,g3,g4⟩:=hr i hi hlt
  refine⟨bi,g1,g2,by rw[ziQ _ _ _ _ g2];exact g3,fun j hj=>?_⟩;rw[zr3 _ _ _ _ _ _ _ _ _ _ _ _ _ _ (by omega)];exact g4 j hj
 ·have e:i=k:=by omega
  subst e;refine⟨bk,h1,h2,by rw[ziQ _ _ _ _ h2];exact h3,fun j hj=>?_⟩;rw[ztp _ _ _ _ _ _ _ _ _ _ _ _ _ _ hj (by omega)]
  rfl
def zrA:AV:=#[.s ByteArray.empty,.i 0,.i 0,.i 0,.l none 0 0,.s ByteArray.empty,.i 0,.bool false,.bool false,.s ByteArray.empty,.s ByteArray.empty]
def zpq (n:Nat):AV:=madeCells zrA (n*11)
theorem ziu (a:OA)(cap:Nat)(fs:List Fld)(w:World)(hw:yw w a fs)(hl:fs.length<=1048576)(hls:∀i (h:i<fs.length),fs[i].ws.length<=1048576) :
 Calls Tryz.prog 132 #[.l a fs.length cap] w fun e w'=>e=.returned (.l (some (aD w.heap.size 0)) fs.length fs.length)/\qF w.heap.size w' w.heap.size fs fs.length/\Bw w w':=by
 have hmk:∀w:World,(Instr.makeSlice 128 (.i fs.length) (.i fs.length)).run Tryz.prog w=.ok (.l (some (aD w.heap.size 0)) fs.length fs.length) (w.alloc (.cells (zpq fs.length) 183)):=
  fun w=>jy (P:=Tryz.prog) 128 183 (.agg zrA) 11 128 Tryz.underlying128 (by kernel_rfl) fs.length (by omega) (by omega) w
 go_in;go_wp2_with fail
 clear hmk
 go_loopw [4] (fun i wr=>∃k:Nat,k<=fs.length/\i=.i k/\qF w.heap.size wr w.heap.size fs k/\Bw w wr) (fun i _=>fs.length-(intOf i).toNat)
 case atStart=>exact⟨0,Nat.zero_le _,rfl,⟨Nat.le_refl _,zpq fs.length,(MapKept.heap_alloc w _).1,size_madeCells _ _,fun i _ h=>absurd h (by omega)⟩,bAl _ _⟩
 case round=>
  obtain⟨k,hk,rfl,hown,hB⟩:=hrel
  by_cases hlt:k<fs.length
  ·obtain⟨b,off,rfl,hb,hr⟩:=hw.rows (by rintro rfl;simp at hlt)
   obtain⟨wa,wcap,hf0⟩:=hr k hlt;have hf:=hf0.mono hb hB;obtain⟨c0,c1,c2,c3,c4,c5,c6,c7,c8,c9,c10⟩:=hf.load;have hst:=hf.strs;have HLS:Hid (fs[k].ws.length<=1048576):=hls k hlt;have hltI:(k:Int)<(fs.length:Int):=by omega
   clear hw hr hf0 hf;go_wp2_with fail
   refine(zjn _ _ _ _ _ _ _ _ _ _ _ _ _ _ hst HLS.o).mono ?_;rintro e w1⟨bk,rfl,hlo,hhi,hbk,hb1⟩;have hB1:=hB.trans (hb1.mono hB.size);have hown1:=hown.later hb1;obtain⟨C,hC,hsz,_⟩:=hown1.rows;have hfz:∀o,w1.frozen? (aD w.heap.size o)=false:=fun o=>zf hC
   have hex:∀o,o<fs.length*11->∃v,w1.cell? (aD w.heap.size o)=some v:=fun o ho=>⟨C[o]'(by omega),by rw[cell_of_block hC];exact Array.getElem?_eq_getElem (by omega)⟩
   obtain⟨v0,hv0⟩:=hex (k*11) (by omega);obtain⟨v1,hv1⟩:=hex (k*11+1) (by omega);obtain⟨v2,hv2⟩:=hex (k*11+2) (by omega);obtain⟨v3,hv3⟩:=hex (k*11+3) (by omega);obtain⟨v4,hv4⟩:=hex (k*11+4) (by omega);obtain⟨v5,hv5⟩:=hex (k*11+5) (by omega);obtain⟨v6,hv6⟩:=hex (k*11+6) (by omega);obtain⟨v7,hv7⟩:=hex (k*11+7) (by omega);obtain⟨v8,hv8⟩:=hex (k*11+8) (by omega);obtain⟨v9,hv9⟩:=hex (k*11+9) (by omega);obtain⟨v10,hv10⟩:=hex (k*11+10) (by omega);clear hex hC hsz c0 c1 c2 c3 c4 c5 c6 c7 c8 c9 c10
   have hbo:w.heap.size<wr.heap.size:=by
    obtain⟨C',hC',_⟩:=hown.rows;exact(gES hC').1
   go_wp2
   exact⟨⟨k+1,by omega,by go_num,hown1.put hlt bk (by omega) (by omega) hbk,zqa hB1 (Nat.le_refl _) _ _ _ _ _ _ _ _ _ _ _ _⟩,by simp[intOf];omega⟩
  ·have HF:Hid (qF w.heap.size wr w.heap.size fs fs.length):=by
    have e:k=fs.length:=by omega
    subst e;exact hown
   clear hw hown;go_wp2
   go_ret;exact⟨rfl,HF.o,hB⟩
structure jP (lo:Nat)(w:World)(bo:Nat)(ss:List Shp)(k:Nat):Prop where
 low:lo<=bo
 rows:∃C,w.heap[bo]?=some (.cells C 130)/\C.size=ss.length*2 /\
  ∀i (h:i<ss.length),i<k->∃bf,lo<=bf/\bo<bf/\qF (bo+1) w bf ss[i].fs ss[i].fs.length/\C[i*2]?=some (.s ss[i].kd)/\C[i*2+1]?=some (.l (some (aD bf 0)) ss[i].fs.length ss[i].fs.length)
theorem jP.at (h:jP lo w bo ss ss.length)(hs:zea ss)(hl:ss.length<=maxLen):yU w (some (aD bo 0)) ss:=by
 obtain⟨C,hC,hsz,hr⟩:=h.rows;refine⟨hl,fun _=>⟨bo,0,rfl,(gES hC).1,fun i hi=>?_⟩⟩;obtain⟨bf,_,_,hf,h1,h2⟩:=hr i hi hi;obtain⟨s1,s2,s3⟩:=hs.small i hi;refine⟨some (aD bf 0),ss[i].fs.length,s1,hf.at s3 s2,?_,?_⟩
 ·rw[cell_of_block hC,Nat.zero_add];exact h1
 ·rw[cell_of_block hC,Nat.zero_add];exact h2
theorem jP.later (h:jP lo w bo ss k)(hb:Bw w w'):jP lo w' bo ss k:=by
 obtain⟨C,hC,hsz,hr⟩:=h.rows;refine⟨h.low,C,(hb.block bo (gES hC).1).trans hC,hsz,fun i hi hk=>?_⟩;obtain⟨bf,h1,h2,h3,h4⟩:=hr i hi hk;exact⟨bf,h1,h2,h3.later hb,h4⟩
theorem qF.setCell {bf:Nat}(h:qF lo w bf fs k){p:Addr}(hp:p.block<lo)(v:Value):qF lo (w.setCell p v) bf fs k:=by
 obtain⟨C,hC,hsz,hr⟩:=h.rows;have hl:=h.low;refine⟨h.low,C,by rw[Below.heap_setCell _ _ _ _ (by omega)];exact hC,hsz,fun i hi hk=>?_⟩;obtain⟨bk,h1,h2,h3,h4⟩:=hr i hi hk;exact⟨bk,h1,h2,by rw[Below.heap_setCell _ _ _ _ (by omega)];exact h3,h4⟩
theorem qF.weaken {lo':Nat}{bf:Nat}(h:qF lo w bf fs k)(hl:lo'<=lo):qF lo' w bf fs k:=by
 obtain⟨C,hC,hsz,hr⟩:=h.rows;refine⟨Nat.le_trans hl h.low,C,hC,hsz,fun i hi hk=>?_⟩;obtain⟨bk,h1,h2⟩:=hr i hi hk;exact⟨bk,Nat.le_trans hl h1,h2⟩
theorem jP.put (h:jP lo w bo ss k)(hk:k<ss.length)(bf:Nat)(h1:bo<bf)(h3:qF (bo+1) w bf ss[k].fs ss[k].fs.length) :
 jP lo ((w.setCell (aD bo (k*2)) (.s ss[k].kd)).setCell (aD bo (k*2+1)) (.l (some (aD bf 0)) ss[k].fs.length ss[k].fs.length)) bo ss (k+1):=by
 obtain⟨C,hC,hsz,hr⟩:=h.rows;have hl:=h.low;refine⟨h.low,_,zh (zh hC _) _,by simp[hsz],fun i hi hik=>?_⟩
 rcases Nat.lt_or_ge i k with hlt|hge
 ·obtain⟨bi,g1,g2,g3,g4,g5⟩:=hr i hi hlt
  refine⟨bi,g1,g2,(g3.setCell (by simp) _).setCell (by simp) _,?_,?_⟩
  ·rw[Array.getElem?_setIfInBounds,if_neg (by omega),Array.getElem?_setIfInBounds,if_neg (by omega)];exact g4
  ·rw[Array.getElem?_setIfInBounds,if_neg (by omega),Array.getElem?_setIfInBounds,if_neg (by omega)];exact g5
 ·have e:i=k:=by omega
  subst e;refine⟨bf,by omega,h1,(h3.setCell (by simp) _).setCell (by simp) _,?_,?_⟩
  ·rw[Array.getElem?_setIfInBounds,if_neg (by omega),Array.getElem?_setIfInBounds,if_pos rfl,if_pos (by omega)]
  ·rw[Array.getElem?_setIfInBounds,if_pos rfl,if_pos (by simp;omega)]
theorem zjy (kd:BA)(a:OA)(cap:Nat)(fs:List Fld)(w:World)(hw:yw w a fs)(hl:fs.length<=1048576)(hls:∀i (h:i<fs.length),fs[i].ws.length<=1048576) :
 Calls Tryz.prog 74 #[.agg #[.s kd,.l a fs.length cap]] w fun e w'=>∃bf,e=.returned (.agg #[.s kd,.l (some (aD bf 0)) fs.length fs.length])/\qF w.heap.size w' bf fs fs.length/\Bw w w':=by
 go_in;go_wp2_with fail
 refine(ziu _ _ _ _ (hw.mono (((bAl _ _).alloc (by simp) _).alloc (by simp;omega) _)) hl hls).mono ?_;rintro e w1⟨rfl,hown,hb1⟩;have qr0:w1.cell? (aD (w.heap.size+1) 0)=some (.s { data:=#[] }):=(hb1.cell (p:=(aD (w.heap.size+1) 0)) (by simp)).trans (by simp[World.cell?_alloc_at,World.cell?_alloc_past]);have fr0:w1.frozen? (aD (w.heap.size+1) 0)=false:=(hb1.frozen (p:=(aD (w.heap.size+1) 0)) (by simp)).trans (by simp[World.frozen?_alloc_at,World.frozen?_alloc_past]);have qr1:w1.cell? (aD (w.heap.size+1) 1)=some (.l none 0 0):=(hb1.cell (p:=(aD (w.heap.size+1) 1)) (by simp)).trans (by simp[World.cell?_alloc_at,World.cell?_alloc_past]);have fr1:w1.frozen? (aD (w.heap.size+1) 1)=false:=(hb1.frozen (p:=(aD (w.heap.size+1) 1)) (by simp)).trans (by simp[World.frozen?_alloc_at,World.frozen?_alloc_past]);have qo0:w1.cell? (aD (w.heap.size+1+1) 0)=some (.s kd):=(hb1.cell (p:=(aD (w.heap.size+1+1) 0)) (by simp)).trans (by simp[World.cell?_alloc_at]);have fo0:w1.frozen? (aD (w.heap.size+1+1) 0)=false:=(hb1.frozen (p:=(aD (w.heap.size+1+1) 0)) (by simp)).trans (by simp[World.frozen?_alloc_at]);have qo1:w1.cell? (aD (w.heap.size+1+1) 1)=some (.l none 0 0):=(hb1.cell (p:=(aD (w.heap.size+1+1) 1)) (by simp)).trans (by simp[World.cell?_alloc_at]);have fo1:w1.frozen? (aD (w.heap.size+1+1) 1)=false:=(hb1.frozen (p:=(aD (w.heap.size+1+1) 1)) (by simp)).trans (by simp[World.frozen?_alloc_at]);have hz1:w.heap.size+1+1<w1.heap.size:=by have:=hb1.size;simp at this;omega
 go_wp2_with fail
 have hsz:(((w.alloc (.cells #[.s kd,.l a fs.length cap] 90)).alloc (.cells #[.s { data:=#[] },.l none 0 0] 130)).alloc (.cells #[.s kd,.l none 0 0] 130)).heap.size=w.heap.size+1+1+1:=by simp
 have hB1:Bw w w1:=(((bAl _ _).alloc (by simp) _).alloc (by simp;omega) _).trans (hb1.mono (by simp;omega));rw[hsz]at hown;refine bodyPost_ret (v:=.agg #[.s kd,.l (some (aD (w.heap.size+1+1+1) 0)) fs.length fs.length]) (by simp[results,Tryz.results74,go_sem,qr0,qr1]) rfl ⟨w.heap.size+1+1+1,rfl,?_,?_⟩
 ·exact(((hown.setCell (by simp) _).setCell (by simp) _).setCell (by simp) _).weaken (by omega)
 ·exact((hB1.setCell (by simp;omega) _).setCell (by simp) _).setCell (by simp) _
def zrE:AV:=#[.s ByteArray.empty,.l none 0 0]
def zpk (n:Nat):AV:=madeCells zrE (n*2)
theorem ziw (a:OA)(cap:Nat)(ss:List Shp)(w:World)(hw:yU w a ss)(hl:ss.length<=1048576)(hls:∀i (h:i<ss.length),ss[i].fs.length<=1048576/\∀j (h':j<ss[i].fs.length),ss[i].fs[j].ws.length<=1048576) :
 Calls Tryz.prog 25 #[.l a ss.length cap] w fun e w'=>e=.returned (.l (some (aD w.heap.size 0)) ss.length ss.length)/\jP w.heap.size w' w.heap.size ss ss.length/\Bw w w':=by
 have hmk:∀w:World,(Instr.makeSlice 43 (.i ss.length) (.i ss.length)).run Tryz.prog w=.ok (.l (some (aD w.heap.size 0)) ss.length ss.length) (w.alloc (.cells (zpk ss.length) 130)):=
  fun w=>jy (P:=Tryz.prog) 43 130 (.agg zrE) 2 40 Tryz.underlying43 (by kernel_rfl) ss.length (by omega) (by omega) w
 go_in;go_wp2_with fail
 clear hmk
 go_loopw [4] (fun i wr=>∃k:Nat,k<=ss.length/\i=.i k/\jP w.heap.size wr w.heap.size ss k/\Bw w wr) (fun i _=>ss.length-(intOf i).toNat)
 case atStart=>exact⟨0,Nat.zero_le _,rfl,⟨Nat.le_refl _,zpk ss.length,(MapKept.heap_alloc w _).1,size_madeCells _ _,fun i _ h=>absurd h (by omega)⟩,bAl _ _⟩
 case round=>
  obtain⟨k,hk,rfl,hown,hB⟩:=hrel
  by_cases hlt:k<ss.length
  ·obtain⟨b,off,rfl,hb,hr⟩:=hw.rows (by rintro rfl;simp at hlt)
   obtain⟨fa,fcap,hs0⟩:=hr k hlt;have hs:=hs0.mono hb hB;have hck:=hs.kind;have hcl:=hs.list;have hfl:=hs.zdE;have HLS:=hls k hlt;have HLS':Hid (ss[k].fs.length<=1048576/\∀j (h':j<ss[k].fs.length),ss[k].fs[j].ws.length<=1048576):=HLS;have hltI:(k:Int)<(ss.length:Int):=by omega
   clear hw hr hs0 hs HLS;go_wp2_with fail
   refine(zjy _ _ _ _ _ hfl HLS'.out.1 HLS'.out.2).mono ?_;rintro e w1⟨bf,rfl,hof,hb1⟩;have hB1:=hB.trans (hb1.mono hB.size);have hown1:=hown.later hb1
   have hbo:w.heap.size<wr.heap.size:=by
    obtain⟨C',hC',_⟩:=hown.rows;exact(gES hC').1
   obtain⟨C,hC,hsz,_⟩:=hown1.rows;have hfz:∀o,w1.frozen? (aD w.heap.size o)=false:=fun o=>zf hC
   have hex:∀o,o<ss.length*2->∃v,w1.cell? (aD w.heap.size o)=some v:=fun o ho=>⟨C[o]'(by omega),by rw[cell_of_block hC];exact Array.getElem?_eq_getElem (by omega)⟩
   obtain⟨v0,hv0⟩:=hex (k*2) (by omega);obtain⟨v1,hv1⟩:=hex (k*2+1) (by omega);clear hex hC hsz hck hcl;have hlow:=hof.low;go_wp2
   exact⟨⟨k+1,by omega,by go_num,hown1.put hlt bf (by omega) (hof.weaken (by omega)),(hB1.setCell (Nat.le_refl _) _).setCell (Nat.le_refl _) _⟩,by simp[intOf];omega⟩
  ·have HF:Hid (jP w.heap.size wr w.heap.size ss ss.length):=by
    have e:k=ss.length:=by omega
    subst e;exact hown
   clear hw hown;go_wp2
   go_ret;exact⟨rfl,HF.o,hB⟩
def Tm.cells (m:Tm):AV:=#[.s m.nm,.s m.ov]
structure Tm.Small (m:Tm):Prop where
 nm:m.nm.size<=maxLen
 ov:m.ov.size<=maxLen
structure jQ (w:World)(a:OA)(ts:List Tm):Prop where
 len:ts.length<=maxLen
 small:∀i (h:i<ts.length),ts[i].Small
 rows:ts≠[]->∃b off,a=some (aD b off)/\b<w.heap.size/\∀i (h:i<ts.length),∀j,j<2->w.cell? (aD b (off+i*2+j))=ts[i].cells[j]?
theorem jQ.mono {ts:List Tm}(h:jQ w a ts)(hl:Bw w w'):jQ w' a ts:=
 ⟨h.len,h.small,fun hne=>by
  obtain⟨b,off,ha,hb,hr⟩:=h.rows hne;exact⟨b,off,ha,nLt hb hl.size,fun i hi j hj=>(hl.cell (p:=(aD b (off+i*2+j))) hb).trans (hr i hi j hj)⟩⟩
theorem jQ.load {ts:List Tm}(h:jQ w a ts)(hl:Bw w w')(i:Nat)(hi:i<ts.length):∃b off,a=some (aD b off)/\b<w.heap.size /\
 w'.cell? (aD b (off+i*2))=some (.s ts[i].nm)/\w'.cell? (aD b (off+i*2+1))=some (.s ts[i].ov):=by
 obtain⟨b,off,ha,hb,hr⟩:=h.rows (by rintro rfl;simp at hi);have hc:∀j,j<2->w'.cell? (aD b (off+i*2+j))=ts[i].cells[j]?:=fun j hj=>(hl.cell (p:=(aD b (off+i*2+j))) hb).trans (hr i hi j hj)
 exact⟨b,off,ha,hb,hc 0 (by omega),hc 1 (by omega)⟩
def Tm.sz (m:Tm):Nat:=m.nm.size+m.ov.size
def zjq (ts:List Tm):Nat:=(ts.map Tm.sz).sum
def zds (ts:List Tm):Nat:=ts.length+zjq ts
def zt7 (w:World)(b o:Nat)(v0 v1:Value):World:=(w.setCell (aD b o) v0).setCell (aD b (o+1)) v1
def set2 (C:AV)(o:Nat)(v0 v1:Value):AV:=(C.setIfInBounds o v0).setIfInBounds (o+1) v1
theorem zqS {C:AV}{t:TypeId}(h:w.heap[b]?=some (.cells C t))(v0 v1:Value):(zt7 w b o v0 v1).heap[b]?=some (.cells (set2 C o v0 v1) t):=
 zh (zh h v0) v1
theorem zqR {B:Nat}{a:World}(h:Below B a w)(hb:B<=b)(o:Nat)(v0 v1:Value):Below B a (zt7 w b o v0 v1):=
 (h.setCell hb v0).setCell hb v1
theorem zsh (C:AV)(o:Nat)(v0 v1:Value):(set2 C o v0 v1).size=C.size:=by simp[set2]
theorem zsX (C:AV)(o i:Nat)(v0 v1:Value)(h:i<o \/ o+2<=i):(set2 C o v0 v1)[i]?=C[i]?:=by
 unfold set2
 iterate 2 rw[Array.getElem?_setIfInBounds,if_neg (by omega)]
theorem ztO (C:AV)(o j:Nat)(v0 v1:Value)(hj:j<2)(ho:o+2<=C.size):(set2 C o v0 v1)[o+j]?=(#[v0,v1]:AV)[j]?:=by
 have hc:j=0 \/ j=1:=by omega
 unfold set2
 rcases hc with h|h <;> subst h <;> simp[Array.getElem?_setIfInBounds] <;> omega
structure zaq (ty:TypeId)(lo:Nat)(w:World)(bo:Nat)(ts:List Tm)(k:Nat):Prop where
 low:lo<=bo
 rows:∃C,w.heap[bo]?=some (.cells C ty)/\C.size=ts.length*2/\∀i (h:i<ts.length),i<k->∀j,j<2->C[i*2+j]?=ts[i].cells[j]?
theorem zaq.at {ts:List Tm}(h:zaq ty lo w bo ts ts.length)(hs:∀i (h:i<ts.length),ts[i].Small)(hl:ts.length<=maxLen):jQ w (some (aD bo 0)) ts:=by
 obtain⟨C,hC,hsz,hr⟩:=h.rows;refine⟨hl,hs,fun _=>⟨bo,0,rfl,(gES hC).1,fun i hi j hj=>?_⟩⟩;rw[cell_of_block hC,Nat.zero_add];exact hr i hi hi j hj
theorem zaq.later {ts:List Tm}(h:zaq ty lo w bo ts k)(hb:Bw w w'):zaq ty lo w' bo ts k:=by
 obtain⟨C,hC,hsz,hr⟩:=h.rows;exact⟨h.low,C,(hb.block bo (gES hC).1).trans hC,hsz,hr⟩
theorem zaq.put {ts:List Tm}(h:zaq ty lo w bo ts k)(hk:k<ts.length) :
 zaq ty lo (zt7 w bo (k*2) (.s ts[k].nm) (.s ts[k].ov)) bo ts (k+1):=by
 obtain⟨C,hC,hsz,hr⟩:=h.rows;refine⟨h.low,_,zqS hC _ _,by rw[zsh];exact hsz,fun i hi hik j hj=>?_⟩
 rcases Nat.lt_or_ge i k with hlt|hge
 ·rw[zsX _ _ _ _ _ (by omega)]
  exact hr i hi hlt j hj
 ·have e:i=k:=by omega
  subst e;rw[ztO _ _ _ _ _ hj (by omega)]
  rfl
def ztk:AV:=#[.s ByteArray.empty,.s ByteArray.empty]
def zrK (n:Nat):AV:=madeCells ztk (n*2)
theorem zld {o:Oper}{ops:Array Oper}{tmps:AV}{j:Nat}{want g x:Bool}(hgd:o.guard=some (j,want))(hv:((ops[j]?).bind (·.dst)).bind (tmps[·]?)=some (bif g then Value.bool x else undef)):Region.wanted o (yielded ops tmps)=(g&&(x == want)):=by
 unfold Region.wanted yielded;simp only[hgd,hv]
 cases g <;> cases x <;> cases want <;> rfl
section
variable {P:Program} {ops:Array Oper} {Q:Exit->Act->World->Prop} {md:Region.Mode} {S:World->Prop} {oi:Oper} {v:Value} {j:Nat} {want g x q:Bool} {fuel:Nat} {listed:Array Bool} {a a':Act} {w:World}
theorem sG0 (i:Nat)(hq:(g&&(x == want))=q)(h:wpAnyH P md ops Q S fuel (listed.setIfInBounds i true) a' w)(hS:S w)(hi:nth ops.toList i=some oi)(hgd:oi.guard=some (j,want))(hv:((ops[j]?).bind (·.dst)).bind (a.tmps[·]?)=some (bif g then Value.bool x else undef))
 (hs:Region.noSelect ops=true) (hf:Region.free md ops listed i=true) (hr:(Region.ready md ops listed).contains i=true)
 (hy:q=true->∀w,S w->(execOp a.eval oi).run P w=.ok (.value v) w) (ha:a.put oi.dst (bif q then v else undef)=a')
 (hQ:∀c u a w,Q (.panic c) (a.put oi.dst u) w->Q (.panic c) a w):wpAnyH P md ops Q S (fuel+1) listed a w:=by
 have hw:=zld (o:=oi) hgd hv;rw[hq]at hw
 cases q with
 | true=>exact zs7 hi hs hf hr (fun c a w=>hQ c _ a w) hw hS (hy rfl) (ha ▸ h)
 | false=>exact zrM hi hs hf hr (fun c a w=>hQ c _ a w) hw hS (ha ▸ h)
theorem sF (i:Nat)(h:wpAnyH P md ops Q S fuel (listed.setIfInBounds i true) a' w)
 (hS:S w:=by assumption) (hi:nth ops.toList i=some oi:=by rfl) (hgd:oi.guard=some (j,false):=by rfl) (hv:((ops[j]?).bind (·.dst)).bind (a.tmps[·]?)=some (Value.bool x):=by rfl)
 (hs:Region.noSelect ops=true:=by kernel_rfl) (hf:Region.free md ops listed i=true:=by kernel_rfl) (hr:(Region.ready md ops listed).contains i=true:=by kernel_rfl)
 (hy:x=false->∀w,S w->(execOp a.eval oi).run P w=.ok (.value v) w:=by(intro hg w hSw;(try dsimp only at hSw);go_simp;try with_reducible rfl))
 (ha:a.put oi.dst (bif !x then v else undef)=a':=by((try simp only[Act.put,sA,s0,sS]);rfl))
 (hQ:∀c u a w,Q (.panic c) (a.put oi.dst u) w->Q (.panic c) a w:=by exact fun _ _ _ _ h=>h):wpAnyH P md ops Q S (fuel+1) listed a w:=
 sG0 (g:=true) i (by cases x <;> rfl) h hS hi hgd hv hs hf hr (fun h=>hy (by simpa using h)) ha hQ
theorem sT (i:Nat)(h:wpAnyH P md ops Q S fuel (listed.setIfInBounds i true) a' w)
 (hS:S w:=by assumption) (hi:nth ops.toList i=some oi:=by rfl) (hgd:oi.guard=some (j,true):=by rfl) (hv:((ops[j]?).bind (·.dst)).bind (a.tmps[·]?)=some (Value.bool x):=by rfl)
 (hs:Region.noSelect ops=true:=by kernel_rfl) (hf:Region.free md ops listed i=true:=by kernel_rfl) (hr:(Region.ready md ops listed).contains i=true:=by kernel_rfl)
 (hy:x=true->∀w,S w->(execOp a.eval oi).run P w=.ok (.value v) w:=by(intro hg w hSw;(try dsimp only at hSw);go_simp;try with_reducible rfl))
 (ha:a.put oi.dst (bif x then v else undef)=a':=by((try simp only[Act.put,sA,s0,sS]);rfl))
 (hQ:∀c u a w,Q (.panic c) (a.put oi.dst u) w->Q (.panic c) a w:=by exact fun _ _ _ _ h=>h):wpAnyH P md ops Q S (fuel+1) listed a w:=
 sG0 (g:=true) i (by cases x <;> rfl) h hS hi hgd hv hs hf hr hy ha hQ
theorem sFT (i:Nat)(h:wpAnyH P md ops Q S fuel (listed.setIfInBounds i true) a' w)
 (hS:S w:=by assumption) (hi:nth ops.toList i=some oi:=by rfl) (hgd:oi.guard=some (j,true):=by rfl) (hv:((ops[j]?).bind (·.dst)).bind (a.tmps[·]?)=some (bif !g then Value.bool x else undef):=by rfl)
 (hs:Region.noSelect ops=true:=by kernel_rfl) (hf:Region.free md ops listed i=true:=by kernel_rfl) (hr:(Region.ready md ops listed).contains i=true:=by kernel_rfl)
 (hy:g=false->x=true->∀w,S w->(execOp a.eval oi).run P w=.ok (.value v) w:=by(intro hg hx w hSw;(try dsimp only at hSw);go_simp;try with_reducible rfl))
 (ha:a.put oi.dst (bif !g&&x then v else undef)=a':=by((try simp only[Act.put,sA,s0,sS]);rfl))
 (hQ:∀c u a w,Q (.panic c) (a.put oi.dst u) w->Q (.panic c) a w:=by exact fun _ _ _ _ h=>h):wpAnyH P md ops Q S (fuel+1) listed a w:=
 sG0 (g:=!g) i (by cases g <;> cases x <;> rfl) h hS hi hgd hv hs hf hr (fun h=>by cases g <;> cases x <;> first|exact hy rfl rfl|cases h) ha hQ
theorem cS0 (i:Nat)(hq:(g&&(x == want))=q)(v:Value)(R:World->Prop)
 (hc:q=true->∀K:World->Prop,Shut (∀w',S w'->R w'->K w')->Oper.wp P oi a w (fun a' w'=>a'=a.put oi.dst v/\K w') Q)
 (h:∀w',R w'->S w'->wpAnyH P md ops Q S fuel (listed.setIfInBounds i true) (a.put oi.dst (bif q then v else undef)) w')
 (h0:R w) (hS:S w) (hi:nth ops.toList i=some oi) (hgd:oi.guard=some (j,want)) (hv:((ops[j]?).bind (·.dst)).bind (a.tmps[·]?)=some (bif g then Value.bool x else undef))
 (hs:Region.noSelect ops=true) (hf:Region.free md ops listed i=true) (hr:Region.ready md ops listed=[i])
 (hQ:∀c u a w,Q (.panic c) (a.put oi.dst u) w->Q (.panic c) a w):wpAnyH P md ops Q S (fuel+1) listed a w:=by
 have hw:=zld (o:=oi) hgd hv;rw[hq]at hw
 cases q with
 | true=>exact zt4 hi hr hw fun K hK=>Oper.wp_mono (fun a1 w1 ⟨e,h1⟩=>by rw[e];exact h1) (hc rfl (fun w'=>K (a.put oi.dst v) w') fun w' hs' hr'=>hK.out _ _ hs' fun _=>h w' hr' hs')
 | false=>exact zrM hi hs hf (by rw[hr];simp) (fun c a w=>hQ c _ a w) hw hS (h w h0 hS)
theorem cF (i:Nat)(v:Value)(R:World->Prop)(hc:x=false->∀K:World->Prop,Shut (∀w',S w'->R w'->K w')->Oper.wp P oi a w (fun a' w'=>a'=a.put oi.dst v/\K w') Q)
 (h:∀w',R w'->S w'->wpAnyH P md ops Q S fuel (listed.setIfInBounds i true) (a.put oi.dst (bif !x then v else undef)) w')
 (h0:R w) (hS:S w:=by assumption) (hi:nth ops.toList i=some oi:=by rfl) (hgd:oi.guard=some (j,false):=by rfl) (hv:((ops[j]?).bind (·.dst)).bind (a.tmps[·]?)=some (Value.bool x):=by rfl)
 (hs:Region.noSelect ops=true:=by kernel_rfl) (hf:Region.free md ops listed i=true:=by kernel_rfl) (hr:Region.ready md ops listed=[i]:=by kernel_rfl)
 (hQ:∀c u a w,Q (.panic c) (a.put oi.dst u) w->Q (.panic c) a w:=by exact fun _ _ _ _ h=>h):wpAnyH P md ops Q S (fuel+1) listed a w:=
 cS0 (g:=true) i (by cases x <;> rfl) v R (fun h=>hc (by simpa using h)) h h0 hS hi hgd hv hs hf hr hQ
theorem cT (i:Nat)(v:Value)(R:World->Prop)(hc:x=true->∀K:World->Prop,Shut (∀w',S w'->R w'->K w')->Oper.wp P oi a w (fun a' w'=>a'=a.put oi.dst v/\K w') Q)
 (h:∀w',R w'->S w'->wpAnyH P md ops Q S fuel (listed.setIfInBounds i true) (a.put oi.dst (bif x then v else undef)) w')
 (h0:R w) (hS:S w:=by assumption) (hi:nth ops.toList i=some oi:=by rfl) (hgd:oi.guard=some (j,true):=by rfl) (hv:((ops[j]?).bind (·.dst)).bind (a.tmps[·]?)=some (Value.bool x):=by rfl)
 (hs:Region.noSelect ops=true:=by kernel_rfl) (hf:Region.free md ops listed i=true:=by kernel_rfl) (hr:Region.ready md ops listed=[i]:=by kernel_rfl)
 (hQ:∀c u a w,Q (.panic c) (a.put oi.dst u) w->Q (.panic c) a w:=by exact fun _ _ _ _ h=>h):wpAnyH P md ops Q S (fuel+1) listed a w:=
 cS0 (g:=true) i (by cases x <;> rfl) v R hc h h0 hS hi hgd hv hs hf hr hQ
theorem cFT (i:Nat)(v:Value)(R:World->Prop)(hc:g=false->x=true->∀K:World->Prop,Shut (∀w',S w'->R w'->K w')->Oper.wp P oi a w (fun a' w'=>a'=a.put oi.dst v/\K w') Q)
 (h:∀w',R w'->S w'->wpAnyH P md ops Q S fuel (listed.setIfInBounds i true) (a.put oi.dst (bif !g&&x then v else undef)) w')
 (h0:R w) (hS:S w:=by assumption) (hi:nth ops.toList i=some oi:=by rfl) (hgd:oi.guard=some (j,true):=by rfl) (hv:((ops[j]?).bind (·.dst)).bind (a.tmps[·]?)=some (bif !g then Value.bool x else undef):=by rfl)
 (hs:Region.noSelect ops=true:=by kernel_rfl) (hf:Region.free md ops listed i=true:=by kernel_rfl) (hr:Region.ready md ops listed=[i]:=by kernel_rfl)
 (hQ:∀c u a w,Q (.panic c) (a.put oi.dst u) w->Q (.panic c) a w:=by exact fun _ _ _ _ h=>h):wpAnyH P md ops Q S (fuel+1) listed a w:=
 cS0 (g:=!g) i (by cases g <;> cases x <;> rfl) v R (fun h=>by cases g <;> cases x <;> first|exact hc rfl rfl|cases h) h h0 hS hi hgd hv hs hf hr hQ
end
section
variable {P:Program} {ops:Array Oper} {Q:Exit->Act->World->Prop} {md:Region.Mode} {S:World->Prop} {X:List Nat}
def zdj (P:Program)(md:Region.Mode)(ops:Array Oper)(Q:Exit->Act->World->Prop)(S:World->Prop)(X:List Nat):Nat->Array Bool->Act->World->Prop
 | 0,listed,a,w=>Region.ready md ops listed=[]/\Q .normal a w
 | fuel+1,listed,a,w=>
  (Region.ready md ops listed=[]->Q .normal a w) /\
  ∀i∈Region.ready md ops listed,wpOp P ops Q i (fun a' w'=>(i ∉ X->S w')/\zdj P md ops Q S X fuel (listed.setIfInBounds i true) a' w') a w
theorem zkt:∀(fuel:Nat) (listed:Array Bool) (a:Act) (w:World),zdj P md ops Q S X fuel listed a w->wpAny P md ops Q fuel listed a w
 | 0,_,_,_,h=>h
 | fuel+1,_,_,_,h=>⟨h.1,fun i hi=>wpOp_mono (fun a' w' h'=>zkt fuel _ a' w' h'.2) (h.2 i hi)⟩
def ztf (md:Region.Mode)(ops:Array Oper)(X:List Nat)(i:Nat):Bool:=X.all fun j=>match ops[j]? with|some o=>o.after.any (fun e=>Region.binds md e&&e.on == i)|none=>true
theorem zob {i:Nat}{oi:Oper}(hi:ops[i]?=some oi)(hsel:∀(j:Nat) (o:Oper) cs b,ops[j]?=some o->o.op≠.select cs b)
 (hQ:∀c a w,Q (.panic c) (a.put oi.dst v) w->Q (.panic c) a w) (hX:ztf md ops X i=true) :
 ∀(fuel:Nat) (listed:Array Bool) (a:Act) (w:World),
  (∀j oj,ops[j]?=some oj->j≠i->listed.getD j true=false->(∀e∈oj.after,Region.binds md e=true->e.on≠i)->oi.apart ops oj=true) ->
  i∈Region.ready md ops listed->YieldsIf P ops S oi v a->S w ->
  zdj P md ops Q S X fuel (listed.setIfInBounds i true) (a.put oi.dst v) w->zdj P md ops Q S X (fuel+1) listed a w:=by
 intro fuel
 induction fuel with
 | zero=>
  intro listed a w _ hr hy hS H;refine⟨fun h=>(by rw[h]at hr;cases hr),fun j hj=>?_⟩
  by_cases hji:j=i
  ·subst hji;exact hy.wpOp hi hS ⟨fun _=>hS,H⟩
  ·have:=ready_mono hj hji
   rw[H.1]at this
   cases this
 | succ fuel ih=>
  intro listed a w hfree hr hy hS H;refine⟨fun h=>(by rw[h]at hr;cases hr),fun j hj=>?_⟩
  by_cases hji:j=i
  ·subst hji;exact hy.wpOp hi hS ⟨fun _=>hS,H⟩
  ·have h1:=H.2 j (ready_mono hj hji)
   obtain⟨hjun,oj,hoj,hall⟩:=mem_ready.1 hj
   have hnot:∀e∈oj.after,Region.binds md e=true->e.on≠i:=fun e he hb heq=>by
    have h1:=hall e he hb;have h0:=(mem_ready.1 hr).1;rw[heq]at h1
    rcases Nat.lt_or_ge i listed.size with h'|h'
    ·simp[h']at h0 h1;rw[h0]at h1;cases h1
    ·simp[Array.getElem?_eq_none h']at h1
   have hjX:j ∉ X:=fun hm=>by
    have h2:=List.all_eq_true.1 hX j hm;simp only[hoj,Array.any_eq_true,Bool.and_eq_true,beq_iff_eq]at h2;obtain⟨k,hk,h3,h4⟩:=h2;exact hnot _ (Array.getElem_mem hk) h3 h4
   have h2:=wpOp_putIf (S:=S) (K:=fun a' w'=>S w'/\zdj P md ops Q S X fuel ((listed.setIfInBounds i true).setIfInBounds j true) a' w') hoj (hfree j oj hoj hji hjun hnot) (fun cs b=>hsel i oi cs b hi) (fun cs b=>hsel j oj cs b hoj) hQ hy (wpOp_mono (fun a' w' h=>⟨h.1 hjX,h.2⟩) h1)
   have hfree':∀k ok,ops[k]?=some ok->k≠i->(listed.setIfInBounds j true).getD k true=false ->
    (∀e∈ok.after,Region.binds md e=true->e.on≠i)->oi.apart ops ok=true:=fun k ok hk hki hun hno=>by
    refine hfree k ok hk hki ?_ hno
    by_cases hjk:j=k
    ·subst hjk;exact hjun
    ·rw[getD_set_ne true hjk]at hun;exact hun
   refine wpOp_mono (fun a' w' h3=>⟨fun _=>h3.2.1,ih (listed.setIfInBounds j true) a' w' hfree' (ready_mono hr (Ne.symm hji)) h3.1 h3.2.1 ?_⟩) h2;rw[Array.setIfInBounds_comm _ _ hji];exact h3.2.2
theorem zfy {listed:Array Bool}{a:Act}{w:World}(hr:Region.ready md ops listed=[])(h:Q .normal a w):∀fuel,zdj P md ops Q S X fuel listed a w
 | 0=>⟨hr,h⟩
 | _+1=>⟨fun _=>h,by rw[hr];simp⟩
theorem zfK {id:Nat}{a:Act}(S:World->Prop)(X:List Nat)(hm:P.follows .mixedOrders=true)(hS:S w.drew)
 (h:S w.drew->zdj P .any ops Q S X ops.size (Array.replicate ops.size false) a w.drew):(Code.region id ops true).wp P Q a w:=
 wp_region_any hm (zkt _ _ _ _ (h hS))
theorem tD (i:Nat){oi:Oper}{fuel:Nat}{listed:Array Bool}{a a':Act}(h:zdj P md ops Q S X fuel (listed.setIfInBounds i true) a' w)
 (hS:S w:=by assumption) (hi:nth ops.toList i=some oi:=by rfl) (hX:ztf md ops X i=true:=by kernel_rfl) (hs:Region.noSelect ops=true:=by kernel_rfl) (hf:Region.free md ops listed i=true:=by kernel_rfl) (hr:(Region.ready md ops listed).contains i=true:=by kernel_rfl)
 (hw:Region.wanted oi (yielded ops a.tmps)=true:=by rfl)
 (hy:∀w,S w->(execOp a.eval oi).run P w=.ok (.value v) w:=by(intro w hSw;(try dsimp only at hSw);go_simp;try with_reducible rfl))
 (ha:a.put oi.dst v=a':=by((try simp only[Act.put,sA,s0,sS]);rfl))
 (hQ:∀c a w,Q (.panic c) (a.put oi.dst v) w->Q (.panic c) a w:=by exact fun _ _ _ h=>h):zdj P md ops Q S X (fuel+1) listed a w:=
 zob (zhZ hi) (Region.noSelect_spec hs) hQ hX fuel listed a w (Region.free_spec (zhZ hi) hf) (by simpa using hr) (Or.inl ⟨hw,hy⟩) hS (ha ▸ h)
theorem cD (i:Nat){oi:Oper}{fuel:Nat}{listed:Array Bool}{a:Act}
 (h:∀K:Act->World->Prop,Shut (∀a w,(i ∉ X->S w)->((i ∉ X->S w)->zdj P md ops Q S X fuel (listed.setIfInBounds i true) a w)->K a w)->Oper.wp P oi a w K Q)
 (hi:nth ops.toList i=some oi:=by rfl) (hr:Region.ready md ops listed=[i]:=by kernel_rfl) (hw:Region.wanted oi (yielded ops a.tmps)=true:=by rfl):zdj P md ops Q S X (fuel+1) listed a w:=
 ⟨fun h0=>(by rw[hr]at h0;cases h0),fun j hj=>by
  rw[hr]at hj;have e:j=i:=by simpa using hj
  subst e;exact wpOp_step (zhZ hi) (fun K hK=>by rw[if_pos hw];exact h K (fun a w hS hW=>hK a w ⟨hS,hW hS⟩))⟩
end
end Go.Proofs.YtjnpjkigofldlaaGreat
namespace Go.Proofs.YtjnpjkigofldlaaGreat
open Go.ChangeShapes Go.WideShapes Go.ChangeAt Go.RowKit
variable {fuel:Nat}{cs:List Value}
theorem Tryz.zlv:Tryz.prog.cellsOf 90=2:=by kernel_rfl
theorem Tryz.zo4:Tryz.prog.cellsOf 88=1:=by kernel_rfl
section
variable {H:Type} {enc:TypeId × Value->H} {w:World} {base:Nat} {spare:Nat->Bool} {held:Bool}
theorem zpn {x:DataW H × List MemPlace}(h:DataW.trod enc Tryz.prog w base spare held fuel 88 cs=some x) :
 ∃a cap fs,cs=[.l a (List.length fs) cap]/\yw w a fs:=by
 obtain⟨a,len,cap,rfl,hm,hr⟩:=za0 Tryz.underlying88 Tryz.zkJ (by omega) h
 rcases Nat.eq_zero_or_pos len with h0|hp
 ·subst h0
  exact⟨a,cap,[],rfl,⟨by simp[maxLen],fun h=>absurd rfl h⟩⟩
 ·obtain⟨b,off,rfl,hb,hrow⟩:=hr hp
  have hf:∀i,i<len->∃f:Fld,∃wa wcap,zf7 w b (off+i*11) f wa wcap:=by
   intro i hi;obtain⟨es,n,y,hel,hcell,hy⟩:=hrow i hi;obtain⟨nm,kd,ls,ms,wa,wcap,ws,to,rl,mu,fx,df,wg,rfl,hS,s0,s5,s9,s10⟩:=zqC hy;refine⟨⟨nm,kd,ls,ms,ws,to,rl,mu,fx,df,wg⟩,wa,wcap,⟨s0,s5,s9,s10⟩,hS,fun j hj=>?_⟩;rw[hcell j hj]
   simp[Fld.cells]
  obtain⟨fs,hl,hfs⟩:=zck len hf;refine⟨_,cap,fs,by rw[hl],⟨by omega,fun _=>⟨b,off,rfl,hb,fun i hi=>hfs i hi⟩⟩⟩
theorem zqw {x:DataW H × List MemPlace}(h:DataW.trod enc Tryz.prog w base spare held fuel 90 cs=some x) :
 ∃kd a cap fs,cs=[.s kd,.l a (List.length fs) cap]/\kd.size<=maxLen/\yw w a fs:=by
 have hlen:cs.length=2:=by
  obtain⟨_,_,_,_,hl,_,_⟩:=DataW.trod_struct Tryz.underlying90 h;rw[hl];exact Tryz.zlv
 match cs,hlen with
 | [c0,c1],_=>
  have hf:=zai Tryz.underlying90 h;obtain⟨_,_,f0⟩:=hf 0 9 0 c0 rfl Tryz.zW rfl;obtain⟨_,_,f1⟩:=hf 1 88 1 c1 rfl Tryz.zo4 rfl;obtain⟨kd,e0,_,s0⟩:=DataW.trod_string Tryz.underlying9 f0;obtain⟨a,cap,fs,e1,hF⟩:=zpn f1;simp only[List.cons.injEq,and_true]at e0 e1;subst e0 e1;exact⟨kd,a,cap,fs,rfl,s0,hF⟩
theorem zpU {x:DataW H × List MemPlace}(h:DataW.trod enc Tryz.prog w base spare held fuel 22 cs=some x) :
 ∃a cap ss,cs=[.l a (List.length ss) cap]/\yU w a ss:=by
 obtain⟨a,len,cap,rfl,hm,hr⟩:=za0 Tryz.underlying22 Tryz.zlv (by omega) h
 rcases Nat.eq_zero_or_pos len with h0|hp
 ·subst h0
  exact⟨a,cap,[],rfl,⟨by simp[maxLen],fun h=>absurd rfl h⟩⟩
 ·obtain⟨b,off,rfl,hb,hrow⟩:=hr hp
  have hf:∀i,i<len->∃s:Shp,∃fa fcap,zmU w b (off+i*2) s fa fcap:=by
   intro i hi;obtain⟨es,n,y,hel,hcell,hy⟩:=hrow i hi;obtain⟨kd,fa,fcap,fs,rfl,s0,hF⟩:=zqw hy;exact⟨⟨kd,fs⟩,fa,fcap,s0,hF,hcell 0 (by omega),hcell 1 (by omega)⟩
  obtain⟨ss,hl,hss⟩:=zck len hf;exact⟨_,cap,ss,by rw[hl],⟨by omega,fun _=>⟨b,off,rfl,hb,fun i hi=>hss i hi⟩⟩⟩
end
end Go.Proofs.YtjnpjkigofldlaaGreat
namespace Go.Proofs.YtjnpjkigofldlaaGreat
open Go.ChangeShapes Go.WideShapes Go.ChangeAt Go.RowKit
theorem Tryz.zmP:Tryz.prog.cellsOf 93=6:=by kernel_rfl
section
variable {H:Type} {enc:TypeId × Value->H} {w:World} {base:Nat} {spare:Nat->Bool} {held:Bool}
theorem zr8 {fuel:Nat}{cs:List Value}{x:DataW H × List MemPlace}(h:DataW.trod enc Tryz.prog w base spare held fuel 93 cs=some x) :
 ∃m:Mnd,cs=m.cells.toList/\m.Small:=by
 have hlen:cs.length=6:=by
  obtain⟨_,_,_,_,hl,_,_⟩:=DataW.trod_struct Tryz.underlying93 h;rw[hl];exact Tryz.zmP
 match cs,hlen with
 | [c0,c1,c2,c3,c4,c5],_=>
  have hf:=zai Tryz.underlying93 h;obtain⟨_,_,f0⟩:=hf 0 9 0 c0 rfl Tryz.zW rfl;obtain⟨_,_,f1⟩:=hf 1 9 1 c1 rfl Tryz.zW rfl;obtain⟨_,_,f2⟩:=hf 2 9 2 c2 rfl Tryz.zW rfl;obtain⟨_,_,f3⟩:=hf 3 9 3 c3 rfl Tryz.zW rfl;obtain⟨_,_,f4⟩:=hf 4 9 4 c4 rfl Tryz.zW rfl;obtain⟨_,_,f5⟩:=hf 5 9 5 c5 rfl Tryz.zW rfl;obtain⟨x0,e0,_,s0⟩:=DataW.trod_string Tryz.underlying9 f0;obtain⟨x1,e1,_,s1⟩:=DataW.trod_string Tryz.underlying9 f1;obtain⟨x2,e2,_,s2⟩:=DataW.trod_string Tryz.underlying9 f2;obtain⟨x3,e3,_,s3⟩:=DataW.trod_string Tryz.underlying9 f3;obtain⟨x4,e4,_,s4⟩:=DataW.trod_string Tryz.underlying9 f4;obtain⟨x5,e5,_,s5⟩:=DataW.trod_string Tryz.underlying9 f5;simp only[List.cons.injEq,and_true]at e0 e1 e2 e3 e4 e5;subst e0 e1 e2 e3 e4 e5;exact⟨⟨x0,x1,x2,x3,x4,x5⟩,rfl,s0,s1,s2,s3,s4,s5⟩
theorem zqj {fuel:Nat}{cs:List Value}{x:DataW H × List MemPlace}(h:DataW.trod enc Tryz.prog w base spare held fuel 23 cs=some x) :
 ∃a cap ms,cs=[.l a (List.length ms) cap]/\qQ w a ms:=by
 obtain⟨a,len,cap,rfl,hm,hr⟩:=za0 Tryz.underlying23 Tryz.zmP (by omega) h
 rcases Nat.eq_zero_or_pos len with h0|hp
 ·subst h0
  exact⟨a,cap,[],rfl,⟨by simp[maxLen],fun i h=>absurd h (by simp),fun h=>absurd rfl h⟩⟩
 ·obtain⟨b,off,rfl,hb,hrow⟩:=hr hp
  have hf:∀i,i<len->∃m:Mnd,m.Small/\∀j,j<6->w.cell? (aD b (off+i*6+j))=m.cells[j]?:=by
   intro i hi;obtain⟨es,n,y,hel,hcell,hy⟩:=hrow i hi;obtain⟨m,rfl,hs⟩:=zr8 hy;exact⟨m,hs,fun j hj=>by rw[hcell j hj];simp⟩
  obtain⟨ms,hl,hms⟩:=zck len hf;exact⟨_,cap,ms,by rw[hl],⟨by omega,fun i hi=>(hms i hi).1,fun _=>⟨b,off,rfl,hb,fun i hi=>(hms i hi).2⟩⟩⟩
end
end Go.Proofs.YtjnpjkigofldlaaGreat
