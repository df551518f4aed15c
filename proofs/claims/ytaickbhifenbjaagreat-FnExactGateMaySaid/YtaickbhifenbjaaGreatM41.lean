import Derived.Test.YtaickbhifenbjaaGreatM40
import Derived.Test.YtaickbhifenbjaaGreatM35
import Derived.Test.YtaickbhifenbjaaGreatM27
import Derived.Test.YtaickbhifenbjaaGreatM30
import Derived.Deep.QuietTactic
import Derived.Deep.RegionHeld3
import Derived.Test.YtaickbhifenbjaaGreatM31
import Derived.Test.YtaickbhifenbjaaGreatM28
import Derived.Test.YtaickbhifenbjaaGreatM03
set_option maxHeartbeats 8000000
namespace Go.Proofs.YtaickbhifenbjaaGreat
open Go.RowKit
namespace Gate
def qB (ss:List Shp) (o:Ob):List ByteArray:=if zy ss o=true then jU (shapeOf ss o.kd).fs o.vs else o.vs
theorem zmb {ss:List Shp} {o:Ob} (h:yt ss=true):zhF ss o=qB ss o:=by
 unfold zhF qB zy
 by_cases h1:zH ss o.kd=true
 ·by_cases h2:o.vs.length=(shapeOf ss o.kd).fs.length
  ·rw [if_pos ⟨h1,h,h2⟩,if_pos (by rw [h1];simp [h2])]
  ·rw [if_neg (fun hh=>h2 hh.2.2),if_neg (by rw [h1];simp [h2])]
 ·rw [if_neg (fun hh=>h1 hh.1),if_neg (by simp [h1])]
end Gate
theorem zeF (a0:Option Addr) (cap0:Nat) (ss:List Shp) (o:Ob) (a a':Option Addr) (cap cap':Nat) (w0 w:World) (hw0:yL w0 a0 ss) (hbb:Below w0.heap.size w0 w) (hc:Gate.zy ss o=true) :
 Calls Tryz.prog 84 #[.slice a0 ss.length cap0,.agg #[.string o.kd,.string o.nm,.string o.tm,.slice a o.vs.length cap,.bool o.en,.slice a' o.hs.length cap',.int .i64 o.vr]] w fun e w'=>∃ fa fcap,e = .returned (.tuple #[.slice fa (Gate.shapeOf ss o.kd).fs.length fcap,.bool true])/\zR w0 fa (Gate.shapeOf ss o.kd).fs/\Below w.heap.size w w':=by
 unfold Gate.zy at hc
 simp only [Bool.and_eq_true,decide_eq_true_eq] at hc
 have HK:Hid (Gate.zH ss o.kd=true):=hc.1
 have HL:Hid (o.vs.length=(Gate.shapeOf ss o.kd).fs.length):=hc.2
 clear hc
 have hw:=hw0.mono hbb
 have hl:=hw.len
 unfold maxLen at hl
 go_enter Tryz.func84,Tryz.ntmps84
 go_wp2_with fail
 refine (jD _ _ _ _ _ (hw.mono ((Below.refl _ _).alloc (Nat.le_refl _) _)) HK.out).mono ?_
 rintro e w1 ⟨ix,hix,rfl,hsh,rfl⟩
 have HSh:Hid (Gate.shapeOf ss o.kd=ss[ix]):=hsh
 clear hsh
 obtain ⟨b,off,rfl,hb0,hr⟩:=hw0.rows (by rintro rfl;simp at hix)
 obtain ⟨fa,fcap,hs0⟩:=hr ix hix
 have hs:=hs0.mono hb0 hbb
 have hcl:=hs.list
 have hfl:=hs0.flds
 have hixI:(ix:Int) < (ss.length:Int):=by omega
 have hix0:decide ((ix:Int) < 0)=false:=by simp
 have hneq:((ss[ix].fs.length:Int) != (o.vs.length:Int))=false:=by have h1:=HL.out;have h2:=HSh.out;rw [h2] at h1;simp [h1]
 have hbw:b < w.heap.size:=Nat.lt_of_lt_of_le hb0 hbb.size
 clear hr hs
 go_wp2_with fail
 go_quiet (fail)
 go_wp2_with fail
 go_ret2
 rw [HSh.out]
 exact ⟨fa,fcap,rfl,hfl,below_drewN ((Below.refl _ _).alloc (Nat.le_refl _) _) _⟩
namespace Gate
theorem zl6 {ss:List Shp} {v:ByteArray} (h:zH ss v=true):(shapeOf ss v).kd=v:=by
 unfold zH at h
 rw [List.any_eq_true] at h
 obtain ⟨x,hx,he⟩:=h
 unfold shapeOf
 cases hf:ss.find? (fun s=>decide (s.kd=v)) with
 | none=>rw [List.find?_eq_none] at hf;exact absurd he (hf x hx)
 | some y=>simpa using List.find?_some hf
theorem zaB {ss:List Shp} {ms:List Mnd} {o:Ob} (hm:yx ss ms=true):qK ss ms o=zy ss o:=by
 unfold qK zy;rw [hm,Bool.and_true]
structure zn5 (ss:List Shp) (ms:List Mnd) (o:Ob) (pl:List Nat):Prop where
 names:zS (shapeOf ss o.kd) ms (shapeOf ss o.kd).fs.length=pl.map (zaR (shapeOf ss o.kd))
 znv:ziZ (zk (shapeOf ss o.kd) ms) (shapeOf ss o.kd).fs.length pl
 place:∀ q (h:q < (shapeOf ss o.kd).fs.length),zP (shapeOf ss o.kd).fs (shapeOf ss o.kd).fs[q].nm=(q:Int)
 kd:(shapeOf ss o.kd).kd=o.kd
 few:(shapeOf ss o.kd).fs.length<=6
 reads:∀ q,q < (shapeOf ss o.kd).fs.length->∀ x ∈ zT (shapeOf ss o.kd) ms q,0<=x/\x < (shapeOf ss o.kd).fs.length
 len:o.vs.length=(shapeOf ss o.kd).fs.length
 mends:ms.length<=12
 res:zeQ ss ms o=yh (decided (shapeOf ss o.kd) ms) pl o.vs
theorem rowOf {ss:List Shp} {ms:List Mnd} {o:Ob} (hm:yx ss ms=true) (hc:zy ss o=true):zn5 ss ms o (greedy (zk (shapeOf ss o.kd) ms) (shapeOf ss o.kd).fs.length (shapeOf ss o.kd).fs.length):=by
 have hmd:qK ss ms o=true:=by rw [zaB hm];exact hc
 obtain ⟨hl,h6,hr,hw⟩:=zcq hmd
 unfold zy at hc
 simp only [Bool.and_eq_true] at hc
 obtain ⟨i,hi,e⟩:=zeg hc.1
 have hkd:=zl6 hc.1
 unfold yx at hm
 simp only [Bool.and_eq_true,decide_eq_true_eq] at hm
 obtain ⟨⟨⟨h12,hs⟩,ha⟩,_⟩:=hm
 have hrd:∀ p,p < (shapeOf ss o.kd).fs.length->∀ q ∈ zk (shapeOf ss o.kd) ms p,q < (shapeOf ss o.kd).fs.length:=by
  intro p hp q hq
  unfold zk at hq
  obtain ⟨x,hx,rfl⟩:=List.mem_map.1 hq
  have:=hr p hp x hx
  omega
 have htw:=zdA hrd hw
 have htg:ziZ (zk (shapeOf ss o.kd) ms) (shapeOf ss o.kd).fs.length (greedy (zk (shapeOf ss o.kd) ms) (shapeOf ss o.kd).fs.length (shapeOf ss o.kd).fs.length) :=
  (zbT _ _ _).znv (zgV htw.zj4 _ (Nat.le_refl _))
 refine ⟨?_,htg,?_,hkd,h6,hr,hl,h12,?_⟩
 ·rw [e];exact zdC hs ha i hi _
 ·rw [e]
  intro q hq
  refine zdh ss[i].fs _ q hq ?_ rfl
  unfold hasName
  rw [List.any_eq_false]
  intro x hx
  obtain ⟨j,hj,rfl⟩:=List.mem_iff_getElem.1 hx
  have hjq:j < q:=by simp at hj;omega
  simp only [List.getElem_take,decide_eq_true_eq]
  exact zef hs i hi j q hjq hq
 ·exact zkA htw htg (ziW _ _) o.vs hl
theorem zjW {α:Type} (D:Nat->List α->α) (pl:List Nat) (vs:List α) (k:Nat) (h:k < pl.length):yh D (pl.take (k+1)) vs=(yh D (pl.take k) vs).set pl[k] (D pl[k] (yh D (pl.take k) vs)):=by
 unfold yh;rw [List.take_succ_eq_append_getElem h,List.foldl_append];rfl
end Gate
theorem zor {lo:Nat} {w:World} {g:Nat} {us:List ByteArray} (h:zu lo w (some ⟨g,0,none⟩) us) (p:Nat) (hp:p < us.length):w.cell? ⟨g,p,none⟩=some (.string us[p]):=by
 rcases h with ⟨h0,_⟩ | ⟨g',C,hg,_,hh,hc⟩
 ·cases h0
 ·cases hg;rw [cell_of_block hh,hc p hp]
theorem znX {lo:Nat} {w:World} {g p:Nat} {us:List ByteArray} (h:zu lo w (some ⟨g,0,none⟩) us) (_hp:p < us.length):w.frozen? ⟨g,p,none⟩=false:=by
 rcases h with ⟨h0,_⟩ | ⟨g',C,hg,_,hh,hc⟩
 ·cases h0
 ·cases hg;exact zn hh
theorem zn3 {w:World} {lo:Nat} {v:Value} {row:List ByteArray} (h:w.ownsRow lo 9 1 v row.length (row.map Value.string)):∃ ra rcap,v = .slice ra row.length rcap/\(row ≠ []->∃ rb,ra=some ⟨rb,0,none⟩/\lo<=rb/\rb < w.heap.size/\∀ i (h:i < row.length),w.cell? ⟨rb,i,none⟩=some (.string row[i])):=by
 obtain ⟨_,⟨h0,h1⟩ | ⟨g,cp,cur,h0,h1⟩⟩:=id h
 ·have e:=List.length_eq_zero_iff.1 h1
  subst e
  exact ⟨none,0,by rw [h0];rfl,fun hn=>absurd rfl hn⟩
 ·subst h0
  refine ⟨some ⟨g,0,none⟩,cp,rfl,fun _=>⟨g,rfl,(h.lt g rfl).1,(h.lt g rfl).2,fun i hi=>?_⟩⟩
  rw [h.cellAt i (by omega)]
  simp [hi]
theorem ziN (s:Shp) (ms:List Mnd) (o:Ob) (vs:List ByteArray) (n:Nat) (hn:vs.length=n) (p:Nat) (fa ma va ha:Option Addr) (fcap mcap vcap hcap:Nat) (w:World) (hf:zR w fa s.fs) (hm:y7 w ma ms) (hv:zF w va vs) (hc:vs.length=s.fs.length) (hp:p < s.fs.length) (hix:Gate.zP s.fs s.fs[p].nm=(p:Int)) (hkd:o.kd=s.kd) (hrd:∀ x ∈ Gate.zT s ms p,0<=x/\x < s.fs.length) :
 Calls Tryz.prog 168 #[.slice fa s.fs.length fcap,.slice ma ms.length mcap,.agg #[.string o.kd,.string o.nm,.string o.tm,.slice va n vcap,.bool o.en,.slice ha o.hs.length hcap,.int .i64 o.vr],.string s.fs[p].nm] w fun e w'=>e = .returned (.string (Gate.decided s ms p vs))/\Below w.heap.size w w':=by
 subst hn
 exact ziT s ms o vs p fa ma va ha fcap mcap vcap hcap w hf hm hv hc hp hix hkd hrd
set_option maxRecDepth 20000 in
theorem zkz (a0 ma:Option Addr) (cap0 mcap:Nat) (ss:List Shp) (ms:List Mnd) (o:Ob) (b off b' off' cap cap':Nat) (w:World) (hw:yL w a0 ss) (hm:y7 w ma ms) (ho:qG w o (some ⟨b,off,none⟩) (some ⟨b',off',none⟩)) (hl:o.vs.length<=1048576) (hl':o.hs.length<=1048576) (hok:Gate.yx ss ms=true) :
 Calls Tryz.prog 122 #[.slice a0 ss.length cap0,.slice ma ms.length mcap,.agg #[.string o.kd,.string o.nm,.string o.tm,.slice (some ⟨b,off,none⟩) o.vs.length cap,.bool o.en,.slice (some ⟨b',off',none⟩) o.hs.length cap',.int .i64 o.vr]] w (zfK o (Gate.zb4 ss ms o) w):=by
 have hsl:=hw.len
 unfold maxLen at hsl
 have HW:Hid (yL w a0 ss/\y7 w ma ms):=⟨hw,hm⟩
 clear hw hm
 by_cases hc:Gate.zy ss o=true
 rotate_left
 ·have HC:Hid (Gate.zy ss o=false):=by simpa [Hid] using hc
  have HRES:Hid (Gate.zb4 ss ms o=o.vs):=by unfold Hid Gate.zb4;rw [if_neg (by rw [Gate.zaB hok];exact hc)]
  have HH:Hid (qG w o (some ⟨b,off,none⟩) (some ⟨b',off',none⟩)):=ho
  clear hc ho
  go_enter Tryz.func122,Tryz.ntmps122
  go_wp2_with fail
  refine (zhT o b off b' off' cap cap' _ (HH.out.mono (zC w (.cells #[.string o.kd,.string o.nm,.string o.tm,.slice (some ⟨b,off,none⟩) o.vs.length cap,.bool o.en,.slice (some ⟨b',off',none⟩) o.hs.length cap',.int .i64 o.vr] 121) (.cells #[.string ByteArray.empty,.string ByteArray.empty,.string ByteArray.empty,.slice none 0 0,.bool false,.slice none 0 0,.int .i64 0] 121))) hl hl').mono ?_
  rintro e w1 ⟨a,dap,a',dap',m,rfl,ht,hm,hsm,ht',hb1⟩
  have HO1:Hid (w1.heap[w.heap.size]?=some (.cells #[.string o.kd,.string o.nm,.string o.tm,.slice (some ⟨b,off,none⟩) o.vs.length cap,.bool o.en,.slice (some ⟨b',off',none⟩) o.hs.length cap',.int .i64 o.vr] 121)):=(hb1.block w.heap.size (by simp;omega)).trans (yw _ _ _).1
  have HR1:Hid (w1.heap[w.heap.size+1]?=some (.cells #[.string ByteArray.empty,.string ByteArray.empty,.string ByteArray.empty,.slice none 0 0,.bool false,.slice none 0 0,.int .i64 0] 121)):=(hb1.block (w.heap.size+1) (by simp)).trans (yw _ _ _).2
  have hX1:∀ j,w1.cell? ⟨w.heap.size,j,none⟩=(#[.string o.kd,.string o.nm,.string o.tm,.slice (some ⟨b,off,none⟩) o.vs.length cap,.bool o.en,.slice (some ⟨b',off',none⟩) o.hs.length cap',.int .i64 o.vr]:Array Value)[j]?:=fun j=>cell_of_block HO1.out
  have hz1:w.heap.size+1 < w1.heap.size:=by have:=hb1.size;simp at this;omega
  have hz0:w.heap.size < w1.heap.size:=by omega
  have hB1:Below w.heap.size w w1:=(zC _ _ _).trans (hb1.mono (by simp;omega))
  have HT:Hid (zu (w.heap.size+1+1) w1 a o.vs/\(∀ g,a=some g->g.block < m)/\w.heap.size+1+1<=m/\zu m w1 a' o.hs):=by
   simp only [World.size_alloc] at ht hsm
   exact ⟨ht,hm,hsm,ht'⟩
  clear ht hm hsm ht' hb1
  go_wp2_with fail
  have hbs:=(Below.refl w1.heap.size w1).alloc (Nat.le_refl _) (.cells #[.string o.kd,.string o.nm,.string o.tm,.slice a o.vs.length dap,.bool o.en,.slice a' o.hs.length dap',.int .i64 o.vr] 121)
  have hBs:=hB1.trans (hbs.mono hB1.size)
  refine (zcI a0 cap0 ss o _ _ cap cap' _ (HW.out.1.mono hBs) (HH.out.mono hBs) HC.out).mono ?_
  rintro e w2 ⟨v,rfl,hb2⟩
  have hba:=hbs.trans (hb2.mono hbs.size)
  have hR2:=(hba.block _ hz1).trans HR1.out
  have hU2:∀ j,w2.cell? ⟨w1.heap.size,j,none⟩=(#[.string o.kd,.string o.nm,.string o.tm,.slice a o.vs.length dap,.bool o.en,.slice a' o.hs.length dap',.int .i64 o.vr]:Array Value)[j]?:=za (zl w1 _ _) (by simp) hb2
  have hRc:∀ j,w2.cell? ⟨w.heap.size+1,j,none⟩=(#[.string ByteArray.empty,.string ByteArray.empty,.string ByteArray.empty,.slice none 0 0,.bool false,.slice none 0 0,.int .i64 0]:Array Value)[j]?:=fun j=>cell_of_block hR2
  have hRf:∀ j,w2.frozen? ⟨w.heap.size+1,j,none⟩=false:=fun j=>zn hR2
  have HX:Hid (zu (w.heap.size+1+1) w2 a o.vs/\zu m w2 a' o.hs/\Below w.heap.size w w2):=⟨HT.out.1.mono hba,HT.out.2.2.2.mono hba,hB1.trans (hba.mono hB1.size)⟩
  clear hbs hBs hb2 hba hR2 hX1
  go_wp2_with fail
  refine bodyPost_ret (v:=(.agg #[.string o.kd,.string o.nm,.string o.tm,.slice a o.vs.length dap,.bool o.en,.slice a' o.hs.length dap',.int .i64 o.vr])) (by simp [results,Tryz.results122,go_sem,hRc]) rfl ?_
  obtain ⟨ht,ht',hB⟩:=HX.out
  rw [HRES.out]
  exact ⟨a,dap,a',dap',m,rfl,(jK ht _ (by omega) _ _ _ _ _ _ _).low (by omega),HT.out.2.1,by have:=HT.out.2.2.1;omega,jK ht' _ (by have:=HT.out.2.2.1;omega) _ _ _ _ _ _ _,zaz hB _ (by omega) _ _ _ _ _ _ _⟩
 have HC:Hid (Gate.zy ss o=true):=hc
 have HRO:Hid (Gate.zn5 ss ms o (Gate.greedy (Gate.zk (Gate.shapeOf ss o.kd) ms) (Gate.shapeOf ss o.kd).fs.length (Gate.shapeOf ss o.kd).fs.length)):=Gate.rowOf hok hc
 have HRES:Hid (Gate.zb4 ss ms o=Gate.zeQ ss ms o):=by unfold Hid Gate.zb4;rw [if_pos (by rw [Gate.zaB hok];exact hc)]
 have HK:Hid (Gate.zH ss o.kd=true):=by unfold Gate.zy at hc;simp only [Bool.and_eq_true] at hc;exact hc.1
 have HH:Hid (qG w o (some ⟨b,off,none⟩) (some ⟨b',off',none⟩)):=ho
 clear hc ho
 go_enter Tryz.func122,Tryz.ntmps122
 go_wp2_with fail
 refine (zhT o b off b' off' cap cap' _ (HH.out.mono (zC w (.cells #[.string o.kd,.string o.nm,.string o.tm,.slice (some ⟨b,off,none⟩) o.vs.length cap,.bool o.en,.slice (some ⟨b',off',none⟩) o.hs.length cap',.int .i64 o.vr] 121) (.cells #[.string ByteArray.empty,.string ByteArray.empty,.string ByteArray.empty,.slice none 0 0,.bool false,.slice none 0 0,.int .i64 0] 121))) hl hl').mono ?_
 rintro e w1 ⟨a,dap,a',dap',m,rfl,ht,hm,hsm,ht',hb1⟩
 have HO1:Hid (w1.heap[w.heap.size]?=some (.cells #[.string o.kd,.string o.nm,.string o.tm,.slice (some ⟨b,off,none⟩) o.vs.length cap,.bool o.en,.slice (some ⟨b',off',none⟩) o.hs.length cap',.int .i64 o.vr] 121)):=(hb1.block w.heap.size (by simp;omega)).trans (yw _ _ _).1
 have HR1:Hid (w1.heap[w.heap.size+1]?=some (.cells #[.string ByteArray.empty,.string ByteArray.empty,.string ByteArray.empty,.slice none 0 0,.bool false,.slice none 0 0,.int .i64 0] 121)):=(hb1.block (w.heap.size+1) (by simp)).trans (yw _ _ _).2
 have hX1:∀ j,w1.cell? ⟨w.heap.size,j,none⟩=(#[.string o.kd,.string o.nm,.string o.tm,.slice (some ⟨b,off,none⟩) o.vs.length cap,.bool o.en,.slice (some ⟨b',off',none⟩) o.hs.length cap',.int .i64 o.vr]:Array Value)[j]?:=fun j=>cell_of_block HO1.out
 have hz1:w.heap.size+1 < w1.heap.size:=by have:=hb1.size;simp at this;omega
 have hz0:w.heap.size < w1.heap.size:=by omega
 have hB1:Below w.heap.size w w1:=(zC _ _ _).trans (hb1.mono (by simp;omega))
 have HT:Hid (zu (w.heap.size+1+1) w1 a o.vs/\(∀ g,a=some g->g.block < m)/\w.heap.size+1+1<=m/\zu m w1 a' o.hs):=by
  simp only [World.size_alloc] at ht hsm
  exact ⟨ht,hm,hsm,ht'⟩
 clear ht hm hsm ht' hb1
 go_wp2_with fail
 have hbs:=(Below.refl w1.heap.size w1).alloc (Nat.le_refl _) (.cells #[.string o.kd,.string o.nm,.string o.tm,.slice a o.vs.length dap,.bool o.en,.slice a' o.hs.length dap',.int .i64 o.vr] 121)
 have hBs:=hB1.trans (hbs.mono hB1.size)
 refine (zeF a0 cap0 ss o _ _ cap cap' w _ HW.out.1 hBs HC.out).mono ?_
 rintro e w2 ⟨fa,fcap,rfl,hf,hb2⟩
 have HFA:Hid (zR w fa (Gate.shapeOf ss o.kd).fs):=hf
 have hba:=hbs.trans (hb2.mono hbs.size)
 have HR2:Hid (w2.heap[w.heap.size+1]?=some (.cells #[.string ByteArray.empty,.string ByteArray.empty,.string ByteArray.empty,.slice none 0 0,.bool false,.slice none 0 0,.int .i64 0] 121)):=(hba.block _ hz1).trans HR1.out
 have HO2:Hid (w2.heap[w.heap.size]?=some (.cells #[.string o.kd,.string o.nm,.string o.tm,.slice (some ⟨b,off,none⟩) o.vs.length cap,.bool o.en,.slice (some ⟨b',off',none⟩) o.hs.length cap',.int .i64 o.vr] 121)):=(hba.block _ hz0).trans HO1.out
 have HU2:Hid (w2.heap[w1.heap.size]?=some (.cells #[.string o.kd,.string o.nm,.string o.tm,.slice a o.vs.length dap,.bool o.en,.slice a' o.hs.length dap',.int .i64 o.vr] 121)):=(hb2.block _ (by simp)).trans (alloc_at _ _)
 have HX2:Hid (zu (w.heap.size+1+1) w2 a o.vs/\zu m w2 a' o.hs/\Below w.heap.size w w2):=⟨HT.out.1.mono hba,HT.out.2.2.2.mono hba,hB1.trans (hba.mono hB1.size)⟩
 have hz2:w1.heap.size < w2.heap.size:=(Array.getElem?_eq_some_iff.1 HU2.out).1
 have hX2:∀ j,w2.cell? ⟨w.heap.size,j,none⟩=(#[.string o.kd,.string o.nm,.string o.tm,.slice (some ⟨b,off,none⟩) o.vs.length cap,.bool o.en,.slice (some ⟨b',off',none⟩) o.hs.length cap',.int .i64 o.vr]:Array Value)[j]?:=fun j=>cell_of_block HO2.out
 have hzo2:w.heap.size < w2.heap.size:=by omega
 clear hbs hBs hb2 hba hX1 hf
 go_wp2_with fail
 refine (jD _ _ _ _ _ (HW.out.1.mono HX2.out.2.2) HK.out).mono ?_
 rintro e w3 ⟨ix,hix,rfl,hsh,rfl⟩
 have HSh:Hid (Gate.shapeOf ss o.kd=ss[ix]):=hsh
 clear hsh
 obtain ⟨sb,soff,rfl,hsb0,hsr⟩:=HW.out.1.rows (by rintro rfl;simp at hix)
 obtain ⟨fa2,fcap2,hs0⟩:=hsr ix hix
 have hs:=hs0.mono hsb0 HX2.out.2.2
 have hck:=hs.kind
 have hcl:=hs.list
 have HF2:Hid (zR w fa2 ss[ix].fs):=hs0.flds
 have hixI:(ix:Int) < (ss.length:Int):=by omega
 have hsbw:sb < w3.heap.size:=Nat.lt_of_lt_of_le hsb0 HX2.out.2.2.size
 clear hsr hs hs0
 go_wp2_with fail
 refine (zjN fa2 ma fcap2 mcap ss[ix] ms _ (HF2.out.mono HX2.out.2.2) (HW.out.2.mono HX2.out.2.2) HRO.out.mends (by have:=HRO.out.few;rw [HSh.out] at this;exact this)).mono ?_
 rintro e w4 ⟨v,rfl,hrow,hb4⟩
 rw [<- HSh.out,HRO.out.names] at hrow
 obtain ⟨ra,rcap,rfl,hrw⟩:=zn3 (by rw [List.length_map];rw [List.length_map] at hrow;exact hrow)
 rw [List.length_map]
 have HRO2:=HRO.out
 have HX4:Hid (zu (w.heap.size+1+1) w4 a o.vs/\zu m w4 a' o.hs/\Below w.heap.size w w4):=⟨HX2.out.1.mono hb4,HX2.out.2.1.mono hb4,HX2.out.2.2.trans (hb4.mono HX2.out.2.2.size)⟩
 have HR4:Hid (w4.heap[w.heap.size+1]?=some (.cells #[.string ByteArray.empty,.string ByteArray.empty,.string ByteArray.empty,.slice none 0 0,.bool false,.slice none 0 0,.int .i64 0] 121)):=(hb4.block _ (by omega)).trans HR2.out
 have HU4:Hid (w4.heap[w1.heap.size]?=some (.cells #[.string o.kd,.string o.nm,.string o.tm,.slice a o.vs.length dap,.bool o.en,.slice a' o.hs.length dap',.int .i64 o.vr] 121)):=(hb4.block _ hz2).trans HU2.out
 have HZ4:Hid (w3.heap.size<=w4.heap.size):=hb4.size
 clear hb4 hX2 hck hcl HSh HF2 HRO hixI hrow
 revert HRO2 HFA hrw
 generalize Gate.greedy (Gate.zk (Gate.shapeOf ss o.kd) ms) (Gate.shapeOf ss o.kd).fs.length (Gate.shapeOf ss o.kd).fs.length=pl
 intro HFA hrw hro
 have HRW:Hid (Gate.zn5 ss ms o pl):=hro
 have HVS:Hid (Gate.zeQ ss ms o=Gate.yh (Gate.decided (Gate.shapeOf ss o.kd) ms) pl o.vs):=hro.res
 have hpl6:pl.length<=6:=by
  have h1:=Gate.zbo pl (List.range (Gate.shapeOf ss o.kd).fs.length) hro.znv.nodup (fun x hx=>List.mem_range.2 ((hro.znv.mem x).1 hx))
  rw [List.length_range] at h1
  have:=hro.few
  omega
 clear hro
 go_wp2_with fail
 go_loopw [11] (fun i wr=>∃ k:Nat,k<=pl.length/\i = .int .i64 k/\zu (w.heap.size+1+1) wr a (Gate.yh (Gate.decided (Gate.shapeOf ss o.kd) ms) (pl.take k) o.vs)/\zu m wr a' o.hs/\wr.heap[w.heap.size+1]?=some (.cells #[.string ByteArray.empty,.string ByteArray.empty,.string ByteArray.empty,.slice none 0 0,.bool false,.slice none 0 0,.int .i64 0] 121)/\wr.heap[w1.heap.size]?=some (.cells #[.string o.kd,.string o.nm,.string o.tm,.slice a o.vs.length dap,.bool o.en,.slice a' o.hs.length dap',.int .i64 o.vr] 121)/\Below w.heap.size w wr/\w3.heap.size<=wr.heap.size/\(pl.map (Gate.zaR (Gate.shapeOf ss o.kd)) ≠ []->∃ rb,ra=some ⟨rb,0,none⟩/\w3.heap.size<=rb/\rb < wr.heap.size/\∀ i (h:i < (pl.map (Gate.zaR (Gate.shapeOf ss o.kd))).length),wr.cell? ⟨rb,i,none⟩=some (.string (pl.map (Gate.zaR (Gate.shapeOf ss o.kd)))[i]))) (fun i _=>pl.length - (intOf i).toNat)
 case atStart=>exact ⟨0,Nat.zero_le _,rfl,HX4.out.1,HX4.out.2.1,HR4.out,HU4.out,HX4.out.2.2,HZ4.out,hrw⟩
 case round =>
  obtain ⟨k,hk,rfl,ht,ht',hR,hO,hB,hz3,hrr⟩:=hrel
  by_cases hlt:k < pl.length
  ·obtain ⟨rb,rfl,hrb0,hrbz,hrc⟩:=hrr (by intro h;have:=congrArg List.length h;simp at this;rw [this] at hlt;simp at hlt)
   have hpn:pl[k] < (Gate.shapeOf ss o.kd).fs.length:=(HRW.out.znv.mem _).1 (List.getElem_mem hlt)
   have hck:=hrc k (by rw [List.length_map];exact hlt)
   rw [List.getElem_map] at hck
   have hnm:Gate.zaR (Gate.shapeOf ss o.kd) pl[k]=(Gate.shapeOf ss o.kd).fs[pl[k]].nm:=by unfold Gate.zaR;rw [Gate.getD_at _ _ _ hpn]
   rw [hnm] at hck
   have HTS:Hid (Gate.yh (Gate.decided (Gate.shapeOf ss o.kd) ms) (pl.take (k+1)) o.vs=(Gate.yh (Gate.decided (Gate.shapeOf ss o.kd) ms) (pl.take k) o.vs).set pl[k] (Gate.decided (Gate.shapeOf ss o.kd) ms pl[k] (Gate.yh (Gate.decided (Gate.shapeOf ss o.kd) ms) (pl.take k) o.vs))):=Gate.zjW _ pl o.vs k hlt
   have HUS:Hid (∀ x ∈ Gate.yh (Gate.decided (Gate.shapeOf ss o.kd) ms) (pl.take k) o.vs,x.size<=maxLen):=Gate.zbF HW.out.2.small _ _ HH.out.vals.small
   have HLV:Hid ((Gate.yh (Gate.decided (Gate.shapeOf ss o.kd) ms) (pl.take k) o.vs).length=o.vs.length):=Gate.jH _ _ _
   have HRR:Hid (∀ i (h:i < (pl.map (Gate.zaR (Gate.shapeOf ss o.kd))).length),wr.cell? ⟨rb,i,none⟩=some (.string (pl.map (Gate.zaR (Gate.shapeOf ss o.kd)))[i])):=hrc
   clear hrr hrc hnm
   revert hck HTS hpn
   generalize pl[k]=p
   intro hpn hck HTS
   revert HTS HLV HUS ht
   generalize Gate.yh (Gate.decided (Gate.shapeOf ss o.kd) ms) (pl.take k) o.vs=us
   intro ht HUS HLV HTS
   have hltI:(k:Int) < (pl.length:Int):=by omega
   have hpv:p < us.length:=by rw [HLV.out,HRW.out.len];exact hpn
   have hpI:(p:Int) < (o.vs.length:Int):=by have:=HRW.out.len;omega
   obtain ⟨g,C,hga,hgl,hgh,hgc⟩:∃ g C,a=some ⟨g,0,none⟩/\w.heap.size+1+1<=g/\wr.heap[g]?=some (.cells C 9)/\∀ i (h:i < us.length),C[i]?=some (.string us[i]):=by
    rcases ht with ⟨_,h0⟩ | h0
    ·rw [h0] at hpv;simp at hpv
    ·exact h0
   have hgm:g < m:=HT.out.2.1 _ hga
   have hgw1:g < w1.heap.size:=HT.out.1.lt _ hga
   have hgw:g < wr.heap.size:=by omega
   subst hga
   have hUS:zF wr (some ⟨g,0,none⟩) us:=ht.at (by rw [HLV.out];exact HH.out.vals.len) HUS.out
   have HJP:Hid (Gate.zP (Gate.shapeOf ss o.kd).fs (Gate.shapeOf ss o.kd).fs[p].nm=(p:Int)):=HRW.out.place p hpn
   have hOc:∀ j,wr.cell? ⟨w1.heap.size,j,none⟩=(#[.string o.kd,.string o.nm,.string o.tm,.slice (some ⟨g,0,none⟩) o.vs.length dap,.bool o.en,.slice a' o.hs.length dap',.int .i64 o.vr]:Array Value)[j]?:=fun j=>cell_of_block hO
   have hOz:w1.heap.size < wr.heap.size:=(Array.getElem?_eq_some_iff.1 hO).1
   have hRk:(k:Int) < ((pl.map (Gate.zaR (Gate.shapeOf ss o.kd))).length:Int):=by rw [List.length_map];exact hltI
   have hkr:wr.cell? ⟨rb,0+k,none⟩=some (.string (Gate.shapeOf ss o.kd).fs[p].nm):=by rw [Nat.zero_add];exact hck
   have HX:Hid (zu (w.heap.size+1+1) wr (some ⟨g,0,none⟩) us/\zu m wr a' o.hs/\wr.heap[w.heap.size+1]?=some (.cells #[.string ByteArray.empty,.string ByteArray.empty,.string ByteArray.empty,.slice none 0 0,.bool false,.slice none 0 0,.int .i64 0] 121)/\wr.heap[w1.heap.size]?=some (.cells #[.string o.kd,.string o.nm,.string o.tm,.slice (some ⟨g,0,none⟩) o.vs.length dap,.bool o.en,.slice a' o.hs.length dap',.int .i64 o.vr] 121)/\Below w.heap.size w wr/\w3.heap.size<=wr.heap.size):=⟨ht,ht',hR,hO,hB,hz3⟩
   clear ht ht' hR hO hB hz3 hgh hgc
   go_wp2_with fail
   have hb:=(Below.refl wr.heap.size wr).drew
   have hS1:∀ j,wr.drew.cell? ⟨w1.heap.size,j,none⟩=(#[.string o.kd,.string o.nm,.string o.tm,.slice (some ⟨g,0,none⟩) o.vs.length dap,.bool o.en,.slice a' o.hs.length dap',.int .i64 o.vr]:Array Value)[j]?:=hOc
   have hS2:wr.drew.cell? ⟨rb,k,none⟩=some (.string (Gate.shapeOf ss o.kd).fs[p].nm):=hck
   have hrg:rb ≠ g:=by omega
   have how:w1.heap.size ≠ g:=by omega
   clear hOc hck hkr
   go_region_held3 (fun w'=>(∀ j,w'.cell? ⟨w1.heap.size,j,none⟩=(#[.string o.kd,.string o.nm,.string o.tm,.slice (some ⟨g,0,none⟩) o.vs.length dap,.bool o.en,.slice a' o.hs.length dap',.int .i64 o.vr]:Array Value)[j]?)/\w'.cell? ⟨rb,k,none⟩=some (.string (Gate.shapeOf ss o.kd).fs[p].nm)) (first | exact ⟨hS1,hS2⟩ | exact ⟨hS3,hS4⟩) (first
    | (go_at_call 163;refine (zcK HJP.out (qm _ _ (Gate.shapeOf ss o.kd).fs _ _ (by exact HFA.out.mono (HX.out.2.2.2.2.1.trans (hb.mono HX.out.2.2.2.2.1.size))))).mono ?_;rintro e w5 ⟨rfl,rfl⟩)
    | (go_at_call 168;refine (ziN (Gate.shapeOf ss o.kd) ms o us _ HLV.out p _ _ _ _ _ _ _ _ _ (by exact HFA.out.mono (HX.out.2.2.2.2.1.trans (hb.mono HX.out.2.2.2.2.1.size))) (by exact HW.out.2.mono (HX.out.2.2.2.2.1.trans (hb.mono HX.out.2.2.2.2.1.size))) (by exact hUS.mono hb) (by rw [HLV.out];exact HRW.out.len) hpn HJP.out HRW.out.kd.symm (HRW.out.reads p hpn)).mono ?_;rintro e w6 ⟨rfl,hb6⟩;have hb:=hb.trans (hb6.mono hb.size);have hS1:=za hS1 hOz hb6;have hS2:=(hb6.cell (p:=⟨rb,k,none⟩) hrbz).trans hS2;have hU6:=hUS.mono hb;have hG:=HX.out.1.mono hb;clear hb6;have hS3:∀ j,(w6.setCell ⟨g,p,none⟩ (.string (Gate.decided (Gate.shapeOf ss o.kd) ms p us))).cell? ⟨w1.heap.size,j,none⟩=(#[.string o.kd,.string o.nm,.string o.tm,.slice (some ⟨g,0,none⟩) o.vs.length dap,.bool o.en,.slice a' o.hs.length dap',.int .i64 o.vr]:Array Value)[j]?:=fun j=>(yu how).trans (hS1 j);have hS4:(w6.setCell ⟨g,p,none⟩ (.string (Gate.decided (Gate.shapeOf ss o.kd) ms p us))).cell? ⟨rb,k,none⟩=some (.string (Gate.shapeOf ss o.kd).fs[p].nm):=(yu hrg).trans hS2;have hgc6:w6.cell? ⟨g,p,none⟩=some (.string us[p]):=zor hG p hpv;have hgf6:w6.frozen? ⟨g,p,none⟩=false:=znX hG hpv))
   go_wp2_with fail
   obtain ⟨ht,ht',hR,hO,hB,hz3⟩:=HX.out
   exact ⟨⟨k+1,by omega,by go_num,by rw [HTS.out];exact (ht.mono hb).set p _,(ht'.mono hb).setCell _ hgm _,(Below.heap_setCell _ _ _ _ (by show w.heap.size+1 ≠ g;omega)).trans ((hb.block _ (by omega)).trans hR),(Below.heap_setCell _ _ _ _ (by show w1.heap.size ≠ g;omega)).trans ((hb.block _ hOz).trans hO),(hB.trans (hb.mono hB.size)).setCell (p:=⟨g,p,none⟩) (by show w.heap.size<=g;omega) _,by rw [World.size_setCell];exact Nat.le_trans hz3 hb.size,fun _=>⟨rb,rfl,hrb0,by rw [World.size_setCell];exact Nat.lt_of_lt_of_le hrbz hb.size,fun i hi=>(yu hrg).trans ((hb.cell (p:=⟨rb,i,none⟩) hrbz).trans (HRR.out i hi))⟩⟩,zw hlt⟩
  ·have e:k=pl.length:=by omega
   subst e
   rw [List.take_of_length_le (Nat.le_refl _),<- HVS.out] at ht
   have hRc:∀ j,wr.cell? ⟨w.heap.size+1,j,none⟩=(#[.string ByteArray.empty,.string ByteArray.empty,.string ByteArray.empty,.slice none 0 0,.bool false,.slice none 0 0,.int .i64 0]:Array Value)[j]?:=fun j=>cell_of_block hR
   have hRf:∀ j,wr.frozen? ⟨w.heap.size+1,j,none⟩=false:=fun j=>zn hR
   have hOc:∀ j,wr.cell? ⟨w1.heap.size,j,none⟩=(#[.string o.kd,.string o.nm,.string o.tm,.slice a o.vs.length dap,.bool o.en,.slice a' o.hs.length dap',.int .i64 o.vr]:Array Value)[j]?:=fun j=>cell_of_block hO
   have hOz:w1.heap.size < wr.heap.size:=(Array.getElem?_eq_some_iff.1 hO).1
   have HX:Hid (zu (w.heap.size+1+1) wr a (Gate.zeQ ss ms o)/\zu m wr a' o.hs/\Below w.heap.size w wr):=⟨ht,ht',hB⟩
   clear ht ht' hB hR hO hrr
   go_wp2_with fail
   refine bodyPost_ret (v:=(.agg #[.string o.kd,.string o.nm,.string o.tm,.slice a o.vs.length dap,.bool o.en,.slice a' o.hs.length dap',.int .i64 o.vr])) (by simp [results,Tryz.results122,go_sem,hRc]) rfl ?_
   obtain ⟨ht,ht',hB⟩:=HX.out
   rw [HRES.out]
   exact ⟨a,dap,a',dap',m,rfl,(jK ht _ (by omega) _ _ _ _ _ _ _).low (by omega),HT.out.2.1,by have:=HT.out.2.2.1;omega,jK ht' _ (by have:=HT.out.2.2.1;omega) _ _ _ _ _ _ _,zaz hB _ (by omega) _ _ _ _ _ _ _⟩
theorem zoU {fs:List Fld} (h:zbw fs):∀ f ∈ fs,f.df.size<=maxLen:=by
 intro f hf
 obtain ⟨i,hi,rfl⟩:=List.mem_iff_getElem.1 hf
 exact (h.small i hi).1.df
theorem zmS {ss:List Shp} {o:Ob} (hs:zcW ss) (ho:∀ s ∈ o.vs,s.size<=maxLen):∀ s ∈ Gate.zhF ss o,s.size<=maxLen:=by
 unfold Gate.zhF
 split
 ·rename_i h
  have hf:zbw (Gate.shapeOf ss o.kd).fs:=by
   obtain ⟨hk,_,_⟩:=h
   unfold Gate.zH at hk
   rw [List.any_eq_true] at hk
   obtain ⟨x,hx,he⟩:=hk
   unfold Gate.shapeOf
   cases hfi:ss.find? (fun s=>decide (s.kd=o.kd)) with
   | none=>rw [List.find?_eq_none] at hfi;exact absurd he (hfi x hx)
   | some y =>
    obtain ⟨i,hi,rfl⟩:=List.mem_iff_getElem.1 (List.mem_of_find?_eq_some hfi)
    exact (hs.small i hi).2.2
  intro s hm
  obtain ⟨i,hi,rfl⟩:=List.mem_iff_getElem.1 hm
  have hl:=Gate.qQ h.2.2
  have e:(Gate.jU (Gate.shapeOf ss o.kd).fs o.vs)[i]=Gate.zaj ((Gate.shapeOf ss o.kd).fs[i]'(by have:=h.2.2;omega)) (o.vs[i]'(by omega)):=by simp [Gate.jU]
  rw [e]
  unfold Gate.zaj
  split
  ·exact zoU hf _ (List.getElem_mem _)
  ·exact ho _ (List.getElem_mem _)
 ·exact ho
theorem zkE {lo:Nat} {w:World} {v:Value} {ws:List ByteArray} (h:w.ownsRow lo 9 1 v ws.length (ws.map Value.string)) (hne:v ≠ .slice none 0 0):∃ a cap,v = .slice a ws.length cap/\zu lo w a ws/\∃ g,a=some ⟨g,0,none⟩:=by
 obtain ⟨a,cap,hv,ht⟩:=zu.zeL h
 refine ⟨a,cap,hv,ht,?_⟩
 obtain ⟨_,⟨h0,_⟩ | ⟨g,cp,cur,h0,_⟩⟩:=id h
 ·exact absurd h0 hne
 ·rw [hv] at h0;cases h0;exact ⟨g,rfl⟩
def zns (o:Ob) (vs:List ByteArray) (w:World) (e:Ending) (w':World):Prop :=
 ∃ a dap a' dap' m,e = .returned (.agg #[.string o.kd,.string o.nm,.string o.tm,.slice a o.vs.length dap,.bool o.en,.slice a' o.hs.length dap',.int .i64 o.vr])/\zu w.heap.size w' a vs/\(∀ g,a=some g->g.block < m)/\w.heap.size<=m/\zu m w' a' o.hs/\Below w.heap.size w w'/\(∃ g,a=some ⟨g,0,none⟩)/\∃ g,a'=some ⟨g,0,none⟩
set_option maxRecDepth 20000 in
theorem zgB (o:Ob) (b off b' off' cap cap':Nat) (w:World) (ho:qG w o (some ⟨b,off,none⟩) (some ⟨b',off',none⟩)) (hl:o.vs.length<=1048576) (hl':o.hs.length<=1048576) :
 Calls Tryz.prog 167 #[.agg #[.string o.kd,.string o.nm,.string o.tm,.slice (some ⟨b,off,none⟩) o.vs.length cap,.bool o.en,.slice (some ⟨b',off',none⟩) o.hs.length cap',.int .i64 o.vr]] w
  fun e w'=>∃ a dap a' dap' m,e = .returned (.agg #[.string o.kd,.string o.nm,.string o.tm,.slice a o.vs.length dap,.bool o.en,.slice a' o.hs.length dap',.int .i64 o.vr])/\zu w.heap.size w' a o.vs/\(∀ g,a=some g->g.block < m)/\w.heap.size<=m/\zu m w' a' o.hs/\Below w.heap.size w w'/\(∃ g,a=some ⟨g,0,none⟩)/\∃ g,a'=some ⟨g,0,none⟩:=by
 obtain ⟨i0,hi,hz0,hz1',hz2⟩:=info_parts Tryz.zcf
 go_enter Tryz.func167,Tryz.ntmps167
 go_wp2_with (first
  | (at_builtin;refine wpList_append_own _ rfl (.tmp 3) (.tmp 5) 91 rfl (w.heap.size+1+1) 9 i0 (.string ByteArray.empty) 1 16 Tryz.underlying91 hi hz0 hz1' hz2 rfl (by decide) (.slice (some ⟨w.heap.size+1+1,0,none⟩) 0 0) 0 [] rfl ⟨rfl,.inr ⟨w.heap.size+1+1,0,#[],rfl,Nat.le_refl _,zbQ _ _ _ _,Nat.le_refl _,by simp [maxLen],rfl,rfl⟩⟩ ⟨b,off,none⟩ o.vs.length cap (o.vs.map Value.string) rfl (by simp) (zev (ho.vals.mono (jB _ _ _ _))) ze4 (by unfold maxLen;omega) (by omega) (by simp) ?_;intro v' w1 hown hgr hnn;simp only [Nat.zero_add,List.nil_append] at hown;obtain ⟨a,dap,rfl,ht1,hsA⟩:=zkE hown (fun h=>by have:=(hnn.1 h).1;cases this);clear hnn;obtain ⟨hk1,hr1,hB1,hz1⟩:=zgU hgr;have hX1:∀ j,w1.cell? ⟨w.heap.size,j,none⟩=(#[.string o.kd,.string o.nm,.string o.tm,.slice (some ⟨b,off,none⟩) o.vs.length cap,.bool o.en,.slice (some ⟨b',off',none⟩) o.hs.length cap',.int .i64 o.vr]:Array Value)[j]?:=fun j=>cell_of_block hk1;have hF1:∀ j,w1.frozen? ⟨w.heap.size,j,none⟩=false:=fun j=>zn hk1;have hzz1:w.heap.size < w1.heap.size:=(by omega);have hone:=hB1.setCell (p:=⟨w.heap.size,3,none⟩) (Nat.le_refl _) (.slice a o.vs.length dap);have HT1:Hid (zu (w.heap.size+1+1) w1 a o.vs):=ht1;have HK1:Hid (w1.heap[w.heap.size]?=some (.cells #[.string o.kd,.string o.nm,.string o.tm,.slice (some ⟨b,off,none⟩) o.vs.length cap,.bool o.en,.slice (some ⟨b',off',none⟩) o.hs.length cap',.int .i64 o.vr] 121)):=hk1;have HR1:Hid (w1.heap[w.heap.size+1]?=some (.cells #[.string ByteArray.empty,.string ByteArray.empty,.string ByteArray.empty,.slice none 0 0,.bool false,.slice none 0 0,.int .i64 0] 121)):=hr1;clear ht1 hk1 hr1;clear hown hgr)
  | (at_builtin;refine wpList_append_own _ rfl (.tmp 8) (.tmp 10) 91 rfl w1.heap.size 9 i0 (.string ByteArray.empty) 1 16 Tryz.underlying91 hi hz0 hz1' hz2 rfl (by decide) (.slice (some ⟨w1.heap.size,0,none⟩) 0 0) 0 [] rfl ⟨rfl,.inr ⟨w1.heap.size,0,#[],rfl,Nat.le_refl _,zm1 _ _ _ _,Nat.le_refl _,(by simp [maxLen]),rfl,rfl⟩⟩ ⟨b',off',none⟩ o.hs.length cap' (o.hs.map Value.string) rfl (by simp) (zev (ho.holds.mono (hone.alloc hone.size _))) ze4 (by unfold maxLen;omega) (by omega) (by simp [World.setCell]) ?_;intro v'' w2 hown hgr hnn;simp only [Nat.zero_add,List.nil_append] at hown;obtain ⟨a',dap',rfl,ht2,hsA'⟩:=zkE hown (fun h=>by have:=(hnn.1 h).1;cases this);clear hnn;obtain ⟨hk2,hr2,hB2,hz2'⟩:=zjP HK1.out HR1.out hB1 hz1 hgr;have HU2:Hid (zu w1.heap.size w2 a' o.hs):=ht2;have HT2:Hid (zu (w.heap.size+1+1) w2 a o.vs):=((HT1.out.setCell _ (by simp;omega) _).mono ((Below.refl _ _).alloc (Nat.le_refl _) _)).grown hgr (fun g hg=>Nat.ne_of_lt (HT1.out.lt g hg));have hX2:∀ j,w2.cell? ⟨w.heap.size,j,none⟩=(#[.string o.kd,.string o.nm,.string o.tm,.slice a o.vs.length dap,.bool o.en,.slice (some ⟨b',off',none⟩) o.hs.length cap',.int .i64 o.vr]:Array Value)[j]?:=fun j=>cell_of_block hk2;have hF2:∀ j,w2.frozen? ⟨w.heap.size,j,none⟩=false:=fun j=>zn hk2;have hY2:∀ j,w2.cell? ⟨w.heap.size+1,j,none⟩=(#[.string ByteArray.empty,.string ByteArray.empty,.string ByteArray.empty,.slice none 0 0,.bool false,.slice none 0 0,.int .i64 0]:Array Value)[j]?:=fun j=>cell_of_block hr2;have hG2:∀ j,w2.frozen? ⟨w.heap.size+1,j,none⟩=false:=fun j=>zn hr2;have hzz2:w.heap.size+1 < w2.heap.size:=(by omega);clear hown hgr ht2 hk2 hr2 hX1 hF1))
 refine bodyPost_ret (v:=(.agg #[.string o.kd,.string o.nm,.string o.tm,.slice a o.vs.length dap,.bool o.en,.slice a' o.hs.length dap',.int .i64 o.vr])) (by simp [results,Tryz.results167,go_sem,hY2]) rfl ⟨a,dap,a',dap',w1.heap.size,rfl,((((((((HT2.out.setCell _ (by simp;omega) _).setCell _ (by simp) _).setCell _ (by simp) _).setCell _ (by simp) _).setCell _ (by simp) _).setCell _ (by simp) _).setCell _ (by simp) _).setCell _ (by simp) _).low (by omega),HT1.out.lt,by omega,((((((((HU2.out.setCell _ (by simp;omega) _).setCell _ (by simp;omega) _).setCell _ (by simp;omega) _).setCell _ (by simp;omega) _).setCell _ (by simp;omega) _).setCell _ (by simp;omega) _).setCell _ (by simp;omega) _).setCell _ (by simp;omega) _),((((((((hB2.setCell (Nat.le_refl _) _).setCell (by simp) _).setCell (by simp) _).setCell (by simp) _).setCell (by simp) _).setCell (by simp) _).setCell (by simp) _).setCell (by simp) _),hsA,hsA'⟩
theorem zkB (a0:Option Addr) (cap0:Nat) (ss:List Shp) (o:Ob) (b off b' off' cap cap':Nat) (w:World) (hw:yL w a0 ss) (ho:qG w o (some ⟨b,off,none⟩) (some ⟨b',off',none⟩)) (hl:o.vs.length<=1048576) (hl':o.hs.length<=1048576) :
 Calls Tryz.prog 123 #[.slice a0 ss.length cap0,.agg #[.string o.kd,.string o.nm,.string o.tm,.slice (some ⟨b,off,none⟩) o.vs.length cap,.bool o.en,.slice (some ⟨b',off',none⟩) o.hs.length cap',.int .i64 o.vr]] w (zns o (Gate.qB ss o) w):=by
 by_cases hc:Gate.zy ss o=true
 rotate_left
 ·have HC:Hid (Gate.zy ss o=false):=by simpa [Hid] using hc
  have HRES:Hid (Gate.qB ss o=o.vs):=by unfold Hid Gate.qB;rw [if_neg hc]
  clear hc
  have HH:Hid (qG w o (some ⟨b,off,none⟩) (some ⟨b',off',none⟩)):=ho
  clear ho
  go_enter Tryz.func123,Tryz.ntmps123
  go_wp2_with fail
  refine (zgB o b off b' off' cap cap' _ (HH.out.mono (zC w (.cells #[.string o.kd,.string o.nm,.string o.tm,.slice (some ⟨b,off,none⟩) o.vs.length cap,.bool o.en,.slice (some ⟨b',off',none⟩) o.hs.length cap',.int .i64 o.vr] 121) (.cells #[.string ByteArray.empty,.string ByteArray.empty,.string ByteArray.empty,.slice none 0 0,.bool false,.slice none 0 0,.int .i64 0] 121))) hl hl').mono ?_
  rintro e w1 ⟨a,dap,a',dap',m,rfl,ht,hm,hsm,ht',hb1,hsA,hsA'⟩
  have HO1:Hid (w1.heap[w.heap.size]?=some (.cells #[.string o.kd,.string o.nm,.string o.tm,.slice (some ⟨b,off,none⟩) o.vs.length cap,.bool o.en,.slice (some ⟨b',off',none⟩) o.hs.length cap',.int .i64 o.vr] 121)):=(hb1.block w.heap.size (by simp;omega)).trans (yw _ _ _).1
  have HR1:Hid (w1.heap[w.heap.size+1]?=some (.cells #[.string ByteArray.empty,.string ByteArray.empty,.string ByteArray.empty,.slice none 0 0,.bool false,.slice none 0 0,.int .i64 0] 121)):=(hb1.block (w.heap.size+1) (by simp)).trans (yw _ _ _).2
  have hX1:∀ j,w1.cell? ⟨w.heap.size,j,none⟩=(#[.string o.kd,.string o.nm,.string o.tm,.slice (some ⟨b,off,none⟩) o.vs.length cap,.bool o.en,.slice (some ⟨b',off',none⟩) o.hs.length cap',.int .i64 o.vr]:Array Value)[j]?:=fun j=>cell_of_block HO1.out
  have hz1:w.heap.size+1 < w1.heap.size:=by have:=hb1.size;simp at this;omega
  have hz0:w.heap.size < w1.heap.size:=by omega
  have hB1:Below w.heap.size w w1:=(zC _ _ _).trans (hb1.mono (by simp;omega))
  have HT:Hid (zu (w.heap.size+1+1) w1 a o.vs/\(∀ g,a=some g->g.block < m)/\w.heap.size+1+1<=m/\zu m w1 a' o.hs):=by
   simp only [World.size_alloc] at ht hsm
   exact ⟨ht,hm,hsm,ht'⟩
  clear ht hm hsm ht' hb1
  go_wp2_with fail
  have hbs:=(Below.refl w1.heap.size w1).alloc (Nat.le_refl _) (.cells #[.string o.kd,.string o.nm,.string o.tm,.slice a o.vs.length dap,.bool o.en,.slice a' o.hs.length dap',.int .i64 o.vr] 121)
  have hBs:=hB1.trans (hbs.mono hB1.size)
  refine (zcI a0 cap0 ss o _ _ cap cap' _ (hw.mono hBs) (HH.out.mono hBs) HC.out).mono ?_
  rintro e w2 ⟨v,rfl,hb2⟩
  have hba:=hbs.trans (hb2.mono hbs.size)
  have hR2:=(hba.block _ hz1).trans HR1.out
  have hU2:∀ j,w2.cell? ⟨w1.heap.size,j,none⟩=(#[.string o.kd,.string o.nm,.string o.tm,.slice a o.vs.length dap,.bool o.en,.slice a' o.hs.length dap',.int .i64 o.vr]:Array Value)[j]?:=za (zl w1 _ _) (by simp) hb2
  have hRc:∀ j,w2.cell? ⟨w.heap.size+1,j,none⟩=(#[.string ByteArray.empty,.string ByteArray.empty,.string ByteArray.empty,.slice none 0 0,.bool false,.slice none 0 0,.int .i64 0]:Array Value)[j]?:=fun j=>cell_of_block hR2
  have hRf:∀ j,w2.frozen? ⟨w.heap.size+1,j,none⟩=false:=fun j=>zn hR2
  have HX:Hid (zu (w.heap.size+1+1) w2 a o.vs/\zu m w2 a' o.hs/\Below w.heap.size w w2):=⟨HT.out.1.mono hba,HT.out.2.2.2.mono hba,hB1.trans (hba.mono hB1.size)⟩
  clear hbs hBs hb2 hba hR2 hX1
  go_wp2_with fail
  refine bodyPost_ret (v:=(.agg #[.string o.kd,.string o.nm,.string o.tm,.slice a o.vs.length dap,.bool o.en,.slice a' o.hs.length dap',.int .i64 o.vr])) (by simp [results,Tryz.results123,go_sem,hRc]) rfl ?_
  obtain ⟨ht,ht',hB⟩:=HX.out
  rw [HRES.out]
  exact ⟨a,dap,a',dap',m,rfl,(jK ht _ (by omega) _ _ _ _ _ _ _).low (by omega),HT.out.2.1,by have:=HT.out.2.2.1;omega,jK ht' _ (by have:=HT.out.2.2.1;omega) _ _ _ _ _ _ _,zaz hB _ (by omega) _ _ _ _ _ _ _,hsA,hsA'⟩
 have HC:Hid (Gate.zy ss o=true):=hc
 have HRES:Hid (Gate.qB ss o=Gate.jU (Gate.shapeOf ss o.kd).fs o.vs):=by unfold Hid Gate.qB;rw [if_pos hc]
 have HCC:Hid (o.vs.length=(Gate.shapeOf ss o.kd).fs.length):=by unfold Gate.zy at hc;simp only [Bool.and_eq_true,decide_eq_true_eq] at hc;exact hc.2
 clear hc
 have HH:Hid (qG w o (some ⟨b,off,none⟩) (some ⟨b',off',none⟩)):=ho
 clear ho
 go_enter Tryz.func123,Tryz.ntmps123
 go_wp2_with fail
 refine (zgB o b off b' off' cap cap' _ (HH.out.mono (zC w (.cells #[.string o.kd,.string o.nm,.string o.tm,.slice (some ⟨b,off,none⟩) o.vs.length cap,.bool o.en,.slice (some ⟨b',off',none⟩) o.hs.length cap',.int .i64 o.vr] 121) (.cells #[.string ByteArray.empty,.string ByteArray.empty,.string ByteArray.empty,.slice none 0 0,.bool false,.slice none 0 0,.int .i64 0] 121))) hl hl').mono ?_
 rintro e w1 ⟨a,dap,a',dap',m,rfl,ht,hm,hsm,ht',hb1,hsA,hsA'⟩
 have HO1:Hid (w1.heap[w.heap.size]?=some (.cells #[.string o.kd,.string o.nm,.string o.tm,.slice (some ⟨b,off,none⟩) o.vs.length cap,.bool o.en,.slice (some ⟨b',off',none⟩) o.hs.length cap',.int .i64 o.vr] 121)):=(hb1.block w.heap.size (by simp;omega)).trans (yw _ _ _).1
 have HR1:Hid (w1.heap[w.heap.size+1]?=some (.cells #[.string ByteArray.empty,.string ByteArray.empty,.string ByteArray.empty,.slice none 0 0,.bool false,.slice none 0 0,.int .i64 0] 121)):=(hb1.block (w.heap.size+1) (by simp)).trans (yw _ _ _).2
 have hX1:∀ j,w1.cell? ⟨w.heap.size,j,none⟩=(#[.string o.kd,.string o.nm,.string o.tm,.slice (some ⟨b,off,none⟩) o.vs.length cap,.bool o.en,.slice (some ⟨b',off',none⟩) o.hs.length cap',.int .i64 o.vr]:Array Value)[j]?:=fun j=>cell_of_block HO1.out
 have hz1:w.heap.size+1 < w1.heap.size:=by have:=hb1.size;simp at this;omega
 have hz0:w.heap.size < w1.heap.size:=by omega
 have hB1:Below w.heap.size w w1:=(zC _ _ _).trans (hb1.mono (by simp;omega))
 have HT:Hid (zu (w.heap.size+1+1) w1 a o.vs/\(∀ g,a=some g->g.block < m)/\w.heap.size+1+1<=m/\zu m w1 a' o.hs):=by
  simp only [World.size_alloc] at ht hsm
  exact ⟨ht,hm,hsm,ht'⟩
 clear ht hm hsm ht' hb1
 go_wp2_with fail
 have hbs:=(Below.refl w1.heap.size w1).alloc (Nat.le_refl _) (.cells #[.string o.kd,.string o.nm,.string o.tm,.slice a o.vs.length dap,.bool o.en,.slice a' o.hs.length dap',.int .i64 o.vr] 121)
 have hBs:=hB1.trans (hbs.mono hB1.size)
 refine (zeF a0 cap0 ss o _ _ cap cap' w _ hw hBs HC.out).mono ?_
 rintro e w2 ⟨fa,fcap,rfl,hf,hb2⟩
 have hba:=hbs.trans (hb2.mono hbs.size)
 have HR2:Hid (w2.heap[w.heap.size+1]?=some (.cells #[.string ByteArray.empty,.string ByteArray.empty,.string ByteArray.empty,.slice none 0 0,.bool false,.slice none 0 0,.int .i64 0] 121)):=(hba.block _ hz1).trans HR1.out
 have HU2:Hid (w2.heap[w1.heap.size]?=some (.cells #[.string o.kd,.string o.nm,.string o.tm,.slice a o.vs.length dap,.bool o.en,.slice a' o.hs.length dap',.int .i64 o.vr] 121)):=(hb2.block _ (by simp)).trans (alloc_at _ _)
 have HX2:Hid (zu (w.heap.size+1+1) w2 a o.vs/\zu m w2 a' o.hs/\Below w.heap.size w w2):=⟨HT.out.1.mono hba,HT.out.2.2.2.mono hba,hB1.trans (hba.mono hB1.size)⟩
 have hz2:w1.heap.size < w2.heap.size:=(Array.getElem?_eq_some_iff.1 HU2.out).1
 clear hbs hBs hb2 hba hX1 hw
 have hlen:=hf.len
 unfold maxLen at hlen
 revert HRES HCC hf hlen
 generalize (Gate.shapeOf ss o.kd).fs=fs
 intro HRES HCC hf hlen
 go_wp2_with fail
 go_loopw [8] (fun i wr=>∃ k:Nat,k<=fs.length/\i = .int .i64 k/\zu (w.heap.size+1+1) wr a (Gate.je fs o.vs k)/\zu m wr a' o.hs/\wr.heap[w.heap.size+1]?=some (.cells #[.string ByteArray.empty,.string ByteArray.empty,.string ByteArray.empty,.slice none 0 0,.bool false,.slice none 0 0,.int .i64 0] 121)/\wr.heap[w1.heap.size]?=some (.cells #[.string o.kd,.string o.nm,.string o.tm,.slice a o.vs.length dap,.bool o.en,.slice a' o.hs.length dap',.int .i64 o.vr] 121)/\Below w.heap.size w wr) (fun i _=>fs.length - (intOf i).toNat)
 case atStart=>exact ⟨0,Nat.zero_le _,rfl,by rw [Gate.zgI];exact HX2.out.1,HX2.out.2.1,HR2.out,HU2.out,HX2.out.2.2⟩
 case round =>
  obtain ⟨k,hk,rfl,ht,ht',hR,hO,hB⟩:=hrel
  have hOc:∀ j,wr.cell? ⟨w1.heap.size,j,none⟩=(#[.string o.kd,.string o.nm,.string o.tm,.slice a o.vs.length dap,.bool o.en,.slice a' o.hs.length dap',.int .i64 o.vr]:Array Value)[j]?:=fun j=>cell_of_block hO
  have hOz:w1.heap.size < wr.heap.size:=(Array.getElem?_eq_some_iff.1 hO).1
  by_cases hlt:k < fs.length
  ·have hltv:k < o.vs.length:=by rw [HCC.out];exact hlt
   obtain ⟨fb,foff,rfl,hfb,hr⟩:=hf.rows (by rintro rfl;simp at hlt)
   obtain ⟨wa,wcap,hf0⟩:=hr k hlt
   have hf1:=hf0.mono hfb hB
   obtain ⟨c0,c1,c2,c3,c4,c5,c6,c7,c8,c9,c10⟩:=hf1.load
   have hltI:(k:Int) < (fs.length:Int):=by omega
   have hltV:(k:Int) < (o.vs.length:Int):=by omega
   obtain ⟨g,C,hga,hgl,hgh,hgc⟩:∃ g C,a=some ⟨g,0,none⟩/\w.heap.size+1+1<=g/\wr.heap[g]?=some (.cells C 9)/\∀ i (h:i < (Gate.je fs o.vs k).length),C[i]?=some (.string (Gate.je fs o.vs k)[i]):=by
    rcases ht with ⟨_,h0⟩ | h0
    ·have:=Gate.zaq HCC.out k;rw [h0] at this;simp at this;omega
    ·exact h0
   have hgm:g < m:=HT.out.2.1 _ hga
   have hgw1:g < w1.heap.size:=HT.out.1.lt _ hga
   have hgw:g < wr.heap.size:=by omega
   subst hga
   have hcell:wr.cell? ⟨g,k,none⟩=some (.string o.vs[k]):=by
    have h1:=Gate.zes HCC.out k hlt
    have hkl:k < (Gate.je fs o.vs k).length:=by rw [Gate.zaq HCC.out];exact hltv
    rw [List.getElem?_eq_getElem hkl,List.getElem?_eq_getElem hltv] at h1
    rw [cell_of_block hgh,hgc k hkl,Option.some.inj h1]
   have hgf:wr.frozen? ⟨g,k,none⟩=false:=zn hgh
   have HX:Hid (zu (w.heap.size+1+1) wr (some ⟨g,0,none⟩) (Gate.je fs o.vs k)/\zu m wr a' o.hs/\wr.heap[w.heap.size+1]?=some (.cells #[.string ByteArray.empty,.string ByteArray.empty,.string ByteArray.empty,.slice none 0 0,.bool false,.slice none 0 0,.int .i64 0] 121)/\wr.heap[w1.heap.size]?=some (.cells #[.string o.kd,.string o.nm,.string o.tm,.slice (some ⟨g,0,none⟩) o.vs.length dap,.bool o.en,.slice a' o.hs.length dap',.int .i64 o.vr] 121)/\Below w.heap.size w wr):=⟨ht,ht',hR,hO,hB⟩
   clear ht ht' hR hO hB hr hf0 hf1 hgh hgc hf
   by_cases hv:o.vs[k].toList.isEmpty=true
   ·have HV:Hid (Gate.zaj fs[k] o.vs[k]=fs[k].df):=by unfold Hid Gate.zaj;rw [if_pos hv]
    go_wp2_with fail
    have hfg:fb ≠ g:=by omega
    have hq1:(wr.setCell ⟨g,k,none⟩ (.string fs[k].df)).drew.cell? ⟨w1.heap.size,3,none⟩=some (.slice (some ⟨g,0,none⟩) o.vs.length dap):=(yu (by show w1.heap.size ≠ g;omega)).trans (hOc 3)
    have hq2:(wr.setCell ⟨g,k,none⟩ (.string fs[k].df)).drew.cell? ⟨fb,foff+k * 11+9,none⟩=some (.string fs[k].df):=(yu hfg).trans c9
    have hgd:wr.drew.frozen? ⟨g,k,none⟩=false:=hgf
    have hcd:wr.drew.cell? ⟨g,k,none⟩=some (.string o.vs[k]):=hcell
    go_region_held3 (fun w'=>w'.cell? ⟨w1.heap.size,3,none⟩=some (.slice (some ⟨g,0,none⟩) o.vs.length dap)/\w'.cell? ⟨fb,foff+k * 11+9,none⟩=some (.string fs[k].df)) (first | exact ⟨hOc 3,c9⟩ | exact ⟨hq1,hq2⟩) (fail)
    go_wp2_with fail
    obtain ⟨ht,ht',hR,hO,hB⟩:=HX.out
    exact ⟨⟨k+1,by omega,by go_num,by rw [Gate.zcw HCC.out k hlt,HV.out];exact ht.set k _,ht'.setCell _ hgm _,(Below.heap_setCell _ _ _ _ (by show w.heap.size+1 ≠ g;omega)).trans hR,(Below.heap_setCell _ _ _ _ (by show w1.heap.size ≠ g;omega)).trans hO,(hB.setCell (p:=⟨g,k,none⟩) (by show w.heap.size<=g;omega) _).drew⟩,zw hlt⟩
   ·have HV:Hid (Gate.zaj fs[k] o.vs[k]=o.vs[k]):=by unfold Hid Gate.zaj;rw [if_neg hv]
    go_wp2_with fail
    obtain ⟨ht,ht',hR,hO,hB⟩:=HX.out
    have hsame:(Gate.je fs o.vs k).set k o.vs[k]=Gate.je fs o.vs k:=by
     have h1:=Gate.zes HCC.out k hlt
     have hkl:k < (Gate.je fs o.vs k).length:=by rw [Gate.zaq HCC.out];exact hltv
     rw [List.getElem?_eq_getElem hkl,List.getElem?_eq_getElem hltv] at h1
     rw [<- Option.some.inj h1,List.set_getElem_self]
    exact ⟨⟨k+1,by omega,by go_num,by rw [Gate.zcw HCC.out k hlt,HV.out,hsame];exact ht,ht',hR,hO,hB⟩,zw hlt⟩
  ·have e:k=fs.length:=by omega
   subst e
   rw [Gate.zhK HCC.out] at ht
   have hRc:∀ j,wr.cell? ⟨w.heap.size+1,j,none⟩=(#[.string ByteArray.empty,.string ByteArray.empty,.string ByteArray.empty,.slice none 0 0,.bool false,.slice none 0 0,.int .i64 0]:Array Value)[j]?:=fun j=>cell_of_block hR
   have hRf:∀ j,wr.frozen? ⟨w.heap.size+1,j,none⟩=false:=fun j=>zn hR
   have HX:Hid (zu (w.heap.size+1+1) wr a (Gate.jU fs o.vs)/\zu m wr a' o.hs/\Below w.heap.size w wr):=⟨ht,ht',hB⟩
   clear ht ht' hB hR hO hf
   go_wp2_with fail
   refine bodyPost_ret (v:=(.agg #[.string o.kd,.string o.nm,.string o.tm,.slice a o.vs.length dap,.bool o.en,.slice a' o.hs.length dap',.int .i64 o.vr])) (by simp [results,Tryz.results123,go_sem,hRc]) rfl ?_
   obtain ⟨ht,ht',hB⟩:=HX.out
   rw [HRES.out]
   exact ⟨a,dap,a',dap',m,rfl,(jK ht _ (by omega) _ _ _ _ _ _ _).low (by omega),HT.out.2.1,by have:=HT.out.2.2.1;omega,jK ht' _ (by have:=HT.out.2.2.1;omega) _ _ _ _ _ _ _,zaz hB _ (by omega) _ _ _ _ _ _ _,hsA,hsA'⟩
end Go.Proofs.YtaickbhifenbjaaGreat
