import Derived.Test.YtihdafafigceiaaGreatM23
import Derived.Test.YtihdafafigceiaaGreatM22
import Derived.WalkKit
import Derived.Test.YtihdafafigceiaaGreatM03
import Derived.Test.YtihdafafigceiaaGreatM09
import Derived.Test.YtihdafafigceiaaGreatM16
import Derived.Test.YtihdafafigceiaaGreatM04
set_option maxHeartbeats 2000000
namespace Go.Proofs.YtihdafafigceiaaGreat
open Go.RowKit
theorem zhI (a:Option Addr) (cap:Nat) (w:World) :
 Calls Tryz.prog 222 #[.slice a 0 cap] w fun e w'=>∃ v,e = .returned v/\w'.ownsRow w.heap.size 9 1 v 0 []/\Below w.heap.size w w':=by
 cases a with
 | none=>exact zey cap w
 | some g =>
  go_enter Tryz.func222,Tryz.ntmps222
  go_wp2_with fail
  go_ret
  exact ⟨_,rfl,World.ownsRow_nil _ _ _ _,Below.refl _ _⟩
theorem zeU (a:Option Addr) (cap:Nat) (ws:List ByteArray) (w:World) (hw:zD w a ws) (hl:ws.length<=1048576) :
 Calls Tryz.prog 222 #[.slice a ws.length cap] w
  fun e w'=>∃ v,e = .returned v/\w'.ownsRow w.heap.size 9 1 v ws.length (ws.map Value.string)/\Below w.heap.size w w':=by
 by_cases h:ws=[]
 ·subst h
  exact zhI a cap w
 ·obtain ⟨b,off,rfl,_⟩:=hw.cells h
  exact zeL b off cap ws w hw hl
theorem zif (o:Ob) (va ha:Option Addr) (cap cap':Nat) (w:World) (ho:qj w o va ha) (hl:o.vs.length<=1048576) (hl':o.hs.length<=1048576) :
 Calls Tryz.prog 219 #[.agg #[.string o.kd,.string o.nm,.string o.tm,.slice va o.vs.length cap,.bool o.en,.slice ha o.hs.length cap',.int .i64 o.vr]] w
  fun e w'=>∃ a dap a' dap' m,e = .returned (.agg #[.string o.kd,.string o.nm,.string o.tm,.slice a o.vs.length dap,.bool o.en,.slice a' o.hs.length dap',.int .i64 o.vr])/\zw w.heap.size w' a o.vs/\(∀ g,a=some g->g.block < m)/\w.heap.size<=m/\zw m w' a' o.hs/\Below w.heap.size w w':=by
 go_enter Tryz.func219,Tryz.ntmps219
 go_wp2_with fail
 refine (zeU _ _ _ _ (ho.vals.mono (zA _ _ _)) hl).mono ?_
 rintro e w1 ⟨v,rfl,hown1,hb1⟩
 obtain ⟨a,dap,rfl,ht1⟩:=zw.ze8 hown1
 have hk1:w1.heap[w.heap.size]?=some (.cells #[.string o.kd,.string o.nm,.string o.tm,.slice va o.vs.length cap,.bool o.en,.slice ha o.hs.length cap',.int .i64 o.vr] 115):=(hb1.block w.heap.size (by simp;omega)).trans (yu _ _ _).1
 have hr1:w1.heap[w.heap.size+1]?=some (.cells #[.string ByteArray.empty,.string ByteArray.empty,.string ByteArray.empty,.slice none 0 0,.bool false,.slice none 0 0,.int .i64 0] 115):=(hb1.block (w.heap.size+1) (by simp)).trans (yu _ _ _).2
 have HT:Hid (zw (w.heap.size+1+1) w1 a o.vs):=by unfold Hid;simpa using ht1
 have hz1:w.heap.size+1 < w1.heap.size:=by have:=hb1.size;simp at this;omega
 have hB1:Below w.heap.size w w1:=(zA _ _ _).trans (hb1.mono (by simp;omega))
 have HK:Hid (w1.heap[w.heap.size]?=some (.cells #[.string o.kd,.string o.nm,.string o.tm,.slice va o.vs.length cap,.bool o.en,.slice ha o.hs.length cap',.int .i64 o.vr] 115)):=hk1
 have HRR:Hid (w1.heap[w.heap.size+1]?=some (.cells #[.string ByteArray.empty,.string ByteArray.empty,.string ByteArray.empty,.slice none 0 0,.bool false,.slice none 0 0,.int .i64 0] 115)):=hr1
 have hX1:∀ j,w1.cell? ⟨w.heap.size,j,none⟩=(#[.string o.kd,.string o.nm,.string o.tm,.slice va o.vs.length cap,.bool o.en,.slice ha o.hs.length cap',.int .i64 o.vr]:Array Value)[j]?:=fun j=>cell_of_block hk1
 have hF1:∀ j,w1.frozen? ⟨w.heap.size,j,none⟩=false:=fun j=>zi hk1
 clear hb1 hown1 ht1 hk1 hr1
 go_wp2_with fail
 have hB1':=hB1.setCell (p:=⟨w.heap.size,3,none⟩) (Nat.le_refl _) (.slice a o.vs.length dap)
 refine (zeU _ _ _ _ (ho.holds.mono hB1') hl').mono ?_
 rintro e w2 ⟨v,rfl,hown2,hb2⟩
 obtain ⟨a',dap',rfl,ht2⟩:=zw.ze8 hown2
 have hk2:w2.heap[w.heap.size]?=some (.cells #[.string o.kd,.string o.nm,.string o.tm,.slice a o.vs.length dap,.bool o.en,.slice ha o.hs.length cap',.int .i64 o.vr] 115):=(hb2.block w.heap.size (by simp [World.setCell];omega)).trans (zk HK.out _)
 have hr2:w2.heap[w.heap.size+1]?=some (.cells #[.string ByteArray.empty,.string ByteArray.empty,.string ByteArray.empty,.slice none 0 0,.bool false,.slice none 0 0,.int .i64 0] 115):=(hb2.block (w.heap.size+1) (by simp [World.setCell];omega)).trans ((Below.heap_setCell _ _ _ _ (by simp)).trans HRR.out)
 have HT2:Hid (zw (w.heap.size+1+1) w2 a o.vs):=(HT.out.setCell _ (by simp;omega) _).mono hb2
 have HU2:Hid (zw w1.heap.size w2 a' o.hs):=by unfold Hid;simpa [World.setCell] using ht2
 have HM:Hid (∀ g,a=some g->g.block < w1.heap.size):=by
  intro g hg
  rcases HT.out with ⟨h0,_⟩ | ⟨g',C,h0,_,hh,_⟩
  ·rw [h0] at hg;cases hg
  ·rw [h0] at hg;cases hg;exact (Array.getElem?_eq_some_iff.1 hh).1
 have hz2:w.heap.size+1 < w2.heap.size:=by have:=hb2.size;simp [World.setCell] at this;omega
 have hB2:Below w.heap.size w w2:=hB1'.trans (hb2.mono hB1'.size)
 have hX2:∀ j,w2.cell? ⟨w.heap.size,j,none⟩=(#[.string o.kd,.string o.nm,.string o.tm,.slice a o.vs.length dap,.bool o.en,.slice ha o.hs.length cap',.int .i64 o.vr]:Array Value)[j]?:=fun j=>cell_of_block hk2
 have hF2:∀ j,w2.frozen? ⟨w.heap.size,j,none⟩=false:=fun j=>zi hk2
 have hY2:∀ j,w2.cell? ⟨w.heap.size+1,j,none⟩=(#[.string ByteArray.empty,.string ByteArray.empty,.string ByteArray.empty,.slice none 0 0,.bool false,.slice none 0 0,.int .i64 0]:Array Value)[j]?:=fun j=>cell_of_block hr2
 have hG2:∀ j,w2.frozen? ⟨w.heap.size+1,j,none⟩=false:=fun j=>zi hr2
 have hzz:w.heap.size<=w1.heap.size:=by omega
 clear hb2 hown2 ht2 hX1 hF1 hB1 hB1' hk2 hr2
 go_wp2_with fail
 refine bodyPost_ret (v:=(.agg #[.string o.kd,.string o.nm,.string o.tm,.slice a o.vs.length dap,.bool o.en,.slice a' o.hs.length dap',.int .i64 o.vr])) (by simp [results,Tryz.results219,go_sem,hY2]) rfl ⟨a,dap,a',dap',w1.heap.size,rfl,((((((((HT2.out.setCell _ (by simp;omega) _).setCell _ (by simp) _).setCell _ (by simp) _).setCell _ (by simp) _).setCell _ (by simp) _).setCell _ (by simp) _).setCell _ (by simp) _).setCell _ (by simp) _).low (by omega),HM.out,hzz,((((((((HU2.out.setCell _ (by simp;omega) _).setCell _ (by simp;omega) _).setCell _ (by simp;omega) _).setCell _ (by simp;omega) _).setCell _ (by simp;omega) _).setCell _ (by simp;omega) _).setCell _ (by simp;omega) _).setCell _ (by simp;omega) _),((((((((hB2.setCell (Nat.le_refl _) _).setCell (by simp) _).setCell (by simp) _).setCell (by simp) _).setCell (by simp) _).setCell (by simp) _).setCell (by simp) _).setCell (by simp) _)⟩
theorem zmz (o:Ob) (kd:ByteArray) (fs:List Fld) (fa:Option Addr) (va ha:Option Addr) (fcap cap cap':Nat) (w:World) (hf:zP w fa fs) (ho:qj w o va ha) (hl:o.vs.length<=1048576) (hl':o.hs.length<=1048576) (hc:o.vs.length=fs.length) :
 Calls Tryz.prog 211 #[.agg #[.string kd,.slice fa fs.length fcap],.agg #[.string o.kd,.string o.nm,.string o.tm,.slice va o.vs.length cap,.bool o.en,.slice ha o.hs.length cap',.int .i64 o.vr]] w
  fun e w'=>∃ a dap a' dap' m,e = .returned (.agg #[.string o.kd,.string o.nm,.string o.tm,.slice a o.vs.length dap,.bool o.en,.slice a' o.hs.length dap',.int .i64 o.vr])/\zw w.heap.size w' a (Gate.j3 fs o.vs)/\(∀ g,a=some g->g.block < m)/\w.heap.size<=m/\zw m w' a' o.hs/\Below w.heap.size w w':=by
 have HC:Hid (o.vs.length=fs.length):=hc
 clear hc
 go_enter Tryz.func211,Tryz.ntmps211
 go_wp2_with fail
 refine (zif o va ha cap cap' _ (ho.mono (ji _ _ _ _)) hl hl').mono ?_
 rintro e w1 ⟨a,dap,a',dap',m,rfl,ht,hm,hsm,ht',hb1⟩
 have hX1:∀ j,w1.cell? ⟨w.heap.size,j,none⟩=(#[.string kd,.slice fa fs.length fcap]:Array Value)[j]?:=fun j=>cell_of_block ((hb1.block w.heap.size (by simp;omega)).trans (zb2 _ _ _ _))
 have HR1:Hid (w1.heap[w.heap.size+1+1]?=some (.cells #[.string ByteArray.empty,.string ByteArray.empty,.string ByteArray.empty,.slice none 0 0,.bool false,.slice none 0 0,.int .i64 0] 115)):=(hb1.block (w.heap.size+1+1) (by simp)).trans (zbZ _ _ _ _)
 have hB1:Below w.heap.size w w1:=(ji _ _ _ _).trans (hb1.mono (by simp;omega))
 have hz1:w.heap.size+1+1 < w1.heap.size:=by have:=hb1.size;simp at this;omega
 have HT:Hid (zw (w.heap.size+1+1+1) w1 a o.vs/\(∀ g,a=some g->g.block < m)/\w.heap.size+1+1+1<=m/\zw m w1 a' o.hs):=by
  simp only [World.size_alloc] at ht hsm
  exact ⟨ht,hm,hsm,ht'⟩
 have hz0:w.heap.size < w1.heap.size:=by omega
 clear ht hm hsm ht' hb1 ho
 have hlen:=hf.len
 unfold maxLen at hlen
 go_wp2_with fail
 clear hX1
 go_loopw [13] (fun i wr=>∃ k:Nat,k<=fs.length/\i = .int .i64 k/\zw (w.heap.size+1+1+1) wr a (Gate.jc fs o.vs k)/\zw m wr a' o.hs/\wr.heap[w.heap.size+1+1]?=some (.cells #[.string ByteArray.empty,.string ByteArray.empty,.string ByteArray.empty,.slice none 0 0,.bool false,.slice none 0 0,.int .i64 0] 115)/\wr.heap[w1.heap.size]?=some (.cells #[.string o.kd,.string o.nm,.string o.tm,.slice a o.vs.length dap,.bool o.en,.slice a' o.hs.length dap',.int .i64 o.vr] 115)/\Below w.heap.size w wr) (fun i _=>fs.length - (intOf i).toNat)
 case atStart =>
  have hba:=(Below.refl w1.heap.size w1).alloc (Nat.le_refl _) (.cells #[.string o.kd,.string o.nm,.string o.tm,.slice a o.vs.length dap,.bool o.en,.slice a' o.hs.length dap',.int .i64 o.vr] 115)
  exact ⟨0,Nat.zero_le _,rfl,by rw [Gate.zg7];exact HT.out.1.mono hba,HT.out.2.2.2.mono hba,(hba.block _ hz1).trans HR1.out,alloc_at _ _,hB1.alloc hB1.size _⟩
 case round =>
  obtain ⟨k,hk,rfl,ht,ht',hR,hO,hB⟩:=hrel
  have hOc:∀ j,wr.cell? ⟨w1.heap.size,j,none⟩=(#[.string o.kd,.string o.nm,.string o.tm,.slice a o.vs.length dap,.bool o.en,.slice a' o.hs.length dap',.int .i64 o.vr]:Array Value)[j]?:=fun j=>cell_of_block hO
  have hOz:w1.heap.size < wr.heap.size:=(Array.getElem?_eq_some_iff.1 hO).1
  by_cases hlt:k < fs.length
  ·have hltv:k < o.vs.length:=by rw [HC.out];exact hlt
   obtain ⟨fb,foff,rfl,hfb,hr⟩:=hf.rows (by rintro rfl;simp at hlt)
   obtain ⟨wa,wcap,hf0⟩:=hr k hlt
   have hf1:=hf0.mono hfb hB
   obtain ⟨c0,c1,c2,c3,c4,c5,c6,c7,c8,c9,c10⟩:=hf1.load
   have hltI:(k:Int) < (fs.length:Int):=by omega
   have hltV:(k:Int) < (o.vs.length:Int):=by omega
   have hfbw:fb < wr.heap.size:=Nat.lt_of_lt_of_le hfb hB.size
   obtain ⟨g,C,hga,hgl,hgh,hgc⟩:∃ g C,a=some ⟨g,0,none⟩/\w.heap.size+1+1+1<=g/\wr.heap[g]?=some (.cells C 9)/\∀ i (h:i < (Gate.jc fs o.vs k).length),C[i]?=some (.string (Gate.jc fs o.vs k)[i]):=by
    rcases ht with ⟨_,h0⟩ | h0
    ·have:=Gate.zax HC.out k;rw [h0] at this;simp at this;omega
    ·exact h0
   have hgm:g < m:=HT.out.2.1 _ hga
   have hgw1:g < w1.heap.size:=by have:=HT.out.1.lt _ hga;exact this
   have hgw:g < wr.heap.size:=by omega
   subst hga
   have hcell:wr.cell? ⟨g,k,none⟩=some (.string o.vs[k]):=by
    have h1:=Gate.zeE HC.out k hlt
    have hkl:k < (Gate.jc fs o.vs k).length:=by rw [Gate.zax HC.out];exact hltv
    rw [List.getElem?_eq_getElem hkl,List.getElem?_eq_getElem hltv] at h1
    rw [cell_of_block hgh,hgc k hkl,Option.some.inj h1]
   have hgf:wr.frozen? ⟨g,k,none⟩=false:=zi hgh
   have HX:Hid (zw (w.heap.size+1+1+1) wr (some ⟨g,0,none⟩) (Gate.jc fs o.vs k)/\zw m wr a' o.hs/\wr.heap[w.heap.size+1+1]?=some (.cells #[.string ByteArray.empty,.string ByteArray.empty,.string ByteArray.empty,.slice none 0 0,.bool false,.slice none 0 0,.int .i64 0] 115)/\wr.heap[w1.heap.size]?=some (.cells #[.string o.kd,.string o.nm,.string o.tm,.slice (some ⟨g,0,none⟩) o.vs.length dap,.bool o.en,.slice a' o.hs.length dap',.int .i64 o.vr] 115)/\Below w.heap.size w wr):=⟨ht,ht',hR,hO,hB⟩
   clear ht ht' hR hO hB hf hr hf0 hf1 hgh hgc
   by_cases hv:o.vs[k].toList.isEmpty=true
   ·have HV:Hid (Gate.zar fs[k] o.vs[k]=fs[k].df):=by unfold Hid Gate.zar;rw [if_pos hv]
    go_wp2_with fail
    obtain ⟨ht,ht',hR,hO,hB⟩:=HX.out
    have hba:=(Below.refl (wr.setCell ⟨g,k,none⟩ (.string fs[k].df)).heap.size (wr.setCell ⟨g,k,none⟩ (.string fs[k].df))).alloc (Nat.le_refl _) (.cells #[.string fs[k].nm,.int .i64 fs[k].kd,.int .i64 fs[k].ls,.int .i64 fs[k].ms,.slice wa fs[k].ws.length wcap,.string fs[k].to,.int .i64 fs[k].rl,.bool fs[k].mu,.bool fs[k].fx,.string fs[k].df,.string fs[k].wg] 161)
    have hs0:(wr.setCell ⟨g,k,none⟩ (.string fs[k].df)).heap.size=wr.heap.size:=by simp [World.setCell]
    exact ⟨⟨k+1,by omega,by go_num,by rw [Gate.zcG HC.out k hlt,HV.out];exact (ht.set k _).mono hba,(ht'.setCell _ hgm _).mono hba,(hba.block _ (by rw [hs0];omega)).trans ((Below.heap_setCell _ _ _ _ (by show w.heap.size+1+1 ≠ g;omega)).trans hR),(hba.block _ (by rw [hs0];exact hOz)).trans ((Below.heap_setCell _ _ _ _ (by show w1.heap.size ≠ g;omega)).trans hO),(hB.setCell (p:=⟨g,k,none⟩) (by show w.heap.size<=g;omega) _).alloc (by rw [hs0];exact hB.size) _⟩,zn hlt⟩
   ·have HV:Hid (Gate.zar fs[k] o.vs[k]=o.vs[k]):=by unfold Hid Gate.zar;rw [if_neg hv]
    go_wp2_with fail
    obtain ⟨ht,ht',hR,hO,hB⟩:=HX.out
    have hba:=(Below.refl wr.heap.size wr).alloc (Nat.le_refl _) (.cells #[.string fs[k].nm,.int .i64 fs[k].kd,.int .i64 fs[k].ls,.int .i64 fs[k].ms,.slice wa fs[k].ws.length wcap,.string fs[k].to,.int .i64 fs[k].rl,.bool fs[k].mu,.bool fs[k].fx,.string fs[k].df,.string fs[k].wg] 161)
    have hsame:(Gate.jc fs o.vs k).set k o.vs[k]=Gate.jc fs o.vs k:=by
     have h1:=Gate.zeE HC.out k hlt
     have hkl:k < (Gate.jc fs o.vs k).length:=by rw [Gate.zax HC.out];exact hltv
     rw [List.getElem?_eq_getElem hkl,List.getElem?_eq_getElem hltv] at h1
     rw [<- Option.some.inj h1,List.set_getElem_self]
    exact ⟨⟨k+1,by omega,by go_num,by rw [Gate.zcG HC.out k hlt,HV.out,hsame];exact ht.mono hba,ht'.mono hba,(hba.block _ (by omega)).trans hR,(hba.block _ hOz).trans hO,hB.alloc hB.size _⟩,zn hlt⟩
  ·have e:k=fs.length:=by omega
   subst e
   rw [Gate.ziF HC.out] at ht
   have hRc:∀ j,wr.cell? ⟨w.heap.size+1+1,j,none⟩=(#[.string ByteArray.empty,.string ByteArray.empty,.string ByteArray.empty,.slice none 0 0,.bool false,.slice none 0 0,.int .i64 0]:Array Value)[j]?:=fun j=>cell_of_block hR
   have hRf:∀ j,wr.frozen? ⟨w.heap.size+1+1,j,none⟩=false:=fun j=>zi hR
   have HX:Hid (zw (w.heap.size+1+1+1) wr a (Gate.j3 fs o.vs)/\zw m wr a' o.hs/\Below w.heap.size w wr):=⟨ht,ht',hB⟩
   have HM:Hid (w.heap.size+1+1+1<=m/\∀ g,a=some g->g.block < m):=⟨HT.out.2.2.1,HT.out.2.1⟩
   clear ht ht' hB hR hO hf
   go_wp2_with fail
   refine bodyPost_ret (v:=(.agg #[.string o.kd,.string o.nm,.string o.tm,.slice a o.vs.length dap,.bool o.en,.slice a' o.hs.length dap',.int .i64 o.vr])) (by simp [results,Tryz.results211,go_sem,hRc]) rfl ?_
   obtain ⟨ht,ht',hB⟩:=HX.out
   exact ⟨a,dap,a',dap',m,rfl,(jM ht _ (by omega) _ _ _ _ _ _ _).low (by omega),HM.out.2,by have:=HM.out.1;omega,jM ht' _ (by have:=HM.out.1;omega) _ _ _ _ _ _ _,zaE hB _ (by omega) _ _ _ _ _ _ _⟩
theorem zbO {w:World} {b:Nat} {X:Array Value} {t:TypeId} (h:w.heap[b]?=some (.cells X t)):∀ j,w.cell? ⟨b,j,none⟩=X[j]?:=fun _=>cell_of_block h
theorem zmV {w:World} {b:Nat} {X:Array Value} {t:TypeId} (h:w.heap[b]?=some (.cells X t)):∀ j,w.frozen? ⟨b,j,none⟩=false:=fun _=>zi h
def zkF (c p:Int):Value:=if c=0 then .nilIface else .iface 273 (.agg #[.int .i64 c,.int .i64 p])
theorem zhA (w:World):Calls Tryz.prog 217 #[.bool true] w fun e w'=>e = .returned .nilIface/\w'=w:=by
 go_enter Tryz.func217,Tryz.ntmps217
 go_wp2
 go_ret
 exact ⟨rfl,rfl⟩
theorem zil (w:World):Calls Tryz.prog 217 #[.bool false] w fun e w'=>e = .returned (.iface 273 (.agg #[.int .i64 1,.int .i64 0]))/\w'=w:=by
 go_enter Tryz.func217,Tryz.ntmps217
 go_wp2
 go_ret
 exact ⟨rfl,rfl⟩
def jO (b:Bool):Value:=if b then .nilIface else .iface 273 (.agg #[.int .i64 1,.int .i64 0])
theorem jy (b:Bool) (w:World):Calls Tryz.prog 217 #[.bool b] w fun e w'=>e = .returned (jO b)/\w'=w:=by
 cases b
 ·exact zil w
 ·exact zhA w
theorem zcF {a b:Bool} (h:a=b):Ending.returned (jO a) = .returned (jO b):=by rw [h]
theorem zeg (a0:Option Addr) (cap0:Nat) (ss:List Shp) (o:Ob) (a a':Option Addr) (cap cap':Nat) (w:World) (ho:qj w o a a') :
 Calls Tryz.prog 205 #[.slice a0 ss.length cap0,.agg #[.string o.kd,.string o.nm,.string o.tm,.slice a o.vs.length cap,.bool o.en,.slice a' o.hs.length cap',.int .i64 o.vr]] w fun e w'=>e = .returned (jO (Gate.qI o))/\Below w.heap.size w w':=by
 have h1:=ho.small.nm
 have h2:=ho.small.tm
 by_cases hn:Gate.zy o.nm=true
 ·have HN:Hid (Gate.zy o.nm=true):=hn
  clear hn ho
  go_enter Tryz.func205,Tryz.ntmps205
  go_wp2_with fail
  refine (zf HN.out (zF _ _ h1)).mono ?_
  rintro e w1 ⟨rfl,rfl⟩
  go_wp2_with fail
  refine (zF _ _ h2).mono ?_
  rintro e w1 ⟨rfl,rfl⟩
  go_wp2_with fail
  refine (jy _ _).mono ?_
  rintro e w1 ⟨rfl,rfl⟩
  go_wp2_with fail
  go_ret
  exact ⟨zcF (by unfold Gate.qI;rw [HN.out];rfl),(Below.refl _ _).alloc (Nat.le_refl _) _⟩
 ·have HN:Hid (Gate.zy o.nm=false):=by simpa [Hid] using hn
  clear hn ho
  go_enter Tryz.func205,Tryz.ntmps205
  go_wp2_with fail
  refine (zf HN.out (zF _ _ h1)).mono ?_
  rintro e w1 ⟨rfl,rfl⟩
  go_wp2_with fail
  refine (jy _ _).mono ?_
  rintro e w1 ⟨rfl,rfl⟩
  go_wp2_with fail
  go_ret
  exact ⟨zcF (a:=false) (b:=Gate.qI o) (by unfold Gate.qI;rw [HN.out];rfl),(Below.refl _ _).alloc (Nat.le_refl _) _⟩
theorem zer (a0:Option Addr) (cap0:Nat) (ss:List Shp) (o:Ob) (a a':Option Addr) (cap cap':Nat) (w:World) (ho:qj w o a a') :
 Calls Tryz.prog 206 #[.slice a0 ss.length cap0,.agg #[.string o.kd,.string o.nm,.string o.tm,.slice a o.vs.length cap,.bool o.en,.slice a' o.hs.length cap',.int .i64 o.vr]] w fun e w'=>e = .returned (jO (Gate.qW o))/\Below w.heap.size w w':=by
 have hl:=ho.holds.len
 unfold maxLen at hl
 by_cases h3:o.hs.length<=3
 ·go_enter Tryz.func206,Tryz.ntmps206
  go_wp2_with fail
  refine (ziJ _ _ _ _ (ho.holds.mono ((Below.refl _ _).alloc (Nat.le_refl _) _))).mono ?_
  rintro e w1 ⟨rfl,rfl⟩
  go_wp2_with fail
  refine (jy _ _).mono ?_
  rintro e w1 ⟨rfl,rfl⟩
  go_wp2_with fail
  go_ret
  exact ⟨zcF (by unfold Gate.qW;rw [decide_eq_true h3];rfl),(Below.refl _ _).alloc (Nat.le_refl _) _⟩
 ·go_enter Tryz.func206,Tryz.ntmps206
  go_wp2_with fail
  refine (jy _ _).mono ?_
  rintro e w1 ⟨rfl,rfl⟩
  go_wp2_with fail
  go_ret
  exact ⟨zcF (a:=false) (b:=Gate.qW o) (by unfold Gate.qW;rw [decide_eq_false (show ¬ o.hs.length<=3 by omega)];rfl),(Below.refl _ _).alloc (Nat.le_refl _) _⟩
theorem zdf (a0:Option Addr) (cap0:Nat) (ss:List Shp) (o:Ob) (a a':Option Addr) (cap cap':Nat) (w:World) :
 Calls Tryz.prog 207 #[.slice a0 ss.length cap0,.agg #[.string o.kd,.string o.nm,.string o.tm,.slice a o.vs.length cap,.bool o.en,.slice a' o.hs.length cap',.int .i64 o.vr]] w fun e w'=>e = .returned (jO (Gate.qx o))/\Below w.heap.size w w':=by
 by_cases h0:0<=o.vr
 ·have HV:Hid (Gate.qx o=decide (o.vr<=1000000)):=by unfold Hid Gate.qx;rw [decide_eq_true h0];rfl
  go_enter Tryz.func207,Tryz.ntmps207
  go_wp2_with (go_at_call 217;refine (jy _ _).mono ?_;rintro e w1 ⟨rfl,rfl⟩)
  go_ret
  exact ⟨zcF HV.out.symm,(Below.refl _ _).alloc (Nat.le_refl _) _⟩
 ·have HV:Hid (Gate.qx o=false):=by unfold Hid Gate.qx;rw [decide_eq_false h0];rfl
  go_enter Tryz.func207,Tryz.ntmps207
  go_wp2_with (go_at_call 217;refine (jy _ _).mono ?_;rintro e w1 ⟨rfl,rfl⟩)
  go_ret
  exact ⟨zcF HV.out.symm,(Below.refl _ _).alloc (Nat.le_refl _) _⟩
theorem zej (a0:Option Addr) (cap0:Nat) (ss:List Shp) (o:Ob) (a a':Option Addr) (cap cap':Nat) (w:World) (hw:yI w a0 ss) (_ho:qj w o a a') :
 Calls Tryz.prog 208 #[.slice a0 ss.length cap0,.agg #[.string o.kd,.string o.nm,.string o.tm,.slice a o.vs.length cap,.bool o.en,.slice a' o.hs.length cap',.int .i64 o.vr]] w fun e w'=>e = .returned (jO (Gate.zx ss o))/\Below w.heap.size w w':=by
 by_cases hk:Gate.zG ss o.kd=true
 all_goals
  first
   | (have HK:Hid (Gate.zG ss o.kd=true):=hk)
   | (have HK:Hid (Gate.zG ss o.kd=false):=by simpa [Hid] using hk)
  clear hk
  go_enter Tryz.func208,Tryz.ntmps208
  go_wp2_with fail
  refine (qJ _ _ _ _ _ (hw.mono ((Below.refl _ _).alloc (Nat.le_refl _) _))).mono ?_
  rintro e w1 ⟨fa,fcap,rfl,_,hb1⟩
  rw [HK.out]
  have hX1:=za (zm w _ _) (by simp) hb1
  have hz1:w.heap.size < w1.heap.size:=by have:=hb1.size;simp at this;omega
  have hB1:Below w.heap.size w w1:=((Below.refl _ _).alloc (Nat.le_refl _) _).trans (hb1.mono (by simp))
  clear hb1
  go_wp2_with (go_at_call 217;refine (jy _ _).mono ?_;rintro e w2 ⟨rfl,rfl⟩)
  go_ret
 ·refine ⟨zcF ?_,hB1.alloc (by omega) _⟩
  unfold Gate.zx;rw [HK.out]
  rw [Bool.eq_iff_iff];simp;omega
 ·refine ⟨zcF (a:=false) (b:=Gate.zx ss o) ?_,hB1.alloc (by omega) _⟩
  unfold Gate.zx;rw [HK.out];rfl
end Go.Proofs.YtihdafafigceiaaGreat
