import Derived.Test.YtghnakljnhnenaaGreatM22
import Derived.Test.YtghnakljnhnenaaGreatM21
set_option maxHeartbeats 1000000
namespace Go.Proofs.YtghnakljnhnenaaGreat
open Go.RowKit
namespace Gate
def zat (f:Fld) (v:ByteArray):ByteArray:=if v.toList.isEmpty=true then f.df else v
def zac (fs:List Fld) (vs:List ByteArray):List ByteArray:=List.zipWith zat fs vs
def jd (fs:List Fld) (vs:List ByteArray) (k:Nat):List ByteArray:=(zac fs vs).take k ++ vs.drop k
theorem qR {fs:List Fld} {vs:List ByteArray} (h:vs.length=fs.length):(zac fs vs).length=vs.length:=by simp [zac];omega
theorem zaB {fs:List Fld} {vs:List ByteArray} (h:vs.length=fs.length) (k:Nat):(jd fs vs k).length=vs.length:=by
 simp [jd,qR h];omega
theorem zhy (fs:List Fld) (vs:List ByteArray):jd fs vs 0=vs:=by simp [jd]
theorem ziT {fs:List Fld} {vs:List ByteArray} (h:vs.length=fs.length):jd fs vs fs.length=zac fs vs:=by
 unfold jd;rw [tOl (by rw [qR h];omega),List.drop_of_length_le (by omega),List.append_nil]
theorem zeW {fs:List Fld} {vs:List ByteArray} (h:vs.length=fs.length) (k:Nat) (hk:k < fs.length):(jd fs vs k)[k]?=vs[k]?:=by
 unfold jd;rw [List.getElem?_append_right (by simp;omega)]
 simp [qR h,Nat.min_eq_left (show k<=vs.length by omega)]
theorem zcV {fs:List Fld} {vs:List ByteArray} (h:vs.length=fs.length) (k:Nat) (hk:k < fs.length):jd fs vs (k+1)=(jd fs vs k).set k (zat fs[k] (vs[k]'(by omega))):=by
 have hl:=qR h;have hv:(zac fs vs)[k]'(by omega)=zat fs[k] (vs[k]'(by omega)):=by simp [zac]
 unfold jd;rw [List.set_append_right _ _ (by simp;omega)];have e:k - ((zac fs vs).take k).length=0:=by simp;omega
 rw [e,List.drop_eq_getElem_cons (show k < vs.length by omega),List.set_cons_zero,tSe (by omega),hv]
 simp
end Gate
theorem zw.set {lo:Nat} {w:World} {g:Nat} {ws:List ByteArray} (h:zw lo w (some ⟨g,0,none⟩) ws) (k:Nat) (s:ByteArray):zw lo (w.setCell ⟨g,k,none⟩ (.string s)) (some ⟨g,0,none⟩) (ws.set k s):=by
 rcases h with ⟨h0,_⟩ | ⟨b,C,h0,hg,hh,hc⟩
 ·cases h0
 ·cases h0
  refine Or.inr ⟨g,_,rfl,hg,zk hh _,fun i hi=>?_⟩;have hi':i < ws.length:=by rw [List.length_set] at hi;exact hi
  by_cases e:i=k
  ·subst e
   have hsz:i < C.size:=by
    rcases Nat.lt_or_ge i C.size with h1 | h1
    ·exact h1
    ·have:=hc i hi';rw [Array.getElem?_eq_none h1] at this;cases this
   rw [Array.getElem?_setIfInBounds_self_of_lt hsz,List.getElem_set_self]
  ·rw [Array.getElem?_setIfInBounds_ne (fun h=>e h.symm),hc i hi',List.getElem_set_ne (fun h=>e h.symm)]
def zqa (w:World) (b:Nat) (v0 v1 v2 v3 v4 v5 v6:Value):World:=((((((w.setCell ⟨b,0,none⟩ v0).setCell ⟨b,1,none⟩ v1).setCell ⟨b,2,none⟩ v2).setCell ⟨b,3,none⟩ v3).setCell ⟨b,4,none⟩ v4).setCell ⟨b,5,none⟩ v5).setCell ⟨b,6,none⟩ v6
theorem jO {lo:Nat} {w:World} {a:Option Addr} {ws:List ByteArray} (h:zw lo w a ws) (b:Nat) (hb:b < lo) (v0 v1 v2 v3 v4 v5 v6:Value):zw lo (zqa w b v0 v1 v2 v3 v4 v5 v6) a ws :=
 ((((((h.setCell _ hb _).setCell _ hb _).setCell _ hb _).setCell _ hb _).setCell _ hb _).setCell _ hb _).setCell _ hb _
theorem zaM {B:Nat} {w0 w:World} (h:Below B w0 w) (b:Nat) (hb:B<=b) (v0 v1 v2 v3 v4 v5 v6:Value):Below B w0 (zqa w b v0 v1 v2 v3 v4 v5 v6) :=
 ((((((h.setCell (p:=⟨b,0,none⟩) hb _).setCell (p:=⟨b,1,none⟩) hb _).setCell (p:=⟨b,2,none⟩) hb _).setCell (p:=⟨b,3,none⟩) hb _).setCell (p:=⟨b,4,none⟩) hb _).setCell (p:=⟨b,5,none⟩) hb _).setCell (p:=⟨b,6,none⟩) hb _
theorem yu {w:World} {p:Addr} {v:Value} {b o:Nat} (h:b ≠ p.block):(w.setCell p v).cell? ⟨b,o,none⟩=w.cell? ⟨b,o,none⟩:=by
 unfold World.cell?;rw [Below.heap_setCell _ _ _ _ h]
theorem zgY {w:World} {b g o:Nat} (h:b ≠ g) {v0 v1 v2 v3 v4 v5 v6:Value}:(((((((w.setCell ⟨g,0,none⟩ v0).setCell ⟨g,1,none⟩ v1).setCell ⟨g,2,none⟩ v2).setCell ⟨g,3,none⟩ v3).setCell ⟨g,4,none⟩ v4).setCell ⟨g,5,none⟩ v5).setCell ⟨g,6,none⟩ v6).cell? ⟨b,o,none⟩=w.cell? ⟨b,o,none⟩:=by
 rw [yu h,yu h,yu h,yu h,yu h,yu h,yu h]
def zmf (a:Option Addr) (ws:List ByteArray):Prop:=(a=none/\ws=[]) \/ ∃ b off,a=some ⟨b,off,none⟩
theorem zw.zqg {lo:Nat} {w:World} {a:Option Addr} {ws:List ByteArray} (h:zw lo w a ws):zmf a ws:=by
 rcases h with ⟨h0,h1⟩ | ⟨g,C,h0,_⟩
 ·exact Or.inl ⟨h0,h1⟩
 ·exact Or.inr ⟨g,0,h0⟩
theorem zeS (cap:Nat) (w:World) :
 Calls Tryz.prog 226 #[.slice none 0 cap] w fun e w'=>∃ v,e = .returned v/\w'.ownsRow w.heap.size 9 1 v 0 []/\Below w.heap.size w w':=by
 go_enter Tryz.func226,Tryz.ntmps226;go_wp2_with fail
 go_ret;exact ⟨_,rfl,World.ownsRow_nil _ _ _ _,bRf _ _⟩
theorem zfl (a:Option Addr) (cap:Nat) (ws:List ByteArray) (w:World) (hw:zD w a ws) (hA:zmf a ws) (hl:ws.length<=1048576) :
 Calls Tryz.prog 226 #[.slice a ws.length cap] w
  fun e w'=>∃ v,e = .returned v/\w'.ownsRow w.heap.size 9 1 v ws.length (ws.map Value.string)/\Below w.heap.size w w':=by
 rcases hA with ⟨rfl,rfl⟩ | ⟨b,off,rfl⟩
 ·exact zeS cap w
 ·exact ze8 b off cap ws w hw hl
theorem zja (o:Ob) (va ha:Option Addr) (cap cap':Nat) (w:World) (ho:qB w o va ha) (hA:zmf va o.vs) (hA':zmf ha o.hs) (hl:o.vs.length<=1048576) (hl':o.hs.length<=1048576) :
 Calls Tryz.prog 223 #[.agg #[.string o.kd,.string o.nm,.string o.tm,.slice va o.vs.length cap,.bool o.en,.slice ha o.hs.length cap',.int .i64 o.vr]] w
  fun e w'=>∃ a dap a' dap' m,e = .returned (.agg #[.string o.kd,.string o.nm,.string o.tm,.slice a o.vs.length dap,.bool o.en,.slice a' o.hs.length dap',.int .i64 o.vr])/\zw w.heap.size w' a o.vs/\(∀ g,a=some g->g.block < m)/\w.heap.size<=m/\zw m w' a' o.hs/\Below w.heap.size w w':=by
 go_enter Tryz.func223,Tryz.ntmps223;go_wp2_with fail
 refine (zfl _ _ _ _ (ho.vals.mono (zA _ _ _)) hA hl).mono ?_;rintro e w1 ⟨v,rfl,hown1,hb1⟩;obtain ⟨a,dap,rfl,ht1⟩:=zw.zfA hown1;have hk1:w1.heap[w.heap.size]?=some (.cells #[.string o.kd,.string o.nm,.string o.tm,.slice va o.vs.length cap,.bool o.en,.slice ha o.hs.length cap',.int .i64 o.vr] 119):=(hb1.block w.heap.size (by simp;omega)).trans (yh _ _ _).1;have hr1:w1.heap[w.heap.size+1]?=some (.cells #[.string ByteArray.empty,.string ByteArray.empty,.string ByteArray.empty,.slice none 0 0,.bool false,.slice none 0 0,.int .i64 0] 119):=(hb1.block (w.heap.size+1) (by simp)).trans (yh _ _ _).2;have HT:Hid (zw (w.heap.size+1+1) w1 a o.vs):=by unfold Hid;simpa using ht1
 have hz1:w.heap.size+1 < w1.heap.size:=by have:=hb1.size;simp at this;omega
 have hB1:Below w.heap.size w w1:=(zA _ _ _).trans (hb1.mono (by simp;omega));have HK:Hid (w1.heap[w.heap.size]?=some (.cells #[.string o.kd,.string o.nm,.string o.tm,.slice va o.vs.length cap,.bool o.en,.slice ha o.hs.length cap',.int .i64 o.vr] 119)):=hk1;have HRR:Hid (w1.heap[w.heap.size+1]?=some (.cells #[.string ByteArray.empty,.string ByteArray.empty,.string ByteArray.empty,.slice none 0 0,.bool false,.slice none 0 0,.int .i64 0] 119)):=hr1;have hX1:∀ j,w1.cell? ⟨w.heap.size,j,none⟩=(#[.string o.kd,.string o.nm,.string o.tm,.slice va o.vs.length cap,.bool o.en,.slice ha o.hs.length cap',.int .i64 o.vr]:Array Value)[j]?:=fun j=>cell_of_block hk1
 have hF1:∀ j,w1.frozen? ⟨w.heap.size,j,none⟩=false:=fun j=>zi hk1
 clear hb1 hown1 ht1 hk1 hr1;go_wp2_with fail
 have hB1':=hB1.setCell (p:=⟨w.heap.size,3,none⟩) (Nat.le_refl _) (.slice a o.vs.length dap);refine (zfl _ _ _ _ (ho.holds.mono hB1') hA' hl').mono ?_;rintro e w2 ⟨v,rfl,hown2,hb2⟩;obtain ⟨a',dap',rfl,ht2⟩:=zw.zfA hown2;have hk2:w2.heap[w.heap.size]?=some (.cells #[.string o.kd,.string o.nm,.string o.tm,.slice a o.vs.length dap,.bool o.en,.slice ha o.hs.length cap',.int .i64 o.vr] 119):=(hb2.block w.heap.size (by simp [World.setCell];omega)).trans (zk HK.out _);have hr2:w2.heap[w.heap.size+1]?=some (.cells #[.string ByteArray.empty,.string ByteArray.empty,.string ByteArray.empty,.slice none 0 0,.bool false,.slice none 0 0,.int .i64 0] 119):=(hb2.block (w.heap.size+1) (by simp [World.setCell];omega)).trans ((Below.heap_setCell _ _ _ _ (by simp)).trans HRR.out);have HT2:Hid (zw (w.heap.size+1+1) w2 a o.vs):=(HT.out.setCell _ (by simp;omega) _).mono hb2;have HU2:Hid (zw w1.heap.size w2 a' o.hs):=by unfold Hid;simpa [World.setCell] using ht2
 have HM:Hid (∀ g,a=some g->g.block < w1.heap.size):=by
  intro g hg
  rcases HT.out with ⟨h0,_⟩ | ⟨g',C,h0,_,hh,_⟩
  ·rw [h0] at hg;cases hg
  ·rw [h0] at hg;cases hg;exact (gES hh).1
 have hz2:w.heap.size+1 < w2.heap.size:=by have:=hb2.size;simp [World.setCell] at this;omega
 have hB2:Below w.heap.size w w2:=hB1'.trans (hb2.mono hB1'.size);have hX2:∀ j,w2.cell? ⟨w.heap.size,j,none⟩=(#[.string o.kd,.string o.nm,.string o.tm,.slice a o.vs.length dap,.bool o.en,.slice ha o.hs.length cap',.int .i64 o.vr]:Array Value)[j]?:=fun j=>cell_of_block hk2
 have hF2:∀ j,w2.frozen? ⟨w.heap.size,j,none⟩=false:=fun j=>zi hk2
 have hY2:∀ j,w2.cell? ⟨w.heap.size+1,j,none⟩=(#[.string ByteArray.empty,.string ByteArray.empty,.string ByteArray.empty,.slice none 0 0,.bool false,.slice none 0 0,.int .i64 0]:Array Value)[j]?:=fun j=>cell_of_block hr2
 have hG2:∀ j,w2.frozen? ⟨w.heap.size+1,j,none⟩=false:=fun j=>zi hr2
 have hzz:w.heap.size<=w1.heap.size:=by omega
 clear hb2 hown2 ht2 hX1 hF1 hB1 hB1' hk2 hr2;go_wp2_with fail
 refine bodyPost_ret (v:=(.agg #[.string o.kd,.string o.nm,.string o.tm,.slice a o.vs.length dap,.bool o.en,.slice a' o.hs.length dap',.int .i64 o.vr])) (by simp [results,Tryz.results223,go_sem,hY2]) rfl ⟨a,dap,a',dap',w1.heap.size,rfl,((((((((HT2.out.setCell _ (by simp;omega) _).setCell _ (by simp) _).setCell _ (by simp) _).setCell _ (by simp) _).setCell _ (by simp) _).setCell _ (by simp) _).setCell _ (by simp) _).setCell _ (by simp) _).low (by omega),HM.out,hzz,((((((((HU2.out.setCell _ (by simp;omega) _).setCell _ (by simp;omega) _).setCell _ (by simp;omega) _).setCell _ (by simp;omega) _).setCell _ (by simp;omega) _).setCell _ (by simp;omega) _).setCell _ (by simp;omega) _).setCell _ (by simp;omega) _),((((((((hB2.setCell (Nat.le_refl _) _).setCell (by simp) _).setCell (by simp) _).setCell (by simp) _).setCell (by simp) _).setCell (by simp) _).setCell (by simp) _).setCell (by simp) _)⟩
end Go.Proofs.YtghnakljnhnenaaGreat
