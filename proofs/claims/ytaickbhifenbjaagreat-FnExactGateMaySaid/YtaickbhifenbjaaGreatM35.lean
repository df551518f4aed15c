import Derived.Test.YtaickbhifenbjaaGreatM31
import Derived.Test.YtaickbhifenbjaaGreatM06
import Derived.Test.YtaickbhifenbjaaGreatM15
import Derived.Test.YtaickbhifenbjaaGreatM32
import Derived.Test.YtaickbhifenbjaaGreatM34
import Derived.Deep.RegionHeld3
import Derived.Test.YtaickbhifenbjaaGreatM24
import Derived.Deep.QuietTactic
import Derived.BigQuiet
import Derived.Test.YtaickbhifenbjaaGreatM08
set_option maxHeartbeats 4000000
namespace Go.Proofs.YtaickbhifenbjaaGreat
open Go.RowKit
namespace Gate
def zat (l:Lw) (o:Ob):List ByteArray:=zeQ l.ss l.ms (zft l.ss o)
end Gate
theorem zb9 {l:Lw} {o:Ob} (h:Gate.qK l.ss l.ms o=true):(Gate.zat l o).length=o.vs.length:=by
 unfold Gate.zat
 rw [<- Gate.zmA h]
 exact Gate.jH _ _ _
set_option maxRecDepth 20000 in
theorem zi8 (l:Lw) (a b c:Option Addr) (ca cb cc:Nat) (o:Ob) (va ha:Option Addr) (cap cap':Nat) (w:World) (hL:qp w l a b c) (hml:l.ms.length<=1048576) (ho:qG w o va ha) (hl:o.vs.length<=1048576) (hl':o.hs.length<=1048576) (hmd:Gate.qK l.ss l.ms o=true) :
 Calls Tryz.prog 190 #[.agg #[.slice a l.ss.length ca,.slice b l.ms.length cb,.slice c l.ts.length cc],.agg #[.string o.kd,.string o.nm,.string o.tm,.slice va o.vs.length cap,.bool o.en,.slice ha o.hs.length cap',.int .i64 o.vr]] w
  fun e w'=>∃ e0 dap e1 dap',e = .returned (.agg #[.string o.kd,.string o.nm,.string o.tm,.slice e0 o.vs.length dap,.bool o.en,.slice e1 o.hs.length dap',.int .i64 o.vr])/\zu w.heap.size w' e0 (Gate.zat l o)/\Below w.heap.size w w':=by
 have HH:Hid (qp w l a b c/\qG w o va ha/\o.vs.length<=maxLen):=⟨hL,ho,ho.vals.len⟩
 have HFA:Hid _:=Gate.zcq hmd
 clear hL ho hmd
 go_enter Tryz.func190,Tryz.ntmps190
 go_wp2_with fail
 have hb2:=jB w (.cells #[.slice a l.ss.length ca,.slice b l.ms.length cb,.slice c l.ts.length cc] 43) (.cells #[.string o.kd,.string o.nm,.string o.tm,.slice va o.vs.length cap,.bool o.en,.slice ha o.hs.length cap',.int .i64 o.vr] 121) (.cells #[.string ByteArray.empty,.string ByteArray.empty,.string ByteArray.empty,.slice none 0 0,.bool false,.slice none 0 0,.int .i64 0] 121)
 refine (qL _ _ l.ss o.kd _ (HH.out.1.ss.mono hb2)).mono ?_
 rintro e w1 ⟨fa,fcap,rfl,hfl0,hb1⟩
 have HFL:Hid (zR w1 fa (Gate.shapeOf l.ss o.kd).fs):=hfl0.mono hb1
 have hX0:∀ j,w1.cell? ⟨w.heap.size,j,none⟩=(#[.slice a l.ss.length ca,.slice b l.ms.length cb,.slice c l.ts.length cc]:Array Value)[j]?:=fun j=>cell_of_block ((hb1.block w.heap.size (by simp;omega)).trans (zbN _ _ _ _))
 have hX1:∀ j,w1.cell? ⟨w.heap.size+1,j,none⟩=(#[.string o.kd,.string o.nm,.string o.tm,.slice va o.vs.length cap,.bool o.en,.slice ha o.hs.length cap',.int .i64 o.vr]:Array Value)[j]?:=fun j=>cell_of_block ((hb1.block (w.heap.size+1) (by simp)).trans (zfb _ _ _ _))
 have HR1:Hid (w1.heap[w.heap.size+1+1]?=some (.cells #[.string ByteArray.empty,.string ByteArray.empty,.string ByteArray.empty,.slice none 0 0,.bool false,.slice none 0 0,.int .i64 0] 121)):=(hb1.block (w.heap.size+1+1) (by simp)).trans (zbQ _ _ _ _)
 have hz2:w.heap.size+1+1 < w1.heap.size:=by have:=hb1.size;simp at this;omega
 have hz1:w.heap.size+1 < w1.heap.size:=by omega
 have hz0:w.heap.size < w1.heap.size:=by omega
 have hB1:Below w.heap.size w w1:=hb2.trans (hb1.mono (by simp;omega))
 clear hb1 hfl0 hb2
 go_wp2_with fail
 have hbs:=(Below.refl w1.heap.size w1).alloc (Nat.le_refl _) (.cells #[.string (Gate.shapeOf l.ss o.kd).kd,.slice fa (Gate.shapeOf l.ss o.kd).fs.length fcap] 115)
 have hRW:=(hbs.block _ hz2).trans HR1.out
 have hzW:w.heap.size+1+1 < (w1.alloc (.cells #[.string (Gate.shapeOf l.ss o.kd).kd,.slice fa (Gate.shapeOf l.ss o.kd).fs.length fcap] 115)).heap.size:=Nat.lt_of_lt_of_le hz2 hbs.size
 have hBW:=hB1.trans (hbs.mono hB1.size)
 have hFW:=HFL.out.mono hbs
 clear hbs
 obtain ⟨W2,hW2⟩:∃ W2,W2=(w1.alloc (.cells #[.string (Gate.shapeOf l.ss o.kd).kd,.slice fa (Gate.shapeOf l.ss o.kd).fs.length fcap] 115)):=⟨_,rfl⟩
 have hS2:∀ j,W2.drew.cell? ⟨w1.heap.size,j,none⟩=(#[.string (Gate.shapeOf l.ss o.kd).kd,.slice fa (Gate.shapeOf l.ss o.kd).fs.length fcap]:Array Value)[j]?:=by rw [hW2];exact zl w1 _ _
 have hS1:∀ j,W2.drew.cell? ⟨w.heap.size+1,j,none⟩=(#[.string o.kd,.string o.nm,.string o.tm,.slice va o.vs.length cap,.bool o.en,.slice ha o.hs.length cap',.int .i64 o.vr]:Array Value)[j]?:=by rw [hW2];exact za hX1 hz1 ((Below.refl _ _).alloc (Nat.le_refl _) _).drew
 have hS0:∀ j,W2.drew.cell? ⟨w.heap.size,j,none⟩=(#[.slice a l.ss.length ca,.slice b l.ms.length cb,.slice c l.ts.length cc]:Array Value)[j]?:=by rw [hW2];exact za hX0 hz0 ((Below.refl _ _).alloc (Nat.le_refl _) _).drew
 have hzs:w1.heap.size < W2.drew.heap.size:=by rw [hW2];show w1.heap.size < (w1.alloc (.cells #[.string (Gate.shapeOf l.ss o.kd).kd,.slice fa (Gate.shapeOf l.ss o.kd).fs.length fcap] 115)).heap.size;simp
 rw [<- hW2] at hRW hzW hBW hFW ⊢
 clear hW2 hX1 hX0
 have hb:=(Below.refl W2.heap.size W2).drew
 have hlW:W2.heap.size=W2.drew.heap.size:=rfl
 have hzo:w.heap.size+1 < W2.drew.heap.size:=by omega
 have hzl:w.heap.size < W2.drew.heap.size:=by omega
 go_region_held3 (fun w'=>(∀ j,w'.cell? ⟨w.heap.size,j,none⟩=(#[.slice a l.ss.length ca,.slice b l.ms.length cb,.slice c l.ts.length cc]:Array Value)[j]?)/\(∀ j,w'.cell? ⟨w.heap.size+1,j,none⟩=(#[.string o.kd,.string o.nm,.string o.tm,.slice va o.vs.length cap,.bool o.en,.slice ha o.hs.length cap',.int .i64 o.vr]:Array Value)[j]?)/\∀ j,w'.cell? ⟨w1.heap.size,j,none⟩=(#[.string (Gate.shapeOf l.ss o.kd).kd,.slice fa (Gate.shapeOf l.ss o.kd).fs.length fcap]:Array Value)[j]?) (first | exact ⟨fun j=>by rw [hS0],fun j=>by rw [hS1],fun j=>by rw [hS2]⟩ | exact ⟨fun j=>by rw [hS5],fun j=>by rw [hS3],fun j=>by rw [hS4]⟩) (first
  | (go_at_call 210;refine (zmU o (Gate.shapeOf l.ss o.kd).kd (Gate.shapeOf l.ss o.kd).fs _ va ha _ cap cap' _ (by exact hFW.mono hb) (by exact HH.out.2.1.mono (hBW.trans (hb.mono hBW.size))) hl hl' HFA.out.1).mono ?_;rintro e w5 ⟨a5,dap5,a5',dap5',m5,rfl,ht5,hm5,hsm5,ht5',hb5⟩;have hS0:=za hS0 hzl hb5;have hS1:=za hS1 hzo hb5;have hS2:=za hS2 hzs hb5;have hb:=hb.trans (hb5.mono hb.size);have hO5:zF w5 a5 (Gate.jU (Gate.shapeOf l.ss o.kd).fs o.vs):=ht5.at (by rw [Gate.qQ HFA.out.1];exact HH.out.2.2) (zfT hFW.smalls HH.out.2.1.vals.small HFA.out.1);have hO5':zF w5 a5' o.hs:=ht5'.at HH.out.2.1.holds.len HH.out.2.1.holds.small;have hA5:=ht5.zoY;have hA5':=ht5'.zoY;clear ht5 hm5 hsm5 ht5' hb5)
  | (go_at_call 209;refine (znI o (Gate.jU (Gate.shapeOf l.ss o.kd).fs o.vs) (Gate.qQ HFA.out.1) (Gate.shapeOf l.ss o.kd) l.ms _ _ _ _ _ _ _ _ _ (by exact hFW.mono hb) (by exact HH.out.1.ms.mono (hBW.trans (hb.mono hBW.size))) HH.out.2.1.small (by exact hO5) (by exact hO5') hA5 hA5' hl hl' HFA.out.1 hml HFA.out.2.1 HFA.out.2.2.1 HFA.out.2.2.2).mono ?_;rintro e w6 ⟨e0,dap,e1,dap',m,rfl,ht,hm,hsm,ht',hb6⟩;have hR6:w6.heap[w.heap.size+1+1]?=some (.cells #[.string ByteArray.empty,.string ByteArray.empty,.string ByteArray.empty,.slice none 0 0,.bool false,.slice none 0 0,.int .i64 0] 121):=((hb.trans (hb6.mono hb.size)).block (w.heap.size+1+1) hzW).trans hRW;have hS0:=fun j=>(hb6.cell (p:=⟨w.heap.size,j,none⟩) (Nat.lt_of_lt_of_le hzl hb.size)).trans (hS0 j);have hS1:=fun j=>(hb6.cell (p:=⟨w.heap.size+1,j,none⟩) (Nat.lt_of_lt_of_le hzo hb.size)).trans (hS1 j);have hS2:=fun j=>(hb6.cell (p:=⟨w1.heap.size,j,none⟩) (Nat.lt_of_lt_of_le hzs hb.size)).trans (hS2 j);have hS5:=fun j=>(zge (g:=w.heap.size+1+1) (by omega:w.heap.size ≠ w.heap.size+1+1) (v0:=.string o.kd) (v1:=.string o.nm) (v2:=.string o.tm) (v3:=.slice e0 o.vs.length dap) (v4:=.bool o.en) (v5:=.slice e1 o.hs.length dap') (v6:=.int .i64 o.vr)).trans (hS0 j);have hS3:=fun j=>(zge (g:=w.heap.size+1+1) (by omega:w.heap.size+1 ≠ w.heap.size+1+1) (v0:=.string o.kd) (v1:=.string o.nm) (v2:=.string o.tm) (v3:=.slice e0 o.vs.length dap) (v4:=.bool o.en) (v5:=.slice e1 o.hs.length dap') (v6:=.int .i64 o.vr)).trans (hS1 j);have hS4:=fun j=>(zge (g:=w.heap.size+1+1) (by omega:w1.heap.size ≠ w.heap.size+1+1) (v0:=.string o.kd) (v1:=.string o.nm) (v2:=.string o.tm) (v3:=.slice e0 o.vs.length dap) (v4:=.bool o.en) (v5:=.slice e1 o.hs.length dap') (v6:=.int .i64 o.vr)).trans (hS2 j);have hRc:=zf0 hR6;have hRf:=zl3 hR6;have hsz5:=hb.size;have hb:=hb.trans (hb6.mono hb.size);clear hb6))
 go_wp2_with fail
 refine bodyPost_ret (v:=(.agg #[.string o.kd,.string o.nm,.string o.tm,.slice e0 o.vs.length dap,.bool o.en,.slice e1 o.hs.length dap',.int .i64 o.vr])) (by simp [results,Tryz.results190,go_sem,hRc]) rfl ?_
 have hB:=hBW.trans (hb.mono hBW.size)
 have h2:w.heap.size+1+1+1<=W2.drew.heap.size:=hzW
 exact ⟨e0,dap,e1,dap',rfl,(jK (ht.low (lo':=w.heap.size+1+1+1) (by omega)) _ (by omega) _ _ _ _ _ _ _).low (by omega),zaz hB _ (by omega) _ _ _ _ _ _ _⟩
namespace Gate
def zbs (l:Lw) (o:Ob):Bool:=decide ((yI l.ss o).1=0) && decide (zat l o=o.vs)
theorem zae {l:Lw} {o:Ob} (hok:yx l.ss l.ms=true) (h:(yI l.ss o).1=0):qK l.ss l.ms o=true:=by
 have hw:whole l.ss o=true:=by
  cases hc:whole l.ss o with
  | true=>rfl
  | false=>unfold yI at h;rw [if_neg (by rw [hc];simp)] at h;simp at h
 unfold whole zy at hw
 unfold qK
 simp only [Bool.and_eq_true] at hw ⊢
 exact ⟨hw.2.1,hw.2.2,hok⟩
end Gate
theorem zdo {l:Lw} {o:Ob} (hm:Gate.qK l.ss l.ms o=true) (hs:zcW l.ss) (hms:∀ i (h:i < l.ms.length),l.ms[i].Small) (ho:∀ s ∈ o.vs,s.size<=maxLen):∀ s ∈ Gate.zat l o,s.size<=maxLen:=by
 have hf:=Gate.zcq hm
 have hk:Gate.zH l.ss o.kd=true:=by unfold Gate.qK at hm;simp only [Bool.and_eq_true] at hm;exact hm.1
 obtain ⟨i,hi,e⟩:=Gate.zeg hk
 have h1:zbw (Gate.shapeOf l.ss o.kd).fs:=by rw [e];exact (hs.small i hi).2.2
 exact Gate.zbF hms _ _ (zfT h1 ho hf.1)
theorem zd1 {l:Lw} {o:Ob} {w:World} {a:Option Addr} {lo:Nat} (h:zu lo w a (Gate.zat l o)) (hm:Gate.qK l.ss l.ms o=true) (hl:o.vs.length<=maxLen) (hs:∀ s ∈ Gate.zat l o,s.size<=maxLen):zF w a (Gate.zat l o):=h.at (by rw [zb9 hm];exact hl) hs
theorem zhG (a c:Option Addr) (ca cc:Nat) (xs ys:List ByteArray) (w:World) (hx:zF w a xs) (hy:zF w c ys) (hl:xs.length<=1048576) (hl':ys.length<=1048576) (hn:xs.length=ys.length) :
 Calls Tryz.prog 189 #[.slice a ys.length ca,.slice c ys.length cc] w fun e w'=>e = .returned (.bool (decide (xs=ys)))/\Below w.heap.size w w':=by
 have h:=zhe a c ca cc xs ys w hx hy hl hl'
 rw [hn] at h
 exact h
set_option maxRecDepth 20000 in
theorem zkb (l:Lw) (a b c:Option Addr) (ca cb cc:Nat) (o:Ob) (va ha:Option Addr) (cap cap':Nat) (w:World) (hL:qp w l a b c) (hml:l.ms.length<=1048576) (ho:qG w o va ha) (hl:o.vs.length<=1048576) (hl':o.hs.length<=1048576) (hok:Gate.yx l.ss l.ms=true) :
 Calls Tryz.prog 143 #[.agg #[.slice a l.ss.length ca,.slice b l.ms.length cb,.slice c l.ts.length cc],.agg #[.string o.kd,.string o.nm,.string o.tm,.slice va o.vs.length cap,.bool o.en,.slice ha o.hs.length cap',.int .i64 o.vr]] w fun e w'=>e = .returned (.bool (Gate.zbs l o))/\Below w.heap.size w w':=by
 have hfd:∀ (s0 s1 s2:ByteArray) (x y:Option Addr) (n m p q:Nat) (t:Bool) (v:Int) (wf:World),(Instr.field 121 (.agg #[.string s0,.string s1,.string s2,.slice x n p,.bool t,.slice y m q,.int .i64 v]) 3).run Tryz.prog wf = .ok (.slice x n p) wf:=fun s0 s1 s2 x y n m p q t v wf=>by kernel_rfl
 have HH:Hid (qp w l a b c/\qG w o va ha):=⟨hL,ho⟩
 clear hL ho
 obtain ⟨r,hr⟩:∃ r,r=Gate.zbs l o:=⟨_,rfl⟩
 rw [<- hr]
 have HR:Hid (r=Gate.zbs l o):=hr
 clear hr
 go_enter Tryz.func143,Tryz.ntmps143
 go_wp2_with fail
 have hb2:=zC w (.cells #[.slice a l.ss.length ca,.slice b l.ms.length cb,.slice c l.ts.length cc] 43) (.cells #[.string o.kd,.string o.nm,.string o.tm,.slice va o.vs.length cap,.bool o.en,.slice ha o.hs.length cap',.int .i64 o.vr] 121)
 refine (zhn _ _ l.ss o _ _ _ _ _ (HH.out.1.ss.mono hb2) (HH.out.2.mono hb2)).mono ?_
 rintro e w1 ⟨rfl,hb1⟩
 have hX0:∀ j,w1.cell? ⟨w.heap.size,j,none⟩=(#[.slice a l.ss.length ca,.slice b l.ms.length cb,.slice c l.ts.length cc]:Array Value)[j]?:=fun j=>cell_of_block ((hb1.block w.heap.size (by simp;omega)).trans (yw _ _ _).1)
 have hX1:∀ j,w1.cell? ⟨w.heap.size+1,j,none⟩=(#[.string o.kd,.string o.nm,.string o.tm,.slice va o.vs.length cap,.bool o.en,.slice ha o.hs.length cap',.int .i64 o.vr]:Array Value)[j]?:=fun j=>cell_of_block ((hb1.block (w.heap.size+1) (by simp)).trans (yw _ _ _).2)
 have hz1:w.heap.size+1 < w1.heap.size:=by have:=hb1.size;simp at this;omega
 have hz0:w.heap.size < w1.heap.size:=by omega
 have hB1:Below w.heap.size w w1:=hb2.trans (hb1.mono (by simp;omega))
 clear hb1 hb2
 by_cases hc:(Gate.yI l.ss o).1=0
 rotate_left
 ·have HF:Hid (r=false):=by unfold Hid;rw [HR.out];unfold Gate.zbs;rw [decide_eq_false hc];rfl
  have hv:zfH l.ss o = .iface 275 (.agg #[.int .i64 (Gate.yI l.ss o).1,.int .i64 (Gate.yI l.ss o).2]):=zky hc
  rw [hv]
  clear hc hv
  go_wp2_with fail
  go_ret
  exact ⟨ze HF.out.symm,hB1⟩
 have HMD:Hid (Gate.qK l.ss l.ms o=true):=Gate.zae hok hc
 have HS:Hid (∀ s ∈ Gate.zat l o,s.size<=maxLen):=zdo HMD.out HH.out.1.ss.smalls HH.out.1.ms.small HH.out.2.vals.small
 have HF:Hid (decide (Gate.zat l o=o.vs)=r):=by unfold Hid;rw [HR.out];unfold Gate.zbs;rw [decide_eq_true hc];rfl
 have hv:zfH l.ss o = .nilIface:=by unfold zfH;rw [hc];rfl
 rw [hv]
 have HLN:Hid ((Gate.zat l o).length=o.vs.length):=zb9 HMD.out
 clear hc hv
 go_wp2_with fail
 have hS0:=za hX0 hz0 (Below.refl w1.heap.size w1).drew
 have hS1:=za hX1 hz1 (Below.refl w1.heap.size w1).drew
 have hb:=(Below.refl w1.heap.size w1).drew
 have hzl:w.heap.size < w1.drew.heap.size:=hz0
 have hzo:w.heap.size+1 < w1.drew.heap.size:=hz1
 clear hX0 hX1
 go_region_held3 (fun w'=>(∀ j,w'.cell? ⟨w.heap.size,j,none⟩=(#[.slice a l.ss.length ca,.slice b l.ms.length cb,.slice c l.ts.length cc]:Array Value)[j]?)/\(∀ j,w'.cell? ⟨w.heap.size+1,j,none⟩=(#[.string o.kd,.string o.nm,.string o.tm,.slice va o.vs.length cap,.bool o.en,.slice ha o.hs.length cap',.int .i64 o.vr]:Array Value)[j]?)) (exact ⟨fun j=>by rw [hS0],fun j=>by rw [hS1]⟩) (first
  | (go_at_call 190;refine (zi8 l a b c ca cb cc o va ha cap cap' _ (by exact HH.out.1.mono (hB1.trans (hb.mono hB1.size))) hml (by exact HH.out.2.mono (hB1.trans (hb.mono hB1.size))) hl hl' HMD.out).mono ?_;rintro e w5 ⟨e0,dap,e1,dap',rfl,ht5,hb5⟩;have hS0:=za hS0 hzl hb5;have hS1:=za hS1 hzo hb5;have hb:=hb.trans (hb5.mono hb.size);have hO5:zF w5 e0 (Gate.zat l o):=zd1 ht5 HMD.out HH.out.2.vals.len HS.out;clear ht5 hb5)
  | (go_at_call 189;refine (zhG _ va _ cap (Gate.zat l o) o.vs _ (by exact hO5) (by exact HH.out.2.vals.mono (hB1.trans (hb.mono hB1.size))) (by rw [HLN.out];exact hl) hl HLN.out).mono ?_;rintro e w6 ⟨rfl,hb6⟩;rw [HF.out];have hS0:=fun j=>(hb6.cell (p:=⟨w.heap.size,j,none⟩) (Nat.lt_of_lt_of_le hzl hb.size)).trans (hS0 j);have hS1:=fun j=>(hb6.cell (p:=⟨w.heap.size+1,j,none⟩) (Nat.lt_of_lt_of_le hzo hb.size)).trans (hS1 j);have hb:=hb.trans (hb6.mono hb.size);clear hb6))
 go_wp2_with fail
 go_ret
 exact ⟨rfl,hB1.trans (hb.mono hB1.size)⟩
theorem yK.new (w:World):yK (w.alloc (.map #[] 0)) w.heap.size (fun _ _=>none) :=
 ⟨⟨#[],0,Array.getElem?_push_size,fun x hx=>(by simp at hx),fun a b v h=>(by cases h),fun i j x y hx=>(by simp at hx)⟩,fun es c h=>by
  have e:(w.alloc (.map #[] 0)).heap[w.heap.size]?=some (.map #[] 0):=Array.getElem?_push_size
  rw [e] at h
  cases h
  exact ⟨fun x hx=>(by simp at hx),by simp⟩⟩
theorem zgz.below {r B:Nat} {w0 w w':World} (h:zgz r w w') (hb:Below B w0 w) (hr:B<=r):Below B w0 w' :=
 ⟨h.os.trans hb.os,h.tape.trans hb.tape,h.output.trans hb.output,by rw [h.size];exact hb.size,fun k hk=>(h.out k (by omega)).trans (hb.block k hk)⟩
theorem zjh (o:Ob) (a0 a1:Option Addr) (c0 c1:Nat) (w:World):Calls Tryz.prog 187 #[.agg #[.string o.kd,.string o.nm,.string o.tm,.slice a0 o.vs.length c0,.bool o.en,.slice a1 o.hs.length c1,.int .i64 o.vr]] w fun e w'=>e = .returned (q8 o.kd o.nm)/\Below w.heap.size w w':=by
 unfold q8
 go_enter Tryz.func187,Tryz.ntmps187
 go_wp2_with fail
 refine bodyPost_ret (v:=.agg #[.string o.kd,.string o.nm]) (by simp [results,Tryz.results187,go_sem]) rfl ⟨rfl,?_⟩
 first | exact zC _ _ _ | exact ((zC _ _ _).setCell (by simp) _).setCell (by simp) _ | exact ((zC _ _ _).setCell (by show _<=_+1;omega) _).setCell (by show _<=_+1;omega) _
structure zbM (f:ByteArray->ByteArray->Option Int) (os:List Ob) (k:Nat):Prop where
 has:∀ p q,(f p q).isSome=(os.take k).any (Gate.zaU p q)
 at_:∀ p q v,f p q=some v->∃ i,∃ h:i < os.length,v=(i:Int)/\os[i].kd=p/\os[i].nm=q
theorem zbM.put {f:ByteArray->ByteArray->Option Int} {os:List Ob} {k:Nat} (h:zbM f os k) (hlt:k < os.length):zbM (fun p q=>if p=os[k].kd/\q=os[k].nm then some (k:Int) else f p q) os (k+1):=by
 refine ⟨fun p q=>?_,fun p q v hv=>?_⟩
 ·rw [List.take_succ_eq_append_getElem hlt,List.any_append,<- h.has p q]
  simp only [List.any_cons,List.any_nil,Bool.or_false]
  by_cases e:p=os[k].kd/\q=os[k].nm
  ·rw [if_pos e]
   unfold Gate.zaU
   simp [e.1,e.2]
  ·rw [if_neg e]
   have:Gate.zaU p q os[k]=false:=by
    unfold Gate.zaU
    rw [Bool.and_eq_false_iff,decide_eq_false_iff_not,decide_eq_false_iff_not]
    by_cases e1:os[k].kd=p
    ·exact Or.inr fun e2=>e ⟨e1.symm,e2.symm⟩
    ·exact Or.inl e1
   rw [this,Bool.or_false]
 ·by_cases e:p=os[k].kd/\q=os[k].nm
  ·rw [if_pos e] at hv
   exact ⟨k,hlt,(Option.some.inj hv).symm,e.1.symm,e.2.symm⟩
  ·rw [if_neg e] at hv
   exact h.at_ p q v hv
theorem zg1 (a:Option Addr) (cap:Nat) (os:List Ob) (w:World) (hw:zbr w a os) (hl:os.length<=1048576) :
 Calls Tryz.prog 142 #[.slice a os.length cap] w fun e w'=>(∃ f,e = .returned (.map (some w.heap.size))/\yK w' w.heap.size f/\zbM f os os.length)/\Below w.heap.size w w':=by
 have HW:Hid (zbr w a os):=hw
 have hmk:∀ w:World,(Instr.makeMap 204 none).run Tryz.prog w = .ok (.map (some w.heap.size)) (w.alloc (.map #[] 0)):=fun w=>by kernel_rfl
 clear hw
 go_enter Tryz.func142,Tryz.ntmps142
 go_wp2_with fail
 clear hmk
 go_loopw [9] (fun iv wr=>∃ k:Nat,k<=os.length/\iv = .int .i64 k/\Hid ((∃ f,yK wr w.heap.size f/\zbM f os k)/\Below w.heap.size w wr)) (fun iv _=>os.length - (intOf iv).toNat)
 case atStart=>exact ⟨0,Nat.zero_le _,rfl,⟨_,yK.new w,⟨fun p q=>by simp,fun p q v h=>by cases h⟩⟩,(Below.refl _ _).alloc (Nat.le_refl _) _⟩
 case round =>
  obtain ⟨k,hk,rfl,HX⟩:=hrel
  obtain ⟨⟨f,hf,hc⟩,hB⟩:=HX.out
  have hkn:k<=1048576:=by omega
  by_cases hlt:k < os.length
  ·obtain ⟨ob,off,v0,v1,q0,q1,rfl,hob,hsm,hl0,hl1,d0,d1,d2,d3,d4,d5,d6⟩:=HW.out.load hB k hlt
   have hltI:(k:Int) < (os.length:Int):=by omega
   have hob':ob < wr.heap.size:=Nat.lt_of_lt_of_le hob hB.size
   have HKn:Hid (os[k].Small):=hsm
   have HPf:Hid (yK wr w.heap.size f/\zbM f os k/\Below w.heap.size w wr):=⟨hf,hc,hB⟩
   clear hf hc hB HX hsm hl0 hl1
   go_wp2_with fail
   refine (zjh os[k] v0 v1 q0 q1 _).mono ?_
   rintro e w1 ⟨rfl,hb1⟩
   have hBa:=(HPf.out.2.2.alloc HPf.out.2.2.size (.cells #[.string os[k].kd,.string os[k].nm,.string os[k].tm,.slice v0 os[k].vs.length q0,.bool os[k].en,.slice v1 os[k].hs.length q1,.int .i64 os[k].vr] 121))
   have hf1:yK w1 w.heap.size f:=(HPf.out.1.mono ((Below.refl _ _).alloc (Nat.le_refl _) _)).mono hb1
   obtain ⟨w2,hup,hf2,hp2⟩:=hf1.upd zio Tryz.underlying204 os[k].kd os[k].nm HKn.out.kd HKn.out.nm (k:Int)
   have HC:Hid ((∃ f,yK w2 w.heap.size f/\zbM f os (k+1))/\Below w.heap.size w w2) :=
    ⟨⟨_,hf2,HPf.out.2.1.put hlt⟩,hp2.below (hBa.trans (hb1.mono hBa.size)) (Nat.le_refl _)⟩
   clear hf1 hf2 hp2 hb1 hBa
   go_wp2_with fail
   exact ⟨⟨k+1,by omega,by go_num,HC.out⟩,zw hlt⟩
  ·have e:k=os.length:=by omega
   subst e
   have HE:Hid (∃ f,yK wr w.heap.size f/\zbM f os os.length):=⟨f,hf,hc⟩
   have HB:Hid (Below w.heap.size w wr):=hB
   clear hf hc hB HX hlt hk
   go_wp2_with fail
   go_ret
   obtain ⟨f,h1,h2⟩:=HE.out
   exact ⟨⟨f,rfl,h1,h2⟩,HB.out⟩
theorem zfW (a:Option Addr) (cap:Nat) (os:List Ob) (w:World) (hw:zbr w a os) (hl:os.length<=1048576) :
 Calls Tryz.prog 142 #[.slice a os.length cap] w fun e w'=>(∃ f,e = .returned (.map (some w.heap.size))/\yK w' w.heap.size f/\∀ p q,(f p q).isSome=os.any (Gate.zaU p q))/\Below w.heap.size w w':=by
 refine (zg1 a cap os w hw hl).mono ?_
 rintro e w' ⟨⟨f,he,hf,hp⟩,hb⟩
 exact ⟨⟨f,he,hf,fun p q=>by rw [hp.has p q,List.take_of_length_le (Nat.le_refl _)]⟩,hb⟩
theorem jh (a0:Option Addr) (cap0:Nat) (ss:List Shp) (o:Ob) (a a':Option Addr) (cap cap':Nat) (w:World) (hw:yL w a0 ss) (_ho:qG w o a a') (hc:Gate.zy ss o=true) :
 Calls Tryz.prog 84 #[.slice a0 ss.length cap0,.agg #[.string o.kd,.string o.nm,.string o.tm,.slice a o.vs.length cap,.bool o.en,.slice a' o.hs.length cap',.int .i64 o.vr]] w fun e w'=>∃ fa fcap,e = .returned (.tuple #[.slice fa (Gate.shapeOf ss o.kd).fs.length fcap,.bool true])/\zR w fa (Gate.shapeOf ss o.kd).fs/\Below w.heap.size w w':=by
 unfold Gate.zy at hc
 simp only [Bool.and_eq_true,decide_eq_true_eq] at hc
 have HK:Hid (Gate.zH ss o.kd=true):=hc.1
 have HL:Hid (o.vs.length=(Gate.shapeOf ss o.kd).fs.length):=hc.2
 clear hc
 have hl:=hw.len
 unfold maxLen at hl
 go_enter Tryz.func84,Tryz.ntmps84
 go_wp2_with fail
 refine (jD _ _ _ _ _ (hw.mono ((Below.refl _ _).alloc (Nat.le_refl _) _)) HK.out).mono ?_
 rintro e w1 ⟨ix,hix,rfl,hsh,rfl⟩
 have HSh:Hid (Gate.shapeOf ss o.kd=ss[ix]):=hsh
 clear hsh
 obtain ⟨b,off,rfl,hb,hr⟩:=hw.rows (by rintro rfl;simp at hix)
 obtain ⟨fa,fcap,hs⟩:=hr ix hix
 have hcl:=hs.list
 have hfl:=hs.flds
 have hixI:(ix:Int) < (ss.length:Int):=by omega
 have hix0:decide ((ix:Int) < 0)=false:=by simp
 have hneq:((ss[ix].fs.length:Int) != (o.vs.length:Int))=false:=by have h1:=HL.out;have h2:=HSh.out;rw [h2] at h1;simp [h1]
 have hbw:b < w.heap.size:=hb
 clear hr hs
 go_wp2_with fail
 go_quiet (fail)
 go_wp2_with fail
 go_ret2
 rw [HSh.out]
 exact ⟨fa,fcap,rfl,hfl,below_drewN ((Below.refl _ _).alloc (Nat.le_refl _) _) _⟩
theorem zcI (a0:Option Addr) (cap0:Nat) (ss:List Shp) (o:Ob) (a a':Option Addr) (cap cap':Nat) (w:World) (hw:yL w a0 ss) (_ho:qG w o a a') (hc:Gate.zy ss o=false) :
 Calls Tryz.prog 84 #[.slice a0 ss.length cap0,.agg #[.string o.kd,.string o.nm,.string o.tm,.slice a o.vs.length cap,.bool o.en,.slice a' o.hs.length cap',.int .i64 o.vr]] w fun e w'=>∃ v,e = .returned (.tuple #[v,.bool false])/\Below w.heap.size w w':=by
 have hl:=hw.len
 unfold maxLen at hl
 by_cases hk:Gate.zH ss o.kd=true
 ·have HK:Hid (Gate.zH ss o.kd=true):=hk
  have HL:Hid (¬ o.vs.length=(Gate.shapeOf ss o.kd).fs.length):=by unfold Gate.zy at hc;rw [hk] at hc;simpa [Hid] using hc
  clear hc hk
  go_enter Tryz.func84,Tryz.ntmps84
  go_wp2_with fail
  refine (jD _ _ _ _ _ (hw.mono ((Below.refl _ _).alloc (Nat.le_refl _) _)) HK.out).mono ?_
  rintro e w1 ⟨ix,hix,rfl,hsh,rfl⟩
  have HSh:Hid (Gate.shapeOf ss o.kd=ss[ix]):=hsh
  clear hsh
  obtain ⟨b,off,rfl,hb,hr⟩:=hw.rows (by rintro rfl;simp at hix)
  obtain ⟨fa,fcap,hs⟩:=hr ix hix
  have hcl:=hs.list
  have hixI:(ix:Int) < (ss.length:Int):=by omega
  have hix0:decide ((ix:Int) < 0)=false:=by simp
  have hneq:((ss[ix].fs.length:Int) != (o.vs.length:Int))=true:=by have h1:=HL.out;have h2:=HSh.out;rw [h2] at h1;rw [bne_iff_ne];omega
  have hbw:b < w.heap.size:=hb
  clear hr hs
  go_wp2_with fail
  go_quiet (fail)
  go_wp2_with fail
  go_ret2
  exact ⟨_,rfl,below_drewN (zC _ _ _) _⟩
 ·have HK:Hid (Gate.zH ss o.kd=false):=by simpa [Hid] using hk
  clear hc hk
  go_enter Tryz.func84,Tryz.ntmps84
  go_wp2_with fail
  refine (zdz _ _ _ _ _ (hw.mono ((Below.refl _ _).alloc (Nat.le_refl _) _)) HK.out).mono ?_
  rintro e w1 ⟨rfl,rfl⟩
  go_wp2_with fail
  go_quiet (fail)
  go_wp2_with fail
  go_ret2
  exact ⟨_,rfl,below_drewN (zC _ _ _) _⟩
end Go.Proofs.YtaickbhifenbjaaGreat
