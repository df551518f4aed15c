import Derived.Test.YtaickbhifenbjaaGreatM41
import Derived.Test.YtaickbhifenbjaaGreatM35
import Derived.Test.YtaickbhifenbjaaGreatM24
import Derived.Test.YtaickbhifenbjaaGreatM02
import Derived.Deep.RegionWith
import Derived.Test.YtaickbhifenbjaaGreatM39
import Derived.Test.YtaickbhifenbjaaGreatM37
import Derived.Test.YtaickbhifenbjaaGreatM09
import Derived.Test.YtaickbhifenbjaaGreatM12
import Derived.Test.YtaickbhifenbjaaGreatM34
import Derived.Test.YtaickbhifenbjaaGreatM40
import Derived.Test.YtaickbhifenbjaaGreatM38
import Derived.Test.YtaickbhifenbjaaGreatM10
set_option maxHeartbeats 40000000
namespace Go.Proofs.YtaickbhifenbjaaGreat
open Go.RowKit
namespace Gate
theorem zbt (ss:List Shp) (o:Ob):(qB ss o).length=o.vs.length:=by
 unfold qB
 split
 ·rename_i h;unfold zy at h;simp only [Bool.and_eq_true,decide_eq_true_eq] at h;exact qQ h.2
 ·rfl
theorem zhV {ss:List Shp} {ms:List Mnd} (h:yx ss ms=true):yt ss=true:=by
 unfold yx at h;simp only [Bool.and_eq_true] at h;exact h.1.1.2
theorem zlu {ss:List Shp} {ms:List Mnd} {o:Ob} (h:yx ss ms=true):zbu ss ms o=zb4 ss ms ⟨o.kd,o.nm,o.tm,qB ss o,o.en,o.hs,o.vr⟩:=by
 have e:qK ss ms ⟨o.kd,o.nm,o.tm,qB ss o,o.en,o.hs,o.vr⟩=qK ss ms o:=by
  unfold qK;simp only [zbt]
 unfold zbu zb4
 rw [e]
 by_cases hm:qK ss ms o=true
 ·rw [if_pos hm,if_pos hm]
  have hc:zy ss o=true:=by rw [<- zaB h];exact hm
  unfold zft qB
  rw [if_pos hc]
 ·rw [if_neg hm,if_neg hm]
  have hc:¬ zy ss o=true:=by rw [<- zaB h];exact hm
  show o.vs=qB ss o
  unfold qB
  rw [if_neg hc]
end Gate
theorem zld (a0 ma:Option Addr) (cap0 mcap:Nat) (ss:List Shp) (ms:List Mnd) (o:Ob) (us:List ByteArray) (hus:us.length=o.vs.length) (b off b' off' cap cap':Nat) (w:World) (hw:yL w a0 ss) (hm:y7 w ma ms) (hsm:o.Small) (ho:zF w (some ⟨b,off,none⟩) us) (ho':zF w (some ⟨b',off',none⟩) o.hs) (hl:o.vs.length<=1048576) (hl':o.hs.length<=1048576) (hok:Gate.yx ss ms=true) :
 Calls Tryz.prog 122 #[.slice a0 ss.length cap0,.slice ma ms.length mcap,.agg #[.string o.kd,.string o.nm,.string o.tm,.slice (some ⟨b,off,none⟩) o.vs.length cap,.bool o.en,.slice (some ⟨b',off',none⟩) o.hs.length cap',.int .i64 o.vr]] w (zfK o (Gate.zb4 ss ms ⟨o.kd,o.nm,o.tm,us,o.en,o.hs,o.vr⟩) w):=by
 have h:=zkz a0 ma cap0 mcap ss ms ⟨o.kd,o.nm,o.tm,us,o.en,o.hs,o.vr⟩ b off b' off' cap cap' w hw hm ⟨⟨hsm.kd,hsm.nm,hsm.tm⟩,ho,ho'⟩ (by show us.length<=_;omega) hl' hok
 unfold zfK at h ⊢
 simp only [hus] at h
 exact h
theorem zeZ (a0 ma:Option Addr) (cap0 mcap:Nat) (ss:List Shp) (ms:List Mnd) (o:Ob) (b off b' off' cap cap':Nat) (w:World) (hw:yL w a0 ss) (hmm:y7 w ma ms) (ho:qG w o (some ⟨b,off,none⟩) (some ⟨b',off',none⟩)) (hl:o.vs.length<=1048576) (hl':o.hs.length<=1048576) (hok:Gate.yx ss ms=true) :
 Calls Tryz.prog 83 #[.slice a0 ss.length cap0,.slice ma ms.length mcap,.agg #[.string o.kd,.string o.nm,.string o.tm,.slice (some ⟨b,off,none⟩) o.vs.length cap,.bool o.en,.slice (some ⟨b',off',none⟩) o.hs.length cap',.int .i64 o.vr]] w (zfK o (Gate.zbu ss ms o) w):=by
 have HRES:Hid (Gate.zbu ss ms o=Gate.zb4 ss ms ⟨o.kd,o.nm,o.tm,Gate.qB ss o,o.en,o.hs,o.vr⟩):=Gate.zlu hok
 have HSM:Hid ((Gate.qB ss o).length<=maxLen/\∀ s ∈ Gate.qB ss o,s.size<=maxLen):=⟨by rw [Gate.zbt];exact ho.vals.len,by rw [<- Gate.zmb (Gate.zhV hok)];exact zmS hw.smalls ho.vals.small⟩
 have HH:Hid (yL w a0 ss/\y7 w ma ms/\qG w o (some ⟨b,off,none⟩) (some ⟨b',off',none⟩)):=⟨hw,hmm,ho⟩
 clear hw hmm ho
 have hb2:=zC w (.cells #[.string o.kd,.string o.nm,.string o.tm,.slice (some ⟨b,off,none⟩) o.vs.length cap,.bool o.en,.slice (some ⟨b',off',none⟩) o.hs.length cap',.int .i64 o.vr] 121) (.cells #[.string ByteArray.empty,.string ByteArray.empty,.string ByteArray.empty,.slice none 0 0,.bool false,.slice none 0 0,.int .i64 0] 121)
 go_enter Tryz.func83,Tryz.ntmps83
 go_wp2_with fail
 refine (zkB a0 cap0 ss o b off b' off' cap cap' _ (HH.out.1.mono hb2) (HH.out.2.2.mono hb2) hl hl').mono ?_
 rintro e w1 ⟨a1,dap1,a1',dap1',m1,rfl,ht1,hm1,hsm1,ht1',hb1,⟨g,rfl⟩,⟨g',rfl⟩⟩
 have HR1:Hid (w1.heap[w.heap.size+1]?=some (.cells #[.string ByteArray.empty,.string ByteArray.empty,.string ByteArray.empty,.slice none 0 0,.bool false,.slice none 0 0,.int .i64 0] 121)):=(hb1.block (w.heap.size+1) (by simp)).trans (yw _ _ _).2
 have hz1:w.heap.size+1 < w1.heap.size:=by have:=hb1.size;simp at this;omega
 have hB1:Below w.heap.size w w1:=hb2.trans (hb1.mono (by simp;omega))
 have hv1:=ht1.at HSM.out.1 HSM.out.2
 have hv1':=ht1'.at HH.out.2.2.holds.len HH.out.2.2.holds.small
 clear hb1 hb2 ht1 hm1 hsm1 ht1'
 go_wp2_with fail
 refine (zld a0 ma cap0 mcap ss ms o (Gate.qB ss o) (Gate.zbt ss o) g 0 g' 0 _ _ _ (HH.out.1.mono hB1) (HH.out.2.1.mono hB1) HH.out.2.2.small hv1 hv1' hl hl' hok).mono ?_
 rintro e w4 ⟨a,dap,a',dap',m,rfl,ht,hm,hsm,ht',hb4⟩
 have hR4:w4.heap[w.heap.size+1]?=some (.cells #[.string ByteArray.empty,.string ByteArray.empty,.string ByteArray.empty,.slice none 0 0,.bool false,.slice none 0 0,.int .i64 0] 121):=(hb4.block (w.heap.size+1) hz1).trans HR1.out
 have hRc:∀ j,w4.cell? ⟨w.heap.size+1,j,none⟩=(#[.string ByteArray.empty,.string ByteArray.empty,.string ByteArray.empty,.slice none 0 0,.bool false,.slice none 0 0,.int .i64 0]:Array Value)[j]?:=fun j=>cell_of_block hR4
 have hRf:∀ j,w4.frozen? ⟨w.heap.size+1,j,none⟩=false:=fun j=>zn hR4
 have HX:Hid (zu (w.heap.size+1+1) w4 a (Gate.zbu ss ms o)/\(∀ g,a=some g->g.block < m)/\w.heap.size+1+1<=m/\zu m w4 a' o.hs/\Below w.heap.size w w4):=by rw [HRES.out];exact ⟨ht.low hz1,hm,Nat.le_trans hz1 hsm,ht',hB1.trans (hb4.mono hB1.size)⟩
 clear ht hm hsm ht' hb4 hR4
 go_wp2_with fail
 refine bodyPost_ret (v:=(.agg #[.string o.kd,.string o.nm,.string o.tm,.slice a o.vs.length dap,.bool o.en,.slice a' o.hs.length dap',.int .i64 o.vr])) (by simp [results,Tryz.results83,go_sem,hRc]) rfl ?_
 obtain ⟨ht,hm,hsm,ht',hB⟩:=HX.out
 exact ⟨a,dap,a',dap',m,rfl,(jK ht _ (by omega) _ _ _ _ _ _ _).low (by omega),hm,by omega,jK ht' _ (by omega) _ _ _ _ _ _ _,zaz hB _ (by omega) _ _ _ _ _ _ _⟩
theorem zlv (a0:Option Addr) (cap0:Nat) (ss:List Shp) (o:Ob) (a a':Option Addr) (cap cap':Nat) (w:World) (hw:yL w a0 ss) (ho:qG w o a a') :
 Calls Tryz.prog 79 #[.slice a0 ss.length cap0,.agg #[.string o.kd,.string o.nm,.string o.tm,.slice a o.vs.length cap,.bool o.en,.slice a' o.hs.length cap',.int .i64 o.vr]] w fun e w'=>e = .returned (.tuple #[.int .i64 (Gate.yI ss o).1,.int .i64 (Gate.yI ss o).2])/\Below w.heap.size w w':=by
 have hlh:=ho.holds.len
 unfold maxLen at hlh
 by_cases hc:Gate.zy ss o=true
 rotate_left
 ·have HCt:Hid (Gate.zy ss o=false):=by simpa [Hid] using hc
  have HR:Hid (Gate.yI ss o=(1,0)):=by unfold Hid Gate.yI;rw [if_neg];unfold Gate.whole;rw [HCt.out];simp
  clear hc
  go_enter Tryz.func79,Tryz.ntmps79
  go_wp2_with fail
  refine (zcI _ _ _ _ _ _ _ _ _ (hw.mono ((Below.refl _ _).alloc (Nat.le_refl _) _)) (ho.mono ((Below.refl _ _).alloc (Nat.le_refl _) _)) HCt.out).mono ?_
  rintro e w1 ⟨v,rfl,hb1⟩
  have hB1:Below w.heap.size w w1:=((Below.refl _ _).alloc (Nat.le_refl _) _).trans (hb1.mono (by simp))
  clear hb1
  go_wp2_with fail
  go_ret2
  exact ⟨by rw [HR.out];rfl,hB1⟩
 have HCt:Hid (Gate.zy ss o=true):=hc
 by_cases hn:Gate.zx o.nm=true
 rotate_left
 ·have hn':Gate.zx o.nm=false:=by simpa using hn
  have HNm:Hid (Gate.zx o.nm=false):=hn'
  clear hn hc
  have HR:Hid (Gate.yI ss o=(1,0)):=by
   unfold Hid Gate.yI;rw [if_neg];unfold Gate.whole Gate.qI;simp [hn']
  go_enter Tryz.func79,Tryz.ntmps79
  go_wp2_with fail
  refine (jh _ _ _ _ _ _ _ _ _ (hw.mono ((Below.refl _ _).alloc (Nat.le_refl _) _)) (ho.mono ((Below.refl _ _).alloc (Nat.le_refl _) _)) HCt.out).mono ?_
  rintro e w1 ⟨fa,fcap,rfl,hfl0,hb1⟩
  have hX1:=za (zl w _ _) (by simp) hb1
  have hz1:w.heap.size < w1.heap.size:=by have:=hb1.size;simp at this;omega
  have hB1:Below w.heap.size w w1:=((Below.refl _ _).alloc (Nat.le_refl _) _).trans (hb1.mono (by simp))
  have hfl1:=hfl0.mono hb1
  clear hb1 hfl0
  go_wp2_with fail
  refine (zf HNm.out (zh _ _ ho.small.nm)).mono ?_
  rintro e w2 ⟨rfl,rfl⟩
  go_wp2_with fail
  go_ret2
  exact ⟨by rw [HR.out];rfl,hB1⟩
 have HNm:Hid (Gate.zx o.nm=true):=hn
 by_cases ht:Gate.zx o.tm=true
 rotate_left
 ·have ht':Gate.zx o.tm=false:=by simpa using ht
  have HTm:Hid (Gate.zx o.tm=false):=ht'
  clear ht hc hn
  have HR:Hid (Gate.yI ss o=(1,0)):=by
   unfold Hid Gate.yI;rw [if_neg];unfold Gate.whole Gate.qI;simp [ht']
  go_enter Tryz.func79,Tryz.ntmps79
  go_wp2_with fail
  refine (jh _ _ _ _ _ _ _ _ _ (hw.mono ((Below.refl _ _).alloc (Nat.le_refl _) _)) (ho.mono ((Below.refl _ _).alloc (Nat.le_refl _) _)) HCt.out).mono ?_
  rintro e w1 ⟨fa,fcap,rfl,hfl0,hb1⟩
  have hX1:=za (zl w _ _) (by simp) hb1
  have hz1:w.heap.size < w1.heap.size:=by have:=hb1.size;simp at this;omega
  have hB1:Below w.heap.size w w1:=((Below.refl _ _).alloc (Nat.le_refl _) _).trans (hb1.mono (by simp))
  have hfl1:=hfl0.mono hb1
  clear hb1 hfl0
  go_wp2_with fail
  refine (zf HNm.out (zh _ _ ho.small.nm)).mono ?_
  rintro e w2 ⟨rfl,rfl⟩
  go_wp2_with fail
  refine (zf HTm.out (zh _ _ ho.small.tm)).mono ?_
  rintro e w3 ⟨rfl,rfl⟩
  go_wp2_with fail
  go_ret2
  exact ⟨by rw [HR.out];rfl,hB1⟩
 have HTm:Hid (Gate.zx o.tm=true):=ht
 by_cases h3:o.hs.length<=3
 rotate_left
 ·have h3I:(3:Int) < (o.hs.length:Int):=by omega
  clear ht hc hn
  have HR:Hid (Gate.yI ss o=(1,0)):=by
   unfold Hid Gate.yI;rw [if_neg];unfold Gate.whole Gate.qU;simp [show ¬ o.hs.length<=3 by omega]
  go_enter Tryz.func79,Tryz.ntmps79
  go_wp2_with fail
  refine (jh _ _ _ _ _ _ _ _ _ (hw.mono ((Below.refl _ _).alloc (Nat.le_refl _) _)) (ho.mono ((Below.refl _ _).alloc (Nat.le_refl _) _)) HCt.out).mono ?_
  rintro e w1 ⟨fa,fcap,rfl,hfl0,hb1⟩
  have hX1:=za (zl w _ _) (by simp) hb1
  have hz1:w.heap.size < w1.heap.size:=by have:=hb1.size;simp at this;omega
  have hB1:Below w.heap.size w w1:=((Below.refl _ _).alloc (Nat.le_refl _) _).trans (hb1.mono (by simp))
  have hfl1:=hfl0.mono hb1
  clear hb1 hfl0
  go_wp2_with fail
  refine (zf HNm.out (zh _ _ ho.small.nm)).mono ?_
  rintro e w2 ⟨rfl,rfl⟩
  go_wp2_with fail
  refine (zf HTm.out (zh _ _ ho.small.tm)).mono ?_
  rintro e w3 ⟨rfl,rfl⟩
  go_wp2_with fail
  go_ret2
  exact ⟨by rw [HR.out];rfl,hB1⟩
 have h3I:(o.hs.length:Int)<=3:=by omega
 by_cases ha:Gate.asc o.hs=true
 rotate_left
 ·have ha':Gate.asc o.hs=false:=by simpa using ha
  have HAsc:Hid (Gate.asc o.hs=false):=ha'
  clear ht hc hn ha
  have HR:Hid (Gate.yI ss o=(1,0)):=by
   unfold Hid Gate.yI;rw [if_neg];unfold Gate.whole Gate.qU;simp [ha']
  go_enter Tryz.func79,Tryz.ntmps79
  go_wp2_with fail
  refine (jh _ _ _ _ _ _ _ _ _ (hw.mono ((Below.refl _ _).alloc (Nat.le_refl _) _)) (ho.mono ((Below.refl _ _).alloc (Nat.le_refl _) _)) HCt.out).mono ?_
  rintro e w1 ⟨fa,fcap,rfl,hfl0,hb1⟩
  have hX1:=za (zl w _ _) (by simp) hb1
  have hz1:w.heap.size < w1.heap.size:=by have:=hb1.size;simp at this;omega
  have hB1:Below w.heap.size w w1:=((Below.refl _ _).alloc (Nat.le_refl _) _).trans (hb1.mono (by simp))
  have hfl1:=hfl0.mono hb1
  clear hb1 hfl0
  go_wp2_with fail
  refine (zf HNm.out (zh _ _ ho.small.nm)).mono ?_
  rintro e w2 ⟨rfl,rfl⟩
  go_wp2_with fail
  refine (zf HTm.out (zh _ _ ho.small.tm)).mono ?_
  rintro e w3 ⟨rfl,rfl⟩
  go_wp2_with fail
  refine (zf HAsc.out (zal _ _ _ _ (ho.holds.mono hB1))).mono ?_
  rintro e w4 ⟨rfl,nd,rfl⟩
  go_wp2_with fail
  go_ret2
  exact ⟨by rw [HR.out];rfl,below_drewN hB1 _⟩
 have HAsc:Hid (Gate.asc o.hs=true):=ha
 by_cases hv:0<=o.vr/\o.vr<=1000000
 rotate_left
 ·have HV:Hid (¬ (0<=o.vr/\o.vr<=1000000)):=hv
  have HR:Hid (Gate.yI ss o=(1,0)):=by
   unfold Hid Gate.yI;rw [if_neg];unfold Gate.whole Gate.qx;intro h;simp only [Bool.and_eq_true,decide_eq_true_eq] at h;exact hv h.1.2
  clear ht hc hn ha hv
  go_enter Tryz.func79,Tryz.ntmps79
  go_wp2_with fail
  refine (jh _ _ _ _ _ _ _ _ _ (hw.mono ((Below.refl _ _).alloc (Nat.le_refl _) _)) (ho.mono ((Below.refl _ _).alloc (Nat.le_refl _) _)) HCt.out).mono ?_
  rintro e w1 ⟨fa,fcap,rfl,hfl0,hb1⟩
  have hX1:=za (zl w _ _) (by simp) hb1
  have hz1:w.heap.size < w1.heap.size:=by have:=hb1.size;simp at this;omega
  have hB1:Below w.heap.size w w1:=((Below.refl _ _).alloc (Nat.le_refl _) _).trans (hb1.mono (by simp))
  have hfl1:=hfl0.mono hb1
  clear hb1 hfl0
  go_wp2_with fail
  refine (zf HNm.out (zh _ _ ho.small.nm)).mono ?_
  rintro e w2 ⟨rfl,rfl⟩
  go_wp2_with fail
  refine (zf HTm.out (zh _ _ ho.small.tm)).mono ?_
  rintro e w3 ⟨rfl,rfl⟩
  go_wp2_with fail
  refine (zf HAsc.out (zal _ _ _ _ (ho.holds.mono hB1))).mono ?_
  rintro e w4 ⟨rfl,nd,rfl⟩
  go_wp2_with fail
  refine (zcB _ _ _ _ (by have:=HV.out;omega)).mono ?_
  rintro e w5 ⟨rfl,rfl⟩
  go_wp2_with fail
  go_ret2
  exact ⟨by rw [HR.out];rfl,below_drewN hB1 _⟩
 obtain ⟨hv0,hv1⟩:=hv
 have HR:Hid (Gate.yI ss o=Gate.jJ (Gate.shapeOf ss o.kd).fs o.vs):=by
  unfold Hid Gate.yI;rw [if_pos];unfold Gate.whole Gate.qI Gate.qU Gate.qx;simp [hc,hn,ht,h3,ha,hv0,hv1]
 have HLn:Hid (o.vs.length=(Gate.shapeOf ss o.kd).fs.length):=by
  unfold Gate.zy at hc;simp only [Bool.and_eq_true,decide_eq_true_eq] at hc;exact hc.2
 clear hc hn ht ha
 go_enter Tryz.func79,Tryz.ntmps79
 go_wp2_with fail
 refine (jh _ _ _ _ _ _ _ _ _ (hw.mono ((Below.refl _ _).alloc (Nat.le_refl _) _)) (ho.mono ((Below.refl _ _).alloc (Nat.le_refl _) _)) HCt.out).mono ?_
 rintro e w1 ⟨fa,fcap,rfl,hfl0,hb1⟩
 have hX1:=za (zl w _ _) (by simp) hb1
 have hz1:w.heap.size < w1.heap.size:=by have:=hb1.size;simp at this;omega
 have hB1:Below w.heap.size w w1:=((Below.refl _ _).alloc (Nat.le_refl _) _).trans (hb1.mono (by simp))
 have hfl1:=hfl0.mono hb1
 clear hb1 hfl0
 go_wp2_with fail
 refine (zf HNm.out (zh _ _ ho.small.nm)).mono ?_
 rintro e w2 ⟨rfl,rfl⟩
 go_wp2_with fail
 refine (zf HTm.out (zh _ _ ho.small.tm)).mono ?_
 rintro e w3 ⟨rfl,rfl⟩
 go_wp2_with fail
 refine (zf HAsc.out (zal _ _ _ _ (ho.holds.mono hB1))).mono ?_
 rintro e w4 ⟨rfl,nd,rfl⟩
 go_wp2_with fail
 refine (zaT _ _ _ _ hv0 hv1).mono ?_
 rintro e w5 ⟨rfl,rfl⟩
 generalize hfs:(Gate.shapeOf ss o.kd).fs=fs at *
 have hlen:=hfl1.len
 unfold maxLen at hlen
 go_wp2_with fail
 go_loopw [8] (fun i wr=>∃ k:Nat,k<=fs.length/\i = .int .i64 k/\Gate.up (Gate.za0 fs o.vs) k=true/\Below w3.heap.size w3 wr) (fun i _=>fs.length - (intOf i).toNat)
 case atStart=>exact ⟨0,Nat.zero_le _,rfl,rfl,below_drewN (Below.refl _ _) _⟩
 case round =>
  obtain ⟨k,hk,rfl,hup,hBr⟩:=hrel
  have hszr:=hBr.size
  have hB:Below w.heap.size w wr:=hB1.trans (hBr.mono (by omega))
  by_cases hlt:k < fs.length
  ·have hXr:=za hX1 hz1 hBr
   obtain ⟨b,off,rfl,hb,hr⟩:=hfl1.rows (by rintro rfl;simp at hlt)
   obtain ⟨wa,wcap,hf0⟩:=hr k hlt
   have hf:=hf0.mono hb hBr
   obtain ⟨c0,c1,c2,c3,c4,c5,c6,c7,c8,c9,c10⟩:=hf.load
   have hst:=hf.strs
   have hltv:k < o.vs.length:=by rw [HLn.out];exact hlt
   obtain ⟨vb,voff,rfl,hvb,hvc⟩:=ho.vals.cells (by intro h;rw [h] at hltv;simp at hltv)
   have hcv:=(hB.cell (p:=⟨vb,voff+k,none⟩) hvb).trans (hvc k hltv)
   have hvs:=ho.vals.small _ (List.getElem_mem hltv)
   have hltI:(k:Int) < (fs.length:Int):=by omega
   have hltV:(k:Int) < (o.vs.length:Int):=by omega
   have HFX:Hid (Gate.zdx fs o.vs k=Gate.jY fs[k] o.vs[k]):=Gate.ziH hlt hltv
   have HS:Hid (Gate.jY fs[k] o.vs[k]=0->Gate.up (Gate.za0 fs o.vs) (k+1)=true):=fun h=>by
    rw [Gate.jc,hup];unfold Gate.za0;rw [HFX.out,h];rfl
   have HN:Hid (∀ n:Int,n ≠ 0->Gate.jY fs[k] o.vs[k]=n->Gate.yI ss o=(n,(k:Int))):=fun n hn0 h=>by
    rw [HR.out,Gate.zjG hlt hup (by unfold Gate.za0;rw [HFX.out,h];simp [hn0]),HFX.out,h]
   clear hX1 hr hf0 hf hup
   by_cases he:o.vs[k].size=0
   ·have hne:o.vs[k].toList.isEmpty=true:=by rw [Gate.zq];simp [he]
    have HE:Hid (o.vs[k].size=0):=he
    clear he
    by_cases hmu:fs[k].mu=true
    ·have HM:Hid (fs[k].mu=true):=hmu
     go_wp2_with fail
     go_ret2
     have hv:=HN.out 2 (by decide) (by unfold Gate.jY;rw [if_pos HE.out,if_pos HM.out])
     exact ⟨by rw [hv];rfl,hB⟩
    ·have hmu':fs[k].mu=false:=by simpa using hmu
     have HM:Hid (fs[k].mu=false):=hmu'
     clear hmu
     go_wp2_with fail
     exact ⟨⟨k+1,by omega,by go_num,HS.out (by unfold Gate.jY;rw [if_pos HE.out,HM.out];rfl),hBr⟩,by simp [intOf];omega⟩
   ·have hne:o.vs[k].toList.isEmpty=false:=by rw [Gate.zq];simp [he]
    have HE:Hid (¬ o.vs[k].size=0):=he
    clear he
    by_cases hfit:Gate.fits fs[k].kd fs[k].ls fs[k].ms fs[k].ws o.vs[k]=true
    all_goals
     first
      | (have HFT:Hid (Gate.fits fs[k].kd fs[k].ls fs[k].ms fs[k].ws o.vs[k]=true):=hfit)
      | (have HFT:Hid (Gate.fits fs[k].kd fs[k].ls fs[k].ms fs[k].ws o.vs[k]=false):=by simpa [Hid] using hfit)
     clear hfit
     go_wp2_with fail
     have hbx:Below wr.heap.size wr wr.drew:=(Below.refl _ _).drew
     go_region_with (go_at_call 120;refine (zf HFT.out (yT _ _ _ _ _ _ _ _ _ _ _ _ _ _ _ hvs (by exact hst.mono hbx))).mono ?_;rintro e w3 ⟨rfl,hb3⟩)
     all_goals go_wp2_with fail
    all_goals have hB3:Below wr.heap.size wr w3:=hbx.trans hb3
    all_goals first
     | (have hft:Gate.fits fs[k].kd fs[k].ls fs[k].ms fs[k].ws o.vs[k]=true:=HFT.out
        exact ⟨⟨k+1,by omega,by go_num,HS.out (by unfold Gate.jY;rw [if_neg HE.out];unfold Gate.zd8;rw [hft];rfl),hBr.trans (hB3.mono hszr)⟩,by simp [intOf];omega⟩)
     | (have hft:Gate.fits fs[k].kd fs[k].ls fs[k].ms fs[k].ws o.vs[k]=false:=HFT.out
        go_ret2
        have hv:=HN.out 3 (by decide) (by unfold Gate.jY;rw [if_neg HE.out];unfold Gate.zd8;rw [hft];rfl)
        exact ⟨by rw [hv];rfl,hB.trans (hB3.mono (by omega))⟩)
  ·have HF:Hid (Gate.yI ss o=(0,0)):=by
    have e:k=fs.length:=by omega
    subst e;rw [HR.out];exact Gate.zgT hup
   clear hup
   go_wp2_with fail
   go_ret2
   exact ⟨by rw [HF.out];rfl,hB⟩
namespace Gate
theorem zaF (l:Lw) (b:Bk) (o:Ob):yV l b o=(within o.vr 1 b.now && (yC l.ts o.tm && ((decide ((yI l.ss o).1=0) && decide (zat l o=o.vs)) && zam l b.os o))):=rfl
theorem zex {l:Lw} {o:Ob} (hok:yx l.ss l.ms=true) (h:(yI l.ss o).1=0):zbu l.ss l.ms o=zat l o:=by
 unfold zbu zat
 rw [if_pos (zae hok h)]
noncomputable def qj (l:Lw) (os:List Ob) (o:Ob) (k:Nat):Bool:=(jN (shapeOf l.ss o.kd).fs o.vs k).all fun x=>os.any (zaU x.to x.nm)
theorem zlB {l:Lw} {os:List Ob} {o:Ob} {k:Nat} (hk:k<=(shapeOf l.ss o.kd).fs.length) (h:qj l os o k=false):zam l os o=false:=by
 unfold qj at h
 unfold zam
 obtain ⟨t,ht⟩:=zfs (shapeOf l.ss o.kd).fs o.vs hk
 rw [<- ht,List.all_append,h];rfl
theorem zja {l:Lw} {os:List Ob} {o:Ob} {k:Nat} (hk:k < (shapeOf l.ss o.kd).fs.length) (hv:k < o.vs.length) (h:¬ ((shapeOf l.ss o.kd).fs[k].kd=4/\o.vs[k].toList.isEmpty=false)):qj l os o (k+1)=qj l os o k:=by
 unfold qj
 rw [za5,List.all_append]
 have:zg4 (shapeOf l.ss o.kd).fs o.vs k=[]:=by
  unfold zg4
  rw [List.getElem?_eq_getElem hk,List.getElem?_eq_getElem hv]
  exact dif_neg (fun h'=>h h'.1)
 rw [this];simp
theorem zko {l:Lw} {os:List Ob} {o:Ob} {k:Nat} (hk:k < (shapeOf l.ss o.kd).fs.length) (hv:k < o.vs.length) (h1:(shapeOf l.ss o.kd).fs[k].kd=4) (h2:o.vs[k].toList.isEmpty=false) (hs1:(shapeOf l.ss o.kd).fs[k].to.size<=maxLen) (hs2:o.vs[k].size<=maxLen):qj l os o (k+1)=(qj l os o k && os.any (zaU (shapeOf l.ss o.kd).fs[k].to o.vs[k])):=by
 unfold qj
 rw [za5,List.all_append]
 have:zg4 (shapeOf l.ss o.kd).fs o.vs k=[⟨k,(shapeOf l.ss o.kd).fs[k].rl,(shapeOf l.ss o.kd).fs[k].to,o.vs[k],hs1,hs2⟩]:=by
  unfold zg4
  rw [List.getElem?_eq_getElem hk,List.getElem?_eq_getElem hv]
  exact dif_pos ⟨⟨h1,h2⟩,hs1,hs2⟩
 rw [this];simp
theorem zbi {l:Lw} {os:List Ob} {o:Ob} {fs:List Fld} (e:fs=(shapeOf l.ss o.kd).fs) {k:Nat} (hk:k < fs.length) (hv:k < o.vs.length) (h:¬ (fs[k].kd=4/\o.vs[k].toList.isEmpty=false)):qj l os o (k+1)=qj l os o k:=by
 subst e;exact zja hk hv h
theorem zbI {l:Lw} {os:List Ob} {o:Ob} {fs:List Fld} (e:fs=(shapeOf l.ss o.kd).fs) {k:Nat} (hk:k < fs.length) (hv:k < o.vs.length) (h1:fs[k].kd=4) (h2:o.vs[k].toList.isEmpty=false) (hs1:fs[k].to.size<=maxLen) (hs2:o.vs[k].size<=maxLen):qj l os o (k+1)=(qj l os o k && os.any (zaU fs[k].to o.vs[k])):=by
 subst e;exact zko hk hv h1 h2 hs1 hs2
theorem ze5 {l:Lw} {os:List Ob} {o:Ob} {fs:List Fld} (e:fs=(shapeOf l.ss o.kd).fs) (h:qj l os o fs.length=true):zam l os o=true:=by
 subst e;exact h
theorem zfQ {l:Lw} {os:List Ob} {o:Ob} {fs:List Fld} (e:fs=(shapeOf l.ss o.kd).fs) {k:Nat} (hk:k<=fs.length) (h:qj l os o k=false):zam l os o=false:=by
 subst e;exact zlB hk h
end Gate
set_option maxRecDepth 20000 in
theorem zhf (l:Lw) (la lb lc:Option Addr) (lca lcb lcc:Nat) (b:Bk) (a0 a1 a2 a3:Option Addr) (c0 c1 c2 c3:Nat) (w:World) (hl:qp w l la lb lc) (hb:qA w b a0 a1 a2 a3) (hh:zby w a0 b.os) (hok:Gate.yx l.ss l.ms=true) (hfw:∀ i (h:i < b.os.length),b.os[i].vs.length<=1048576/\b.os[i].hs.length<=1048576) :
 Calls Tryz.prog 48 #[.agg (l.cells la lb lc lca lcb lcc),.agg (b.cells a0 a1 a2 a3 c0 c1 c2 c3)] w fun e w'=>e = .returned (.bool (Gate.yj l b))/\Below w.heap.size w w':=by
 have HK:Hid (qA w b a0 a1 a2 a3):=hb
 have HL:Hid (qp w l la lb lc):=hl
 have HH:Hid (zby w a0 b.os):=hh
 have HF0:Hid (Gate.yx l.ss l.ms=true/\∀ i (h:i < b.os.length),b.os[i].vs.length<=1048576/\b.os[i].hs.length<=1048576):=⟨hok,hfw⟩
 clear hb hl hh hok hfw
 unfold Lw.cells Bk.cells
 by_cases hln:b.os.length<=40
 rotate_left
 ·have HF:Hid (Gate.yj l b=false):=by unfold Hid Gate.yj;rw [decide_eq_false hln];rfl
  have hg:(40:Int) < (b.os.length:Int):=by omega
  go_enter Tryz.func48,Tryz.ntmps48
  go_wp2_with fail
  go_ret
  exact ⟨ze HF.out.symm,zC _ _ _⟩
 have hg:decide ((40:Int) < (b.os.length:Int))=false:=by simp;omega
 have HLN:Hid (b.os.length<=40):=hln
 clear hln
 go_enter Tryz.func48,Tryz.ntmps48
 go_wp2_with fail
 clear hg
 obtain ⟨hL0,hX0⟩:=jd w #[.slice la l.ss.length lca,.slice lb l.ms.length lcb,.slice lc l.ts.length lcc] #[.int .i64 b.now,.int .i64 b.tick,.int .i64 b.given,.slice a0 b.os.length c0,.slice a1 b.gs.length c1,.slice a2 b.ls.length c2,.slice a3 b.ps.length c3] 43 50
 have HB0:Hid (Below w.heap.size w ((w.alloc (.cells #[.slice la l.ss.length lca,.slice lb l.ms.length lcb,.slice lc l.ts.length lcc] 43)).alloc (.cells #[.int .i64 b.now,.int .i64 b.tick,.int .i64 b.given,.slice a0 b.os.length c0,.slice a1 b.gs.length c1,.slice a2 b.ls.length c2,.slice a3 b.ps.length c3] 50))):=zC w _ _
 obtain ⟨W0,hW0⟩:∃ W0,W0=(w.alloc (.cells #[.slice la l.ss.length lca,.slice lb l.ms.length lcb,.slice lc l.ts.length lcc] 43)).alloc (.cells #[.int .i64 b.now,.int .i64 b.tick,.int .i64 b.given,.slice a0 b.os.length c0,.slice a1 b.gs.length c1,.slice a2 b.ls.length c2,.slice a3 b.ps.length c3] 50):=⟨_,rfl⟩
 have hz0:w.heap.size+1 < W0.heap.size:=by rw [hW0];simp
 rw [<- hW0] at HB0 hX0 hL0 ⊢
 clear hW0
 go_loopw [5] (fun iv wr=>∃ k:Nat,k<=b.os.length/\iv = .int .i64 k/\Hid ((b.os.take k).all (Gate.yV l b)=true/\Gate.jC Gate.zaI b.os k/\Below W0.heap.size W0 wr)) (fun iv _=>b.os.length - (intOf iv).toNat)
 case atStart=>exact ⟨0,Nat.zero_le _,rfl,by simp,fun i _ h=>by omega,Below.refl _ _⟩
 case round =>
  obtain ⟨k,hk,rfl,HQ⟩:=hrel
  have hkn:k<=40:=by have:=HLN.out;omega
  have hX1:=za hX0 hz0 HQ.out.2.2
  have hL1:=za hL0 (Nat.lt_of_succ_lt hz0) HQ.out.2.2
  have hz1:=Nat.lt_of_lt_of_le hz0 HQ.out.2.2.size
  have hq1:=Nat.lt_of_succ_lt hz1
  have HBq:Hid (Below w.heap.size w wr):=HB0.out.trans (HQ.out.2.2.mono HB0.out.size)
  by_cases hlt:k < b.os.length
  ·obtain ⟨ob,off,g0,g1,q0,q1,rfl,hob,hsm,hs0,hs1,d0,d1,d2,d3,d4,d5,d6⟩:=HH.out.load HBq.out k hlt
   have hob':ob < wr.heap.size:=Nat.lt_of_lt_of_le hob HBq.out.size
   have hltI:(k:Int) < (b.os.length:Int):=by omega
   have HSn:Hid ((b.os.take (k+1)).all (Gate.yV l b)=((b.os.take k).all (Gate.yV l b) && (Gate.yV l b) b.os[k])):=Gate.qR _ _ _ hlt
   have HBo:Hid (∀ ob,Below W0.heap.size W0 (wr.alloc ob)):=fun ob=>HQ.out.2.2.alloc HQ.out.2.2.size _
   have HBw:Hid (∀ W,Below W0.heap.size W0 W->Below w.heap.size w W):=fun W hW=>HB0.out.trans (hW.mono HB0.out.size)
   have HNo:Hid ((Gate.yV l b) b.os[k]=false->Gate.yj l b=false):=fun h=>by unfold Gate.yj;rw [Gate.zar _ _ _ hlt h];simp
   have HNa:Hid (0 < k->0<=Gate.zaI (b.os[k - 1]'(by omega)) b.os[k]->Gate.yj l b=false):=fun h0 h=>by unfold Gate.yj;rw [Gate.zdn hlt h0 (Int.not_lt.2 h)];simp
   have HYes:Hid ((Gate.yV l b) b.os[k]=true->(∀ m (e:k=m+1),Gate.zaI (b.os[m]'(by omega)) b.os[k] < 0)->(b.os.take (k+1)).all (Gate.yV l b)=true/\Gate.jC Gate.zaI b.os (k+1)):=fun h h'=>⟨by rw [HSn.out,HQ.out.1,h];rfl,Gate.zew HQ.out.2.1 hlt h'⟩
   have HIt:Hid (qG wr b.os[k] (some ⟨g0,0,none⟩) (some ⟨g1,0,none⟩)):=⟨hsm,hs0,hs1⟩
   have HFk:Hid (b.os[k].vs.length<=1048576/\b.os[k].hs.length<=1048576):=HF0.out.2 k hlt
   clear hsm hs0 hs1
   go_wp2_with fail
   have hY0:=zl wr #[.string b.os[k].kd,.string b.os[k].nm,.string b.os[k].tm,.slice (some ⟨g0,0,none⟩) b.os[k].vs.length q0,.bool b.os[k].en,.slice (some ⟨g1,0,none⟩) b.os[k].hs.length q1,.int .i64 b.os[k].vr] 121
   have hb5:Below wr.heap.size wr (wr.alloc (.cells #[.string b.os[k].kd,.string b.os[k].nm,.string b.os[k].tm,.slice (some ⟨g0,0,none⟩) b.os[k].vs.length q0,.bool b.os[k].en,.slice (some ⟨g1,0,none⟩) b.os[k].hs.length q1,.int .i64 b.os[k].vr] 121)):=(Below.refl _ _).alloc (Nat.le_refl _) _
   have HBe:=HBo.out (.cells #[.string b.os[k].kd,.string b.os[k].nm,.string b.os[k].tm,.slice (some ⟨g0,0,none⟩) b.os[k].vs.length q0,.bool b.os[k].en,.slice (some ⟨g1,0,none⟩) b.os[k].hs.length q1,.int .i64 b.os[k].vr] 121)
   obtain ⟨W5,hW5⟩:∃ W5,W5=wr.alloc (.cells #[.string b.os[k].kd,.string b.os[k].nm,.string b.os[k].tm,.slice (some ⟨g0,0,none⟩) b.os[k].vs.length q0,.bool b.os[k].en,.slice (some ⟨g1,0,none⟩) b.os[k].hs.length q1,.int .i64 b.os[k].vr] 121):=⟨_,rfl⟩
   have hy5:wr.heap.size < W5.heap.size:=by rw [hW5];simp
   rw [<- hW5] at hb5 hY0 HBe ⊢
   clear hW5 d0 d1 d2 d3 d4 d5 d6
   have hX5:=za hX1 hz1 hb5
   have hL5:=za hL1 (Nat.lt_of_succ_lt hz1) hb5
   have hz5:w.heap.size+1 < W5.heap.size:=Nat.lt_of_lt_of_le hz1 hb5.size
   have hq5:=Nat.lt_of_succ_lt hz5
   have HBe5:Hid (Below W0.heap.size W0 W5):=HBe
   have HO5:Hid (qG W5 b.os[k] (some ⟨g0,0,none⟩) (some ⟨g1,0,none⟩)):=HIt.out.mono hb5
   have hobz5:ob < W5.heap.size:=Nat.lt_of_lt_of_le hob' hb5.size
   clear hX1 hz1 hb5 HBo hX0 hz0 hL0 hL1 hob hob' HSn HBe
   refine (zlv _ _ l.ss b.os[k] _ _ _ _ _ (HL.out.ss.mono (HBw.out _ HBe5.out)) HO5.out).mono ?_
   rintro e w6 ⟨rfl,hb6⟩
   have hX6:=za hX5 hz5 hb6
   have hL6:=za hL5 (Nat.lt_of_succ_lt hz5) hb6
   have hY6:=za hY0 hy5 hb6
   have hz6:=Nat.lt_of_lt_of_le hz5 hb6.size
   have hq6:=Nat.lt_of_succ_lt hz6
   have hy6:=Nat.lt_of_lt_of_le hy5 hb6.size
   have hobz6:=Nat.lt_of_lt_of_le hobz5 hb6.size
   have HBe6:Hid (Below W0.heap.size W0 w6):=HBe5.out.trans (hb6.mono HBe5.out.size)
   have HO6:Hid (qG w6 b.os[k] (some ⟨g0,0,none⟩) (some ⟨g1,0,none⟩)):=HO5.out.mono hb6
   clear hb6 hX5 hL5 hY0 hz5 hq5 hy5 hobz5 HBe5 HO5
   by_cases t1:(Gate.yI l.ss b.os[k]).1=0
   rotate_left
   ·have HF:Hid (Gate.yj l b=false):=HNo.out (by rw [Gate.zaF,decide_eq_false t1];simp)
    have hd:decide ((Gate.yI l.ss b.os[k]).1=0)=false:=decide_eq_false t1
    go_wp2_with fail
    go_ret
    exact ⟨ze HF.out.symm,HBw.out _ HBe6.out⟩
   have HT1:Hid ((Gate.yI l.ss b.os[k]).1=0):=t1
   rw [t1]
   clear t1
   go_wp2_with fail
   refine (zbA _ _ l.ts b.os[k].tm _ (HL.out.ts.mono (HBw.out _ HBe6.out))).mono ?_
   rintro e w7 ⟨rfl,rfl⟩
   by_cases t2:Gate.yC l.ts b.os[k].tm=true
   rotate_left
   ·have HF:Hid (Gate.yj l b=false):=HNo.out (by rw [Gate.zaF,Bool.eq_false_iff.2 t2];simp)
    rw [Bool.eq_false_iff.2 t2]
    clear t2
    go_wp2_with fail
    go_ret
    exact ⟨ze HF.out.symm,HBw.out _ HBe6.out⟩
   have HT2:Hid (Gate.yC l.ts b.os[k].tm=true):=t2
   rw [t2]
   clear t2
   go_wp2_with fail
   refine (yD b.os[k].vr 1 b.now _).mono ?_
   rintro e w7 ⟨rfl,rfl⟩
   by_cases t3:(decide (1<=b.os[k].vr) && decide (b.os[k].vr<=b.now))=true
   rotate_left
   ·have HF:Hid (Gate.yj l b=false):=HNo.out (by rw [Gate.zaF];unfold Gate.within;rw [Bool.eq_false_iff.2 t3];simp)
    rw [Bool.eq_false_iff.2 t3]
    clear t3
    go_wp2_with fail
    go_ret
    exact ⟨ze HF.out.symm,HBw.out _ HBe6.out⟩
   have HT3:Hid (Gate.within b.os[k].vr 1 b.now=true):=t3
   rw [t3]
   clear t3
   go_wp2_with fail
   have HP:Hid (∀ h0:0 < k,w7.cell? ⟨ob,off+(k - 1) * 7,none⟩=some (.string (b.os[k - 1]'(by omega)).kd)/\w7.cell? ⟨ob,off+(k - 1) * 7+1,none⟩=some (.string (b.os[k - 1]'(by omega)).nm)):=fun h0=>by
    obtain ⟨ob',off',g0',g1',q0',q1',e',hob'',_,_,_,e0,e1,_⟩:=HH.out.load (HBw.out _ HBe6.out) (k - 1) (by omega)
    cases e'
    exact ⟨e0,e1⟩
   by_cases hk0:0 < k
   ·have hk1:(0:Int)<=(k:Int) - 1:=by omega
    have hk2:(k:Int) - 1 < (b.os.length:Int):=by omega
    have hg:decide (0 < k)=true:=decide_eq_true hk0
    have hkw:IntKind.i64.wrap ((k:Int) - 1)=(k:Int) - 1:=by rw [IntKind.wrap_i64];omega
    have hkN:((k:Int) - 1).toNat=k - 1:=by omega
    have hk3:(1:Int)<=(k:Int):=by omega
    obtain ⟨hP0,hP1⟩:=HP.out hk0
    clear HP
    refine wp_region_held_drew (S:=fun w'=>(∀ j,w'.cell? ⟨w.heap.size+1,j,none⟩=(#[.int .i64 b.now,.int .i64 b.tick,.int .i64 b.given,.slice (some ⟨ob,off,none⟩) b.os.length c0,.slice a1 b.gs.length c1,.slice a2 b.ls.length c2,.slice a3 b.ps.length c3]:Array Value)[j]?)/\(∀ j,w'.cell? ⟨wr.heap.size,j,none⟩=(#[.string b.os[k].kd,.string b.os[k].nm,.string b.os[k].tm,.slice (some ⟨g0,0,none⟩) b.os[k].vs.length q0,.bool b.os[k].en,.slice (some ⟨g1,0,none⟩) b.os[k].hs.length q1,.int .i64 b.os[k].vr]:Array Value)[j]?)/\w'.cell? ⟨ob,off+(k - 1) * 7,none⟩=some (.string (b.os[k - 1]'(by omega)).kd)/\w'.cell? ⟨ob,off+(k - 1) * 7+1,none⟩=some (.string (b.os[k - 1]'(by omega)).nm)) (by kernel_rfl) ⟨za hX6 hz6 (Below.refl w7.heap.size w7).drew,za hY6 hy6 (Below.refl w7.heap.size w7).drew,hP0,hP1⟩ (fun hHeld=>?_)
    refine tH 0 rfl hHeld ?_;refine tH 1 rfl hHeld ?_;refine tH 2 rfl hHeld ?_;refine tH 3 rfl hHeld ?_;refine tH 4 rfl hHeld ?_;refine tH 5 rfl hHeld ?_;refine tH 6 rfl hHeld ?_;refine tH 7 rfl hHeld ?_;refine tH 8 rfl hHeld ?_;refine tH 9 rfl hHeld ?_;refine tH 10 rfl hHeld ?_;refine tH 11 rfl hHeld ?_;refine tH 12 rfl hHeld ?_;refine tH 13 rfl hHeld ?_;refine tH 14 rfl hHeld ?_;refine tH 15 rfl hHeld ?_;refine tH 16 rfl hHeld ?_;refine tH 17 rfl hHeld ?_;refine tH 18 rfl hHeld ?_;refine tH 19 rfl hHeld ?_;refine tH 20 rfl hHeld ?_
    refine cH 21 rfl fun K hK=>?_
    go_simp
    refine (zf8 _ _ _ _ _).mono ?_
    rintro e w8 ⟨rfl,rfl⟩
    (try go_wp2_with fail)
    refine hK.out _ _ ?_ (fun hHeld=>?_)
    ·exact hHeld
    clear hK K
    (try simp only [Act.put,sA,s0,sS])
    by_cases t4:Gate.key2 (b.os[k - 1]'(by omega)).kd (b.os[k - 1]'(by omega)).nm b.os[k].kd b.os[k].nm < 0
    ·have hd4:decide (0<=Gate.key2 (b.os[k - 1]'(by omega)).kd (b.os[k - 1]'(by omega)).nm b.os[k].kd b.os[k].nm)=false:=decide_eq_false (by omega)
     refine tH 22 rfl hHeld ?_;refine tH 23 rfl hHeld ?_
     refine wpAnyH_done (by kernel_rfl) ?_ _
     have HT4:Hid (∀ m (e:k=m+1),Gate.zaI (b.os[m]'(by omega)) b.os[k] < 0):=Gate.zfP hlt (fun _=>t4)
     clear t4 hd4
     go_wp2_with fail
     have hXD:=za hX6 hz6 (Below.refl w7.heap.size w7).drew.drew
     have hLD:=za hL6 (Nat.lt_of_succ_lt hz6) (Below.refl w7.heap.size w7).drew.drew
     have hYD:=za hY6 hy6 (Below.refl w7.heap.size w7).drew.drew
     have hzD:w.heap.size+1 < w7.drew.drew.heap.size:=hz6
     have hyD:wr.heap.size < w7.drew.drew.heap.size:=hy6
     have hqD:w.heap.size < w7.drew.drew.heap.size:=hq6
     have HBeD:Hid (Below W0.heap.size W0 w7.drew.drew):=HBe6.out.drew.drew
     have HOD:Hid (qG w7.drew.drew b.os[k] (some ⟨g0,0,none⟩) (some ⟨g1,0,none⟩)):=HO6.out.mono (Below.refl w7.heap.size w7).drew.drew
     have hfd:∀ (s0 s1 s2:ByteArray) (x y:Option Addr) (n m p q:Nat) (t:Bool) (v:Int) (wf:World),(Instr.field 121 (.agg #[.string s0,.string s1,.string s2,.slice x n p,.bool t,.slice y m q,.int .i64 v]) 3).run Tryz.prog wf = .ok (.slice x n p) wf:=fun s0 s1 s2 x y n m p q t v wf=>by kernel_rfl
     refine wp_region_held_drew (S:=fun w'=>(∀ j,w'.cell? ⟨w.heap.size,j,none⟩=(#[.slice la l.ss.length lca,.slice lb l.ms.length lcb,.slice lc l.ts.length lcc]:Array Value)[j]?)/\(∀ j,w'.cell? ⟨w.heap.size+1,j,none⟩=(#[.int .i64 b.now,.int .i64 b.tick,.int .i64 b.given,.slice (some ⟨ob,off,none⟩) b.os.length c0,.slice a1 b.gs.length c1,.slice a2 b.ls.length c2,.slice a3 b.ps.length c3]:Array Value)[j]?)/\(∀ j,w'.cell? ⟨wr.heap.size,j,none⟩=(#[.string b.os[k].kd,.string b.os[k].nm,.string b.os[k].tm,.slice (some ⟨g0,0,none⟩) b.os[k].vs.length q0,.bool b.os[k].en,.slice (some ⟨g1,0,none⟩) b.os[k].hs.length q1,.int .i64 b.os[k].vr]:Array Value)[j]?)) (by kernel_rfl) ⟨hLD,hXD,hYD⟩ (fun hHeld=>?_)
     refine tH 0 rfl hHeld ?_;refine tH 1 rfl hHeld ?_;refine tH 2 rfl hHeld ?_;refine tH 3 rfl hHeld ?_;refine tH 4 rfl hHeld ?_;refine tH 7 rfl hHeld ?_;refine tH 8 rfl hHeld ?_
     refine cH 5 rfl fun K hK=>?_
     go_simp
     refine (zeZ _ _ _ _ l.ss l.ms b.os[k] _ _ _ _ _ _ _ (HL.out.ss.mono (HBw.out _ HBeD.out)) (HL.out.ms.mono (HBw.out _ HBeD.out)) HOD.out HFk.out.1 HFk.out.2 HF0.out.1).mono ?_
     rintro e w8 ⟨sa,sdap,sa',sdap',sm,rfl,hown,_,_,_,hb8⟩
     have hX8:=za hXD hzD hb8
     have hL8:=za hLD (Nat.lt_of_succ_lt hzD) hb8
     have hY8:=za hYD hyD hb8
     have hz8:=Nat.lt_of_lt_of_le hzD hb8.size
     have hq8:=Nat.lt_of_succ_lt hz8
     have hy8:=Nat.lt_of_lt_of_le hyD hb8.size
     have HBe8:Hid (Below W0.heap.size W0 w8):=HBeD.out.trans (hb8.mono HBeD.out.size)
     have HO8:Hid (qG w8 b.os[k] (some ⟨g0,0,none⟩) (some ⟨g1,0,none⟩)):=HOD.out.mono hb8
     have HSh:Hid (zF w8 sa (Gate.zat l b.os[k])/\(Gate.zat l b.os[k]).length=b.os[k].vs.length):=by
      have hmd:=Gate.zae HF0.out.1 HT1.out
      rw [Gate.zex HF0.out.1 HT1.out] at hown
      exact ⟨zd1 hown hmd HOD.out.vals.len (zdo hmd HL.out.ss.smalls HL.out.ms.small HOD.out.vals.small),zb9 hmd⟩
     clear hb8 hown
     (try go_wp2_with fail)
     refine hK.out _ _ ?_ (fun hHeld=>?_)
     ·exact ⟨hL8,hX8,hY8⟩
     clear hK K
     (try simp only [Act.put,sA,s0,sS])
     refine tH 6 rfl hHeld ?_
     refine cH 9 rfl fun K hK=>?_
     go_simp
     have hsame:=zdQ sa (some ⟨g0,0,none⟩) sdap q0 _ _ _ HSh.out.1 HO8.out.vals (by rw [HSh.out.2];exact HFk.out.1) HFk.out.1
     rw [HSh.out.2] at hsame
     refine hsame.mono ?_
     rintro e w9 ⟨rfl,hb9⟩
     have hX9:=za hX8 hz8 hb9
     have hL9:=za hL8 (Nat.lt_of_succ_lt hz8) hb9
     have hY9:=za hY8 hy8 hb9
     have hz9:=Nat.lt_of_lt_of_le hz8 hb9.size
     have hq9:=Nat.lt_of_succ_lt hz9
     have hy9:=Nat.lt_of_lt_of_le hy8 hb9.size
     have HBe9:Hid (Below W0.heap.size W0 w9):=HBe8.out.trans (hb9.mono HBe8.out.size)
     have HO9:Hid (qG w9 b.os[k] (some ⟨g0,0,none⟩) (some ⟨g1,0,none⟩)):=HO8.out.mono hb9
     clear hb9 hsame
     (try go_wp2_with fail)
     refine hK.out _ _ ?_ (fun hHeld=>?_)
     ·exact ⟨hL9,hX9,hY9⟩
     clear hK K
     (try simp only [Act.put,sA,s0,sS])
     refine tH 10 rfl hHeld ?_
     refine wpAnyH_done (by kernel_rfl) ?_ _
     by_cases t5:Gate.zat l b.os[k]=b.os[k].vs
     rotate_left
     ·have HF:Hid (Gate.yj l b=false):=HNo.out (by rw [Gate.zaF,decide_eq_false t5];simp)
      rw [decide_eq_false t5]
      clear t5
      go_wp2_with fail
      go_ret
      exact ⟨ze HF.out.symm,HBw.out _ HBe9.out⟩
     have HT5:Hid (Gate.zat l b.os[k]=b.os[k].vs):=t5
     rw [decide_eq_true t5]
     clear t5 HSh
     go_wp2_with fail
     have HWc:Hid (Gate.zy l.ss b.os[k]=true):=by
      have:=Gate.zaB (o:=b.os[k]) HF0.out.1
      rw [Hid,<- this];exact Gate.zae HF0.out.1 HT1.out
     refine (jh _ _ l.ss b.os[k] _ _ _ _ _ (HL.out.ss.mono (HBw.out _ HBe9.out)) HO9.out HWc.out).mono ?_
     rintro e w10 ⟨fa,fcap,rfl,hfa,hb10⟩
     have hX10:=za hX9 hz9 hb10
     have hL10:=za hL9 (Nat.lt_of_succ_lt hz9) hb10
     have hY10:=za hY9 hy9 hb10
     have hz10:=Nat.lt_of_lt_of_le hz9 hb10.size
     have hq10:=Nat.lt_of_succ_lt hz10
     have hy10:=Nat.lt_of_lt_of_le hy9 hb10.size
     have HBe10:Hid (Below W0.heap.size W0 w10):=HBe9.out.trans (hb10.mono HBe9.out.size)
     have HO10:Hid (qG w10 b.os[k] (some ⟨g0,0,none⟩) (some ⟨g1,0,none⟩)):=HO9.out.mono hb10
     have HFa:Hid (zR w10 fa (Gate.shapeOf l.ss b.os[k].kd).fs):=hfa.mono hb10
     have HLv:Hid ((Gate.shapeOf l.ss b.os[k].kd).fs.length=b.os[k].vs.length):=by have:=HWc.out;unfold Gate.zy at this;simp only [Bool.and_eq_true,decide_eq_true_eq] at this;exact this.2.symm
     have HBm:Hid (Below W0.heap.size W0 w10):=HBe10.out
     clear hfa hb10 hfd hXD hLD hYD hzD hyD hqD hX6 hL6 hY6 hz6 hy6 hq6 hX8 hL8 hY8 hz8 hy8 hq8 hX9 hL9 hY9 hz9 hy9 hq9 HBe9 HBe8 HBeD HO8 HO9 HOD
     obtain ⟨fs,hfs⟩:∃ fs,fs=(Gate.shapeOf l.ss b.os[k].kd).fs:=⟨_,rfl⟩
     have HFS:Hid (fs=(Gate.shapeOf l.ss b.os[k].kd).fs):=hfs
     rw [<- hfs] at HFa HLv ⊢
     clear hfs
     go_wp2_with fail
     obtain ⟨bo,hbo⟩:∃ bo,bo=wr.heap.size:=⟨_,rfl⟩
     rw [<- hbo] at hY10 hy10 ⊢
     clear hbo
     go_loopw [11] (fun jv wi=>∃ m:Nat,m<=fs.length/\jv = .int .i64 m/\Hid (Gate.qj l b.os b.os[k] m=true/\Below w10.heap.size w10 wi)) (fun jv _=>fs.length - (intOf jv).toNat)
     case atStart=>exact ⟨0,Nat.zero_le _,rfl,by simp [Gate.qj,jN],Below.refl _ _⟩
     case round =>
      obtain ⟨m,hm,rfl,HR⟩:=hrel
      have hfl:fs.length<=1048576:=by have:=HLv.out;have:=HFk.out.1;omega
      have hXm:=za hX10 hz10 HR.out.2
      have hYm:=za hY10 hy10 HR.out.2
      have hzm:=Nat.lt_of_lt_of_le hz10 HR.out.2.size
      have hqm:=Nat.lt_of_lt_of_le hq10 HR.out.2.size
      have hym:=Nat.lt_of_lt_of_le hy10 HR.out.2.size
      have HBm:Hid (Below W0.heap.size W0 wr):=HBe10.out.trans (HR.out.2.mono HBe10.out.size)
      by_cases hml:m < fs.length
      ·have hmI:(m:Int) < (fs.length:Int):=by omega
       have hmv:m < b.os[k].vs.length:=by have:=HLv.out;omega
       have hmvI:(m:Int) < (b.os[k].vs.length:Int):=by omega
       obtain ⟨fb,foff,fw,fc,rfl,hfb,hfi⟩:=zm7 HFa.out HR.out.2 m hml
       obtain ⟨d0,d1,d2,d3,d4,d5,d6,d7,d8,d9,d10⟩:=hfi.load
       obtain ⟨hvb,cv⟩:=zm9 HO10.out.vals HR.out.2 m hmv
       have HSt:Hid (fs[m].to.size<=maxLen/\b.os[k].vs[m].size<=maxLen):=⟨hfi.small.to,HO10.out.vals.small _ (List.getElem_mem _)⟩
       clear d0 d2 d3 d4 d6 d7 d8 d9 d10 hfi
       have hfz:fb < wr.drew.heap.size:=Nat.lt_of_lt_of_le hfb HR.out.2.size
       have hvz:g0 < wr.drew.heap.size:=Nat.lt_of_lt_of_le hvb HR.out.2.size
       have hXd:=za hXm hzm (Below.refl wr.heap.size wr).drew
       have hYd:=za hYm hym (Below.refl wr.heap.size wr).drew
       have HKd:Hid (qA wr.drew b (some ⟨ob,off,none⟩) a1 a2 a3):=HK.out.mono (HBw.out _ HBm.out.drew)
       have HRd:Hid (Below w10.heap.size w10 wr.drew):=HR.out.2.drew
       clear hX10 hY10 hz10 hq10 hy10 hL10 hXm hYm hfb hvb
       go_wp2_with fail
       refine wp_region_held_drew (S:=fun w'=>(∀ j,w'.cell? ⟨w.heap.size+1,j,none⟩=(#[.int .i64 b.now,.int .i64 b.tick,.int .i64 b.given,.slice (some ⟨ob,off,none⟩) b.os.length c0,.slice a1 b.gs.length c1,.slice a2 b.ls.length c2,.slice a3 b.ps.length c3]:Array Value)[j]?)/\(∀ j,w'.cell? ⟨bo,j,none⟩=(#[.string b.os[k].kd,.string b.os[k].nm,.string b.os[k].tm,.slice (some ⟨g0,0,none⟩) b.os[k].vs.length q0,.bool b.os[k].en,.slice (some ⟨g1,0,none⟩) b.os[k].hs.length q1,.int .i64 b.os[k].vr]:Array Value)[j]?)/\w'.cell? ⟨fb,foff+m * 11+1,none⟩=some (.int .i64 fs[m].kd)/\w'.cell? ⟨fb,foff+m * 11+5,none⟩=some (.string fs[m].to)/\w'.cell? ⟨g0,m,none⟩=some (.string b.os[k].vs[m])) (by kernel_rfl) ⟨hXd,hYd,d1,d5,cv⟩ (fun hHeld=>?_)
       refine tH 0 rfl hHeld ?_;refine tH 1 rfl hHeld ?_;refine tH 2 rfl hHeld ?_;refine tH 3 rfl hHeld ?_;refine tH 4 rfl hHeld ?_
       by_cases t6:fs[m].kd=4
       ·have hd6:decide (fs[m].kd=4)=true:=decide_eq_true t6
        have HT6:Hid (fs[m].kd=4):=t6
        have hd6b:(fs[m].kd == 4)=true:=by rw [t6];rfl
        clear t6
        refine tH 5 rfl hHeld ?_;refine tH 6 rfl hHeld ?_;refine tH 7 rfl hHeld ?_;refine tH 8 rfl hHeld ?_;refine tH 9 rfl hHeld ?_;refine tH 10 rfl hHeld ?_;refine tH 11 rfl hHeld ?_
        by_cases t7:b.os[k].vs[m].toList.isEmpty=false
        ·have HT7:Hid (b.os[k].vs[m].toList.isEmpty=false):=t7
         refine tH 12 rfl hHeld ?_;refine tH 13 rfl hHeld ?_;refine tH 14 rfl hHeld ?_;refine tH 15 rfl hHeld ?_;refine tH 16 rfl hHeld ?_;refine tH 17 rfl hHeld ?_;refine tH 18 rfl hHeld ?_;refine tH 19 rfl hHeld ?_;refine tH 20 rfl hHeld ?_;refine tH 21 rfl hHeld ?_;refine tH 22 rfl hHeld ?_;refine tH 23 rfl hHeld ?_;refine tH 24 rfl hHeld ?_;refine tH 25 rfl hHeld ?_
         refine cH 26 rfl fun K hK=>?_
         go_simp
         refine (zlR b (some ⟨ob,off,none⟩) a1 a2 a3 c0 c1 c2 c3 _ _ _ HKd.out (by have:=HLN.out;omega)).mono ?_
         rintro e w11 ⟨rfl,hb11⟩
         have hXe:=za hXd hzm hb11
         have hYe:=za hYd hym hb11
         have d1e:=(hb11.cell (p:=⟨fb,foff+m * 11+1,none⟩) hfz).trans d1
         have d5e:=(hb11.cell (p:=⟨fb,foff+m * 11+5,none⟩) hfz).trans d5
         have cve:=(hb11.cell (p:=⟨g0,m,none⟩) hvz).trans cv
         have HRe:Hid (Below w10.heap.size w10 w11):=HRd.out.trans (hb11.mono HRd.out.size)
         have HBe11:Hid (Below W0.heap.size W0 w11):=HBe10.out.trans (HRe.out.mono HBe10.out.size)
         clear hb11
         (try go_wp2_with fail)
         refine hK.out _ _ ?_ (fun hHeld=>?_)
         ·exact ⟨hXe,hYe,d1e,d5e,cve⟩
         clear hK K
         (try simp only [Act.put,sA,s0,sS])
         by_cases t8:Gate.zcb (Gate.zaU fs[m].to b.os[k].vs[m]) b.os < 0
         ·have hd8:decide (Gate.zcb (Gate.zaU fs[m].to b.os[k].vs[m]) b.os < 0)=true:=decide_eq_true t8
          have HAn:Hid (b.os.any (Gate.zaU fs[m].to b.os[k].vs[m])=false):=(Gate.zbS _ _).1 t8
          clear t8
          refine tH 27 rfl hHeld ?_;refine tH 28 rfl hHeld ?_
          refine wpAnyH_done (by kernel_rfl) ?_ _
          have HF:Hid (Gate.yj l b=false):=HNo.out (by rw [Gate.zaF,Gate.zfQ (k:=m+1) HFS.out hml (by rw [Gate.zbI HFS.out hml hmv HT6.out HT7.out HSt.out.1 HSt.out.2,HAn.out];simp)];simp)
          go_wp2_with fail
          go_ret
          exact ⟨ze HF.out.symm,HBw.out _ HBe11.out⟩
         ·have hd8:decide (Gate.zcb (Gate.zaU fs[m].to b.os[k].vs[m]) b.os < 0)=false:=decide_eq_false t8
          have HAn:Hid (b.os.any (Gate.zaU fs[m].to b.os[k].vs[m])=true):=by
           unfold Hid
           cases hq:b.os.any (Gate.zaU fs[m].to b.os[k].vs[m]) with
           | true=>rfl
           | false=>exact absurd ((Gate.zbS _ _).2 hq) t8
          clear t8
          refine tH 27 rfl hHeld ?_;refine tH 28 rfl hHeld ?_
          refine wpAnyH_done (by kernel_rfl) ?_ _
          have HS:Hid (Gate.qj l b.os b.os[k] (m+1)=true):=by rw [Hid,Gate.zbI HFS.out hml hmv HT6.out HT7.out HSt.out.1 HSt.out.2,HAn.out,HR.out.1];rfl
          go_wp2_with fail
          exact ⟨⟨m+1,by omega,by go_num,HS.out,HRe.out⟩,by simp [intOf];omega⟩
        ·have t7:b.os[k].vs[m].toList.isEmpty=true:=by simpa using t7
         have HT7:Hid (b.os[k].vs[m].toList.isEmpty=true):=t7
         refine tH 12 rfl hHeld ?_;refine tH 13 rfl hHeld ?_;refine tH 14 rfl hHeld ?_;refine kH 15 rfl hHeld ?_;refine kH 16 rfl hHeld ?_;refine kH 17 rfl hHeld ?_;refine kH 18 rfl hHeld ?_;refine kH 19 rfl hHeld ?_;refine kH 20 rfl hHeld ?_;refine kH 21 rfl hHeld ?_;refine kH 22 rfl hHeld ?_;refine kH 23 rfl hHeld ?_;refine kH 24 rfl hHeld ?_;refine kH 25 rfl hHeld ?_;refine kH 26 rfl hHeld ?_;refine kH 27 rfl hHeld ?_;refine tH 28 rfl hHeld ?_
         refine wpAnyH_done (by kernel_rfl) ?_ _
         have HS:Hid (Gate.qj l b.os b.os[k] (m+1)=true):=by rw [Hid,Gate.zbi HFS.out hml hmv (fun h=>by have:=h.2;rw [HT7.out] at this;cases this)];exact HR.out.1
         go_wp2_with fail
         exact ⟨⟨m+1,by omega,by go_num,HS.out,HRd.out⟩,by simp [intOf];omega⟩
       ·have hd6:decide (fs[m].kd=4)=false:=decide_eq_false t6
        have HT6:Hid (¬ fs[m].kd=4):=t6
        have hd6b:(fs[m].kd == 4)=false:=by simpa using t6
        clear t6
        refine tH 5 rfl hHeld ?_;refine tH 6 rfl hHeld ?_;refine kH 7 rfl hHeld ?_;refine kH 8 rfl hHeld ?_;refine kH 9 rfl hHeld ?_;refine kH 10 rfl hHeld ?_;refine kH 11 rfl hHeld ?_;refine kH 12 rfl hHeld ?_;refine tH 13 rfl hHeld ?_;refine tH 14 rfl hHeld ?_;refine kH 15 rfl hHeld ?_;refine kH 16 rfl hHeld ?_;refine kH 17 rfl hHeld ?_;refine kH 18 rfl hHeld ?_;refine kH 19 rfl hHeld ?_;refine kH 20 rfl hHeld ?_;refine kH 21 rfl hHeld ?_;refine kH 22 rfl hHeld ?_;refine kH 23 rfl hHeld ?_;refine kH 24 rfl hHeld ?_;refine kH 25 rfl hHeld ?_;refine kH 26 rfl hHeld ?_;refine kH 27 rfl hHeld ?_;refine tH 28 rfl hHeld ?_
        refine wpAnyH_done (by kernel_rfl) ?_ _
        have HS:Hid (Gate.qj l b.os b.os[k] (m+1)=true):=by rw [Hid,Gate.zbi HFS.out hml hmv (fun h=>HT6.out h.1)];exact HR.out.1
        go_wp2_with fail
        exact ⟨⟨m+1,by omega,by go_num,HS.out,HRd.out⟩,by simp [intOf];omega⟩
      ·have e:m=fs.length:=by omega
       subst e
       have HLk:Hid (Gate.zam l b.os b.os[k]=true):=Gate.ze5 HFS.out HR.out.1
       have HOa:Hid (Gate.yV l b b.os[k]=true):=by rw [Hid,Gate.zaF,HT3.out,HT2.out,HT1.out,HT5.out,HLk.out];simp
       have HD:Hid ((b.os.take (k+1)).all (Gate.yV l b)=true/\Gate.jC Gate.zaI b.os (k+1)):=HYes.out HOa.out HT4.out
       clear hX10 hY10 hz10 hq10 hy10 hL10 HR
       go_wp2_with fail
       exact ⟨⟨k+1,by omega,by go_num,HD.out.1,HD.out.2,HBm.out⟩,by simp [intOf];omega⟩
    ·have hd4:decide (0<=Gate.key2 (b.os[k - 1]'(by omega)).kd (b.os[k - 1]'(by omega)).nm b.os[k].kd b.os[k].nm)=true:=decide_eq_true (by omega)
     refine tH 22 rfl hHeld ?_;refine tH 23 rfl hHeld ?_
     refine wpAnyH_done (by kernel_rfl) ?_ _
     have HF:Hid (Gate.yj l b=false):=HNa.out (by omega) (Int.not_lt.1 t4)
     go_wp2_with fail
     go_ret
     exact ⟨ze HF.out.symm,HBw.out _ HBe6.out.drew⟩
   ·have hg:decide (0 < k)=false:=decide_eq_false hk0
    clear HP
    refine wp_region_held_drew (S:=fun w'=>(∀ j,w'.cell? ⟨w.heap.size+1,j,none⟩=(#[.int .i64 b.now,.int .i64 b.tick,.int .i64 b.given,.slice (some ⟨ob,off,none⟩) b.os.length c0,.slice a1 b.gs.length c1,.slice a2 b.ls.length c2,.slice a3 b.ps.length c3]:Array Value)[j]?)/\(∀ j,w'.cell? ⟨wr.heap.size,j,none⟩=(#[.string b.os[k].kd,.string b.os[k].nm,.string b.os[k].tm,.slice (some ⟨g0,0,none⟩) b.os[k].vs.length q0,.bool b.os[k].en,.slice (some ⟨g1,0,none⟩) b.os[k].hs.length q1,.int .i64 b.os[k].vr]:Array Value)[j]?) ) (by kernel_rfl) ⟨za hX6 hz6 (Below.refl w7.heap.size w7).drew,za hY6 hy6 (Below.refl w7.heap.size w7).drew⟩ (fun hHeld=>?_)
    refine tH 0 rfl hHeld ?_;refine tH 1 rfl hHeld ?_;refine tH 2 rfl hHeld ?_;refine kH 3 rfl hHeld ?_;refine kH 4 rfl hHeld ?_;refine kH 5 rfl hHeld ?_;refine kH 6 rfl hHeld ?_;refine kH 7 rfl hHeld ?_;refine kH 8 rfl hHeld ?_;refine kH 9 rfl hHeld ?_;refine kH 10 rfl hHeld ?_;refine kH 11 rfl hHeld ?_;refine kH 12 rfl hHeld ?_;refine kH 13 rfl hHeld ?_;refine kH 14 rfl hHeld ?_;refine kH 15 rfl hHeld ?_;refine kH 16 rfl hHeld ?_;refine kH 17 rfl hHeld ?_;refine kH 18 rfl hHeld ?_;refine kH 19 rfl hHeld ?_;refine kH 20 rfl hHeld ?_;refine kH 21 rfl hHeld ?_;refine kH 22 rfl hHeld ?_;refine tH 23 rfl hHeld ?_
    refine wpAnyH_done (by kernel_rfl) ?_ _
    have HT4:Hid (∀ m (e:k=m+1),Gate.zaI (b.os[m]'(by omega)) b.os[k] < 0):=fun m e=>by omega
    go_wp2_with fail
    have hXD:=za hX6 hz6 (Below.refl w7.heap.size w7).drew.drew
    have hLD:=za hL6 (Nat.lt_of_succ_lt hz6) (Below.refl w7.heap.size w7).drew.drew
    have hYD:=za hY6 hy6 (Below.refl w7.heap.size w7).drew.drew
    have hzD:w.heap.size+1 < w7.drew.drew.heap.size:=hz6
    have hyD:wr.heap.size < w7.drew.drew.heap.size:=hy6
    have hqD:w.heap.size < w7.drew.drew.heap.size:=hq6
    have HBeD:Hid (Below W0.heap.size W0 w7.drew.drew):=HBe6.out.drew.drew
    have HOD:Hid (qG w7.drew.drew b.os[k] (some ⟨g0,0,none⟩) (some ⟨g1,0,none⟩)):=HO6.out.mono (Below.refl w7.heap.size w7).drew.drew
    have hfd:∀ (s0 s1 s2:ByteArray) (x y:Option Addr) (n m p q:Nat) (t:Bool) (v:Int) (wf:World),(Instr.field 121 (.agg #[.string s0,.string s1,.string s2,.slice x n p,.bool t,.slice y m q,.int .i64 v]) 3).run Tryz.prog wf = .ok (.slice x n p) wf:=fun s0 s1 s2 x y n m p q t v wf=>by kernel_rfl
    refine wp_region_held_drew (S:=fun w'=>(∀ j,w'.cell? ⟨w.heap.size,j,none⟩=(#[.slice la l.ss.length lca,.slice lb l.ms.length lcb,.slice lc l.ts.length lcc]:Array Value)[j]?)/\(∀ j,w'.cell? ⟨w.heap.size+1,j,none⟩=(#[.int .i64 b.now,.int .i64 b.tick,.int .i64 b.given,.slice (some ⟨ob,off,none⟩) b.os.length c0,.slice a1 b.gs.length c1,.slice a2 b.ls.length c2,.slice a3 b.ps.length c3]:Array Value)[j]?)/\(∀ j,w'.cell? ⟨wr.heap.size,j,none⟩=(#[.string b.os[k].kd,.string b.os[k].nm,.string b.os[k].tm,.slice (some ⟨g0,0,none⟩) b.os[k].vs.length q0,.bool b.os[k].en,.slice (some ⟨g1,0,none⟩) b.os[k].hs.length q1,.int .i64 b.os[k].vr]:Array Value)[j]?)) (by kernel_rfl) ⟨hLD,hXD,hYD⟩ (fun hHeld=>?_)
    refine tH 0 rfl hHeld ?_;refine tH 1 rfl hHeld ?_;refine tH 2 rfl hHeld ?_;refine tH 3 rfl hHeld ?_;refine tH 4 rfl hHeld ?_;refine tH 7 rfl hHeld ?_;refine tH 8 rfl hHeld ?_
    refine cH 5 rfl fun K hK=>?_
    go_simp
    refine (zeZ _ _ _ _ l.ss l.ms b.os[k] _ _ _ _ _ _ _ (HL.out.ss.mono (HBw.out _ HBeD.out)) (HL.out.ms.mono (HBw.out _ HBeD.out)) HOD.out HFk.out.1 HFk.out.2 HF0.out.1).mono ?_
    rintro e w8 ⟨sa,sdap,sa',sdap',sm,rfl,hown,_,_,_,hb8⟩
    have hX8:=za hXD hzD hb8
    have hL8:=za hLD (Nat.lt_of_succ_lt hzD) hb8
    have hY8:=za hYD hyD hb8
    have hz8:=Nat.lt_of_lt_of_le hzD hb8.size
    have hq8:=Nat.lt_of_succ_lt hz8
    have hy8:=Nat.lt_of_lt_of_le hyD hb8.size
    have HBe8:Hid (Below W0.heap.size W0 w8):=HBeD.out.trans (hb8.mono HBeD.out.size)
    have HO8:Hid (qG w8 b.os[k] (some ⟨g0,0,none⟩) (some ⟨g1,0,none⟩)):=HOD.out.mono hb8
    have HSh:Hid (zF w8 sa (Gate.zat l b.os[k])/\(Gate.zat l b.os[k]).length=b.os[k].vs.length):=by
     have hmd:=Gate.zae HF0.out.1 HT1.out
     rw [Gate.zex HF0.out.1 HT1.out] at hown
     exact ⟨zd1 hown hmd HOD.out.vals.len (zdo hmd HL.out.ss.smalls HL.out.ms.small HOD.out.vals.small),zb9 hmd⟩
    clear hb8 hown
    (try go_wp2_with fail)
    refine hK.out _ _ ?_ (fun hHeld=>?_)
    ·exact ⟨hL8,hX8,hY8⟩
    clear hK K
    (try simp only [Act.put,sA,s0,sS])
    refine tH 6 rfl hHeld ?_
    refine cH 9 rfl fun K hK=>?_
    go_simp
    have hsame:=zdQ sa (some ⟨g0,0,none⟩) sdap q0 _ _ _ HSh.out.1 HO8.out.vals (by rw [HSh.out.2];exact HFk.out.1) HFk.out.1
    rw [HSh.out.2] at hsame
    refine hsame.mono ?_
    rintro e w9 ⟨rfl,hb9⟩
    have hX9:=za hX8 hz8 hb9
    have hL9:=za hL8 (Nat.lt_of_succ_lt hz8) hb9
    have hY9:=za hY8 hy8 hb9
    have hz9:=Nat.lt_of_lt_of_le hz8 hb9.size
    have hq9:=Nat.lt_of_succ_lt hz9
    have hy9:=Nat.lt_of_lt_of_le hy8 hb9.size
    have HBe9:Hid (Below W0.heap.size W0 w9):=HBe8.out.trans (hb9.mono HBe8.out.size)
    have HO9:Hid (qG w9 b.os[k] (some ⟨g0,0,none⟩) (some ⟨g1,0,none⟩)):=HO8.out.mono hb9
    clear hb9 hsame
    (try go_wp2_with fail)
    refine hK.out _ _ ?_ (fun hHeld=>?_)
    ·exact ⟨hL9,hX9,hY9⟩
    clear hK K
    (try simp only [Act.put,sA,s0,sS])
    refine tH 10 rfl hHeld ?_
    refine wpAnyH_done (by kernel_rfl) ?_ _
    by_cases t5:Gate.zat l b.os[k]=b.os[k].vs
    rotate_left
    ·have HF:Hid (Gate.yj l b=false):=HNo.out (by rw [Gate.zaF,decide_eq_false t5];simp)
     rw [decide_eq_false t5]
     clear t5
     go_wp2_with fail
     go_ret
     exact ⟨ze HF.out.symm,HBw.out _ HBe9.out⟩
    have HT5:Hid (Gate.zat l b.os[k]=b.os[k].vs):=t5
    rw [decide_eq_true t5]
    clear t5 HSh
    go_wp2_with fail
    have HWc:Hid (Gate.zy l.ss b.os[k]=true):=by
     have:=Gate.zaB (o:=b.os[k]) HF0.out.1
     rw [Hid,<- this];exact Gate.zae HF0.out.1 HT1.out
    refine (jh _ _ l.ss b.os[k] _ _ _ _ _ (HL.out.ss.mono (HBw.out _ HBe9.out)) HO9.out HWc.out).mono ?_
    rintro e w10 ⟨fa,fcap,rfl,hfa,hb10⟩
    have hX10:=za hX9 hz9 hb10
    have hL10:=za hL9 (Nat.lt_of_succ_lt hz9) hb10
    have hY10:=za hY9 hy9 hb10
    have hz10:=Nat.lt_of_lt_of_le hz9 hb10.size
    have hq10:=Nat.lt_of_succ_lt hz10
    have hy10:=Nat.lt_of_lt_of_le hy9 hb10.size
    have HBe10:Hid (Below W0.heap.size W0 w10):=HBe9.out.trans (hb10.mono HBe9.out.size)
    have HO10:Hid (qG w10 b.os[k] (some ⟨g0,0,none⟩) (some ⟨g1,0,none⟩)):=HO9.out.mono hb10
    have HFa:Hid (zR w10 fa (Gate.shapeOf l.ss b.os[k].kd).fs):=hfa.mono hb10
    have HLv:Hid ((Gate.shapeOf l.ss b.os[k].kd).fs.length=b.os[k].vs.length):=by have:=HWc.out;unfold Gate.zy at this;simp only [Bool.and_eq_true,decide_eq_true_eq] at this;exact this.2.symm
    have HBm:Hid (Below W0.heap.size W0 w10):=HBe10.out
    clear hfa hb10 hfd hXD hLD hYD hzD hyD hqD hX6 hL6 hY6 hz6 hy6 hq6 hX8 hL8 hY8 hz8 hy8 hq8 hX9 hL9 hY9 hz9 hy9 hq9 HBe9 HBe8 HBeD HO8 HO9 HOD
    obtain ⟨fs,hfs⟩:∃ fs,fs=(Gate.shapeOf l.ss b.os[k].kd).fs:=⟨_,rfl⟩
    have HFS:Hid (fs=(Gate.shapeOf l.ss b.os[k].kd).fs):=hfs
    rw [<- hfs] at HFa HLv ⊢
    clear hfs
    go_wp2_with fail
    obtain ⟨bo,hbo⟩:∃ bo,bo=wr.heap.size:=⟨_,rfl⟩
    rw [<- hbo] at hY10 hy10 ⊢
    clear hbo
    go_loopw [11] (fun jv wi=>∃ m:Nat,m<=fs.length/\jv = .int .i64 m/\Hid (Gate.qj l b.os b.os[k] m=true/\Below w10.heap.size w10 wi)) (fun jv _=>fs.length - (intOf jv).toNat)
    case atStart=>exact ⟨0,Nat.zero_le _,rfl,by simp [Gate.qj,jN],Below.refl _ _⟩
    case round =>
     obtain ⟨m,hm,rfl,HR⟩:=hrel
     have hfl:fs.length<=1048576:=by have:=HLv.out;have:=HFk.out.1;omega
     have hXm:=za hX10 hz10 HR.out.2
     have hYm:=za hY10 hy10 HR.out.2
     have hzm:=Nat.lt_of_lt_of_le hz10 HR.out.2.size
     have hqm:=Nat.lt_of_lt_of_le hq10 HR.out.2.size
     have hym:=Nat.lt_of_lt_of_le hy10 HR.out.2.size
     have HBm:Hid (Below W0.heap.size W0 wr):=HBe10.out.trans (HR.out.2.mono HBe10.out.size)
     by_cases hml:m < fs.length
     ·have hmI:(m:Int) < (fs.length:Int):=by omega
      have hmv:m < b.os[k].vs.length:=by have:=HLv.out;omega
      have hmvI:(m:Int) < (b.os[k].vs.length:Int):=by omega
      obtain ⟨fb,foff,fw,fc,rfl,hfb,hfi⟩:=zm7 HFa.out HR.out.2 m hml
      obtain ⟨d0,d1,d2,d3,d4,d5,d6,d7,d8,d9,d10⟩:=hfi.load
      obtain ⟨hvb,cv⟩:=zm9 HO10.out.vals HR.out.2 m hmv
      have HSt:Hid (fs[m].to.size<=maxLen/\b.os[k].vs[m].size<=maxLen):=⟨hfi.small.to,HO10.out.vals.small _ (List.getElem_mem _)⟩
      clear d0 d2 d3 d4 d6 d7 d8 d9 d10 hfi
      have hfz:fb < wr.drew.heap.size:=Nat.lt_of_lt_of_le hfb HR.out.2.size
      have hvz:g0 < wr.drew.heap.size:=Nat.lt_of_lt_of_le hvb HR.out.2.size
      have hXd:=za hXm hzm (Below.refl wr.heap.size wr).drew
      have hYd:=za hYm hym (Below.refl wr.heap.size wr).drew
      have HKd:Hid (qA wr.drew b (some ⟨ob,off,none⟩) a1 a2 a3):=HK.out.mono (HBw.out _ HBm.out.drew)
      have HRd:Hid (Below w10.heap.size w10 wr.drew):=HR.out.2.drew
      clear hX10 hY10 hz10 hq10 hy10 hL10 hXm hYm hfb hvb
      go_wp2_with fail
      refine wp_region_held_drew (S:=fun w'=>(∀ j,w'.cell? ⟨w.heap.size+1,j,none⟩=(#[.int .i64 b.now,.int .i64 b.tick,.int .i64 b.given,.slice (some ⟨ob,off,none⟩) b.os.length c0,.slice a1 b.gs.length c1,.slice a2 b.ls.length c2,.slice a3 b.ps.length c3]:Array Value)[j]?)/\(∀ j,w'.cell? ⟨bo,j,none⟩=(#[.string b.os[k].kd,.string b.os[k].nm,.string b.os[k].tm,.slice (some ⟨g0,0,none⟩) b.os[k].vs.length q0,.bool b.os[k].en,.slice (some ⟨g1,0,none⟩) b.os[k].hs.length q1,.int .i64 b.os[k].vr]:Array Value)[j]?)/\w'.cell? ⟨fb,foff+m * 11+1,none⟩=some (.int .i64 fs[m].kd)/\w'.cell? ⟨fb,foff+m * 11+5,none⟩=some (.string fs[m].to)/\w'.cell? ⟨g0,m,none⟩=some (.string b.os[k].vs[m])) (by kernel_rfl) ⟨hXd,hYd,d1,d5,cv⟩ (fun hHeld=>?_)
      refine tH 0 rfl hHeld ?_;refine tH 1 rfl hHeld ?_;refine tH 2 rfl hHeld ?_;refine tH 3 rfl hHeld ?_;refine tH 4 rfl hHeld ?_
      by_cases t6:fs[m].kd=4
      ·have hd6:decide (fs[m].kd=4)=true:=decide_eq_true t6
       have HT6:Hid (fs[m].kd=4):=t6
       have hd6b:(fs[m].kd == 4)=true:=by rw [t6];rfl
       clear t6
       refine tH 5 rfl hHeld ?_;refine tH 6 rfl hHeld ?_;refine tH 7 rfl hHeld ?_;refine tH 8 rfl hHeld ?_;refine tH 9 rfl hHeld ?_;refine tH 10 rfl hHeld ?_;refine tH 11 rfl hHeld ?_
       by_cases t7:b.os[k].vs[m].toList.isEmpty=false
       ·have HT7:Hid (b.os[k].vs[m].toList.isEmpty=false):=t7
        refine tH 12 rfl hHeld ?_;refine tH 13 rfl hHeld ?_;refine tH 14 rfl hHeld ?_;refine tH 15 rfl hHeld ?_;refine tH 16 rfl hHeld ?_;refine tH 17 rfl hHeld ?_;refine tH 18 rfl hHeld ?_;refine tH 19 rfl hHeld ?_;refine tH 20 rfl hHeld ?_;refine tH 21 rfl hHeld ?_;refine tH 22 rfl hHeld ?_;refine tH 23 rfl hHeld ?_;refine tH 24 rfl hHeld ?_;refine tH 25 rfl hHeld ?_
        refine cH 26 rfl fun K hK=>?_
        go_simp
        refine (zlR b (some ⟨ob,off,none⟩) a1 a2 a3 c0 c1 c2 c3 _ _ _ HKd.out (by have:=HLN.out;omega)).mono ?_
        rintro e w11 ⟨rfl,hb11⟩
        have hXe:=za hXd hzm hb11
        have hYe:=za hYd hym hb11
        have d1e:=(hb11.cell (p:=⟨fb,foff+m * 11+1,none⟩) hfz).trans d1
        have d5e:=(hb11.cell (p:=⟨fb,foff+m * 11+5,none⟩) hfz).trans d5
        have cve:=(hb11.cell (p:=⟨g0,m,none⟩) hvz).trans cv
        have HRe:Hid (Below w10.heap.size w10 w11):=HRd.out.trans (hb11.mono HRd.out.size)
        have HBe11:Hid (Below W0.heap.size W0 w11):=HBe10.out.trans (HRe.out.mono HBe10.out.size)
        clear hb11
        (try go_wp2_with fail)
        refine hK.out _ _ ?_ (fun hHeld=>?_)
        ·exact ⟨hXe,hYe,d1e,d5e,cve⟩
        clear hK K
        (try simp only [Act.put,sA,s0,sS])
        by_cases t8:Gate.zcb (Gate.zaU fs[m].to b.os[k].vs[m]) b.os < 0
        ·have hd8:decide (Gate.zcb (Gate.zaU fs[m].to b.os[k].vs[m]) b.os < 0)=true:=decide_eq_true t8
         have HAn:Hid (b.os.any (Gate.zaU fs[m].to b.os[k].vs[m])=false):=(Gate.zbS _ _).1 t8
         clear t8
         refine tH 27 rfl hHeld ?_;refine tH 28 rfl hHeld ?_
         refine wpAnyH_done (by kernel_rfl) ?_ _
         have HF:Hid (Gate.yj l b=false):=HNo.out (by rw [Gate.zaF,Gate.zfQ (k:=m+1) HFS.out hml (by rw [Gate.zbI HFS.out hml hmv HT6.out HT7.out HSt.out.1 HSt.out.2,HAn.out];simp)];simp)
         go_wp2_with fail
         go_ret
         exact ⟨ze HF.out.symm,HBw.out _ HBe11.out⟩
        ·have hd8:decide (Gate.zcb (Gate.zaU fs[m].to b.os[k].vs[m]) b.os < 0)=false:=decide_eq_false t8
         have HAn:Hid (b.os.any (Gate.zaU fs[m].to b.os[k].vs[m])=true):=by
          unfold Hid
          cases hq:b.os.any (Gate.zaU fs[m].to b.os[k].vs[m]) with
          | true=>rfl
          | false=>exact absurd ((Gate.zbS _ _).2 hq) t8
         clear t8
         refine tH 27 rfl hHeld ?_;refine tH 28 rfl hHeld ?_
         refine wpAnyH_done (by kernel_rfl) ?_ _
         have HS:Hid (Gate.qj l b.os b.os[k] (m+1)=true):=by rw [Hid,Gate.zbI HFS.out hml hmv HT6.out HT7.out HSt.out.1 HSt.out.2,HAn.out,HR.out.1];rfl
         go_wp2_with fail
         exact ⟨⟨m+1,by omega,by go_num,HS.out,HRe.out⟩,by simp [intOf];omega⟩
       ·have t7:b.os[k].vs[m].toList.isEmpty=true:=by simpa using t7
        have HT7:Hid (b.os[k].vs[m].toList.isEmpty=true):=t7
        refine tH 12 rfl hHeld ?_;refine tH 13 rfl hHeld ?_;refine tH 14 rfl hHeld ?_;refine kH 15 rfl hHeld ?_;refine kH 16 rfl hHeld ?_;refine kH 17 rfl hHeld ?_;refine kH 18 rfl hHeld ?_;refine kH 19 rfl hHeld ?_;refine kH 20 rfl hHeld ?_;refine kH 21 rfl hHeld ?_;refine kH 22 rfl hHeld ?_;refine kH 23 rfl hHeld ?_;refine kH 24 rfl hHeld ?_;refine kH 25 rfl hHeld ?_;refine kH 26 rfl hHeld ?_;refine kH 27 rfl hHeld ?_;refine tH 28 rfl hHeld ?_
        refine wpAnyH_done (by kernel_rfl) ?_ _
        have HS:Hid (Gate.qj l b.os b.os[k] (m+1)=true):=by rw [Hid,Gate.zbi HFS.out hml hmv (fun h=>by have:=h.2;rw [HT7.out] at this;cases this)];exact HR.out.1
        go_wp2_with fail
        exact ⟨⟨m+1,by omega,by go_num,HS.out,HRd.out⟩,by simp [intOf];omega⟩
      ·have hd6:decide (fs[m].kd=4)=false:=decide_eq_false t6
       have HT6:Hid (¬ fs[m].kd=4):=t6
       have hd6b:(fs[m].kd == 4)=false:=by simpa using t6
       clear t6
       refine tH 5 rfl hHeld ?_;refine tH 6 rfl hHeld ?_;refine kH 7 rfl hHeld ?_;refine kH 8 rfl hHeld ?_;refine kH 9 rfl hHeld ?_;refine kH 10 rfl hHeld ?_;refine kH 11 rfl hHeld ?_;refine kH 12 rfl hHeld ?_;refine tH 13 rfl hHeld ?_;refine tH 14 rfl hHeld ?_;refine kH 15 rfl hHeld ?_;refine kH 16 rfl hHeld ?_;refine kH 17 rfl hHeld ?_;refine kH 18 rfl hHeld ?_;refine kH 19 rfl hHeld ?_;refine kH 20 rfl hHeld ?_;refine kH 21 rfl hHeld ?_;refine kH 22 rfl hHeld ?_;refine kH 23 rfl hHeld ?_;refine kH 24 rfl hHeld ?_;refine kH 25 rfl hHeld ?_;refine kH 26 rfl hHeld ?_;refine kH 27 rfl hHeld ?_;refine tH 28 rfl hHeld ?_
       refine wpAnyH_done (by kernel_rfl) ?_ _
       have HS:Hid (Gate.qj l b.os b.os[k] (m+1)=true):=by rw [Hid,Gate.zbi HFS.out hml hmv (fun h=>HT6.out h.1)];exact HR.out.1
       go_wp2_with fail
       exact ⟨⟨m+1,by omega,by go_num,HS.out,HRd.out⟩,by simp [intOf];omega⟩
     ·have e:m=fs.length:=by omega
      subst e
      have HLk:Hid (Gate.zam l b.os b.os[k]=true):=Gate.ze5 HFS.out HR.out.1
      have HOa:Hid (Gate.yV l b b.os[k]=true):=by rw [Hid,Gate.zaF,HT3.out,HT2.out,HT1.out,HT5.out,HLk.out];simp
      have HD:Hid ((b.os.take (k+1)).all (Gate.yV l b)=true/\Gate.jC Gate.zaI b.os (k+1)):=HYes.out HOa.out HT4.out
      clear hX10 hY10 hz10 hq10 hy10 hL10 HR
      go_wp2_with fail
      exact ⟨⟨k+1,by omega,by go_num,HD.out.1,HD.out.2,HBm.out⟩,by simp [intOf];omega⟩
  ·have e:k=b.os.length:=by omega
   subst e
   have HE:Hid (Gate.yj l b=true):=by
    unfold Hid Gate.yj
    have h1:=HQ.out.1
    rw [List.take_of_length_le (Nat.le_refl _)] at h1
    rw [Gate.zfB HQ.out.2.1 (Nat.le_refl _),decide_eq_true HLN.out,h1];rfl
   clear HQ hlt hk hX0 hL0
   go_wp2_with fail
   go_ret
   exact ⟨ze HE.out.symm,HBq.out⟩
theorem zb3 (r:Rl) (a:Option Addr) (cap:Nat) (w:World) (hm:r.Small) (hw:yJ w a r.vs) :
 Calls Tryz.prog 87 #[.agg (r.cells a cap)] w fun e w'=>e = .returned (.bool (Gate.zW r))/\Below w.heap.size w w':=by
 have hskd:=hm.kd
 have hstm:=hm.tm
 have hpx:=hm.px
 have hvl:=hw.len
 unfold maxLen at hpx hvl
 unfold Rl.cells
 have HB:Hid (∀ ob,Below w.heap.size w (w.alloc ob)):=fun ob=>(Below.refl _ _).alloc (Nat.le_refl _) _
 have HI:Hid (yJ w a r.vs):=hw
 clear hw hm
 by_cases hv0:r.vs.length=0
 ·have HF:Hid (Gate.zW r=false):=by unfold Hid Gate.zW Gate.yQ;rw [decide_eq_false (show ¬ 0 < r.vs.length by omega)];simp
  have hvI:((r.vs.length:Int) == 0)=true:=by rw [hv0];rfl
  go_enter Tryz.func87,Tryz.ntmps87
  go_wp2_with fail
  go_ret
  exact ⟨ze HF.out.symm,HB.out _⟩
 have hvI:((r.vs.length:Int) == 0)=false:=by rw [beq_eq_false_iff_ne];omega
 by_cases h16:r.px.size<=16
 rotate_left
 ·have HF:Hid (Gate.zW r=false):=by unfold Hid Gate.zW;rw [decide_eq_false h16];simp
  have h16I:decide (16 < (r.px.size:Int))=true:=by simp;omega
  clear hv0
  go_enter Tryz.func87,Tryz.ntmps87
  go_wp2_with fail
  go_ret
  exact ⟨ze HF.out.symm,HB.out _⟩
 have h16I:decide (16 < (r.px.size:Int))=false:=by simp;omega
 have HG:Hid (Gate.qM r=true->Gate.zW r=(Gate.up (Gate.y9 r.vs) r.vs.length && Gate.y5 r.px)):=fun h=>by
  unfold Gate.zW Gate.yQ;rw [h,decide_eq_true h16,decide_eq_true (show 0 < r.vs.length by omega)];simp
 clear hv0
 rcases Gate.zdb r.kd with hk | ⟨hk,HK⟩ | ⟨hk,HK⟩
 ·rcases Gate.zdb r.tm with ht | ⟨ht,HT⟩ | ⟨ht,HT⟩
  ·have HKD:Hid (Gate.qM r=true):=by unfold Hid Gate.qM;rw [hk,ht];simp
   go_enter Tryz.func87,Tryz.ntmps87
   go_wp2_with fail
   obtain ⟨W0,hW0⟩:∃ W0,W0=w.alloc (.cells #[.slice a r.vs.length cap,.string r.kd,.string r.tm,.string r.px] 112):=⟨_,rfl⟩
   have HBW:Hid (Below w.heap.size w W0):=by unfold Hid;rw [hW0];exact HB.out _
   have hX0:∀ o,W0.cell? ⟨w.heap.size,o,none⟩=(#[.slice a r.vs.length cap,.string r.kd,.string r.tm,.string r.px]:Array Value)[o]?:=by rw [hW0];exact zl w _ _
   have hz0:w.heap.size < W0.heap.size:=by rw [hW0];simp
   rw [<- hW0]
   clear hW0
   go_loopw [3] (fun i wr=>∃ k:Nat,k<=r.vs.length/\i = .int .i64 k/\Gate.up (Gate.y9 r.vs) k=true/\Below W0.heap.size W0 wr) (fun i _=>r.vs.length - (intOf i).toNat)
   case atStart=>exact ⟨0,Nat.zero_le _,rfl,rfl,Below.refl _ _⟩
   case round =>
    obtain ⟨k,hkl,rfl,hup,hB⟩:=hrel
    obtain ⟨W1,rfl⟩:∃ W1,W1=wr:=⟨wr,rfl⟩
    have hsz:=hB.size
    have hX:=za hX0 hz0 hB
    have HB1:Hid (Below W0.heap.size W0 W1):=hB
    have HBW1:Hid (Below w.heap.size w W1):=HBW.out.trans (hB.mono (by omega))
    have hz1:w.heap.size < W1.heap.size:=by omega
    clear hX0 hB
    by_cases hlt:k < r.vs.length
    ·obtain ⟨b,off,rfl,hb,c0⟩:=HI.out.load HBW1.out k hlt
     have hbr:b < W1.heap.size:=by omega
     have hltI:(k:Int) < (r.vs.length:Int):=by omega
     have HNN:Hid (Gate.y9 r.vs k=false->Gate.zW r=false):=fun h=>by rw [HG.out HKD.out,Gate.zaw hlt h];rfl
     by_cases hn:Gate.q9 r.vs[k]=true
     rotate_left
     ·have HN:Hid ((decide (1<=r.vs[k]) && decide (r.vs[k]<=5))=false):=by simpa [Hid,Gate.q9] using hn
      have HF:Hid (Gate.zW r=false):=HNN.out (Gate.zdd hlt (by simpa using hn))
      clear hn hup
      go_wp2_with fail
      go_quiet ((go_at_call 47;exact Calls.quiet_of_same (zf HN.out (yD _ _ _ _))))
      go_wp2_with fail
      go_ret
      exact ⟨ze HF.out.symm,below_drewN HBW1.out _⟩
     have HN:Hid ((decide (1<=r.vs[k]) && decide (r.vs[k]<=5))=true):=hn
     by_cases hk0:k=0
     ·have HS:Hid (Gate.up (Gate.y9 r.vs) (k+1)=true):=by subst hk0;unfold Hid;rw [Gate.jc,Gate.zbn hlt hn];rfl
      have hg:decide (0 < k)=false:=by simp;omega
      clear hn hup hk0
      go_wp2_with fail
      go_quiet ((go_at_call 47;exact Calls.quiet_of_same (zf HN.out (yD _ _ _ _))))
      go_wp2_with fail
      exact ⟨⟨k+1,by omega,by go_num,HS.out,below_drewN HB1.out _⟩,by simp [intOf];omega⟩
     ·have hk1:(0:Int)<=(k:Int) - 1:=by omega
      have hk2:(k:Int) - 1 < (r.vs.length:Int):=by omega
      have hg:decide (0 < k)=true:=by simp;omega
      have hkm:k - 1 < r.vs.length:=by omega
      obtain ⟨b',off',e',hb',d0⟩:=HI.out.load HBW1.out (k - 1) hkm
      simp only [Option.some.injEq,Addr.mk.injEq] at e'
      obtain ⟨rfl,rfl,_⟩:=e'
      have hva:Gate.y9 r.vs k=decide (r.vs[k - 1] < r.vs[k]):=by unfold Gate.y9;rw [Gate.getD_at r.vs k _ hlt,Gate.getD_at r.vs (k - 1) _ hkm,hn,decide_eq_false hk0];simp
      by_cases hls:r.vs[k - 1] < r.vs[k]
      ·have hls':decide (r.vs[k]<=r.vs[k - 1])=false:=by simp;omega
       have HS:Hid (Gate.up (Gate.y9 r.vs) (k+1)=true):=by unfold Hid;rw [Gate.jc,hup,hva,decide_eq_true hls];rfl
       clear hls hn hup hk0 hva
       go_wp2_with fail
       go_quiet ((go_at_call 47;exact Calls.quiet_of_same (zf HN.out (yD _ _ _ _))))
       go_wp2_with fail
       exact ⟨⟨k+1,by omega,by go_num,HS.out,below_drewN HB1.out _⟩,by simp [intOf];omega⟩
      ·have hls':decide (r.vs[k]<=r.vs[k - 1])=true:=by simp;omega
       have HF:Hid (Gate.zW r=false):=HNN.out (by rw [hva,decide_eq_false hls])
       clear hls hn hup hk0 hva
       go_wp2_with fail
       go_quiet ((go_at_call 47;exact Calls.quiet_of_same (zf HN.out (yD _ _ _ _))))
       go_wp2_with fail
       go_ret
       exact ⟨ze HF.out.symm,below_drewN HBW1.out _⟩
    ·have HF:Hid (Gate.zW r=Gate.y5 r.px):=by
      have e:k=r.vs.length:=by omega
      subst e;rw [Hid,HG.out HKD.out,hup];rfl
     have hltI:¬ (k:Int) < (r.vs.length:Int):=by omega
     clear hup HG
     go_wp2_with fail
     go_loopw [4] (fun i wi=>∃ n:Nat,n<=r.px.size/\i = .int .i64 n/\(r.px.data.toList.take n).all Gate.zJ=true/\wi=W1) (fun i _=>r.px.size - (intOf i).toNat)
     case atStart=>exact ⟨0,Nat.zero_le _,rfl,rfl,rfl⟩
     case round =>
      obtain ⟨n,hn16,rfl,hall,rfl⟩:=hrel
      by_cases hn:n < r.px.size
      ·have hnI:(n:Int) < (r.px.size:Int):=by omega
       have HS:Hid ((r.px.data.toList.take (n+1)).all Gate.zJ=(true && Gate.zJ r.px[n])):=by rw [Gate.zaE _ r.px n hn,hall];rfl
       have HNo:Hid (Gate.zJ r.px[n]=false->Gate.y5 r.px=false):=fun h=>Gate.zbJ Gate.zJ r.px n hn h
       clear hall
       by_cases hc:Gate.zJ r.px[n]=true
       ·have HC:Hid (Gate.zJ r.px[n]=true):=hc
        clear hc
        go_wp2_with (go_at_call 125;refine (zf HC.out (jS _ _)).mono ?_;rintro e w' ⟨rfl,rfl⟩)
        exact ⟨⟨n+1,by omega,by go_num,by rw [HS.out,HC.out];rfl,trivial⟩,by simp [intOf];omega⟩
       ·have HC:Hid (Gate.zJ r.px[n]=false):=by simpa [Hid] using hc
        clear hc
        go_wp2_with (go_at_call 125;refine (zf HC.out (jS _ _)).mono ?_;rintro e w' ⟨rfl,rfl⟩)
        go_ret
        exact ⟨ze (HF.out.trans (HNo.out HC.out)).symm,HBW1.out⟩
      ·have HA:Hid (Gate.y5 r.px=true):=by unfold Gate.y5 Hid;rw [<- Gate.zan r.px n (by omega)];exact hall
       have hnI:¬ (n:Int) < (r.px.size:Int):=by omega
       clear hall
       go_wp2_with fail
       go_ret
       exact ⟨ze (HF.out.trans HA.out).symm,HBW1.out⟩
  ·have HKD:Hid (Gate.qM r=true):=by unfold Hid Gate.qM;rw [hk,HT.out];simp
   go_enter Tryz.func87,Tryz.ntmps87
   go_wp2_with (first | (go_at_call_of 86 (Value.string r.tm);refine (zf HT.out (zh r.tm _ hstm)).mono ?_;rintro e w' ⟨rfl,rfl⟩))
   obtain ⟨W0,hW0⟩:∃ W0,W0=w.alloc (.cells #[.slice a r.vs.length cap,.string r.kd,.string r.tm,.string r.px] 112):=⟨_,rfl⟩
   have HBW:Hid (Below w.heap.size w W0):=by unfold Hid;rw [hW0];exact HB.out _
   have hX0:∀ o,W0.cell? ⟨w.heap.size,o,none⟩=(#[.slice a r.vs.length cap,.string r.kd,.string r.tm,.string r.px]:Array Value)[o]?:=by rw [hW0];exact zl w _ _
   have hz0:w.heap.size < W0.heap.size:=by rw [hW0];simp
   rw [<- hW0]
   clear hW0
   go_loopw [3] (fun i wr=>∃ k:Nat,k<=r.vs.length/\i = .int .i64 k/\Gate.up (Gate.y9 r.vs) k=true/\Below W0.heap.size W0 wr) (fun i _=>r.vs.length - (intOf i).toNat)
   case atStart=>exact ⟨0,Nat.zero_le _,rfl,rfl,Below.refl _ _⟩
   case round =>
    obtain ⟨k,hkl,rfl,hup,hB⟩:=hrel
    obtain ⟨W1,rfl⟩:∃ W1,W1=wr:=⟨wr,rfl⟩
    have hsz:=hB.size
    have hX:=za hX0 hz0 hB
    have HB1:Hid (Below W0.heap.size W0 W1):=hB
    have HBW1:Hid (Below w.heap.size w W1):=HBW.out.trans (hB.mono (by omega))
    have hz1:w.heap.size < W1.heap.size:=by omega
    clear hX0 hB
    by_cases hlt:k < r.vs.length
    ·obtain ⟨b,off,rfl,hb,c0⟩:=HI.out.load HBW1.out k hlt
     have hbr:b < W1.heap.size:=by omega
     have hltI:(k:Int) < (r.vs.length:Int):=by omega
     have HNN:Hid (Gate.y9 r.vs k=false->Gate.zW r=false):=fun h=>by rw [HG.out HKD.out,Gate.zaw hlt h];rfl
     by_cases hn:Gate.q9 r.vs[k]=true
     rotate_left
     ·have HN:Hid ((decide (1<=r.vs[k]) && decide (r.vs[k]<=5))=false):=by simpa [Hid,Gate.q9] using hn
      have HF:Hid (Gate.zW r=false):=HNN.out (Gate.zdd hlt (by simpa using hn))
      clear hn hup
      go_wp2_with fail
      go_quiet ((go_at_call 47;exact Calls.quiet_of_same (zf HN.out (yD _ _ _ _))))
      go_wp2_with fail
      go_ret
      exact ⟨ze HF.out.symm,below_drewN HBW1.out _⟩
     have HN:Hid ((decide (1<=r.vs[k]) && decide (r.vs[k]<=5))=true):=hn
     by_cases hk0:k=0
     ·have HS:Hid (Gate.up (Gate.y9 r.vs) (k+1)=true):=by subst hk0;unfold Hid;rw [Gate.jc,Gate.zbn hlt hn];rfl
      have hg:decide (0 < k)=false:=by simp;omega
      clear hn hup hk0
      go_wp2_with fail
      go_quiet ((go_at_call 47;exact Calls.quiet_of_same (zf HN.out (yD _ _ _ _))))
      go_wp2_with fail
      exact ⟨⟨k+1,by omega,by go_num,HS.out,below_drewN HB1.out _⟩,by simp [intOf];omega⟩
     ·have hk1:(0:Int)<=(k:Int) - 1:=by omega
      have hk2:(k:Int) - 1 < (r.vs.length:Int):=by omega
      have hg:decide (0 < k)=true:=by simp;omega
      have hkm:k - 1 < r.vs.length:=by omega
      obtain ⟨b',off',e',hb',d0⟩:=HI.out.load HBW1.out (k - 1) hkm
      simp only [Option.some.injEq,Addr.mk.injEq] at e'
      obtain ⟨rfl,rfl,_⟩:=e'
      have hva:Gate.y9 r.vs k=decide (r.vs[k - 1] < r.vs[k]):=by unfold Gate.y9;rw [Gate.getD_at r.vs k _ hlt,Gate.getD_at r.vs (k - 1) _ hkm,hn,decide_eq_false hk0];simp
      by_cases hls:r.vs[k - 1] < r.vs[k]
      ·have hls':decide (r.vs[k]<=r.vs[k - 1])=false:=by simp;omega
       have HS:Hid (Gate.up (Gate.y9 r.vs) (k+1)=true):=by unfold Hid;rw [Gate.jc,hup,hva,decide_eq_true hls];rfl
       clear hls hn hup hk0 hva
       go_wp2_with fail
       go_quiet ((go_at_call 47;exact Calls.quiet_of_same (zf HN.out (yD _ _ _ _))))
       go_wp2_with fail
       exact ⟨⟨k+1,by omega,by go_num,HS.out,below_drewN HB1.out _⟩,by simp [intOf];omega⟩
      ·have hls':decide (r.vs[k]<=r.vs[k - 1])=true:=by simp;omega
       have HF:Hid (Gate.zW r=false):=HNN.out (by rw [hva,decide_eq_false hls])
       clear hls hn hup hk0 hva
       go_wp2_with fail
       go_quiet ((go_at_call 47;exact Calls.quiet_of_same (zf HN.out (yD _ _ _ _))))
       go_wp2_with fail
       go_ret
       exact ⟨ze HF.out.symm,below_drewN HBW1.out _⟩
    ·have HF:Hid (Gate.zW r=Gate.y5 r.px):=by
      have e:k=r.vs.length:=by omega
      subst e;rw [Hid,HG.out HKD.out,hup];rfl
     have hltI:¬ (k:Int) < (r.vs.length:Int):=by omega
     clear hup HG
     go_wp2_with fail
     go_loopw [4] (fun i wi=>∃ n:Nat,n<=r.px.size/\i = .int .i64 n/\(r.px.data.toList.take n).all Gate.zJ=true/\wi=W1) (fun i _=>r.px.size - (intOf i).toNat)
     case atStart=>exact ⟨0,Nat.zero_le _,rfl,rfl,rfl⟩
     case round =>
      obtain ⟨n,hn16,rfl,hall,rfl⟩:=hrel
      by_cases hn:n < r.px.size
      ·have hnI:(n:Int) < (r.px.size:Int):=by omega
       have HS:Hid ((r.px.data.toList.take (n+1)).all Gate.zJ=(true && Gate.zJ r.px[n])):=by rw [Gate.zaE _ r.px n hn,hall];rfl
       have HNo:Hid (Gate.zJ r.px[n]=false->Gate.y5 r.px=false):=fun h=>Gate.zbJ Gate.zJ r.px n hn h
       clear hall
       by_cases hc:Gate.zJ r.px[n]=true
       ·have HC:Hid (Gate.zJ r.px[n]=true):=hc
        clear hc
        go_wp2_with (go_at_call 125;refine (zf HC.out (jS _ _)).mono ?_;rintro e w' ⟨rfl,rfl⟩)
        exact ⟨⟨n+1,by omega,by go_num,by rw [HS.out,HC.out];rfl,trivial⟩,by simp [intOf];omega⟩
       ·have HC:Hid (Gate.zJ r.px[n]=false):=by simpa [Hid] using hc
        clear hc
        go_wp2_with (go_at_call 125;refine (zf HC.out (jS _ _)).mono ?_;rintro e w' ⟨rfl,rfl⟩)
        go_ret
        exact ⟨ze (HF.out.trans (HNo.out HC.out)).symm,HBW1.out⟩
      ·have HA:Hid (Gate.y5 r.px=true):=by unfold Gate.y5 Hid;rw [<- Gate.zan r.px n (by omega)];exact hall
       have hnI:¬ (n:Int) < (r.px.size:Int):=by omega
       clear hall
       go_wp2_with fail
       go_ret
       exact ⟨ze (HF.out.trans HA.out).symm,HBW1.out⟩
  ·have HF:Hid (Gate.zW r=false):=by unfold Hid Gate.zW Gate.qM;rw [ht,HT.out];simp
   go_enter Tryz.func87,Tryz.ntmps87
   go_wp2_with (first | (go_at_call_of 86 (Value.string r.tm);refine (zf HT.out (zh r.tm _ hstm)).mono ?_;rintro e w' ⟨rfl,rfl⟩))
   go_ret
   exact ⟨ze HF.out.symm,HB.out _⟩
 ·rcases Gate.zdb r.tm with ht | ⟨ht,HT⟩ | ⟨ht,HT⟩
  ·have HKD:Hid (Gate.qM r=true):=by unfold Hid Gate.qM;rw [HK.out,ht];simp
   go_enter Tryz.func87,Tryz.ntmps87
   go_wp2_with (first | (go_at_call_of 86 (Value.string r.kd);refine (zf HK.out (zh r.kd _ hskd)).mono ?_;rintro e w' ⟨rfl,rfl⟩))
   obtain ⟨W0,hW0⟩:∃ W0,W0=w.alloc (.cells #[.slice a r.vs.length cap,.string r.kd,.string r.tm,.string r.px] 112):=⟨_,rfl⟩
   have HBW:Hid (Below w.heap.size w W0):=by unfold Hid;rw [hW0];exact HB.out _
   have hX0:∀ o,W0.cell? ⟨w.heap.size,o,none⟩=(#[.slice a r.vs.length cap,.string r.kd,.string r.tm,.string r.px]:Array Value)[o]?:=by rw [hW0];exact zl w _ _
   have hz0:w.heap.size < W0.heap.size:=by rw [hW0];simp
   rw [<- hW0]
   clear hW0
   go_loopw [3] (fun i wr=>∃ k:Nat,k<=r.vs.length/\i = .int .i64 k/\Gate.up (Gate.y9 r.vs) k=true/\Below W0.heap.size W0 wr) (fun i _=>r.vs.length - (intOf i).toNat)
   case atStart=>exact ⟨0,Nat.zero_le _,rfl,rfl,Below.refl _ _⟩
   case round =>
    obtain ⟨k,hkl,rfl,hup,hB⟩:=hrel
    obtain ⟨W1,rfl⟩:∃ W1,W1=wr:=⟨wr,rfl⟩
    have hsz:=hB.size
    have hX:=za hX0 hz0 hB
    have HB1:Hid (Below W0.heap.size W0 W1):=hB
    have HBW1:Hid (Below w.heap.size w W1):=HBW.out.trans (hB.mono (by omega))
    have hz1:w.heap.size < W1.heap.size:=by omega
    clear hX0 hB
    by_cases hlt:k < r.vs.length
    ·obtain ⟨b,off,rfl,hb,c0⟩:=HI.out.load HBW1.out k hlt
     have hbr:b < W1.heap.size:=by omega
     have hltI:(k:Int) < (r.vs.length:Int):=by omega
     have HNN:Hid (Gate.y9 r.vs k=false->Gate.zW r=false):=fun h=>by rw [HG.out HKD.out,Gate.zaw hlt h];rfl
     by_cases hn:Gate.q9 r.vs[k]=true
     rotate_left
     ·have HN:Hid ((decide (1<=r.vs[k]) && decide (r.vs[k]<=5))=false):=by simpa [Hid,Gate.q9] using hn
      have HF:Hid (Gate.zW r=false):=HNN.out (Gate.zdd hlt (by simpa using hn))
      clear hn hup
      go_wp2_with fail
      go_quiet ((go_at_call 47;exact Calls.quiet_of_same (zf HN.out (yD _ _ _ _))))
      go_wp2_with fail
      go_ret
      exact ⟨ze HF.out.symm,below_drewN HBW1.out _⟩
     have HN:Hid ((decide (1<=r.vs[k]) && decide (r.vs[k]<=5))=true):=hn
     by_cases hk0:k=0
     ·have HS:Hid (Gate.up (Gate.y9 r.vs) (k+1)=true):=by subst hk0;unfold Hid;rw [Gate.jc,Gate.zbn hlt hn];rfl
      have hg:decide (0 < k)=false:=by simp;omega
      clear hn hup hk0
      go_wp2_with fail
      go_quiet ((go_at_call 47;exact Calls.quiet_of_same (zf HN.out (yD _ _ _ _))))
      go_wp2_with fail
      exact ⟨⟨k+1,by omega,by go_num,HS.out,below_drewN HB1.out _⟩,by simp [intOf];omega⟩
     ·have hk1:(0:Int)<=(k:Int) - 1:=by omega
      have hk2:(k:Int) - 1 < (r.vs.length:Int):=by omega
      have hg:decide (0 < k)=true:=by simp;omega
      have hkm:k - 1 < r.vs.length:=by omega
      obtain ⟨b',off',e',hb',d0⟩:=HI.out.load HBW1.out (k - 1) hkm
      simp only [Option.some.injEq,Addr.mk.injEq] at e'
      obtain ⟨rfl,rfl,_⟩:=e'
      have hva:Gate.y9 r.vs k=decide (r.vs[k - 1] < r.vs[k]):=by unfold Gate.y9;rw [Gate.getD_at r.vs k _ hlt,Gate.getD_at r.vs (k - 1) _ hkm,hn,decide_eq_false hk0];simp
      by_cases hls:r.vs[k - 1] < r.vs[k]
      ·have hls':decide (r.vs[k]<=r.vs[k - 1])=false:=by simp;omega
       have HS:Hid (Gate.up (Gate.y9 r.vs) (k+1)=true):=by unfold Hid;rw [Gate.jc,hup,hva,decide_eq_true hls];rfl
       clear hls hn hup hk0 hva
       go_wp2_with fail
       go_quiet ((go_at_call 47;exact Calls.quiet_of_same (zf HN.out (yD _ _ _ _))))
       go_wp2_with fail
       exact ⟨⟨k+1,by omega,by go_num,HS.out,below_drewN HB1.out _⟩,by simp [intOf];omega⟩
      ·have hls':decide (r.vs[k]<=r.vs[k - 1])=true:=by simp;omega
       have HF:Hid (Gate.zW r=false):=HNN.out (by rw [hva,decide_eq_false hls])
       clear hls hn hup hk0 hva
       go_wp2_with fail
       go_quiet ((go_at_call 47;exact Calls.quiet_of_same (zf HN.out (yD _ _ _ _))))
       go_wp2_with fail
       go_ret
       exact ⟨ze HF.out.symm,below_drewN HBW1.out _⟩
    ·have HF:Hid (Gate.zW r=Gate.y5 r.px):=by
      have e:k=r.vs.length:=by omega
      subst e;rw [Hid,HG.out HKD.out,hup];rfl
     have hltI:¬ (k:Int) < (r.vs.length:Int):=by omega
     clear hup HG
     go_wp2_with fail
     go_loopw [4] (fun i wi=>∃ n:Nat,n<=r.px.size/\i = .int .i64 n/\(r.px.data.toList.take n).all Gate.zJ=true/\wi=W1) (fun i _=>r.px.size - (intOf i).toNat)
     case atStart=>exact ⟨0,Nat.zero_le _,rfl,rfl,rfl⟩
     case round =>
      obtain ⟨n,hn16,rfl,hall,rfl⟩:=hrel
      by_cases hn:n < r.px.size
      ·have hnI:(n:Int) < (r.px.size:Int):=by omega
       have HS:Hid ((r.px.data.toList.take (n+1)).all Gate.zJ=(true && Gate.zJ r.px[n])):=by rw [Gate.zaE _ r.px n hn,hall];rfl
       have HNo:Hid (Gate.zJ r.px[n]=false->Gate.y5 r.px=false):=fun h=>Gate.zbJ Gate.zJ r.px n hn h
       clear hall
       by_cases hc:Gate.zJ r.px[n]=true
       ·have HC:Hid (Gate.zJ r.px[n]=true):=hc
        clear hc
        go_wp2_with (go_at_call 125;refine (zf HC.out (jS _ _)).mono ?_;rintro e w' ⟨rfl,rfl⟩)
        exact ⟨⟨n+1,by omega,by go_num,by rw [HS.out,HC.out];rfl,trivial⟩,by simp [intOf];omega⟩
       ·have HC:Hid (Gate.zJ r.px[n]=false):=by simpa [Hid] using hc
        clear hc
        go_wp2_with (go_at_call 125;refine (zf HC.out (jS _ _)).mono ?_;rintro e w' ⟨rfl,rfl⟩)
        go_ret
        exact ⟨ze (HF.out.trans (HNo.out HC.out)).symm,HBW1.out⟩
      ·have HA:Hid (Gate.y5 r.px=true):=by unfold Gate.y5 Hid;rw [<- Gate.zan r.px n (by omega)];exact hall
       have hnI:¬ (n:Int) < (r.px.size:Int):=by omega
       clear hall
       go_wp2_with fail
       go_ret
       exact ⟨ze (HF.out.trans HA.out).symm,HBW1.out⟩
  ·have HKD:Hid (Gate.qM r=true):=by unfold Hid Gate.qM;rw [HK.out,HT.out];simp
   go_enter Tryz.func87,Tryz.ntmps87
   go_wp2_with (first | (go_at_call_of 86 (Value.string r.kd);refine (zf HK.out (zh r.kd _ hskd)).mono ?_;rintro e w' ⟨rfl,rfl⟩) | (go_at_call_of 86 (Value.string r.tm);refine (zf HT.out (zh r.tm _ hstm)).mono ?_;rintro e w' ⟨rfl,rfl⟩))
   obtain ⟨W0,hW0⟩:∃ W0,W0=w.alloc (.cells #[.slice a r.vs.length cap,.string r.kd,.string r.tm,.string r.px] 112):=⟨_,rfl⟩
   have HBW:Hid (Below w.heap.size w W0):=by unfold Hid;rw [hW0];exact HB.out _
   have hX0:∀ o,W0.cell? ⟨w.heap.size,o,none⟩=(#[.slice a r.vs.length cap,.string r.kd,.string r.tm,.string r.px]:Array Value)[o]?:=by rw [hW0];exact zl w _ _
   have hz0:w.heap.size < W0.heap.size:=by rw [hW0];simp
   rw [<- hW0]
   clear hW0
   go_loopw [3] (fun i wr=>∃ k:Nat,k<=r.vs.length/\i = .int .i64 k/\Gate.up (Gate.y9 r.vs) k=true/\Below W0.heap.size W0 wr) (fun i _=>r.vs.length - (intOf i).toNat)
   case atStart=>exact ⟨0,Nat.zero_le _,rfl,rfl,Below.refl _ _⟩
   case round =>
    obtain ⟨k,hkl,rfl,hup,hB⟩:=hrel
    obtain ⟨W1,rfl⟩:∃ W1,W1=wr:=⟨wr,rfl⟩
    have hsz:=hB.size
    have hX:=za hX0 hz0 hB
    have HB1:Hid (Below W0.heap.size W0 W1):=hB
    have HBW1:Hid (Below w.heap.size w W1):=HBW.out.trans (hB.mono (by omega))
    have hz1:w.heap.size < W1.heap.size:=by omega
    clear hX0 hB
    by_cases hlt:k < r.vs.length
    ·obtain ⟨b,off,rfl,hb,c0⟩:=HI.out.load HBW1.out k hlt
     have hbr:b < W1.heap.size:=by omega
     have hltI:(k:Int) < (r.vs.length:Int):=by omega
     have HNN:Hid (Gate.y9 r.vs k=false->Gate.zW r=false):=fun h=>by rw [HG.out HKD.out,Gate.zaw hlt h];rfl
     by_cases hn:Gate.q9 r.vs[k]=true
     rotate_left
     ·have HN:Hid ((decide (1<=r.vs[k]) && decide (r.vs[k]<=5))=false):=by simpa [Hid,Gate.q9] using hn
      have HF:Hid (Gate.zW r=false):=HNN.out (Gate.zdd hlt (by simpa using hn))
      clear hn hup
      go_wp2_with fail
      go_quiet ((go_at_call 47;exact Calls.quiet_of_same (zf HN.out (yD _ _ _ _))))
      go_wp2_with fail
      go_ret
      exact ⟨ze HF.out.symm,below_drewN HBW1.out _⟩
     have HN:Hid ((decide (1<=r.vs[k]) && decide (r.vs[k]<=5))=true):=hn
     by_cases hk0:k=0
     ·have HS:Hid (Gate.up (Gate.y9 r.vs) (k+1)=true):=by subst hk0;unfold Hid;rw [Gate.jc,Gate.zbn hlt hn];rfl
      have hg:decide (0 < k)=false:=by simp;omega
      clear hn hup hk0
      go_wp2_with fail
      go_quiet ((go_at_call 47;exact Calls.quiet_of_same (zf HN.out (yD _ _ _ _))))
      go_wp2_with fail
      exact ⟨⟨k+1,by omega,by go_num,HS.out,below_drewN HB1.out _⟩,by simp [intOf];omega⟩
     ·have hk1:(0:Int)<=(k:Int) - 1:=by omega
      have hk2:(k:Int) - 1 < (r.vs.length:Int):=by omega
      have hg:decide (0 < k)=true:=by simp;omega
      have hkm:k - 1 < r.vs.length:=by omega
      obtain ⟨b',off',e',hb',d0⟩:=HI.out.load HBW1.out (k - 1) hkm
      simp only [Option.some.injEq,Addr.mk.injEq] at e'
      obtain ⟨rfl,rfl,_⟩:=e'
      have hva:Gate.y9 r.vs k=decide (r.vs[k - 1] < r.vs[k]):=by unfold Gate.y9;rw [Gate.getD_at r.vs k _ hlt,Gate.getD_at r.vs (k - 1) _ hkm,hn,decide_eq_false hk0];simp
      by_cases hls:r.vs[k - 1] < r.vs[k]
      ·have hls':decide (r.vs[k]<=r.vs[k - 1])=false:=by simp;omega
       have HS:Hid (Gate.up (Gate.y9 r.vs) (k+1)=true):=by unfold Hid;rw [Gate.jc,hup,hva,decide_eq_true hls];rfl
       clear hls hn hup hk0 hva
       go_wp2_with fail
       go_quiet ((go_at_call 47;exact Calls.quiet_of_same (zf HN.out (yD _ _ _ _))))
       go_wp2_with fail
       exact ⟨⟨k+1,by omega,by go_num,HS.out,below_drewN HB1.out _⟩,by simp [intOf];omega⟩
      ·have hls':decide (r.vs[k]<=r.vs[k - 1])=true:=by simp;omega
       have HF:Hid (Gate.zW r=false):=HNN.out (by rw [hva,decide_eq_false hls])
       clear hls hn hup hk0 hva
       go_wp2_with fail
       go_quiet ((go_at_call 47;exact Calls.quiet_of_same (zf HN.out (yD _ _ _ _))))
       go_wp2_with fail
       go_ret
       exact ⟨ze HF.out.symm,below_drewN HBW1.out _⟩
    ·have HF:Hid (Gate.zW r=Gate.y5 r.px):=by
      have e:k=r.vs.length:=by omega
      subst e;rw [Hid,HG.out HKD.out,hup];rfl
     have hltI:¬ (k:Int) < (r.vs.length:Int):=by omega
     clear hup HG
     go_wp2_with fail
     go_loopw [4] (fun i wi=>∃ n:Nat,n<=r.px.size/\i = .int .i64 n/\(r.px.data.toList.take n).all Gate.zJ=true/\wi=W1) (fun i _=>r.px.size - (intOf i).toNat)
     case atStart=>exact ⟨0,Nat.zero_le _,rfl,rfl,rfl⟩
     case round =>
      obtain ⟨n,hn16,rfl,hall,rfl⟩:=hrel
      by_cases hn:n < r.px.size
      ·have hnI:(n:Int) < (r.px.size:Int):=by omega
       have HS:Hid ((r.px.data.toList.take (n+1)).all Gate.zJ=(true && Gate.zJ r.px[n])):=by rw [Gate.zaE _ r.px n hn,hall];rfl
       have HNo:Hid (Gate.zJ r.px[n]=false->Gate.y5 r.px=false):=fun h=>Gate.zbJ Gate.zJ r.px n hn h
       clear hall
       by_cases hc:Gate.zJ r.px[n]=true
       ·have HC:Hid (Gate.zJ r.px[n]=true):=hc
        clear hc
        go_wp2_with (go_at_call 125;refine (zf HC.out (jS _ _)).mono ?_;rintro e w' ⟨rfl,rfl⟩)
        exact ⟨⟨n+1,by omega,by go_num,by rw [HS.out,HC.out];rfl,trivial⟩,by simp [intOf];omega⟩
       ·have HC:Hid (Gate.zJ r.px[n]=false):=by simpa [Hid] using hc
        clear hc
        go_wp2_with (go_at_call 125;refine (zf HC.out (jS _ _)).mono ?_;rintro e w' ⟨rfl,rfl⟩)
        go_ret
        exact ⟨ze (HF.out.trans (HNo.out HC.out)).symm,HBW1.out⟩
      ·have HA:Hid (Gate.y5 r.px=true):=by unfold Gate.y5 Hid;rw [<- Gate.zan r.px n (by omega)];exact hall
       have hnI:¬ (n:Int) < (r.px.size:Int):=by omega
       clear hall
       go_wp2_with fail
       go_ret
       exact ⟨ze (HF.out.trans HA.out).symm,HBW1.out⟩
  ·have HF:Hid (Gate.zW r=false):=by unfold Hid Gate.zW Gate.qM;rw [ht,HT.out];simp
   go_enter Tryz.func87,Tryz.ntmps87
   go_wp2_with (first | (go_at_call_of 86 (Value.string r.kd);refine (zf HK.out (zh r.kd _ hskd)).mono ?_;rintro e w' ⟨rfl,rfl⟩) | (go_at_call_of 86 (Value.string r.tm);refine (zf HT.out (zh r.tm _ hstm)).mono ?_;rintro e w' ⟨rfl,rfl⟩))
   go_ret
   exact ⟨ze HF.out.symm,HB.out _⟩
 ·have HF:Hid (Gate.zW r=false):=by unfold Hid Gate.zW Gate.qM;rw [hk,HK.out];simp
  go_enter Tryz.func87,Tryz.ntmps87
  go_wp2_with (first | (go_at_call_of 86 (Value.string r.kd);refine (zf HK.out (zh r.kd _ hskd)).mono ?_;rintro e w' ⟨rfl,rfl⟩))
  go_ret
  exact ⟨ze HF.out.symm,HB.out _⟩
end Go.Proofs.YtaickbhifenbjaaGreat
