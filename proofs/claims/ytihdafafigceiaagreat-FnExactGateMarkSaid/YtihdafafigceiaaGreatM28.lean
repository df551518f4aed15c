import Derived.Test.YtihdafafigceiaaGreatM07
import Derived.Test.YtihdafafigceiaaGreatM10
import Derived.Test.YtihdafafigceiaaGreatM14
import Derived.Test.YtihdafafigceiaaGreatM04
import Derived.Deep.QuietTactic
import Derived.BigQuiet
import Derived.Test.YtihdafafigceiaaGreatM27
import Derived.Test.YtihdafafigceiaaGreatM24
set_option maxHeartbeats 4000000
namespace Go.Proofs.YtihdafafigceiaaGreat
open Go.RowKit
namespace Gate
def yL (f:Fld) (v res:ByteArray):Int:=if f.kd=1/\f.wg=res then zay v else 0
def zdx (fs:List Fld) (vs:List ByteArray) (res:ByteArray):Nat->Int
 | 0=>0
 | k+1=>zdx fs vs res k+yL (fs.getD k zbv) (vs.getD k ByteArray.empty) res
def qU (ss:List Shp) (o:Ob) (res:ByteArray):Int :=
 if zx ss o=true/\res.toList.isEmpty=false then (if res=o.kd then 1 else 0)+zdx (shapeOf ss o.kd).fs o.vs res (shapeOf ss o.kd).fs.length else 0
theorem zdz (s:ByteArray):0<=zay s/\zay s<=10000000:=by
 unfold zay
 split
 ·rename_i h
  refine ⟨zcM s h,?_⟩
  unfold zai at h
  simp only [Bool.and_eq_true,decide_eq_true_eq] at h
  have:=(zeG s.data.toList h.2 7 (by have:=h.1.1.2;simpa using this)).2
  unfold zfX
  omega
 ·omega
theorem zgb (f:Fld) (v res:ByteArray):0<=yL f v res/\yL f v res<=10000000:=by
 unfold yL
 split
 ·exact zdz v
 ·omega
theorem zcm (fs:List Fld) (vs:List ByteArray) (res:ByteArray):∀ k,0<=zdx fs vs res k/\zdx fs vs res k<=k * 10000000
 | 0=>by simp [zdx]
 | k+1=>by
  have h1:=zcm fs vs res k
  have h2:=zgb (fs.getD k zbv) (vs.getD k ByteArray.empty) res
  simp only [zdx]
  omega
theorem zfH (ss:List Shp) (o:Ob) (res:ByteArray) (h:o.vs.length<=1048576):0<=qU ss o res/\qU ss o res<=20000000000000:=by
 unfold qU
 split
 ·rename_i hc
  have hc1:=hc.1
  unfold zx at hc1
  simp only [Bool.and_eq_true,decide_eq_true_eq] at hc1
  have:=zcm (shapeOf ss o.kd).fs o.vs res (shapeOf ss o.kd).fs.length
  have h3:=hc1.2
  split <;> omega
 ·omega
theorem znw (fs:List Fld) (vs:List ByteArray) (res:ByteArray) (k:Nat) (h:k < fs.length) (h':k < vs.length):zdx fs vs res (k+1)=zdx fs vs res k+yL fs[k] vs[k] res:=by
 have e1:fs.getD k zbv=fs[k]:=by simp [List.getD,h]
 have e2:vs.getD k ByteArray.empty=vs[k]:=by simp [List.getD,h']
 simp only [zdx]
 rw [e1,e2]
end Gate
theorem zir {p:Prop} (h:p):Hid p:=h
theorem qz (w:World) (X Y:Array Value) (s t:TypeId):(∀ j,((w.alloc (.cells X s)).alloc (.cells Y t)).cell? ⟨w.heap.size,j,none⟩=X[j]?)/\∀ j,((w.alloc (.cells X s)).alloc (.cells Y t)).cell? ⟨w.heap.size+1,j,none⟩=Y[j]?:=by
 refine ⟨za (zm w X s) (by simp) ((Below.refl _ _).alloc (Nat.le_refl _) _),fun j=>?_⟩
 have h:=zm (w.alloc (.cells X s)) Y t j
 rw [World.size_alloc] at h
 exact h
theorem zjt (l:Lw) (la lb lc:Option Addr) (lca lcb lcc:Nat) (o:Ob) (oa oa':Option Addr) (ocap ocap':Nat) (res:ByteArray) (w:World) (hl:y9 w l la lb lc) (_ho:qj w o oa oa') (hc:¬ (Gate.zx l.ss o=true/\res.toList.isEmpty=false)) :
 Calls Tryz.prog 215 #[.agg (l.cells la lb lc lca lcb lcc),.agg #[.string o.kd,.string o.nm,.string o.tm,.slice oa o.vs.length ocap,.bool o.en,.slice oa' o.hs.length ocap',.int .i64 o.vr],.string res] w fun e w'=>e = .returned (.int .i64 (Gate.qU l.ss o res))/\Below w.heap.size w w':=by
 have HL:Hid (y9 w l la lb lc):=hl
 have HW:Hid (Gate.qU l.ss o res=0):=by unfold Hid Gate.qU;rw [if_neg hc]
 have HC:Hid (¬ (Gate.zx l.ss o=true/\res.toList.isEmpty=false)):=hc
 clear hl hc
 unfold Lw.cells
 go_enter Tryz.func215,Tryz.ntmps215
 go_wp2_with fail
 refine (qJ _ _ l.ss o.kd _ (HL.out.ss.mono (zA _ _ _))).mono ?_
 rintro e w1 ⟨fa,fcap,rfl,hfl,hb⟩
 obtain ⟨hX0,hY0⟩:=qz w #[.slice la l.ss.length lca,.slice lb l.ms.length lcb,.slice lc l.ts.length lcc] #[.string o.kd,.string o.nm,.string o.tm,.slice oa o.vs.length ocap,.bool o.en,.slice oa' o.hs.length ocap',.int .i64 o.vr] 41 115
 have hX1:=za hX0 (by simp;omega) hb
 have hY1:=za hY0 (by simp) hb
 have hz1:w.heap.size+1 < w1.heap.size:=by have:=hb.size;simp at this;omega
 have HB1:Hid (Below w.heap.size w w1):=(zA w _ _).trans (hb.mono (by simp;omega))
 clear hfl hb hX0 hY0
 by_cases hk:Gate.zG l.ss o.kd=true
 rotate_left
 ·have hk':Gate.zG l.ss o.kd=false:=by simpa using hk
  rw [hk']
  clear hk hk'
  go_wp2_with fail
  go_ret
  exact ⟨zq HW.out.symm,HB1.out.alloc HB1.out.size _⟩
 by_cases he:res.toList.isEmpty=true
 ·have HK:Hid (Gate.zG l.ss o.kd=true):=hk
  rw [HK.out]
  clear hk
  go_wp2_with fail
  go_ret
  exact ⟨zq HW.out.symm,HB1.out.alloc HB1.out.size _⟩
 ·have he':res.toList.isEmpty=false:=by simpa using he
  have hne:((o.vs.length:Int) != ((Gate.shapeOf l.ss o.kd).fs.length:Int))=true:=by
   have h:=HC.out
   unfold Gate.zx at h
   rw [hk] at h
   simp only [Bool.true_and,decide_eq_true_eq] at h
   have h2:¬ o.vs.length=(Gate.shapeOf l.ss o.kd).fs.length:=fun e=>h ⟨e,he'⟩
   simp;omega
  have HK:Hid (Gate.zG l.ss o.kd=true):=hk
  rw [HK.out]
  clear he hk
  go_wp2_with fail
  go_ret
  exact ⟨zq HW.out.symm,HB1.out.alloc HB1.out.size _⟩
theorem ziW (l:Lw) (la lb lc:Option Addr) (lca lcb lcc:Nat) (o:Ob) (oa oa':Option Addr) (ocap ocap':Nat) (res:ByteArray) (w:World) (hl:y9 w l la lb lc) (ho:qj w o oa oa') (hc:Gate.zx l.ss o=true) (he:res.toList.isEmpty=false) (hlen:o.vs.length<=1048576) :
 Calls Tryz.prog 215 #[.agg (l.cells la lb lc lca lcb lcc),.agg #[.string o.kd,.string o.nm,.string o.tm,.slice oa o.vs.length ocap,.bool o.en,.slice oa' o.hs.length ocap',.int .i64 o.vr],.string res] w fun e w'=>e = .returned (.int .i64 (Gate.qU l.ss o res))/\Below w.heap.size w w':=by
 have HL:Hid (y9 w l la lb lc):=hl
 have HO:Hid (qj w o oa oa'):=ho
 have HW:Hid (Gate.qU l.ss o res=(if res=o.kd then 1 else 0)+Gate.zdx (Gate.shapeOf l.ss o.kd).fs o.vs res (Gate.shapeOf l.ss o.kd).fs.length):=by unfold Hid Gate.qU;rw [if_pos ⟨hc,he⟩]
 have HK:Hid (Gate.zG l.ss o.kd=true/\o.vs.length=(Gate.shapeOf l.ss o.kd).fs.length):=by unfold Gate.zx at hc;unfold Hid;simpa using hc
 have HN:Hid (o.vs.length<=1048576):=hlen
 clear hl ho hc hlen
 unfold Lw.cells
 go_enter Tryz.func215,Tryz.ntmps215
 go_wp2_with fail
 refine (qJ _ _ l.ss o.kd _ (HL.out.ss.mono (zA _ _ _))).mono ?_
 rintro e w1 ⟨fa,fcap,rfl,hfl,hb⟩
 obtain ⟨hX0,hY0⟩:=qz w #[.slice la l.ss.length lca,.slice lb l.ms.length lcb,.slice lc l.ts.length lcc] #[.string o.kd,.string o.nm,.string o.tm,.slice oa o.vs.length ocap,.bool o.en,.slice oa' o.hs.length ocap',.int .i64 o.vr] 41 115
 have hY1:=za hY0 (by simp) hb
 have hz1:w.heap.size+1 < w1.heap.size:=by have:=hb.size;simp at this;omega
 have HB1:Hid (Below w.heap.size w w1):=(zA w _ _).trans (hb.mono (by simp;omega))
 have HFl:Hid (zP w1 fa (Gate.shapeOf l.ss o.kd).fs):=hfl.mono hb
 clear hfl hb hX0 hY0
 rw [HK.out.1]
 obtain ⟨S,HS⟩:∃ S,Hid (S=Gate.shapeOf l.ss o.kd):=⟨_,rfl⟩
 rw [<- HS.out] at HFl HK HW ⊢
 have hne:((o.vs.length:Int) != (S.fs.length:Int))=false:=by have:=HK.out.2;simp [this]
 obtain ⟨n0,hn0⟩:∃ n0:Int,n0=if res=o.kd then 1 else 0:=⟨_,rfl⟩
 have hb0:0<=n0/\n0<=1:=by rw [hn0];split <;> omega
 rw [<- hn0] at HW
 have HN0:Hid (n0=if res=o.kd then 1 else 0):=hn0
 clear hn0
 by_cases hk:res=o.kd
 all_goals (
  first
  | (have hq:(res.toList == o.kd.toList)=true:=by rw [Gate.beq_toList];simpa using hk)
  | (have hq:(res.toList == o.kd.toList)=false:=by rw [Gate.beq_toList];simpa using hk)
  have HKE:=zir hk
  clear hk
  go_wp2_with fail
  go_loopw [9,44] (fun nv iv wr=>∃ (k:Nat) (s:Int),k<=S.fs.length/\iv = .int .i64 k/\nv = .int .i64 s/\Hid (s=n0+Gate.zdx S.fs o.vs res k/\Below w1.heap.size w1 wr)) (fun _ iv _=>S.fs.length - (intOf iv).toNat)
  case atStart=>exact ⟨0,n0,Nat.zero_le _,rfl,by have:=HN0.out;first | (rw [if_pos HKE.out] at this;rw [this]) | (rw [if_neg HKE.out] at this;rw [this]),by simp [Gate.zdx],(Below.refl _ _).alloc (Nat.le_refl _) _⟩
  case round =>
   obtain ⟨k,s,hk,rfl,rfl,HQ⟩:=hrel
   have hsb:0<=s/\s<=1+k * 10000000:=by have h1:=HQ.out.1;have h2:=Gate.zcm S.fs o.vs res k;omega
   have hkn:k<=1048576:=by have:=HN.out;have:=HK.out.2;omega
   by_cases hlt:k < S.fs.length
   ·obtain ⟨b,off,rfl,hb,hr⟩:=HFl.out.rows (by intro e;rw [e] at hlt;simp at hlt)
    obtain ⟨wa,wcap,hf⟩:=hr k hlt
    obtain ⟨c0,c1,c2,c3,c4,c5,c6,c7,c8,c9,c10⟩:=(hf.mono hb HQ.out.2).load
    have hlv:k < o.vs.length:=by have:=HK.out.2;omega
    have hltI:(k:Int) < (S.fs.length:Int):=by omega
    have hlvI:(k:Int) < (o.vs.length:Int):=by omega
    obtain ⟨vb,voff,rfl,hvb,hvc0⟩:=HO.out.vals.cells (by intro e;rw [e] at hlv;simp at hlv)
    have hvc:=((HB1.out.trans (HQ.out.2.mono HB1.out.size)).cell (p:=⟨vb,voff+k,none⟩) hvb).trans (hvc0 k hlv)
    have hvb':vb < wr.heap.size:=Nat.lt_of_lt_of_le hvb (HB1.out.trans (HQ.out.2.mono HB1.out.size)).size
    have hb':b < wr.heap.size:=Nat.lt_of_lt_of_le hb HQ.out.2.size
    have hY:=za hY1 hz1 HQ.out.2
    have hz:w.heap.size+1 < wr.heap.size:=Nat.lt_of_lt_of_le hz1 HQ.out.2.size
    have HSt:=Gate.znw S.fs o.vs res k hlt hlv
    have HSt:Hid (Gate.zdx S.fs o.vs res (k+1)=Gate.zdx S.fs o.vs res k+Gate.yL S.fs[k] o.vs[k] res):=HSt
    have HVs:Hid (o.vs[k].size<=maxLen):=HO.out.vals.small _ (List.getElem_mem _)
    have HBo:Hid (∀ ob,Below w1.heap.size w1 (wr.alloc ob)):=fun ob=>HQ.out.2.alloc HQ.out.2.size _
    clear hf hr hvc0
    by_cases h1:S.fs[k].kd=1
    ·have e1:(S.fs[k].kd == 1)=true:=by simpa using h1
     by_cases h2:S.fs[k].wg=res
     ·have e2:(S.fs[k].wg.toList == res.toList)=true:=by rw [Gate.beq_toList];simpa using h2
      have HFw:Hid (Gate.yL S.fs[k] o.vs[k] res=zay o.vs[k]):=by unfold Hid Gate.yL;rw [if_pos ⟨h1,h2⟩]
      have hdb:=Gate.zdz o.vs[k]
      clear h1 h2
      go_wp2_with fail
      refine (zcR o.vs[k] _ HVs.out).mono ?_
      rintro e w2 ⟨rfl,rfl⟩
      go_wp2_with fail
      exact ⟨⟨k+1,s+zay o.vs[k],by omega,by go_num,by go_num,by rw [HSt.out,HFw.out,HQ.out.1];omega,HBo.out _⟩,zn hlt⟩
     ·have e2:(S.fs[k].wg.toList == res.toList)=false:=by rw [Gate.beq_toList];simpa using h2
      have HFw:Hid (Gate.yL S.fs[k] o.vs[k] res=0):=by unfold Hid Gate.yL;rw [if_neg (fun h=>h2 h.2)]
      clear h1 h2
      go_wp2_with fail
      exact ⟨⟨k+1,s,by omega,by go_num,rfl,by rw [HSt.out,HFw.out,HQ.out.1];omega,HBo.out _⟩,zn hlt⟩
    ·have e1:(S.fs[k].kd == 1)=false:=by simpa using h1
     have HFw:Hid (Gate.yL S.fs[k] o.vs[k] res=0):=by unfold Hid Gate.yL;rw [if_neg (fun h=>h1 h.1)]
     clear h1
     go_wp2_with fail
     exact ⟨⟨k+1,s,by omega,by go_num,rfl,by rw [HSt.out,HFw.out,HQ.out.1];omega,HBo.out _⟩,zn hlt⟩
   ·have e:k=S.fs.length:=by omega
    subst e
    have HE:Hid (Gate.qU l.ss o res=s):=by unfold Hid;rw [HW.out,HQ.out.1]
    clear hlt hk
    go_wp2_with fail
    go_ret
    exact ⟨zq HE.out.symm,HB1.out.trans (HQ.out.2.mono HB1.out.size)⟩)
def Gate.within (n lo hi:Int):Bool:=decide (lo<=n) && decide (n<=hi)
theorem zj9 (W:World) (k1 k2:Int):Calls Tryz.prog 189 #[.slice (some ⟨W.heap.size,0,none⟩) 2 2] (W.alloc (.cells #[.int .i64 k1,.int .i64 k2] 3)).drew fun e w'=>e = .returned (.int .i64 (Gate.zcD [k1,k2]))/\w'=(W.alloc (.cells #[.int .i64 k1,.int .i64 k2] 3)).drew :=
 zjU (some ⟨W.heap.size,0,none⟩) 2 [k1,k2] _ ((zgN (alloc_at _ _) (by simp [maxLen])).mono (Below.refl _ _).drew) (by simp)
theorem zlP (W:World) (k1 k2 k3:Int):Calls Tryz.prog 189 #[.slice (some ⟨W.heap.size,0,none⟩) 3 3] (W.alloc (.cells #[.int .i64 k1,.int .i64 k2,.int .i64 k3] 3)).drew fun e w'=>e = .returned (.int .i64 (Gate.zcD [k1,k2,k3]))/\w'=(W.alloc (.cells #[.int .i64 k1,.int .i64 k2,.int .i64 k3] 3)).drew :=
 zjU (some ⟨W.heap.size,0,none⟩) 3 [k1,k2,k3] _ ((zgN (alloc_at _ _) (by simp [maxLen])).mono (Below.refl _ _).drew) (by simp)
theorem zhK (o p:Ob) (a0 a1 b0 b1:Option Addr) (c0 c1 d0 d1:Nat) (w:World) :
 Calls Tryz.prog 147 #[.agg (o.row a0 a1 c0 c1),.agg (p.row b0 b1 d0 d1)] w fun e w'=>e = .returned (.int .i64 (Gate.zaQ o p))/\Below w.heap.size w w':=by
 have HR:Hid (Gate.zcD [Gate.key o.kd p.kd,Gate.key o.nm p.nm]=Gate.zaQ o p):=by unfold Hid;rw [Gate.zkb];rfl
 unfold Ob.row
 go_enter Tryz.func147,Tryz.ntmps147
 go_wp2_with fail
 obtain ⟨hX0,hY0⟩:=qz w #[.string o.kd,.string o.nm,.string o.tm,.slice a0 o.vs.length c0,.bool o.en,.slice a1 o.hs.length c1,.int .i64 o.vr] #[.string p.kd,.string p.nm,.string p.tm,.slice b0 p.vs.length d0,.bool p.en,.slice b1 p.hs.length d1,.int .i64 p.vr] 115 115
 have HB0:Hid (Below w.heap.size w ((w.alloc (.cells #[.string o.kd,.string o.nm,.string o.tm,.slice a0 o.vs.length c0,.bool o.en,.slice a1 o.hs.length c1,.int .i64 o.vr] 115)).alloc (.cells #[.string p.kd,.string p.nm,.string p.tm,.slice b0 p.vs.length d0,.bool p.en,.slice b1 p.hs.length d1,.int .i64 p.vr] 115))):=zA w _ _
 obtain ⟨W0,hW0⟩:∃ W0,W0=(w.alloc (.cells #[.string o.kd,.string o.nm,.string o.tm,.slice a0 o.vs.length c0,.bool o.en,.slice a1 o.hs.length c1,.int .i64 o.vr] 115)).alloc (.cells #[.string p.kd,.string p.nm,.string p.tm,.slice b0 p.vs.length d0,.bool p.en,.slice b1 p.hs.length d1,.int .i64 p.vr] 115):=⟨_,rfl⟩
 have hz0:w.heap.size+1 < W0.heap.size:=by rw [hW0];simp
 rw [<- hW0] at HB0 hX0 hY0 ⊢
 clear hW0
 have hS:(∀ j,W0.drew.cell? ⟨w.heap.size,j,none⟩=(#[.string o.kd,.string o.nm,.string o.tm,.slice a0 o.vs.length c0,.bool o.en,.slice a1 o.hs.length c1,.int .i64 o.vr]:Array Value)[j]?)/\(∀ j,W0.drew.cell? ⟨w.heap.size+1,j,none⟩=(#[.string p.kd,.string p.nm,.string p.tm,.slice b0 p.vs.length d0,.bool p.en,.slice b1 p.hs.length d1,.int .i64 p.vr]:Array Value)[j]?):=⟨hX0,hY0⟩
 have hSa:∀ ob,(∀ j,(W0.alloc ob).drew.cell? ⟨w.heap.size,j,none⟩=(#[.string o.kd,.string o.nm,.string o.tm,.slice a0 o.vs.length c0,.bool o.en,.slice a1 o.hs.length c1,.int .i64 o.vr]:Array Value)[j]?)/\(∀ j,(W0.alloc ob).drew.cell? ⟨w.heap.size+1,j,none⟩=(#[.string p.kd,.string p.nm,.string p.tm,.slice b0 p.vs.length d0,.bool p.en,.slice b1 p.hs.length d1,.int .i64 p.vr]:Array Value)[j]?):=fun ob=>⟨za (b:=w.heap.size) (wk:=W0) hX0 (Nat.lt_of_succ_lt hz0) (((Below.refl _ _).alloc (Nat.le_refl _) _).drew),za (b:=w.heap.size+1) (wk:=W0) hY0 hz0 (((Below.refl _ _).alloc (Nat.le_refl _) _).drew)⟩
 clear hX0 hY0
 go_region_held3 (fun w'=>(∀ j,w'.cell? ⟨w.heap.size,j,none⟩=(#[.string o.kd,.string o.nm,.string o.tm,.slice a0 o.vs.length c0,.bool o.en,.slice a1 o.hs.length c1,.int .i64 o.vr]:Array Value)[j]?)/\(∀ j,w'.cell? ⟨w.heap.size+1,j,none⟩=(#[.string p.kd,.string p.nm,.string p.tm,.slice b0 p.vs.length d0,.bool p.en,.slice b1 p.hs.length d1,.int .i64 p.vr]:Array Value)[j]?)) (first | exact hS | exact hSa _) (first
  | (go_at_call 190;refine (zef _ _ _).mono ?_;rintro e w3 ⟨rfl,rfl⟩)
  | (go_at_call 189;refine (zj9 _ _ _).mono ?_;rintro e w3 ⟨rfl,rfl⟩))
 go_wp2_with fail
 go_ret
 exact ⟨zq HR.out,(HB0.out.alloc HB0.out.size _).drew⟩
theorem zb4 (o p:Lg) (w:World) :
 Calls Tryz.prog 155 #[.agg o.cells,.agg p.cells] w fun e w'=>e = .returned (.int .i64 (Gate.qA o p))/\Below w.heap.size w w':=by
 have HR:Hid (Gate.zcD [Gate.key o.tm p.tm,Gate.key o.rs p.rs]=Gate.qA o p):=by unfold Hid;rw [Gate.zkb];rfl
 unfold Lg.cells
 go_enter Tryz.func155,Tryz.ntmps155
 go_wp2_with fail
 obtain ⟨hX0,hY0⟩:=qz w #[.string o.tm,.string o.rs,.int .i64 o.mo,.int .i64 o.fr] #[.string p.tm,.string p.rs,.int .i64 p.mo,.int .i64 p.fr] 130 130
 have HB0:Hid (Below w.heap.size w ((w.alloc (.cells #[.string o.tm,.string o.rs,.int .i64 o.mo,.int .i64 o.fr] 130)).alloc (.cells #[.string p.tm,.string p.rs,.int .i64 p.mo,.int .i64 p.fr] 130))):=zA w _ _
 obtain ⟨W0,hW0⟩:∃ W0,W0=(w.alloc (.cells #[.string o.tm,.string o.rs,.int .i64 o.mo,.int .i64 o.fr] 130)).alloc (.cells #[.string p.tm,.string p.rs,.int .i64 p.mo,.int .i64 p.fr] 130):=⟨_,rfl⟩
 have hz0:w.heap.size+1 < W0.heap.size:=by rw [hW0];simp
 rw [<- hW0] at HB0 hX0 hY0 ⊢
 clear hW0
 have hS:(∀ j,W0.drew.cell? ⟨w.heap.size,j,none⟩=(#[.string o.tm,.string o.rs,.int .i64 o.mo,.int .i64 o.fr]:Array Value)[j]?)/\(∀ j,W0.drew.cell? ⟨w.heap.size+1,j,none⟩=(#[.string p.tm,.string p.rs,.int .i64 p.mo,.int .i64 p.fr]:Array Value)[j]?):=⟨hX0,hY0⟩
 have hSa:∀ ob,(∀ j,(W0.alloc ob).drew.cell? ⟨w.heap.size,j,none⟩=(#[.string o.tm,.string o.rs,.int .i64 o.mo,.int .i64 o.fr]:Array Value)[j]?)/\(∀ j,(W0.alloc ob).drew.cell? ⟨w.heap.size+1,j,none⟩=(#[.string p.tm,.string p.rs,.int .i64 p.mo,.int .i64 p.fr]:Array Value)[j]?):=fun ob=>⟨za (b:=w.heap.size) (wk:=W0) hX0 (Nat.lt_of_succ_lt hz0) (((Below.refl _ _).alloc (Nat.le_refl _) _).drew),za (b:=w.heap.size+1) (wk:=W0) hY0 hz0 (((Below.refl _ _).alloc (Nat.le_refl _) _).drew)⟩
 clear hX0 hY0
 go_region_held3 (fun w'=>(∀ j,w'.cell? ⟨w.heap.size,j,none⟩=(#[.string o.tm,.string o.rs,.int .i64 o.mo,.int .i64 o.fr]:Array Value)[j]?)/\(∀ j,w'.cell? ⟨w.heap.size+1,j,none⟩=(#[.string p.tm,.string p.rs,.int .i64 p.mo,.int .i64 p.fr]:Array Value)[j]?)) (first | exact hS | exact hSa _) (first
  | (go_at_call 190;refine (zef _ _ _).mono ?_;rintro e w3 ⟨rfl,rfl⟩)
  | (go_at_call 189;refine (zj9 _ _ _).mono ?_;rintro e w3 ⟨rfl,rfl⟩))
 go_wp2_with fail
 go_ret
 exact ⟨zq HR.out,(HB0.out.alloc HB0.out.size _).drew⟩
theorem zic (o p:Pu) (w:World) :
 Calls Tryz.prog 158 #[.agg o.cells,.agg p.cells] w fun e w'=>e = .returned (.int .i64 (Gate.j6 o p))/\Below w.heap.size w w':=by
 have HR:Hid (Gate.zcD [Gate.key o.dr p.dr,Gate.key o.tm p.tm,Gate.key o.rs p.rs]=Gate.j6 o p):=by unfold Hid;rw [Gate.zlb];rfl
 unfold Pu.cells
 go_enter Tryz.func158,Tryz.ntmps158
 go_wp2_with fail
 obtain ⟨hX0,hY0⟩:=qz w #[.string o.dr,.string o.tm,.string o.rs,.int .i64 o.am,.int .i64 o.un] #[.string p.dr,.string p.tm,.string p.rs,.int .i64 p.am,.int .i64 p.un] 132 132
 have HB0:Hid (Below w.heap.size w ((w.alloc (.cells #[.string o.dr,.string o.tm,.string o.rs,.int .i64 o.am,.int .i64 o.un] 132)).alloc (.cells #[.string p.dr,.string p.tm,.string p.rs,.int .i64 p.am,.int .i64 p.un] 132))):=zA w _ _
 obtain ⟨W0,hW0⟩:∃ W0,W0=(w.alloc (.cells #[.string o.dr,.string o.tm,.string o.rs,.int .i64 o.am,.int .i64 o.un] 132)).alloc (.cells #[.string p.dr,.string p.tm,.string p.rs,.int .i64 p.am,.int .i64 p.un] 132):=⟨_,rfl⟩
 have hz0:w.heap.size+1 < W0.heap.size:=by rw [hW0];simp
 rw [<- hW0] at HB0 hX0 hY0 ⊢
 clear hW0
 have hS:(∀ j,W0.drew.cell? ⟨w.heap.size,j,none⟩=(#[.string o.dr,.string o.tm,.string o.rs,.int .i64 o.am,.int .i64 o.un]:Array Value)[j]?)/\(∀ j,W0.drew.cell? ⟨w.heap.size+1,j,none⟩=(#[.string p.dr,.string p.tm,.string p.rs,.int .i64 p.am,.int .i64 p.un]:Array Value)[j]?):=⟨hX0,hY0⟩
 have hSa:∀ ob,(∀ j,(W0.alloc ob).drew.cell? ⟨w.heap.size,j,none⟩=(#[.string o.dr,.string o.tm,.string o.rs,.int .i64 o.am,.int .i64 o.un]:Array Value)[j]?)/\(∀ j,(W0.alloc ob).drew.cell? ⟨w.heap.size+1,j,none⟩=(#[.string p.dr,.string p.tm,.string p.rs,.int .i64 p.am,.int .i64 p.un]:Array Value)[j]?):=fun ob=>⟨za (b:=w.heap.size) (wk:=W0) hX0 (Nat.lt_of_succ_lt hz0) (((Below.refl _ _).alloc (Nat.le_refl _) _).drew),za (b:=w.heap.size+1) (wk:=W0) hY0 hz0 (((Below.refl _ _).alloc (Nat.le_refl _) _).drew)⟩
 clear hX0 hY0
 go_region_held3 (fun w'=>(∀ j,w'.cell? ⟨w.heap.size,j,none⟩=(#[.string o.dr,.string o.tm,.string o.rs,.int .i64 o.am,.int .i64 o.un]:Array Value)[j]?)/\(∀ j,w'.cell? ⟨w.heap.size+1,j,none⟩=(#[.string p.dr,.string p.tm,.string p.rs,.int .i64 p.am,.int .i64 p.un]:Array Value)[j]?)) (first | exact hS | exact hSa _) (first
  | (go_at_call 190;refine (zef _ _ _).mono ?_;rintro e w3 ⟨rfl,rfl⟩)
  | (go_at_call 189;refine (zlP _ _ _ _).mono ?_;rintro e w3 ⟨rfl,rfl⟩))
 go_wp2_with fail
 go_ret
 exact ⟨zq HR.out,(HB0.out.alloc HB0.out.size _).drew⟩
theorem je (n lo hi:Int) (w:World) :
 Calls Tryz.prog 145 #[.int .i64 n,.int .i64 lo,.int .i64 hi] w fun e w'=>e = .returned (.bool (Gate.within n lo hi))/\w'=w:=by
 by_cases h1:lo<=n
 ·by_cases h2:n<=hi
  ·have HF:Hid (Gate.within n lo hi=true):=by unfold Hid Gate.within;simp [h1,h2]
   go_enter Tryz.func145,Tryz.ntmps145
   go_wp2_with fail
   go_ret
   exact ⟨ze HF.out.symm,rfl⟩
  ·have HF:Hid (Gate.within n lo hi=false):=by unfold Hid Gate.within;simp [h2]
   go_enter Tryz.func145,Tryz.ntmps145
   go_wp2_with fail
   go_ret
   exact ⟨ze HF.out.symm,rfl⟩
 ·have HF:Hid (Gate.within n lo hi=false):=by unfold Hid Gate.within;simp [h1]
  go_enter Tryz.func145,Tryz.ntmps145
  go_wp2_with fail
  go_ret
  exact ⟨ze HF.out.symm,rfl⟩
namespace Gate
def jG {α:Type} (key:α->α->Int) (ms:List α) (k:Nat):Prop:=∀ i (h:i+1 < ms.length),i+1 < k->key ms[i] ms[i+1] < 0
def rising {α:Type} (key:α->α->Int) (ms:List α):Prop:=∀ i (h:i+1 < ms.length),key ms[i] ms[i+1] < 0
noncomputable def zaX {α:Type} (key:α->α->Int) (ms:List α):Bool:=@decide (rising key ms) (Classical.propDecidable _)
theorem zdK {α:Type} {key:α->α->Int} {ms:List α} {m:Nat} (h:jG key ms (m+1)) (hl:m+1 < ms.length) (hk:key ms[m] ms[m+1] < 0):jG key ms (m+1+1):=by
 intro i hi hik
 rcases Nat.lt_or_ge i m with hlt | hge
 ·exact h i hi (by omega)
 ·have e:i=m:=by omega
  subst e
  exact hk
theorem zfR {α:Type} {key:α->α->Int} {ms:List α} {m:Nat} (hl:m+1 < ms.length) (hk:¬ key ms[m] ms[m+1] < 0):zaX key ms=false:=by
 unfold zaX
 simp only [decide_eq_false_iff_not]
 exact fun h=>hk (h m hl)
theorem zfK {α:Type} {key:α->α->Int} {ms:List α} {m:Nat} (h:jG key ms (m+1)) (hl:ms.length<=m+1):zaX key ms=true:=by
 unfold zaX
 simp only [decide_eq_true_eq]
 exact fun i hi=>h i hi (by omega)
theorem zlp {α:Type} (key:α->α->Int) (ms:List α):zaX key ms=true ↔ rising key ms:=by
 unfold zaX
 simp only [decide_eq_true_eq]
def zdU (a b:Int):Int:=if a < b then -1 else if b < a then 1 else 0
def zbA (a b:Gr):Int:=zdU a.no b.no
end Gate
theorem zfk {n m:Nat} (h:m+1 < n):n+1 - (intOf (Value.int IntKind.i64 ((m:Int)+1+1))).toNat < n+1 - (intOf (Value.int IntKind.i64 ((m:Int)+1))).toNat:=by
 show n+1 - ((m:Int)+1+1).toNat < n+1 - ((m:Int)+1).toNat
 omega
theorem znK (x:Int) (w:World):Calls Tryz.prog 212 #[.int .i64 x] w fun e w'=>e = .returned (.bool false)/\w'=w:=by
 have h:(x != x)=false:=by simp
 go_enter Tryz.func212,Tryz.ntmps212
 go_wp2_with fail
 go_ret
 exact ⟨rfl,rfl⟩
theorem ziS (x y:Int) (w:World):Calls Tryz.prog 194 #[.int .i64 x,.int .i64 y] w fun e w'=>e = .returned (.int .i64 (Gate.zdU x y))/\w'=w:=by
 have HN:Hid (∀ z W,Calls Tryz.prog 212 #[.int .i64 z] W fun e w'=>e = .returned (.bool false)/\w'=W):=znK
 by_cases h1:x < y
 ·have HF:Hid (Gate.zdU x y=-1):=by unfold Hid Gate.zdU;rw [if_pos h1]
  go_enter Tryz.func194,Tryz.ntmps194
  go_wp2_with (go_at_call 212;refine (HN.out _ _).mono ?_;rintro e w2 ⟨rfl,rfl⟩)
  go_ret
  exact ⟨zq HF.out.symm,rfl⟩
 ·by_cases h2:y < x
  ·have HF:Hid (Gate.zdU x y=1):=by unfold Hid Gate.zdU;rw [if_neg h1,if_pos h2]
   go_enter Tryz.func194,Tryz.ntmps194
   go_wp2_with (go_at_call 212;refine (HN.out _ _).mono ?_;rintro e w2 ⟨rfl,rfl⟩)
   go_ret
   exact ⟨zq HF.out.symm,rfl⟩
  ·have HF:Hid (Gate.zdU x y=0):=by unfold Hid Gate.zdU;rw [if_neg h1,if_neg h2]
   go_enter Tryz.func194,Tryz.ntmps194
   go_wp2_with (go_at_call 212;refine (HN.out _ _).mono ?_;rintro e w2 ⟨rfl,rfl⟩)
   go_ret
   exact ⟨zq HF.out.symm,rfl⟩
theorem ziw (g h:Gr) (a b:Option Addr) (c d:Nat) (w:World) :
 Calls Tryz.prog 152 #[.agg (g.cells a c),.agg (h.cells b d)] w fun e w'=>e = .returned (.int .i64 (Gate.zbA g h))/\Below w.heap.size w w':=by
 unfold Gr.cells
 go_enter Tryz.func152,Tryz.ntmps152
 go_wp2_with (go_at_call 194;refine (ziS _ _ _).mono ?_;rintro e w2 ⟨rfl,rfl⟩)
 go_ret
 exact ⟨rfl,zA _ _ _⟩
theorem zhj (a:Option Addr) (cap:Nat) (ms:List Ob) (w:World) (hw:zbq w a ms) :
 Calls Tryz.prog 146 #[.slice a ms.length cap,.func (.func 147) #[] #[]] w fun e w'=>e = .returned (.bool (Gate.zaX Gate.zaQ ms))/\Below w.heap.size w w':=by
 have hl:=hw.len
 unfold maxLen at hl
 have HW:Hid (zbq w a ms):=hw
 clear hw
 go_enter Tryz.func146,Tryz.ntmps146
 go_wp2_with fail
 go_loopw [5] (fun iv wr=>∃ m:Nat,iv = .int .i64 ((m:Int)+1)/\m<=ms.length/\Hid (Gate.jG Gate.zaQ ms (m+1)/\Below w.heap.size w wr)) (fun iv _=>ms.length+1 - (intOf iv).toNat)
 case atStart=>exact ⟨0,rfl,Nat.zero_le _,fun i h h'=>by omega,Below.refl _ _⟩
 case round =>
  obtain ⟨m,rfl,hml,HQ⟩:=hrel
  by_cases hlt:m+1 < ms.length
  ·have hm:m < ms.length:=by omega
   obtain ⟨b,off,p0,p1,p2,p3,rfl,hb,_,_,_,d0,d1,d2,d3,d4,d5,d6⟩:=HW.out.load HQ.out.2 m hm
   obtain ⟨b2,off2,q0,q1,q2,q3,ha2,hbq,_,_,_,e0,e1,e2,e3,e4,e5,e6⟩:=HW.out.load HQ.out.2 (m+1) hlt
   obtain ⟨rfl,rfl⟩:b=b2/\off=off2:=by
    have h:=ha2
    simpa using h
   have hb':b < wr.heap.size:=Nat.lt_of_lt_of_le hb HQ.out.2.size
   have hltI:(m:Int)+1 < (ms.length:Int):=by omega
   have h0m:(0:Int)<=(m:Int):=by omega
   have h01:(0:Int)<=(m:Int)+1:=by omega
   have hsub:IntKind.i64.wrap ((m:Int)+1 - 1)=(m:Int):=by rw [IntKind.wrap_i64];omega
   have hsub2:IntKind.i64.wrap (m:Int)=(m:Int):=by rw [IntKind.wrap_i64];omega
   have hsub3:wrap64 (m:Int)=(m:Int):=by unfold wrap64;omega
   have htn:((m:Int)+1).toNat=m+1:=by omega
   have hlmI:(m:Int) < (ms.length:Int):=by omega
   have HBr:Hid (Below w.heap.size w wr):=HQ.out.2
   have hS:wr.drew.cell? ⟨b,off+m * 7,none⟩=some (.string ms[m].kd)/\wr.drew.cell? ⟨b,off+m * 7+1,none⟩=some (.string ms[m].nm)/\wr.drew.cell? ⟨b,off+m * 7+2,none⟩=some (.string ms[m].tm)/\wr.drew.cell? ⟨b,off+m * 7+3,none⟩=some (.slice p0 ms[m].vs.length p2)/\wr.drew.cell? ⟨b,off+m * 7+4,none⟩=some (.bool ms[m].en)/\wr.drew.cell? ⟨b,off+m * 7+5,none⟩=some (.slice p1 ms[m].hs.length p3)/\wr.drew.cell? ⟨b,off+m * 7+6,none⟩=some (.int .i64 ms[m].vr)/\wr.drew.cell? ⟨b,off+(m+1) * 7,none⟩=some (.string ms[m+1].kd)/\wr.drew.cell? ⟨b,off+(m+1) * 7+1,none⟩=some (.string ms[m+1].nm)/\wr.drew.cell? ⟨b,off+(m+1) * 7+2,none⟩=some (.string ms[m+1].tm)/\wr.drew.cell? ⟨b,off+(m+1) * 7+3,none⟩=some (.slice q0 ms[m+1].vs.length q2)/\wr.drew.cell? ⟨b,off+(m+1) * 7+4,none⟩=some (.bool ms[m+1].en)/\wr.drew.cell? ⟨b,off+(m+1) * 7+5,none⟩=some (.slice q1 ms[m+1].hs.length q3)/\wr.drew.cell? ⟨b,off+(m+1) * 7+6,none⟩=some (.int .i64 ms[m+1].vr):=⟨d0,d1,d2,d3,d4,d5,d6,e0,e1,e2,e3,e4,e5,e6⟩
   clear d0 d1 d2 d3 d4 d5 d6 e0 e1 e2 e3 e4 e5 e6
   have HM:Hid (Gate.jG Gate.zaQ ms (m+1)):=HQ.out.1
   clear HQ
   go_wp2_with fail
   go_region_held3 (fun w'=>w'.cell? ⟨b,off+m * 7,none⟩=some (.string ms[m].kd)/\w'.cell? ⟨b,off+m * 7+1,none⟩=some (.string ms[m].nm)/\w'.cell? ⟨b,off+m * 7+2,none⟩=some (.string ms[m].tm)/\w'.cell? ⟨b,off+m * 7+3,none⟩=some (.slice p0 ms[m].vs.length p2)/\w'.cell? ⟨b,off+m * 7+4,none⟩=some (.bool ms[m].en)/\w'.cell? ⟨b,off+m * 7+5,none⟩=some (.slice p1 ms[m].hs.length p3)/\w'.cell? ⟨b,off+m * 7+6,none⟩=some (.int .i64 ms[m].vr)/\w'.cell? ⟨b,off+(m+1) * 7,none⟩=some (.string ms[m+1].kd)/\w'.cell? ⟨b,off+(m+1) * 7+1,none⟩=some (.string ms[m+1].nm)/\w'.cell? ⟨b,off+(m+1) * 7+2,none⟩=some (.string ms[m+1].tm)/\w'.cell? ⟨b,off+(m+1) * 7+3,none⟩=some (.slice q0 ms[m+1].vs.length q2)/\w'.cell? ⟨b,off+(m+1) * 7+4,none⟩=some (.bool ms[m+1].en)/\w'.cell? ⟨b,off+(m+1) * 7+5,none⟩=some (.slice q1 ms[m+1].hs.length q3)/\w'.cell? ⟨b,off+(m+1) * 7+6,none⟩=some (.int .i64 ms[m+1].vr)) (exact hS) (first | (go_at_call 147;refine (zhK ms[m] ms[m+1] p0 p1 q0 q1 p2 p3 q2 q3 _).mono ?_;rintro e w2 ⟨rfl,hb2⟩;have hS:=(⟨(hb2.cell (p:=⟨b,_,none⟩) hb').trans hS.1,(hb2.cell (p:=⟨b,_,none⟩) hb').trans hS.2.1,(hb2.cell (p:=⟨b,_,none⟩) hb').trans hS.2.2.1,(hb2.cell (p:=⟨b,_,none⟩) hb').trans hS.2.2.2.1,(hb2.cell (p:=⟨b,_,none⟩) hb').trans hS.2.2.2.2.1,(hb2.cell (p:=⟨b,_,none⟩) hb').trans hS.2.2.2.2.2.1,(hb2.cell (p:=⟨b,_,none⟩) hb').trans hS.2.2.2.2.2.2.1,(hb2.cell (p:=⟨b,_,none⟩) hb').trans hS.2.2.2.2.2.2.2.1,(hb2.cell (p:=⟨b,_,none⟩) hb').trans hS.2.2.2.2.2.2.2.2.1,(hb2.cell (p:=⟨b,_,none⟩) hb').trans hS.2.2.2.2.2.2.2.2.2.1,(hb2.cell (p:=⟨b,_,none⟩) hb').trans hS.2.2.2.2.2.2.2.2.2.2.1,(hb2.cell (p:=⟨b,_,none⟩) hb').trans hS.2.2.2.2.2.2.2.2.2.2.2.1,(hb2.cell (p:=⟨b,_,none⟩) hb').trans hS.2.2.2.2.2.2.2.2.2.2.2.2.1,(hb2.cell (p:=⟨b,_,none⟩) hb').trans hS.2.2.2.2.2.2.2.2.2.2.2.2.2⟩:_/\_/\_/\_/\_/\_/\_/\_/\_/\_/\_/\_/\_/\_);have hB2:=HBr.out.drew.trans (hb2.mono HBr.out.drew.size);clear hb2))
   by_cases hk:Gate.zaQ ms[m] ms[m+1] < 0
   ·have HA:Hid (Gate.jG Gate.zaQ ms (m+1+1)):=Gate.zdK HM.out hlt hk
    have hd:decide (0<=Gate.zaQ ms[m] ms[m+1])=false:=by simp;omega
    rw [hd]
    clear hk hd
    go_wp2_with fail
    exact ⟨⟨m+1,by go_num,by omega,HA.out,hB2⟩,zfk (by omega)⟩
   ·have HA:Hid (Gate.zaX Gate.zaQ ms=false):=Gate.zfR hlt hk
    have hd:decide (0<=Gate.zaQ ms[m] ms[m+1])=true:=by simp;omega
    rw [hd]
    clear hk hd
    go_wp2_with fail
    go_ret
    exact ⟨ze HA.out.symm,hB2⟩
  ·have HA:Hid (Gate.zaX Gate.zaQ ms=true):=Gate.zfK HQ.out.1 (by omega)
   have HB:Hid (Below w.heap.size w wr):=HQ.out.2
   clear HQ
   go_wp2_with fail
   go_ret
   exact ⟨ze HA.out.symm,HB.out⟩
theorem zhp (a:Option Addr) (cap:Nat) (ms:List Gr) (w:World) (hw:zb8 w a ms) :
 Calls Tryz.prog 151 #[.slice a ms.length cap,.func (.func 152) #[] #[]] w fun e w'=>e = .returned (.bool (Gate.zaX Gate.zbA ms))/\Below w.heap.size w w':=by
 have hl:=hw.len
 unfold maxLen at hl
 have HW:Hid (zb8 w a ms):=hw
 clear hw
 go_enter Tryz.func151,Tryz.ntmps151
 go_wp2_with fail
 go_loopw [5] (fun iv wr=>∃ m:Nat,iv = .int .i64 ((m:Int)+1)/\m<=ms.length/\Hid (Gate.jG Gate.zbA ms (m+1)/\Below w.heap.size w wr)) (fun iv _=>ms.length+1 - (intOf iv).toNat)
 case atStart=>exact ⟨0,rfl,Nat.zero_le _,fun i h h'=>by omega,Below.refl _ _⟩
 case round =>
  obtain ⟨m,rfl,hml,HQ⟩:=hrel
  by_cases hlt:m+1 < ms.length
  ·have hm:m < ms.length:=by omega
   obtain ⟨b,off,p0,p1,rfl,hb,_,_,d0,d1,d2,d3,d4,d5,d6⟩:=HW.out.load HQ.out.2 m hm
   obtain ⟨b2,off2,q0,q1,ha2,hbq,_,_,e0,e1,e2,e3,e4,e5,e6⟩:=HW.out.load HQ.out.2 (m+1) hlt
   obtain ⟨rfl,rfl⟩:b=b2/\off=off2:=by
    have h:=ha2
    simpa using h
   have hb':b < wr.heap.size:=Nat.lt_of_lt_of_le hb HQ.out.2.size
   have hltI:(m:Int)+1 < (ms.length:Int):=by omega
   have h0m:(0:Int)<=(m:Int):=by omega
   have h01:(0:Int)<=(m:Int)+1:=by omega
   have hsub:IntKind.i64.wrap ((m:Int)+1 - 1)=(m:Int):=by rw [IntKind.wrap_i64];omega
   have hsub2:IntKind.i64.wrap (m:Int)=(m:Int):=by rw [IntKind.wrap_i64];omega
   have hsub3:wrap64 (m:Int)=(m:Int):=by unfold wrap64;omega
   have htn:((m:Int)+1).toNat=m+1:=by omega
   have hlmI:(m:Int) < (ms.length:Int):=by omega
   have HBr:Hid (Below w.heap.size w wr):=HQ.out.2
   have hS:wr.drew.cell? ⟨b,off+m * 7,none⟩=some (.int .i64 ms[m].no)/\wr.drew.cell? ⟨b,off+m * 7+1,none⟩=some (.string ms[m].to)/\wr.drew.cell? ⟨b,off+m * 7+2,none⟩=some (.string ms[m].gb)/\wr.drew.cell? ⟨b,off+m * 7+3,none⟩=some (.slice p0 ms[m].r.vs.length p1)/\wr.drew.cell? ⟨b,off+m * 7+4,none⟩=some (.string ms[m].r.kd)/\wr.drew.cell? ⟨b,off+m * 7+5,none⟩=some (.string ms[m].r.tm)/\wr.drew.cell? ⟨b,off+m * 7+6,none⟩=some (.string ms[m].r.px)/\wr.drew.cell? ⟨b,off+(m+1) * 7,none⟩=some (.int .i64 ms[m+1].no)/\wr.drew.cell? ⟨b,off+(m+1) * 7+1,none⟩=some (.string ms[m+1].to)/\wr.drew.cell? ⟨b,off+(m+1) * 7+2,none⟩=some (.string ms[m+1].gb)/\wr.drew.cell? ⟨b,off+(m+1) * 7+3,none⟩=some (.slice q0 ms[m+1].r.vs.length q1)/\wr.drew.cell? ⟨b,off+(m+1) * 7+4,none⟩=some (.string ms[m+1].r.kd)/\wr.drew.cell? ⟨b,off+(m+1) * 7+5,none⟩=some (.string ms[m+1].r.tm)/\wr.drew.cell? ⟨b,off+(m+1) * 7+6,none⟩=some (.string ms[m+1].r.px):=⟨d0,d1,d2,d3,d4,d5,d6,e0,e1,e2,e3,e4,e5,e6⟩
   clear d0 d1 d2 d3 d4 d5 d6 e0 e1 e2 e3 e4 e5 e6
   have HM:Hid (Gate.jG Gate.zbA ms (m+1)):=HQ.out.1
   clear HQ
   go_wp2_with fail
   go_region_held3 (fun w'=>w'.cell? ⟨b,off+m * 7,none⟩=some (.int .i64 ms[m].no)/\w'.cell? ⟨b,off+m * 7+1,none⟩=some (.string ms[m].to)/\w'.cell? ⟨b,off+m * 7+2,none⟩=some (.string ms[m].gb)/\w'.cell? ⟨b,off+m * 7+3,none⟩=some (.slice p0 ms[m].r.vs.length p1)/\w'.cell? ⟨b,off+m * 7+4,none⟩=some (.string ms[m].r.kd)/\w'.cell? ⟨b,off+m * 7+5,none⟩=some (.string ms[m].r.tm)/\w'.cell? ⟨b,off+m * 7+6,none⟩=some (.string ms[m].r.px)/\w'.cell? ⟨b,off+(m+1) * 7,none⟩=some (.int .i64 ms[m+1].no)/\w'.cell? ⟨b,off+(m+1) * 7+1,none⟩=some (.string ms[m+1].to)/\w'.cell? ⟨b,off+(m+1) * 7+2,none⟩=some (.string ms[m+1].gb)/\w'.cell? ⟨b,off+(m+1) * 7+3,none⟩=some (.slice q0 ms[m+1].r.vs.length q1)/\w'.cell? ⟨b,off+(m+1) * 7+4,none⟩=some (.string ms[m+1].r.kd)/\w'.cell? ⟨b,off+(m+1) * 7+5,none⟩=some (.string ms[m+1].r.tm)/\w'.cell? ⟨b,off+(m+1) * 7+6,none⟩=some (.string ms[m+1].r.px)) (exact hS) (first | (go_at_call 152;refine (ziw ms[m] ms[m+1] p0 q0 p1 q1 _).mono ?_;rintro e w2 ⟨rfl,hb2⟩;have hS:=(⟨(hb2.cell (p:=⟨b,_,none⟩) hb').trans hS.1,(hb2.cell (p:=⟨b,_,none⟩) hb').trans hS.2.1,(hb2.cell (p:=⟨b,_,none⟩) hb').trans hS.2.2.1,(hb2.cell (p:=⟨b,_,none⟩) hb').trans hS.2.2.2.1,(hb2.cell (p:=⟨b,_,none⟩) hb').trans hS.2.2.2.2.1,(hb2.cell (p:=⟨b,_,none⟩) hb').trans hS.2.2.2.2.2.1,(hb2.cell (p:=⟨b,_,none⟩) hb').trans hS.2.2.2.2.2.2.1,(hb2.cell (p:=⟨b,_,none⟩) hb').trans hS.2.2.2.2.2.2.2.1,(hb2.cell (p:=⟨b,_,none⟩) hb').trans hS.2.2.2.2.2.2.2.2.1,(hb2.cell (p:=⟨b,_,none⟩) hb').trans hS.2.2.2.2.2.2.2.2.2.1,(hb2.cell (p:=⟨b,_,none⟩) hb').trans hS.2.2.2.2.2.2.2.2.2.2.1,(hb2.cell (p:=⟨b,_,none⟩) hb').trans hS.2.2.2.2.2.2.2.2.2.2.2.1,(hb2.cell (p:=⟨b,_,none⟩) hb').trans hS.2.2.2.2.2.2.2.2.2.2.2.2.1,(hb2.cell (p:=⟨b,_,none⟩) hb').trans hS.2.2.2.2.2.2.2.2.2.2.2.2.2⟩:_/\_/\_/\_/\_/\_/\_/\_/\_/\_/\_/\_/\_/\_);have hB2:=HBr.out.drew.trans (hb2.mono HBr.out.drew.size);clear hb2))
   by_cases hk:Gate.zbA ms[m] ms[m+1] < 0
   ·have HA:Hid (Gate.jG Gate.zbA ms (m+1+1)):=Gate.zdK HM.out hlt hk
    have hd:decide (0<=Gate.zbA ms[m] ms[m+1])=false:=by simp;omega
    rw [hd]
    clear hk hd
    go_wp2_with fail
    exact ⟨⟨m+1,by go_num,by omega,HA.out,hB2⟩,zfk (by omega)⟩
   ·have HA:Hid (Gate.zaX Gate.zbA ms=false):=Gate.zfR hlt hk
    have hd:decide (0<=Gate.zbA ms[m] ms[m+1])=true:=by simp;omega
    rw [hd]
    clear hk hd
    go_wp2_with fail
    go_ret
    exact ⟨ze HA.out.symm,hB2⟩
  ·have HA:Hid (Gate.zaX Gate.zbA ms=true):=Gate.zfK HQ.out.1 (by omega)
   have HB:Hid (Below w.heap.size w wr):=HQ.out.2
   clear HQ
   go_wp2_with fail
   go_ret
   exact ⟨ze HA.out.symm,HB.out⟩
theorem zhi (a:Option Addr) (cap:Nat) (ms:List Lg) (w:World) (hw:zbY w a ms) :
 Calls Tryz.prog 154 #[.slice a ms.length cap,.func (.func 155) #[] #[]] w fun e w'=>e = .returned (.bool (Gate.zaX Gate.qA ms))/\Below w.heap.size w w':=by
 have hl:=hw.len
 unfold maxLen at hl
 have HW:Hid (zbY w a ms):=hw
 clear hw
 go_enter Tryz.func154,Tryz.ntmps154
 go_wp2_with fail
 go_loopw [5] (fun iv wr=>∃ m:Nat,iv = .int .i64 ((m:Int)+1)/\m<=ms.length/\Hid (Gate.jG Gate.qA ms (m+1)/\Below w.heap.size w wr)) (fun iv _=>ms.length+1 - (intOf iv).toNat)
 case atStart=>exact ⟨0,rfl,Nat.zero_le _,fun i h h'=>by omega,Below.refl _ _⟩
 case round =>
  obtain ⟨m,rfl,hml,HQ⟩:=hrel
  by_cases hlt:m+1 < ms.length
  ·have hm:m < ms.length:=by omega
   obtain ⟨b,off,rfl,hb,d0,d1,d2,d3⟩:=HW.out.load HQ.out.2 m hm
   obtain ⟨b2,off2,ha2,hbq,e0,e1,e2,e3⟩:=HW.out.load HQ.out.2 (m+1) hlt
   obtain ⟨rfl,rfl⟩:b=b2/\off=off2:=by
    have h:=ha2
    simpa using h
   have hb':b < wr.heap.size:=Nat.lt_of_lt_of_le hb HQ.out.2.size
   have hltI:(m:Int)+1 < (ms.length:Int):=by omega
   have h0m:(0:Int)<=(m:Int):=by omega
   have h01:(0:Int)<=(m:Int)+1:=by omega
   have hsub:IntKind.i64.wrap ((m:Int)+1 - 1)=(m:Int):=by rw [IntKind.wrap_i64];omega
   have hsub2:IntKind.i64.wrap (m:Int)=(m:Int):=by rw [IntKind.wrap_i64];omega
   have hsub3:wrap64 (m:Int)=(m:Int):=by unfold wrap64;omega
   have htn:((m:Int)+1).toNat=m+1:=by omega
   have hlmI:(m:Int) < (ms.length:Int):=by omega
   have HBr:Hid (Below w.heap.size w wr):=HQ.out.2
   have hS:wr.drew.cell? ⟨b,off+m * 4,none⟩=some (.string ms[m].tm)/\wr.drew.cell? ⟨b,off+m * 4+1,none⟩=some (.string ms[m].rs)/\wr.drew.cell? ⟨b,off+m * 4+2,none⟩=some (.int .i64 ms[m].mo)/\wr.drew.cell? ⟨b,off+m * 4+3,none⟩=some (.int .i64 ms[m].fr)/\wr.drew.cell? ⟨b,off+(m+1) * 4,none⟩=some (.string ms[m+1].tm)/\wr.drew.cell? ⟨b,off+(m+1) * 4+1,none⟩=some (.string ms[m+1].rs)/\wr.drew.cell? ⟨b,off+(m+1) * 4+2,none⟩=some (.int .i64 ms[m+1].mo)/\wr.drew.cell? ⟨b,off+(m+1) * 4+3,none⟩=some (.int .i64 ms[m+1].fr):=⟨d0,d1,d2,d3,e0,e1,e2,e3⟩
   clear d0 d1 d2 d3 e0 e1 e2 e3
   have HM:Hid (Gate.jG Gate.qA ms (m+1)):=HQ.out.1
   clear HQ
   go_wp2_with fail
   go_region_held3 (fun w'=>w'.cell? ⟨b,off+m * 4,none⟩=some (.string ms[m].tm)/\w'.cell? ⟨b,off+m * 4+1,none⟩=some (.string ms[m].rs)/\w'.cell? ⟨b,off+m * 4+2,none⟩=some (.int .i64 ms[m].mo)/\w'.cell? ⟨b,off+m * 4+3,none⟩=some (.int .i64 ms[m].fr)/\w'.cell? ⟨b,off+(m+1) * 4,none⟩=some (.string ms[m+1].tm)/\w'.cell? ⟨b,off+(m+1) * 4+1,none⟩=some (.string ms[m+1].rs)/\w'.cell? ⟨b,off+(m+1) * 4+2,none⟩=some (.int .i64 ms[m+1].mo)/\w'.cell? ⟨b,off+(m+1) * 4+3,none⟩=some (.int .i64 ms[m+1].fr)) (exact hS) (first | (go_at_call 155;refine (zb4 ms[m] ms[m+1] _).mono ?_;rintro e w2 ⟨rfl,hb2⟩;have hS:=(⟨(hb2.cell (p:=⟨b,_,none⟩) hb').trans hS.1,(hb2.cell (p:=⟨b,_,none⟩) hb').trans hS.2.1,(hb2.cell (p:=⟨b,_,none⟩) hb').trans hS.2.2.1,(hb2.cell (p:=⟨b,_,none⟩) hb').trans hS.2.2.2.1,(hb2.cell (p:=⟨b,_,none⟩) hb').trans hS.2.2.2.2.1,(hb2.cell (p:=⟨b,_,none⟩) hb').trans hS.2.2.2.2.2.1,(hb2.cell (p:=⟨b,_,none⟩) hb').trans hS.2.2.2.2.2.2.1,(hb2.cell (p:=⟨b,_,none⟩) hb').trans hS.2.2.2.2.2.2.2⟩:_/\_/\_/\_/\_/\_/\_/\_);have hB2:=HBr.out.drew.trans (hb2.mono HBr.out.drew.size);clear hb2))
   by_cases hk:Gate.qA ms[m] ms[m+1] < 0
   ·have HA:Hid (Gate.jG Gate.qA ms (m+1+1)):=Gate.zdK HM.out hlt hk
    have hd:decide (0<=Gate.qA ms[m] ms[m+1])=false:=by simp;omega
    rw [hd]
    clear hk hd
    go_wp2_with fail
    exact ⟨⟨m+1,by go_num,by omega,HA.out,hB2⟩,zfk (by omega)⟩
   ·have HA:Hid (Gate.zaX Gate.qA ms=false):=Gate.zfR hlt hk
    have hd:decide (0<=Gate.qA ms[m] ms[m+1])=true:=by simp;omega
    rw [hd]
    clear hk hd
    go_wp2_with fail
    go_ret
    exact ⟨ze HA.out.symm,hB2⟩
  ·have HA:Hid (Gate.zaX Gate.qA ms=true):=Gate.zfK HQ.out.1 (by omega)
   have HB:Hid (Below w.heap.size w wr):=HQ.out.2
   clear HQ
   go_wp2_with fail
   go_ret
   exact ⟨ze HA.out.symm,HB.out⟩
theorem zhu (a:Option Addr) (cap:Nat) (ms:List Pu) (w:World) (hw:zcO w a ms) :
 Calls Tryz.prog 157 #[.slice a ms.length cap,.func (.func 158) #[] #[]] w fun e w'=>e = .returned (.bool (Gate.zaX Gate.j6 ms))/\Below w.heap.size w w':=by
 have hl:=hw.len
 unfold maxLen at hl
 have HW:Hid (zcO w a ms):=hw
 clear hw
 go_enter Tryz.func157,Tryz.ntmps157
 go_wp2_with fail
 go_loopw [5] (fun iv wr=>∃ m:Nat,iv = .int .i64 ((m:Int)+1)/\m<=ms.length/\Hid (Gate.jG Gate.j6 ms (m+1)/\Below w.heap.size w wr)) (fun iv _=>ms.length+1 - (intOf iv).toNat)
 case atStart=>exact ⟨0,rfl,Nat.zero_le _,fun i h h'=>by omega,Below.refl _ _⟩
 case round =>
  obtain ⟨m,rfl,hml,HQ⟩:=hrel
  by_cases hlt:m+1 < ms.length
  ·have hm:m < ms.length:=by omega
   obtain ⟨b,off,rfl,hb,d0,d1,d2,d3,d4⟩:=HW.out.load HQ.out.2 m hm
   obtain ⟨b2,off2,ha2,hbq,e0,e1,e2,e3,e4⟩:=HW.out.load HQ.out.2 (m+1) hlt
   obtain ⟨rfl,rfl⟩:b=b2/\off=off2:=by
    have h:=ha2
    simpa using h
   have hb':b < wr.heap.size:=Nat.lt_of_lt_of_le hb HQ.out.2.size
   have hltI:(m:Int)+1 < (ms.length:Int):=by omega
   have h0m:(0:Int)<=(m:Int):=by omega
   have h01:(0:Int)<=(m:Int)+1:=by omega
   have hsub:IntKind.i64.wrap ((m:Int)+1 - 1)=(m:Int):=by rw [IntKind.wrap_i64];omega
   have hsub2:IntKind.i64.wrap (m:Int)=(m:Int):=by rw [IntKind.wrap_i64];omega
   have hsub3:wrap64 (m:Int)=(m:Int):=by unfold wrap64;omega
   have htn:((m:Int)+1).toNat=m+1:=by omega
   have hlmI:(m:Int) < (ms.length:Int):=by omega
   have HBr:Hid (Below w.heap.size w wr):=HQ.out.2
   have hS:wr.drew.cell? ⟨b,off+m * 5,none⟩=some (.string ms[m].dr)/\wr.drew.cell? ⟨b,off+m * 5+1,none⟩=some (.string ms[m].tm)/\wr.drew.cell? ⟨b,off+m * 5+2,none⟩=some (.string ms[m].rs)/\wr.drew.cell? ⟨b,off+m * 5+3,none⟩=some (.int .i64 ms[m].am)/\wr.drew.cell? ⟨b,off+m * 5+4,none⟩=some (.int .i64 ms[m].un)/\wr.drew.cell? ⟨b,off+(m+1) * 5,none⟩=some (.string ms[m+1].dr)/\wr.drew.cell? ⟨b,off+(m+1) * 5+1,none⟩=some (.string ms[m+1].tm)/\wr.drew.cell? ⟨b,off+(m+1) * 5+2,none⟩=some (.string ms[m+1].rs)/\wr.drew.cell? ⟨b,off+(m+1) * 5+3,none⟩=some (.int .i64 ms[m+1].am)/\wr.drew.cell? ⟨b,off+(m+1) * 5+4,none⟩=some (.int .i64 ms[m+1].un):=⟨d0,d1,d2,d3,d4,e0,e1,e2,e3,e4⟩
   clear d0 d1 d2 d3 d4 e0 e1 e2 e3 e4
   have HM:Hid (Gate.jG Gate.j6 ms (m+1)):=HQ.out.1
   clear HQ
   go_wp2_with fail
   go_region_held3 (fun w'=>w'.cell? ⟨b,off+m * 5,none⟩=some (.string ms[m].dr)/\w'.cell? ⟨b,off+m * 5+1,none⟩=some (.string ms[m].tm)/\w'.cell? ⟨b,off+m * 5+2,none⟩=some (.string ms[m].rs)/\w'.cell? ⟨b,off+m * 5+3,none⟩=some (.int .i64 ms[m].am)/\w'.cell? ⟨b,off+m * 5+4,none⟩=some (.int .i64 ms[m].un)/\w'.cell? ⟨b,off+(m+1) * 5,none⟩=some (.string ms[m+1].dr)/\w'.cell? ⟨b,off+(m+1) * 5+1,none⟩=some (.string ms[m+1].tm)/\w'.cell? ⟨b,off+(m+1) * 5+2,none⟩=some (.string ms[m+1].rs)/\w'.cell? ⟨b,off+(m+1) * 5+3,none⟩=some (.int .i64 ms[m+1].am)/\w'.cell? ⟨b,off+(m+1) * 5+4,none⟩=some (.int .i64 ms[m+1].un)) (exact hS) (first | (go_at_call 158;refine (zic ms[m] ms[m+1] _).mono ?_;rintro e w2 ⟨rfl,hb2⟩;have hS:=(⟨(hb2.cell (p:=⟨b,_,none⟩) hb').trans hS.1,(hb2.cell (p:=⟨b,_,none⟩) hb').trans hS.2.1,(hb2.cell (p:=⟨b,_,none⟩) hb').trans hS.2.2.1,(hb2.cell (p:=⟨b,_,none⟩) hb').trans hS.2.2.2.1,(hb2.cell (p:=⟨b,_,none⟩) hb').trans hS.2.2.2.2.1,(hb2.cell (p:=⟨b,_,none⟩) hb').trans hS.2.2.2.2.2.1,(hb2.cell (p:=⟨b,_,none⟩) hb').trans hS.2.2.2.2.2.2.1,(hb2.cell (p:=⟨b,_,none⟩) hb').trans hS.2.2.2.2.2.2.2.1,(hb2.cell (p:=⟨b,_,none⟩) hb').trans hS.2.2.2.2.2.2.2.2.1,(hb2.cell (p:=⟨b,_,none⟩) hb').trans hS.2.2.2.2.2.2.2.2.2⟩:_/\_/\_/\_/\_/\_/\_/\_/\_/\_);have hB2:=HBr.out.drew.trans (hb2.mono HBr.out.drew.size);clear hb2))
   by_cases hk:Gate.j6 ms[m] ms[m+1] < 0
   ·have HA:Hid (Gate.jG Gate.j6 ms (m+1+1)):=Gate.zdK HM.out hlt hk
    have hd:decide (0<=Gate.j6 ms[m] ms[m+1])=false:=by simp;omega
    rw [hd]
    clear hk hd
    go_wp2_with fail
    exact ⟨⟨m+1,by go_num,by omega,HA.out,hB2⟩,zfk (by omega)⟩
   ·have HA:Hid (Gate.zaX Gate.j6 ms=false):=Gate.zfR hlt hk
    have hd:decide (0<=Gate.j6 ms[m] ms[m+1])=true:=by simp;omega
    rw [hd]
    clear hk hd
    go_wp2_with fail
    go_ret
    exact ⟨ze HA.out.symm,hB2⟩
  ·have HA:Hid (Gate.zaX Gate.j6 ms=true):=Gate.zfK HQ.out.1 (by omega)
   have HB:Hid (Below w.heap.size w wr):=HQ.out.2
   clear HQ
   go_wp2_with fail
   go_ret
   exact ⟨ze HA.out.symm,HB.out⟩
end Go.Proofs.YtihdafafigceiaaGreat
