import Derived.Test.YtghnakljnhnenaaGreatM28
import Derived.Test.YtghnakljnhnenaaGreatM25
set_option maxHeartbeats 4000000
namespace Go.Proofs.YtghnakljnhnenaaGreat
open Go.RowKit
namespace Gate
def yL (f:Fld) (v res:ByteArray):Int:=if f.kd=1/\f.wg=res then zaD v else 0
def zdU (fs:List Fld) (vs:List ByteArray) (res:ByteArray):Nat->Int
 | 0=>0
 | k+1=>zdU fs vs res k+yL (fs.getD k zbC) (vs.getD k ByteArray.empty) res
def qX (ss:List Shp) (o:Ob) (res:ByteArray):Int :=
 if zx ss o=true/\res.toList.isEmpty=false then (if res=o.kd then 1 else 0)+zdU (shapeOf ss o.kd).fs o.vs res (shapeOf ss o.kd).fs.length else 0
theorem zdQ (s:ByteArray):0<=zaD s/\zaD s<=10000000:=by
 unfold zaD
 split
 ·rename_i h
  refine ⟨zcT s h,?_⟩;unfold zal at h;simp only [Bool.and_eq_true,decide_eq_true_eq] at h
  have:=(zeV s.data.toList h.2 7 (by have:=h.1.1.2;simpa using this)).2
  unfold zfP;omega
 ·omega
theorem zgw (f:Fld) (v res:ByteArray):0<=yL f v res/\yL f v res<=10000000:=by
 unfold yL
 split
 ·exact zdQ v
 ·omega
theorem zcC (fs:List Fld) (vs:List ByteArray) (res:ByteArray):∀ k,0<=zdU fs vs res k/\zdU fs vs res k<=k * 10000000
 | 0=>by simp [zdU]
 | k+1=>by
  have h1:=zcC fs vs res k;have h2:=zgw (fs.getD k zbC) (vs.getD k ByteArray.empty) res;simp only [zdU];omega
theorem zgo (ss:List Shp) (o:Ob) (res:ByteArray) (h:o.vs.length<=1048576):0<=qX ss o res/\qX ss o res<=20000000000000:=by
 unfold qX
 split
 ·rename_i hc
  have hc1:=hc.1;unfold zx at hc1;simp only [Bool.and_eq_true,decide_eq_true_eq] at hc1
  have:=zcC (shapeOf ss o.kd).fs o.vs res (shapeOf ss o.kd).fs.length
  have h3:=hc1.2
  split <;> omega
 ·omega
theorem zom (fs:List Fld) (vs:List ByteArray) (res:ByteArray) (k:Nat) (h:k < fs.length) (h':k < vs.length):zdU fs vs res (k+1)=zdU fs vs res k+yL fs[k] vs[k] res:=by
 have e1:fs.getD k zbC=fs[k]:=by simp [List.getD,h]
 have e2:vs.getD k ByteArray.empty=vs[k]:=by simp [List.getD,h']
 simp only [zdU];rw [e1,e2]
end Gate
theorem ziJ {p:Prop} (h:p):Hid p:=h
theorem qw (w:World) (X Y:Array Value) (s t:TypeId):(∀ j,((w.alloc (.cells X s)).alloc (.cells Y t)).cell? ⟨w.heap.size,j,none⟩=X[j]?)/\∀ j,((w.alloc (.cells X s)).alloc (.cells Y t)).cell? ⟨w.heap.size+1,j,none⟩=Y[j]?:=by
 refine ⟨za (zm w X s) (by simp) (bAl _ _),fun j=>?_⟩;have h:=zm (w.alloc (.cells X s)) Y t j;rw [World.size_alloc] at h;exact h
theorem zj2 (l:Lw) (la lb lc:Option Addr) (lca lcb lcc:Nat) (o:Ob) (oa oa':Option Addr) (ocap ocap':Nat) (res:ByteArray) (w:World) (hl:y9 w l la lb lc) (_ho:qB w o oa oa') (hc:¬ (Gate.zx l.ss o=true/\res.toList.isEmpty=false)) :
 Calls Tryz.prog 219 #[.agg (l.cells la lb lc lca lcb lcc),.agg #[.string o.kd,.string o.nm,.string o.tm,.slice oa o.vs.length ocap,.bool o.en,.slice oa' o.hs.length ocap',.int .i64 o.vr],.string res] w fun e w'=>e = .returned (.int .i64 (Gate.qX l.ss o res))/\Below w.heap.size w w':=by
 have HL:Hid (y9 w l la lb lc):=hl;have HW:Hid (Gate.qX l.ss o res=0):=by unfold Hid Gate.qX;rw [if_neg hc]
 have HC:Hid (¬ (Gate.zx l.ss o=true/\res.toList.isEmpty=false)):=hc;clear hl hc;unfold Lw.cells;go_enter Tryz.func219,Tryz.ntmps219;go_wp2_with fail
 refine (qN _ _ l.ss o.kd _ (HL.out.ss.mono (zA _ _ _))).mono ?_;rintro e w1 ⟨fa,fcap,rfl,hfl,hb⟩;obtain ⟨hX0,hY0⟩:=qw w #[.slice la l.ss.length lca,.slice lb l.ms.length lcb,.slice lc l.ts.length lcc] #[.string o.kd,.string o.nm,.string o.tm,.slice oa o.vs.length ocap,.bool o.en,.slice oa' o.hs.length ocap',.int .i64 o.vr] 41 119;have hX1:=za hX0 (by simp;omega) hb;have hY1:=za hY0 (by simp) hb;have hz1:w.heap.size+1 < w1.heap.size:=by have:=hb.size;simp at this;omega
 have HB1:Hid (Below w.heap.size w w1):=(zA w _ _).trans (hb.mono (by simp;omega));clear hfl hb hX0 hY0
 by_cases hk:Gate.zF l.ss o.kd=true
 rotate_left
 ·have hk':Gate.zF l.ss o.kd=false:=by simpa using hk
  rw [hk'];clear hk hk';go_wp2_with fail
  go_ret;exact ⟨zq HW.out.symm,HB1.out.alloc HB1.out.size _⟩
 by_cases he:res.toList.isEmpty=true
 ·have HK:Hid (Gate.zF l.ss o.kd=true):=hk
  rw [HK.out];clear hk;go_wp2_with fail
  go_ret;exact ⟨zq HW.out.symm,HB1.out.alloc HB1.out.size _⟩
 ·have he':res.toList.isEmpty=false:=by simpa using he
  have hne:((o.vs.length:Int) != ((Gate.shapeOf l.ss o.kd).fs.length:Int))=true:=by
   have h:=HC.out;unfold Gate.zx at h;rw [hk] at h;simp only [Bool.true_and,decide_eq_true_eq] at h;have h2:¬ o.vs.length=(Gate.shapeOf l.ss o.kd).fs.length:=fun e=>h ⟨e,he'⟩
   simp;omega
  have HK:Hid (Gate.zF l.ss o.kd=true):=hk;rw [HK.out];clear he hk;go_wp2_with fail
  go_ret;exact ⟨zq HW.out.symm,HB1.out.alloc HB1.out.size _⟩
theorem zjh (l:Lw) (la lb lc:Option Addr) (lca lcb lcc:Nat) (o:Ob) (oa oa':Option Addr) (ocap ocap':Nat) (res:ByteArray) (w:World) (hl:y9 w l la lb lc) (ho:qB w o oa oa') (hc:Gate.zx l.ss o=true) (he:res.toList.isEmpty=false) (hlen:o.vs.length<=1048576) :
 Calls Tryz.prog 219 #[.agg (l.cells la lb lc lca lcb lcc),.agg #[.string o.kd,.string o.nm,.string o.tm,.slice oa o.vs.length ocap,.bool o.en,.slice oa' o.hs.length ocap',.int .i64 o.vr],.string res] w fun e w'=>e = .returned (.int .i64 (Gate.qX l.ss o res))/\Below w.heap.size w w':=by
 have HL:Hid (y9 w l la lb lc):=hl;have HO:Hid (qB w o oa oa'):=ho;have HW:Hid (Gate.qX l.ss o res=(if res=o.kd then 1 else 0)+Gate.zdU (Gate.shapeOf l.ss o.kd).fs o.vs res (Gate.shapeOf l.ss o.kd).fs.length):=by unfold Hid Gate.qX;rw [if_pos ⟨hc,he⟩]
 have HK:Hid (Gate.zF l.ss o.kd=true/\o.vs.length=(Gate.shapeOf l.ss o.kd).fs.length):=by unfold Gate.zx at hc;unfold Hid;simpa using hc
 have HN:Hid (o.vs.length<=1048576):=hlen;clear hl ho hc hlen;unfold Lw.cells;go_enter Tryz.func219,Tryz.ntmps219;go_wp2_with fail
 refine (qN _ _ l.ss o.kd _ (HL.out.ss.mono (zA _ _ _))).mono ?_;rintro e w1 ⟨fa,fcap,rfl,hfl,hb⟩;obtain ⟨hX0,hY0⟩:=qw w #[.slice la l.ss.length lca,.slice lb l.ms.length lcb,.slice lc l.ts.length lcc] #[.string o.kd,.string o.nm,.string o.tm,.slice oa o.vs.length ocap,.bool o.en,.slice oa' o.hs.length ocap',.int .i64 o.vr] 41 119;have hY1:=za hY0 (by simp) hb;have hz1:w.heap.size+1 < w1.heap.size:=by have:=hb.size;simp at this;omega
 have HB1:Hid (Below w.heap.size w w1):=(zA w _ _).trans (hb.mono (by simp;omega));have HFl:Hid (zP w1 fa (Gate.shapeOf l.ss o.kd).fs):=hfl.mono hb;clear hfl hb hX0 hY0;rw [HK.out.1];obtain ⟨S,HS⟩:∃ S,Hid (S=Gate.shapeOf l.ss o.kd):=⟨_,rfl⟩
 rw [<- HS.out] at HFl HK HW ⊢;have hne:((o.vs.length:Int) != (S.fs.length:Int))=false:=by have:=HK.out.2;simp [this]
 obtain ⟨n0,hn0⟩:∃ n0:Int,n0=if res=o.kd then 1 else 0:=⟨_,rfl⟩
 have hb0:0<=n0/\n0<=1:=by rw [hn0];split <;> omega
 rw [<- hn0] at HW;have HN0:Hid (n0=if res=o.kd then 1 else 0):=hn0;clear hn0
 by_cases hk:res=o.kd
 all_goals (
  first
  | (have hq:(res.toList == o.kd.toList)=true:=by rw [Gate.beq_toList];simpa using hk)
  | (have hq:(res.toList == o.kd.toList)=false:=by rw [Gate.beq_toList];simpa using hk)
  have HKE:=ziJ hk;clear hk;go_wp2_with fail
  go_loopw [9,44] (fun nv iv wr=>∃ (k:Nat) (s:Int),k<=S.fs.length/\iv = .int .i64 k/\nv = .int .i64 s/\Hid (s=n0+Gate.zdU S.fs o.vs res k/\Below w1.heap.size w1 wr)) (fun _ iv _=>S.fs.length - (intOf iv).toNat)
  case atStart=>exact ⟨0,n0,Nat.zero_le _,rfl,by have:=HN0.out;first | (rw [if_pos HKE.out] at this;rw [this]) | (rw [if_neg HKE.out] at this;rw [this]),by simp [Gate.zdU],bAl _ _⟩
  case round =>
   obtain ⟨k,s,hk,rfl,rfl,HQ⟩:=hrel;have hsb:0<=s/\s<=1+k * 10000000:=by have h1:=HQ.out.1;have h2:=Gate.zcC S.fs o.vs res k;omega
   have hkn:k<=1048576:=by have:=HN.out;have:=HK.out.2;omega
   by_cases hlt:k < S.fs.length
   ·obtain ⟨b,off,rfl,hb,hr⟩:=HFl.out.rows (by intro e;rw [e] at hlt;simp at hlt)
    obtain ⟨wa,wcap,hf⟩:=hr k hlt;obtain ⟨c0,c1,c2,c3,c4,c5,c6,c7,c8,c9,c10⟩:=(hf.mono hb HQ.out.2).load;have hlv:k < o.vs.length:=by have:=HK.out.2;omega
    have hltI:(k:Int) < (S.fs.length:Int):=by omega
    have hlvI:(k:Int) < (o.vs.length:Int):=by omega
    obtain ⟨vb,voff,rfl,hvb,hvc0⟩:=HO.out.vals.cells (by intro e;rw [e] at hlv;simp at hlv);have hvc:=((HB1.out.trans (HQ.out.2.mono HB1.out.size)).cell (p:=⟨vb,voff+k,none⟩) hvb).trans (hvc0 k hlv);have hvb':vb < wr.heap.size:=nLt hvb (HB1.out.trans (HQ.out.2.mono HB1.out.size)).size;have hb':b < wr.heap.size:=nLt hb HQ.out.2.size;have hY:=za hY1 hz1 HQ.out.2;have hz:w.heap.size+1 < wr.heap.size:=nLt hz1 HQ.out.2.size;have HSt:=Gate.zom S.fs o.vs res k hlt hlv;have HSt:Hid (Gate.zdU S.fs o.vs res (k+1)=Gate.zdU S.fs o.vs res k+Gate.yL S.fs[k] o.vs[k] res):=HSt;have HVs:Hid (o.vs[k].size<=maxLen):=HO.out.vals.small _ (List.getElem_mem _);have HBo:Hid (∀ ob,Below w1.heap.size w1 (wr.alloc ob)):=fun ob=>HQ.out.2.alloc HQ.out.2.size _
    clear hf hr hvc0
    by_cases h1:S.fs[k].kd=1
    ·have e1:(S.fs[k].kd == 1)=true:=by simpa using h1
     by_cases h2:S.fs[k].wg=res
     ·have e2:(S.fs[k].wg.toList == res.toList)=true:=by rw [Gate.beq_toList];simpa using h2
      have HFw:Hid (Gate.yL S.fs[k] o.vs[k] res=zaD o.vs[k]):=by unfold Hid Gate.yL;rw [if_pos ⟨h1,h2⟩]
      have hdb:=Gate.zdQ o.vs[k];clear h1 h2;go_wp2_with fail
      refine (zda o.vs[k] _ HVs.out).mono ?_;rintro e w2 ⟨rfl,rfl⟩;go_wp2_with fail
      exact ⟨⟨k+1,s+zaD o.vs[k],by omega,by go_num,by go_num,by rw [HSt.out,HFw.out,HQ.out.1];omega,HBo.out _⟩,zn hlt⟩
     ·have e2:(S.fs[k].wg.toList == res.toList)=false:=by rw [Gate.beq_toList];simpa using h2
      have HFw:Hid (Gate.yL S.fs[k] o.vs[k] res=0):=by unfold Hid Gate.yL;rw [if_neg (fun h=>h2 h.2)]
      clear h1 h2;go_wp2_with fail
      exact ⟨⟨k+1,s,by omega,by go_num,rfl,by rw [HSt.out,HFw.out,HQ.out.1];omega,HBo.out _⟩,zn hlt⟩
    ·have e1:(S.fs[k].kd == 1)=false:=by simpa using h1
     have HFw:Hid (Gate.yL S.fs[k] o.vs[k] res=0):=by unfold Hid Gate.yL;rw [if_neg (fun h=>h1 h.1)]
     clear h1;go_wp2_with fail
     exact ⟨⟨k+1,s,by omega,by go_num,rfl,by rw [HSt.out,HFw.out,HQ.out.1];omega,HBo.out _⟩,zn hlt⟩
   ·have e:k=S.fs.length:=by omega
    subst e;have HE:Hid (Gate.qX l.ss o res=s):=by unfold Hid;rw [HW.out,HQ.out.1]
    clear hlt hk;go_wp2_with fail
    go_ret;exact ⟨zq HE.out.symm,HB1.out.trans (HQ.out.2.mono HB1.out.size)⟩)
def Gate.within (n lo hi:Int):Bool:=decide (lo<=n) && decide (n<=hi)
theorem jh (n lo hi:Int) (w:World) :
 Calls Tryz.prog 150 #[.int .i64 n,.int .i64 lo,.int .i64 hi] w fun e w'=>e = .returned (.bool (Gate.within n lo hi))/\w'=w:=by
 by_cases h1:lo<=n
 ·by_cases h2:n<=hi
  ·have HF:Hid (Gate.within n lo hi=true):=by unfold Hid Gate.within;simp [h1,h2]
   go_enter Tryz.func150,Tryz.ntmps150;go_wp2_with fail
   go_ret;exact ⟨ze HF.out.symm,rfl⟩
  ·have HF:Hid (Gate.within n lo hi=false):=by unfold Hid Gate.within;simp [h2]
   go_enter Tryz.func150,Tryz.ntmps150;go_wp2_with fail
   go_ret;exact ⟨ze HF.out.symm,rfl⟩
 ·have HF:Hid (Gate.within n lo hi=false):=by unfold Hid Gate.within;simp [h1]
  go_enter Tryz.func150,Tryz.ntmps150;go_wp2_with fail
  go_ret;exact ⟨ze HF.out.symm,rfl⟩
theorem zkG (W:World) (k1 k2:Int):Calls Tryz.prog 193 #[.slice (some ⟨W.heap.size,0,none⟩) 2 2] (W.alloc (.cells #[.int .i64 k1,.int .i64 k2] 3)).drew fun e w'=>e = .returned (.int .i64 (Gate.zc1 [k1,k2]))/\w'=(W.alloc (.cells #[.int .i64 k1,.int .i64 k2] 3)).drew :=
 zkN (some ⟨W.heap.size,0,none⟩) 2 [k1,k2] _ ((zg7 (alloc_at _ _) (by simp [maxLen])).mono (bRf _ _).drew) (by simp)
theorem zmt (W:World) (k1 k2 k3:Int):Calls Tryz.prog 193 #[.slice (some ⟨W.heap.size,0,none⟩) 3 3] (W.alloc (.cells #[.int .i64 k1,.int .i64 k2,.int .i64 k3] 3)).drew fun e w'=>e = .returned (.int .i64 (Gate.zc1 [k1,k2,k3]))/\w'=(W.alloc (.cells #[.int .i64 k1,.int .i64 k2,.int .i64 k3] 3)).drew :=
 zkN (some ⟨W.heap.size,0,none⟩) 3 [k1,k2,k3] _ ((zg7 (alloc_at _ _) (by simp [maxLen])).mono (bRf _ _).drew) (by simp)
theorem zif (o p:Ob) (a0 a1 b0 b1:Option Addr) (c0 c1 d0 d1:Nat) (w:World) :
 Calls Tryz.prog 152 #[.agg (o.row a0 a1 c0 c1),.agg (p.row b0 b1 d0 d1)] w fun e w'=>e = .returned (.int .i64 (Gate.zax o p))/\Below w.heap.size w w':=by
 have HR:Hid (Gate.zc1 [Gate.key o.kd p.kd,Gate.key o.nm p.nm]=Gate.zax o p):=by unfold Hid;rw [Gate.zkB];rfl
 unfold Ob.row;go_enter Tryz.func152,Tryz.ntmps152;go_wp2_with fail
 obtain ⟨hX0,hY0⟩:=qw w #[.string o.kd,.string o.nm,.string o.tm,.slice a0 o.vs.length c0,.bool o.en,.slice a1 o.hs.length c1,.int .i64 o.vr] #[.string p.kd,.string p.nm,.string p.tm,.slice b0 p.vs.length d0,.bool p.en,.slice b1 p.hs.length d1,.int .i64 p.vr] 119 119;have HB0:Hid (Below w.heap.size w ((w.alloc (.cells #[.string o.kd,.string o.nm,.string o.tm,.slice a0 o.vs.length c0,.bool o.en,.slice a1 o.hs.length c1,.int .i64 o.vr] 119)).alloc (.cells #[.string p.kd,.string p.nm,.string p.tm,.slice b0 p.vs.length d0,.bool p.en,.slice b1 p.hs.length d1,.int .i64 p.vr] 119))):=zA w _ _;obtain ⟨W0,hW0⟩:∃ W0,W0=(w.alloc (.cells #[.string o.kd,.string o.nm,.string o.tm,.slice a0 o.vs.length c0,.bool o.en,.slice a1 o.hs.length c1,.int .i64 o.vr] 119)).alloc (.cells #[.string p.kd,.string p.nm,.string p.tm,.slice b0 p.vs.length d0,.bool p.en,.slice b1 p.hs.length d1,.int .i64 p.vr] 119):=⟨_,rfl⟩
 have hz0:w.heap.size+1 < W0.heap.size:=by rw [hW0];simp
 rw [<- hW0] at HB0 hX0 hY0 ⊢;clear hW0;have hS:(∀ j,W0.drew.cell? ⟨w.heap.size,j,none⟩=(#[.string o.kd,.string o.nm,.string o.tm,.slice a0 o.vs.length c0,.bool o.en,.slice a1 o.hs.length c1,.int .i64 o.vr]:Array Value)[j]?)/\(∀ j,W0.drew.cell? ⟨w.heap.size+1,j,none⟩=(#[.string p.kd,.string p.nm,.string p.tm,.slice b0 p.vs.length d0,.bool p.en,.slice b1 p.hs.length d1,.int .i64 p.vr]:Array Value)[j]?):=⟨hX0,hY0⟩
 have hSa:∀ ob,(∀ j,(W0.alloc ob).drew.cell? ⟨w.heap.size,j,none⟩=(#[.string o.kd,.string o.nm,.string o.tm,.slice a0 o.vs.length c0,.bool o.en,.slice a1 o.hs.length c1,.int .i64 o.vr]:Array Value)[j]?)/\(∀ j,(W0.alloc ob).drew.cell? ⟨w.heap.size+1,j,none⟩=(#[.string p.kd,.string p.nm,.string p.tm,.slice b0 p.vs.length d0,.bool p.en,.slice b1 p.hs.length d1,.int .i64 p.vr]:Array Value)[j]?):=fun ob=>⟨za (b:=w.heap.size) (wk:=W0) hX0 (nSl hz0) ((bAl _ _).drew),za (b:=w.heap.size+1) (wk:=W0) hY0 hz0 ((bAl _ _).drew)⟩
 clear hX0 hY0
 go_region_held3 (fun w'=>(∀ j,w'.cell? ⟨w.heap.size,j,none⟩=(#[.string o.kd,.string o.nm,.string o.tm,.slice a0 o.vs.length c0,.bool o.en,.slice a1 o.hs.length c1,.int .i64 o.vr]:Array Value)[j]?)/\(∀ j,w'.cell? ⟨w.heap.size+1,j,none⟩=(#[.string p.kd,.string p.nm,.string p.tm,.slice b0 p.vs.length d0,.bool p.en,.slice b1 p.hs.length d1,.int .i64 p.vr]:Array Value)[j]?)) (first | exact hS | exact hSa _) (first
  | (go_at_call 194;refine (zeJ _ _ _).mono ?_;rintro e w3 ⟨rfl,rfl⟩)
  | (go_at_call 193;refine (zkG _ _ _).mono ?_;rintro e w3 ⟨rfl,rfl⟩))
 go_wp2_with fail
 go_ret;exact ⟨zq HR.out,(HB0.out.alloc HB0.out.size _).drew⟩
theorem zci (o p:Lg) (w:World) :
 Calls Tryz.prog 159 #[.agg o.cells,.agg p.cells] w fun e w'=>e = .returned (.int .i64 (Gate.qC o p))/\Below w.heap.size w w':=by
 have HR:Hid (Gate.zc1 [Gate.key o.tm p.tm,Gate.key o.rs p.rs]=Gate.qC o p):=by unfold Hid;rw [Gate.zkB];rfl
 unfold Lg.cells;go_enter Tryz.func159,Tryz.ntmps159;go_wp2_with fail
 obtain ⟨hX0,hY0⟩:=qw w #[.string o.tm,.string o.rs,.int .i64 o.mo,.int .i64 o.fr] #[.string p.tm,.string p.rs,.int .i64 p.mo,.int .i64 p.fr] 134 134;have HB0:Hid (Below w.heap.size w ((w.alloc (.cells #[.string o.tm,.string o.rs,.int .i64 o.mo,.int .i64 o.fr] 134)).alloc (.cells #[.string p.tm,.string p.rs,.int .i64 p.mo,.int .i64 p.fr] 134))):=zA w _ _;obtain ⟨W0,hW0⟩:∃ W0,W0=(w.alloc (.cells #[.string o.tm,.string o.rs,.int .i64 o.mo,.int .i64 o.fr] 134)).alloc (.cells #[.string p.tm,.string p.rs,.int .i64 p.mo,.int .i64 p.fr] 134):=⟨_,rfl⟩
 have hz0:w.heap.size+1 < W0.heap.size:=by rw [hW0];simp
 rw [<- hW0] at HB0 hX0 hY0 ⊢;clear hW0;have hS:(∀ j,W0.drew.cell? ⟨w.heap.size,j,none⟩=(#[.string o.tm,.string o.rs,.int .i64 o.mo,.int .i64 o.fr]:Array Value)[j]?)/\(∀ j,W0.drew.cell? ⟨w.heap.size+1,j,none⟩=(#[.string p.tm,.string p.rs,.int .i64 p.mo,.int .i64 p.fr]:Array Value)[j]?):=⟨hX0,hY0⟩
 have hSa:∀ ob,(∀ j,(W0.alloc ob).drew.cell? ⟨w.heap.size,j,none⟩=(#[.string o.tm,.string o.rs,.int .i64 o.mo,.int .i64 o.fr]:Array Value)[j]?)/\(∀ j,(W0.alloc ob).drew.cell? ⟨w.heap.size+1,j,none⟩=(#[.string p.tm,.string p.rs,.int .i64 p.mo,.int .i64 p.fr]:Array Value)[j]?):=fun ob=>⟨za (b:=w.heap.size) (wk:=W0) hX0 (nSl hz0) ((bAl _ _).drew),za (b:=w.heap.size+1) (wk:=W0) hY0 hz0 ((bAl _ _).drew)⟩
 clear hX0 hY0
 go_region_held3 (fun w'=>(∀ j,w'.cell? ⟨w.heap.size,j,none⟩=(#[.string o.tm,.string o.rs,.int .i64 o.mo,.int .i64 o.fr]:Array Value)[j]?)/\(∀ j,w'.cell? ⟨w.heap.size+1,j,none⟩=(#[.string p.tm,.string p.rs,.int .i64 p.mo,.int .i64 p.fr]:Array Value)[j]?)) (first | exact hS | exact hSa _) (first
  | (go_at_call 194;refine (zeJ _ _ _).mono ?_;rintro e w3 ⟨rfl,rfl⟩)
  | (go_at_call 193;refine (zkG _ _ _).mono ?_;rintro e w3 ⟨rfl,rfl⟩))
 go_wp2_with fail
 go_ret;exact ⟨zq HR.out,(HB0.out.alloc HB0.out.size _).drew⟩
theorem zjH (o p:Pu) (w:World) :
 Calls Tryz.prog 162 #[.agg o.cells,.agg p.cells] w fun e w'=>e = .returned (.int .i64 (Gate.zae o p))/\Below w.heap.size w w':=by
 have HR:Hid (Gate.zc1 [Gate.key o.dr p.dr,Gate.key o.tm p.tm,Gate.key o.rs p.rs]=Gate.zae o p):=by unfold Hid;rw [Gate.zm7];rfl
 unfold Pu.cells;go_enter Tryz.func162,Tryz.ntmps162;go_wp2_with fail
 obtain ⟨hX0,hY0⟩:=qw w #[.string o.dr,.string o.tm,.string o.rs,.int .i64 o.am,.int .i64 o.un] #[.string p.dr,.string p.tm,.string p.rs,.int .i64 p.am,.int .i64 p.un] 136 136;have HB0:Hid (Below w.heap.size w ((w.alloc (.cells #[.string o.dr,.string o.tm,.string o.rs,.int .i64 o.am,.int .i64 o.un] 136)).alloc (.cells #[.string p.dr,.string p.tm,.string p.rs,.int .i64 p.am,.int .i64 p.un] 136))):=zA w _ _;obtain ⟨W0,hW0⟩:∃ W0,W0=(w.alloc (.cells #[.string o.dr,.string o.tm,.string o.rs,.int .i64 o.am,.int .i64 o.un] 136)).alloc (.cells #[.string p.dr,.string p.tm,.string p.rs,.int .i64 p.am,.int .i64 p.un] 136):=⟨_,rfl⟩
 have hz0:w.heap.size+1 < W0.heap.size:=by rw [hW0];simp
 rw [<- hW0] at HB0 hX0 hY0 ⊢;clear hW0;have hS:(∀ j,W0.drew.cell? ⟨w.heap.size,j,none⟩=(#[.string o.dr,.string o.tm,.string o.rs,.int .i64 o.am,.int .i64 o.un]:Array Value)[j]?)/\(∀ j,W0.drew.cell? ⟨w.heap.size+1,j,none⟩=(#[.string p.dr,.string p.tm,.string p.rs,.int .i64 p.am,.int .i64 p.un]:Array Value)[j]?):=⟨hX0,hY0⟩
 have hSa:∀ ob,(∀ j,(W0.alloc ob).drew.cell? ⟨w.heap.size,j,none⟩=(#[.string o.dr,.string o.tm,.string o.rs,.int .i64 o.am,.int .i64 o.un]:Array Value)[j]?)/\(∀ j,(W0.alloc ob).drew.cell? ⟨w.heap.size+1,j,none⟩=(#[.string p.dr,.string p.tm,.string p.rs,.int .i64 p.am,.int .i64 p.un]:Array Value)[j]?):=fun ob=>⟨za (b:=w.heap.size) (wk:=W0) hX0 (nSl hz0) ((bAl _ _).drew),za (b:=w.heap.size+1) (wk:=W0) hY0 hz0 ((bAl _ _).drew)⟩
 clear hX0 hY0
 go_region_held3 (fun w'=>(∀ j,w'.cell? ⟨w.heap.size,j,none⟩=(#[.string o.dr,.string o.tm,.string o.rs,.int .i64 o.am,.int .i64 o.un]:Array Value)[j]?)/\(∀ j,w'.cell? ⟨w.heap.size+1,j,none⟩=(#[.string p.dr,.string p.tm,.string p.rs,.int .i64 p.am,.int .i64 p.un]:Array Value)[j]?)) (first | exact hS | exact hSa _) (first
  | (go_at_call 194;refine (zeJ _ _ _).mono ?_;rintro e w3 ⟨rfl,rfl⟩)
  | (go_at_call 193;refine (zmt _ _ _ _).mono ?_;rintro e w3 ⟨rfl,rfl⟩))
 go_wp2_with fail
 go_ret;exact ⟨zq HR.out,(HB0.out.alloc HB0.out.size _).drew⟩
end Go.Proofs.YtghnakljnhnenaaGreat
