import Derived.Test.YtaickbhifenbjaaGreatM01
import Derived.Test.YtaickbhifenbjaaGreatM16
import Derived.Test.YtaickbhifenbjaaGreatM15
import Derived.Test.YtaickbhifenbjaaGreatM17
import Derived.Test.YtaickbhifenbjaaGreatM10
import Derived.Test.YtaickbhifenbjaaGreatM09
set_option maxHeartbeats 4000000
namespace Go.Proofs.YtaickbhifenbjaaGreat
open Go.RowKit
def Gate.within (n lo hi:Int):Bool:=decide (lo<=n) && decide (n<=hi)
theorem ji (n lo hi:Int) (w:World) :
 Calls Tryz.prog 139 #[.int .i64 n,.int .i64 lo,.int .i64 hi] w fun e w'=>e = .returned (.bool (Gate.within n lo hi))/\w'=w:=by
 by_cases h1:lo<=n
 ·by_cases h2:n<=hi
  ·have HF:Hid (Gate.within n lo hi=true):=by unfold Hid Gate.within;simp [h1,h2]
   go_enter Tryz.func139,Tryz.ntmps139
   go_wp2_with fail
   go_ret
   exact ⟨ze HF.out.symm,rfl⟩
  ·have HF:Hid (Gate.within n lo hi=false):=by unfold Hid Gate.within;simp [h2]
   go_enter Tryz.func139,Tryz.ntmps139
   go_wp2_with fail
   go_ret
   exact ⟨ze HF.out.symm,rfl⟩
 ·have HF:Hid (Gate.within n lo hi=false):=by unfold Hid Gate.within;simp [h1]
  go_enter Tryz.func139,Tryz.ntmps139
  go_wp2_with fail
  go_ret
  exact ⟨ze HF.out.symm,rfl⟩
theorem zjI (W:World) (k1 k2:Int):Calls Tryz.prog 185 #[.slice (some ⟨W.heap.size,0,none⟩) 2 2] (W.alloc (.cells #[.int .i64 k1,.int .i64 k2] 3)).drew fun e w'=>e = .returned (.int .i64 (Gate.zcD [k1,k2]))/\w'=(W.alloc (.cells #[.int .i64 k1,.int .i64 k2] 3)).drew :=
 zjK (some ⟨W.heap.size,0,none⟩) 2 [k1,k2] _ ((zgt (alloc_at _ _) (by simp [maxLen])).mono (Below.refl _ _).drew) (by simp)
theorem zkR (W:World) (k1 k2 k3:Int):Calls Tryz.prog 185 #[.slice (some ⟨W.heap.size,0,none⟩) 3 3] (W.alloc (.cells #[.int .i64 k1,.int .i64 k2,.int .i64 k3] 3)).drew fun e w'=>e = .returned (.int .i64 (Gate.zcD [k1,k2,k3]))/\w'=(W.alloc (.cells #[.int .i64 k1,.int .i64 k2,.int .i64 k3] 3)).drew :=
 zjK (some ⟨W.heap.size,0,none⟩) 3 [k1,k2,k3] _ ((zgt (alloc_at _ _) (by simp [maxLen])).mono (Below.refl _ _).drew) (by simp)
theorem zhy (o p:Ob) (a0 a1 b0 b1:Option Addr) (c0 c1 d0 d1:Nat) (w:World) :
 Calls Tryz.prog 141 #[.agg (o.row a0 a1 c0 c1),.agg (p.row b0 b1 d0 d1)] w fun e w'=>e = .returned (.int .i64 (Gate.zaI o p))/\Below w.heap.size w w':=by
 have HR:Hid (Gate.zcD [Gate.key o.kd p.kd,Gate.key o.nm p.nm]=Gate.zaI o p):=by unfold Hid;rw [Gate.zjy];rfl
 unfold Ob.row
 go_enter Tryz.func141,Tryz.ntmps141
 go_wp2_with fail
 obtain ⟨hX0,hY0⟩:=jd w #[.string o.kd,.string o.nm,.string o.tm,.slice a0 o.vs.length c0,.bool o.en,.slice a1 o.hs.length c1,.int .i64 o.vr] #[.string p.kd,.string p.nm,.string p.tm,.slice b0 p.vs.length d0,.bool p.en,.slice b1 p.hs.length d1,.int .i64 p.vr] 121 121
 have HB0:Hid (Below w.heap.size w ((w.alloc (.cells #[.string o.kd,.string o.nm,.string o.tm,.slice a0 o.vs.length c0,.bool o.en,.slice a1 o.hs.length c1,.int .i64 o.vr] 121)).alloc (.cells #[.string p.kd,.string p.nm,.string p.tm,.slice b0 p.vs.length d0,.bool p.en,.slice b1 p.hs.length d1,.int .i64 p.vr] 121))):=zC w _ _
 obtain ⟨W0,hW0⟩:∃ W0,W0=(w.alloc (.cells #[.string o.kd,.string o.nm,.string o.tm,.slice a0 o.vs.length c0,.bool o.en,.slice a1 o.hs.length c1,.int .i64 o.vr] 121)).alloc (.cells #[.string p.kd,.string p.nm,.string p.tm,.slice b0 p.vs.length d0,.bool p.en,.slice b1 p.hs.length d1,.int .i64 p.vr] 121):=⟨_,rfl⟩
 have hz0:w.heap.size+1 < W0.heap.size:=by rw [hW0];simp
 rw [<- hW0] at HB0 hX0 hY0 ⊢
 clear hW0
 have hS:(∀ j,W0.drew.cell? ⟨w.heap.size,j,none⟩=(#[.string o.kd,.string o.nm,.string o.tm,.slice a0 o.vs.length c0,.bool o.en,.slice a1 o.hs.length c1,.int .i64 o.vr]:Array Value)[j]?)/\(∀ j,W0.drew.cell? ⟨w.heap.size+1,j,none⟩=(#[.string p.kd,.string p.nm,.string p.tm,.slice b0 p.vs.length d0,.bool p.en,.slice b1 p.hs.length d1,.int .i64 p.vr]:Array Value)[j]?):=⟨hX0,hY0⟩
 have hSa:∀ ob,(∀ j,(W0.alloc ob).drew.cell? ⟨w.heap.size,j,none⟩=(#[.string o.kd,.string o.nm,.string o.tm,.slice a0 o.vs.length c0,.bool o.en,.slice a1 o.hs.length c1,.int .i64 o.vr]:Array Value)[j]?)/\(∀ j,(W0.alloc ob).drew.cell? ⟨w.heap.size+1,j,none⟩=(#[.string p.kd,.string p.nm,.string p.tm,.slice b0 p.vs.length d0,.bool p.en,.slice b1 p.hs.length d1,.int .i64 p.vr]:Array Value)[j]?):=fun ob=>⟨za (b:=w.heap.size) (wk:=W0) hX0 (Nat.lt_of_succ_lt hz0) (((Below.refl _ _).alloc (Nat.le_refl _) _).drew),za (b:=w.heap.size+1) (wk:=W0) hY0 hz0 (((Below.refl _ _).alloc (Nat.le_refl _) _).drew)⟩
 clear hX0 hY0
 go_region_held3 (fun w'=>(∀ j,w'.cell? ⟨w.heap.size,j,none⟩=(#[.string o.kd,.string o.nm,.string o.tm,.slice a0 o.vs.length c0,.bool o.en,.slice a1 o.hs.length c1,.int .i64 o.vr]:Array Value)[j]?)/\(∀ j,w'.cell? ⟨w.heap.size+1,j,none⟩=(#[.string p.kd,.string p.nm,.string p.tm,.slice b0 p.vs.length d0,.bool p.en,.slice b1 p.hs.length d1,.int .i64 p.vr]:Array Value)[j]?)) (first | exact hS | exact hSa _) (first
  | (go_at_call 186;refine (zd7 _ _ _).mono ?_;rintro e w3 ⟨rfl,rfl⟩)
  | (go_at_call 185;refine (zjI _ _ _).mono ?_;rintro e w3 ⟨rfl,rfl⟩))
 go_wp2_with fail
 go_ret
 exact ⟨zm HR.out,(HB0.out.alloc HB0.out.size _).drew⟩
theorem zbU (o p:Lg) (w:World) :
 Calls Tryz.prog 149 #[.agg o.cells,.agg p.cells] w fun e w'=>e = .returned (.int .i64 (Gate.qz o p))/\Below w.heap.size w w':=by
 have HR:Hid (Gate.zcD [Gate.key o.tm p.tm,Gate.key o.rs p.rs]=Gate.qz o p):=by unfold Hid;rw [Gate.zjy];rfl
 unfold Lg.cells
 go_enter Tryz.func149,Tryz.ntmps149
 go_wp2_with fail
 obtain ⟨hX0,hY0⟩:=jd w #[.string o.tm,.string o.rs,.int .i64 o.mo,.int .i64 o.fr] #[.string p.tm,.string p.rs,.int .i64 p.mo,.int .i64 p.fr] 126 126
 have HB0:Hid (Below w.heap.size w ((w.alloc (.cells #[.string o.tm,.string o.rs,.int .i64 o.mo,.int .i64 o.fr] 126)).alloc (.cells #[.string p.tm,.string p.rs,.int .i64 p.mo,.int .i64 p.fr] 126))):=zC w _ _
 obtain ⟨W0,hW0⟩:∃ W0,W0=(w.alloc (.cells #[.string o.tm,.string o.rs,.int .i64 o.mo,.int .i64 o.fr] 126)).alloc (.cells #[.string p.tm,.string p.rs,.int .i64 p.mo,.int .i64 p.fr] 126):=⟨_,rfl⟩
 have hz0:w.heap.size+1 < W0.heap.size:=by rw [hW0];simp
 rw [<- hW0] at HB0 hX0 hY0 ⊢
 clear hW0
 have hS:(∀ j,W0.drew.cell? ⟨w.heap.size,j,none⟩=(#[.string o.tm,.string o.rs,.int .i64 o.mo,.int .i64 o.fr]:Array Value)[j]?)/\(∀ j,W0.drew.cell? ⟨w.heap.size+1,j,none⟩=(#[.string p.tm,.string p.rs,.int .i64 p.mo,.int .i64 p.fr]:Array Value)[j]?):=⟨hX0,hY0⟩
 have hSa:∀ ob,(∀ j,(W0.alloc ob).drew.cell? ⟨w.heap.size,j,none⟩=(#[.string o.tm,.string o.rs,.int .i64 o.mo,.int .i64 o.fr]:Array Value)[j]?)/\(∀ j,(W0.alloc ob).drew.cell? ⟨w.heap.size+1,j,none⟩=(#[.string p.tm,.string p.rs,.int .i64 p.mo,.int .i64 p.fr]:Array Value)[j]?):=fun ob=>⟨za (b:=w.heap.size) (wk:=W0) hX0 (Nat.lt_of_succ_lt hz0) (((Below.refl _ _).alloc (Nat.le_refl _) _).drew),za (b:=w.heap.size+1) (wk:=W0) hY0 hz0 (((Below.refl _ _).alloc (Nat.le_refl _) _).drew)⟩
 clear hX0 hY0
 go_region_held3 (fun w'=>(∀ j,w'.cell? ⟨w.heap.size,j,none⟩=(#[.string o.tm,.string o.rs,.int .i64 o.mo,.int .i64 o.fr]:Array Value)[j]?)/\(∀ j,w'.cell? ⟨w.heap.size+1,j,none⟩=(#[.string p.tm,.string p.rs,.int .i64 p.mo,.int .i64 p.fr]:Array Value)[j]?)) (first | exact hS | exact hSa _) (first
  | (go_at_call 186;refine (zd7 _ _ _).mono ?_;rintro e w3 ⟨rfl,rfl⟩)
  | (go_at_call 185;refine (zjI _ _ _).mono ?_;rintro e w3 ⟨rfl,rfl⟩))
 go_wp2_with fail
 go_ret
 exact ⟨zm HR.out,(HB0.out.alloc HB0.out.size _).drew⟩
theorem zhM (o p:Pu) (w:World) :
 Calls Tryz.prog 152 #[.agg o.cells,.agg p.cells] w fun e w'=>e = .returned (.int .i64 (Gate.jV o p))/\Below w.heap.size w w':=by
 have HR:Hid (Gate.zcD [Gate.key o.dr p.dr,Gate.key o.tm p.tm,Gate.key o.rs p.rs]=Gate.jV o p):=by unfold Hid;rw [Gate.zkK];rfl
 unfold Pu.cells
 go_enter Tryz.func152,Tryz.ntmps152
 go_wp2_with fail
 obtain ⟨hX0,hY0⟩:=jd w #[.string o.dr,.string o.tm,.string o.rs,.int .i64 o.am,.int .i64 o.un] #[.string p.dr,.string p.tm,.string p.rs,.int .i64 p.am,.int .i64 p.un] 128 128
 have HB0:Hid (Below w.heap.size w ((w.alloc (.cells #[.string o.dr,.string o.tm,.string o.rs,.int .i64 o.am,.int .i64 o.un] 128)).alloc (.cells #[.string p.dr,.string p.tm,.string p.rs,.int .i64 p.am,.int .i64 p.un] 128))):=zC w _ _
 obtain ⟨W0,hW0⟩:∃ W0,W0=(w.alloc (.cells #[.string o.dr,.string o.tm,.string o.rs,.int .i64 o.am,.int .i64 o.un] 128)).alloc (.cells #[.string p.dr,.string p.tm,.string p.rs,.int .i64 p.am,.int .i64 p.un] 128):=⟨_,rfl⟩
 have hz0:w.heap.size+1 < W0.heap.size:=by rw [hW0];simp
 rw [<- hW0] at HB0 hX0 hY0 ⊢
 clear hW0
 have hS:(∀ j,W0.drew.cell? ⟨w.heap.size,j,none⟩=(#[.string o.dr,.string o.tm,.string o.rs,.int .i64 o.am,.int .i64 o.un]:Array Value)[j]?)/\(∀ j,W0.drew.cell? ⟨w.heap.size+1,j,none⟩=(#[.string p.dr,.string p.tm,.string p.rs,.int .i64 p.am,.int .i64 p.un]:Array Value)[j]?):=⟨hX0,hY0⟩
 have hSa:∀ ob,(∀ j,(W0.alloc ob).drew.cell? ⟨w.heap.size,j,none⟩=(#[.string o.dr,.string o.tm,.string o.rs,.int .i64 o.am,.int .i64 o.un]:Array Value)[j]?)/\(∀ j,(W0.alloc ob).drew.cell? ⟨w.heap.size+1,j,none⟩=(#[.string p.dr,.string p.tm,.string p.rs,.int .i64 p.am,.int .i64 p.un]:Array Value)[j]?):=fun ob=>⟨za (b:=w.heap.size) (wk:=W0) hX0 (Nat.lt_of_succ_lt hz0) (((Below.refl _ _).alloc (Nat.le_refl _) _).drew),za (b:=w.heap.size+1) (wk:=W0) hY0 hz0 (((Below.refl _ _).alloc (Nat.le_refl _) _).drew)⟩
 clear hX0 hY0
 go_region_held3 (fun w'=>(∀ j,w'.cell? ⟨w.heap.size,j,none⟩=(#[.string o.dr,.string o.tm,.string o.rs,.int .i64 o.am,.int .i64 o.un]:Array Value)[j]?)/\(∀ j,w'.cell? ⟨w.heap.size+1,j,none⟩=(#[.string p.dr,.string p.tm,.string p.rs,.int .i64 p.am,.int .i64 p.un]:Array Value)[j]?)) (first | exact hS | exact hSa _) (first
  | (go_at_call 186;refine (zd7 _ _ _).mono ?_;rintro e w3 ⟨rfl,rfl⟩)
  | (go_at_call 185;refine (zkR _ _ _ _).mono ?_;rintro e w3 ⟨rfl,rfl⟩))
 go_wp2_with fail
 go_ret
 exact ⟨zm HR.out,(HB0.out.alloc HB0.out.size _).drew⟩
namespace Gate
def jC {α:Type} (key:α->α->Int) (ms:List α) (k:Nat):Prop:=∀ i (h:i+1 < ms.length),i+1 < k->key ms[i] ms[i+1] < 0
def rising {α:Type} (key:α->α->Int) (ms:List α):Prop:=∀ i (h:i+1 < ms.length),key ms[i] ms[i+1] < 0
noncomputable def zaV {α:Type} (key:α->α->Int) (ms:List α):Bool:=@decide (rising key ms) (Classical.propDecidable _)
theorem zdw {α:Type} {key:α->α->Int} {ms:List α} {m:Nat} (h:jC key ms (m+1)) (hl:m+1 < ms.length) (hk:key ms[m] ms[m+1] < 0):jC key ms (m+1+1):=by
 intro i hi hik
 rcases Nat.lt_or_ge i m with hlt | hge
 ·exact h i hi (by omega)
 ·have e:i=m:=by omega
  subst e
  exact hk
theorem zfz {α:Type} {key:α->α->Int} {ms:List α} {m:Nat} (hl:m+1 < ms.length) (hk:¬ key ms[m] ms[m+1] < 0):zaV key ms=false:=by
 unfold zaV
 simp only [decide_eq_false_iff_not]
 exact fun h=>hk (h m hl)
theorem zfO {α:Type} {key:α->α->Int} {ms:List α} {m:Nat} (h:jC key ms (m+1)) (hl:ms.length<=m+1):zaV key ms=true:=by
 unfold zaV
 simp only [decide_eq_true_eq]
 exact fun i hi=>h i hi (by omega)
theorem zlV {α:Type} (key:α->α->Int) (ms:List α):zaV key ms=true ↔ rising key ms:=by
 unfold zaV
 simp only [decide_eq_true_eq]
def zdr (a b:Int):Int:=if a < b then -1 else if b < a then 1 else 0
def zbl (a b:Gr):Int:=zdr a.no b.no
end Gate
theorem ze0 {n m:Nat} (h:m+1 < n):n+1 - (intOf (Value.int IntKind.i64 ((m:Int)+1+1))).toNat < n+1 - (intOf (Value.int IntKind.i64 ((m:Int)+1))).toNat:=by
 show n+1 - ((m:Int)+1+1).toNat < n+1 - ((m:Int)+1).toNat
 omega
theorem znL (x:Int) (w:World):Calls Tryz.prog 212 #[.int .i64 x] w fun e w'=>e = .returned (.bool false)/\w'=w:=by
 have h:(x != x)=false:=by simp
 go_enter Tryz.func212,Tryz.ntmps212
 go_wp2_with fail
 go_ret
 exact ⟨rfl,rfl⟩
theorem zij (x y:Int) (w:World):Calls Tryz.prog 192 #[.int .i64 x,.int .i64 y] w fun e w'=>e = .returned (.int .i64 (Gate.zdr x y))/\w'=w:=by
 have HN:Hid (∀ z W,Calls Tryz.prog 212 #[.int .i64 z] W fun e w'=>e = .returned (.bool false)/\w'=W):=znL
 by_cases h1:x < y
 ·have HF:Hid (Gate.zdr x y=-1):=by unfold Hid Gate.zdr;rw [if_pos h1]
  go_enter Tryz.func192,Tryz.ntmps192
  go_wp2_with (go_at_call 212;refine (HN.out _ _).mono ?_;rintro e w2 ⟨rfl,rfl⟩)
  go_ret
  exact ⟨zm HF.out.symm,rfl⟩
 ·by_cases h2:y < x
  ·have HF:Hid (Gate.zdr x y=1):=by unfold Hid Gate.zdr;rw [if_neg h1,if_pos h2]
   go_enter Tryz.func192,Tryz.ntmps192
   go_wp2_with (go_at_call 212;refine (HN.out _ _).mono ?_;rintro e w2 ⟨rfl,rfl⟩)
   go_ret
   exact ⟨zm HF.out.symm,rfl⟩
  ·have HF:Hid (Gate.zdr x y=0):=by unfold Hid Gate.zdr;rw [if_neg h1,if_neg h2]
   go_enter Tryz.func192,Tryz.ntmps192
   go_wp2_with (go_at_call 212;refine (HN.out _ _).mono ?_;rintro e w2 ⟨rfl,rfl⟩)
   go_ret
   exact ⟨zm HF.out.symm,rfl⟩
theorem zik (g h:Gr) (a b:Option Addr) (c d:Nat) (w:World) :
 Calls Tryz.prog 146 #[.agg (g.cells a c),.agg (h.cells b d)] w fun e w'=>e = .returned (.int .i64 (Gate.zbl g h))/\Below w.heap.size w w':=by
 unfold Gr.cells
 go_enter Tryz.func146,Tryz.ntmps146
 go_wp2_with (go_at_call 192;refine (zij _ _ _).mono ?_;rintro e w2 ⟨rfl,rfl⟩)
 go_ret
 exact ⟨rfl,zC _ _ _⟩
theorem zhl (a:Option Addr) (cap:Nat) (ms:List Ob) (w:World) (hw:zbr w a ms) :
 Calls Tryz.prog 140 #[.slice a ms.length cap,.func (.func 141) #[] #[]] w fun e w'=>e = .returned (.bool (Gate.zaV Gate.zaI ms))/\Below w.heap.size w w':=by
 have hl:=hw.len
 unfold maxLen at hl
 have HW:Hid (zbr w a ms):=hw
 clear hw
 go_enter Tryz.func140,Tryz.ntmps140
 go_wp2_with fail
 go_loopw [5] (fun iv wr=>∃ m:Nat,iv = .int .i64 ((m:Int)+1)/\m<=ms.length/\Hid (Gate.jC Gate.zaI ms (m+1)/\Below w.heap.size w wr)) (fun iv _=>ms.length+1 - (intOf iv).toNat)
 case atStart=>exact ⟨0,rfl,Nat.zero_le _,fun i h h'=>by omega,Below.refl _ _⟩
 case round =>
  obtain ⟨m,rfl,hml,HQ⟩:=hrel
  by_cases hlt:m+1 < ms.length
  ·have hm:m < ms.length:=by omega
   obtain ⟨b,off,p0,p1,p2,p3,rfl,hb,_,_,_,d0,d1,d2,d3,d4,d5,d6⟩:=HW.out.load HQ.out.2 m hm
   obtain ⟨b2,off2,q0,q1,q2,q3,ha2,hbq,_,_,_,e0,e1,e2,e3,e4,e5,e6⟩:=HW.out.load HQ.out.2 (m+1) hlt
   obtain ⟨rfl,rfl⟩:b=b2/\off=off2:=by
    have h:=ha2
    simpa using h
   have hb':b < wr.heap.size:=Nat.lt_of_lt_of_le hb HQ.out.2.size
   have hltI:(m:Int)+1 < (ms.length:Int):=by omega
   have h0m:(0:Int)<=(m:Int):=by omega
   have h01:(0:Int)<=(m:Int)+1:=by omega
   have hsub:IntKind.i64.wrap ((m:Int)+1 - 1)=(m:Int):=by rw [IntKind.wrap_i64];omega
   have hsub2:IntKind.i64.wrap (m:Int)=(m:Int):=by rw [IntKind.wrap_i64];omega
   have hsub3:wrap64 (m:Int)=(m:Int):=by unfold wrap64;omega
   have htn:((m:Int)+1).toNat=m+1:=by omega
   have hlmI:(m:Int) < (ms.length:Int):=by omega
   have HBr:Hid (Below w.heap.size w wr):=HQ.out.2
   have hS:wr.drew.cell? ⟨b,off+m * 7,none⟩=some (.string ms[m].kd)/\wr.drew.cell? ⟨b,off+m * 7+1,none⟩=some (.string ms[m].nm)/\wr.drew.cell? ⟨b,off+m * 7+2,none⟩=some (.string ms[m].tm)/\wr.drew.cell? ⟨b,off+m * 7+3,none⟩=some (.slice p0 ms[m].vs.length p2)/\wr.drew.cell? ⟨b,off+m * 7+4,none⟩=some (.bool ms[m].en)/\wr.drew.cell? ⟨b,off+m * 7+5,none⟩=some (.slice p1 ms[m].hs.length p3)/\wr.drew.cell? ⟨b,off+m * 7+6,none⟩=some (.int .i64 ms[m].vr)/\wr.drew.cell? ⟨b,off+(m+1) * 7,none⟩=some (.string ms[m+1].kd)/\wr.drew.cell? ⟨b,off+(m+1) * 7+1,none⟩=some (.string ms[m+1].nm)/\wr.drew.cell? ⟨b,off+(m+1) * 7+2,none⟩=some (.string ms[m+1].tm)/\wr.drew.cell? ⟨b,off+(m+1) * 7+3,none⟩=some (.slice q0 ms[m+1].vs.length q2)/\wr.drew.cell? ⟨b,off+(m+1) * 7+4,none⟩=some (.bool ms[m+1].en)/\wr.drew.cell? ⟨b,off+(m+1) * 7+5,none⟩=some (.slice q1 ms[m+1].hs.length q3)/\wr.drew.cell? ⟨b,off+(m+1) * 7+6,none⟩=some (.int .i64 ms[m+1].vr):=⟨d0,d1,d2,d3,d4,d5,d6,e0,e1,e2,e3,e4,e5,e6⟩
   clear d0 d1 d2 d3 d4 d5 d6 e0 e1 e2 e3 e4 e5 e6
   have HM:Hid (Gate.jC Gate.zaI ms (m+1)):=HQ.out.1
   clear HQ
   go_wp2_with fail
   go_region_held3 (fun w'=>w'.cell? ⟨b,off+m * 7,none⟩=some (.string ms[m].kd)/\w'.cell? ⟨b,off+m * 7+1,none⟩=some (.string ms[m].nm)/\w'.cell? ⟨b,off+m * 7+2,none⟩=some (.string ms[m].tm)/\w'.cell? ⟨b,off+m * 7+3,none⟩=some (.slice p0 ms[m].vs.length p2)/\w'.cell? ⟨b,off+m * 7+4,none⟩=some (.bool ms[m].en)/\w'.cell? ⟨b,off+m * 7+5,none⟩=some (.slice p1 ms[m].hs.length p3)/\w'.cell? ⟨b,off+m * 7+6,none⟩=some (.int .i64 ms[m].vr)/\w'.cell? ⟨b,off+(m+1) * 7,none⟩=some (.string ms[m+1].kd)/\w'.cell? ⟨b,off+(m+1) * 7+1,none⟩=some (.string ms[m+1].nm)/\w'.cell? ⟨b,off+(m+1) * 7+2,none⟩=some (.string ms[m+1].tm)/\w'.cell? ⟨b,off+(m+1) * 7+3,none⟩=some (.slice q0 ms[m+1].vs.length q2)/\w'.cell? ⟨b,off+(m+1) * 7+4,none⟩=some (.bool ms[m+1].en)/\w'.cell? ⟨b,off+(m+1) * 7+5,none⟩=some (.slice q1 ms[m+1].hs.length q3)/\w'.cell? ⟨b,off+(m+1) * 7+6,none⟩=some (.int .i64 ms[m+1].vr)) (exact hS) (first | (go_at_call 141;refine (zhy ms[m] ms[m+1] p0 p1 q0 q1 p2 p3 q2 q3 _).mono ?_;rintro e w2 ⟨rfl,hb2⟩;have hS:=(⟨(hb2.cell (p:=⟨b,_,none⟩) hb').trans hS.1,(hb2.cell (p:=⟨b,_,none⟩) hb').trans hS.2.1,(hb2.cell (p:=⟨b,_,none⟩) hb').trans hS.2.2.1,(hb2.cell (p:=⟨b,_,none⟩) hb').trans hS.2.2.2.1,(hb2.cell (p:=⟨b,_,none⟩) hb').trans hS.2.2.2.2.1,(hb2.cell (p:=⟨b,_,none⟩) hb').trans hS.2.2.2.2.2.1,(hb2.cell (p:=⟨b,_,none⟩) hb').trans hS.2.2.2.2.2.2.1,(hb2.cell (p:=⟨b,_,none⟩) hb').trans hS.2.2.2.2.2.2.2.1,(hb2.cell (p:=⟨b,_,none⟩) hb').trans hS.2.2.2.2.2.2.2.2.1,(hb2.cell (p:=⟨b,_,none⟩) hb').trans hS.2.2.2.2.2.2.2.2.2.1,(hb2.cell (p:=⟨b,_,none⟩) hb').trans hS.2.2.2.2.2.2.2.2.2.2.1,(hb2.cell (p:=⟨b,_,none⟩) hb').trans hS.2.2.2.2.2.2.2.2.2.2.2.1,(hb2.cell (p:=⟨b,_,none⟩) hb').trans hS.2.2.2.2.2.2.2.2.2.2.2.2.1,(hb2.cell (p:=⟨b,_,none⟩) hb').trans hS.2.2.2.2.2.2.2.2.2.2.2.2.2⟩:_/\_/\_/\_/\_/\_/\_/\_/\_/\_/\_/\_/\_/\_);have hB2:=HBr.out.drew.trans (hb2.mono HBr.out.drew.size);clear hb2))
   by_cases hk:Gate.zaI ms[m] ms[m+1] < 0
   ·have HA:Hid (Gate.jC Gate.zaI ms (m+1+1)):=Gate.zdw HM.out hlt hk
    have hd:decide (0<=Gate.zaI ms[m] ms[m+1])=false:=by simp;omega
    rw [hd]
    clear hk hd
    go_wp2_with fail
    exact ⟨⟨m+1,by go_num,by omega,HA.out,hB2⟩,ze0 (by omega)⟩
   ·have HA:Hid (Gate.zaV Gate.zaI ms=false):=Gate.zfz hlt hk
    have hd:decide (0<=Gate.zaI ms[m] ms[m+1])=true:=by simp;omega
    rw [hd]
    clear hk hd
    go_wp2_with fail
    go_ret
    exact ⟨ze HA.out.symm,hB2⟩
  ·have HA:Hid (Gate.zaV Gate.zaI ms=true):=Gate.zfO HQ.out.1 (by omega)
   have HB:Hid (Below w.heap.size w wr):=HQ.out.2
   clear HQ
   go_wp2_with fail
   go_ret
   exact ⟨ze HA.out.symm,HB.out⟩
theorem zhk (a:Option Addr) (cap:Nat) (ms:List Gr) (w:World) (hw:zbb w a ms) :
 Calls Tryz.prog 145 #[.slice a ms.length cap,.func (.func 146) #[] #[]] w fun e w'=>e = .returned (.bool (Gate.zaV Gate.zbl ms))/\Below w.heap.size w w':=by
 have hl:=hw.len
 unfold maxLen at hl
 have HW:Hid (zbb w a ms):=hw
 clear hw
 go_enter Tryz.func145,Tryz.ntmps145
 go_wp2_with fail
 go_loopw [5] (fun iv wr=>∃ m:Nat,iv = .int .i64 ((m:Int)+1)/\m<=ms.length/\Hid (Gate.jC Gate.zbl ms (m+1)/\Below w.heap.size w wr)) (fun iv _=>ms.length+1 - (intOf iv).toNat)
 case atStart=>exact ⟨0,rfl,Nat.zero_le _,fun i h h'=>by omega,Below.refl _ _⟩
 case round =>
  obtain ⟨m,rfl,hml,HQ⟩:=hrel
  by_cases hlt:m+1 < ms.length
  ·have hm:m < ms.length:=by omega
   obtain ⟨b,off,p0,p1,rfl,hb,_,_,d0,d1,d2,d3,d4,d5,d6⟩:=HW.out.load HQ.out.2 m hm
   obtain ⟨b2,off2,q0,q1,ha2,hbq,_,_,e0,e1,e2,e3,e4,e5,e6⟩:=HW.out.load HQ.out.2 (m+1) hlt
   obtain ⟨rfl,rfl⟩:b=b2/\off=off2:=by
    have h:=ha2
    simpa using h
   have hb':b < wr.heap.size:=Nat.lt_of_lt_of_le hb HQ.out.2.size
   have hltI:(m:Int)+1 < (ms.length:Int):=by omega
   have h0m:(0:Int)<=(m:Int):=by omega
   have h01:(0:Int)<=(m:Int)+1:=by omega
   have hsub:IntKind.i64.wrap ((m:Int)+1 - 1)=(m:Int):=by rw [IntKind.wrap_i64];omega
   have hsub2:IntKind.i64.wrap (m:Int)=(m:Int):=by rw [IntKind.wrap_i64];omega
   have hsub3:wrap64 (m:Int)=(m:Int):=by unfold wrap64;omega
   have htn:((m:Int)+1).toNat=m+1:=by omega
   have hlmI:(m:Int) < (ms.length:Int):=by omega
   have HBr:Hid (Below w.heap.size w wr):=HQ.out.2
   have hS:wr.drew.cell? ⟨b,off+m * 7,none⟩=some (.int .i64 ms[m].no)/\wr.drew.cell? ⟨b,off+m * 7+1,none⟩=some (.string ms[m].to)/\wr.drew.cell? ⟨b,off+m * 7+2,none⟩=some (.string ms[m].gb)/\wr.drew.cell? ⟨b,off+m * 7+3,none⟩=some (.slice p0 ms[m].r.vs.length p1)/\wr.drew.cell? ⟨b,off+m * 7+4,none⟩=some (.string ms[m].r.kd)/\wr.drew.cell? ⟨b,off+m * 7+5,none⟩=some (.string ms[m].r.tm)/\wr.drew.cell? ⟨b,off+m * 7+6,none⟩=some (.string ms[m].r.px)/\wr.drew.cell? ⟨b,off+(m+1) * 7,none⟩=some (.int .i64 ms[m+1].no)/\wr.drew.cell? ⟨b,off+(m+1) * 7+1,none⟩=some (.string ms[m+1].to)/\wr.drew.cell? ⟨b,off+(m+1) * 7+2,none⟩=some (.string ms[m+1].gb)/\wr.drew.cell? ⟨b,off+(m+1) * 7+3,none⟩=some (.slice q0 ms[m+1].r.vs.length q1)/\wr.drew.cell? ⟨b,off+(m+1) * 7+4,none⟩=some (.string ms[m+1].r.kd)/\wr.drew.cell? ⟨b,off+(m+1) * 7+5,none⟩=some (.string ms[m+1].r.tm)/\wr.drew.cell? ⟨b,off+(m+1) * 7+6,none⟩=some (.string ms[m+1].r.px):=⟨d0,d1,d2,d3,d4,d5,d6,e0,e1,e2,e3,e4,e5,e6⟩
   clear d0 d1 d2 d3 d4 d5 d6 e0 e1 e2 e3 e4 e5 e6
   have HM:Hid (Gate.jC Gate.zbl ms (m+1)):=HQ.out.1
   clear HQ
   go_wp2_with fail
   go_region_held3 (fun w'=>w'.cell? ⟨b,off+m * 7,none⟩=some (.int .i64 ms[m].no)/\w'.cell? ⟨b,off+m * 7+1,none⟩=some (.string ms[m].to)/\w'.cell? ⟨b,off+m * 7+2,none⟩=some (.string ms[m].gb)/\w'.cell? ⟨b,off+m * 7+3,none⟩=some (.slice p0 ms[m].r.vs.length p1)/\w'.cell? ⟨b,off+m * 7+4,none⟩=some (.string ms[m].r.kd)/\w'.cell? ⟨b,off+m * 7+5,none⟩=some (.string ms[m].r.tm)/\w'.cell? ⟨b,off+m * 7+6,none⟩=some (.string ms[m].r.px)/\w'.cell? ⟨b,off+(m+1) * 7,none⟩=some (.int .i64 ms[m+1].no)/\w'.cell? ⟨b,off+(m+1) * 7+1,none⟩=some (.string ms[m+1].to)/\w'.cell? ⟨b,off+(m+1) * 7+2,none⟩=some (.string ms[m+1].gb)/\w'.cell? ⟨b,off+(m+1) * 7+3,none⟩=some (.slice q0 ms[m+1].r.vs.length q1)/\w'.cell? ⟨b,off+(m+1) * 7+4,none⟩=some (.string ms[m+1].r.kd)/\w'.cell? ⟨b,off+(m+1) * 7+5,none⟩=some (.string ms[m+1].r.tm)/\w'.cell? ⟨b,off+(m+1) * 7+6,none⟩=some (.string ms[m+1].r.px)) (exact hS) (first | (go_at_call 146;refine (zik ms[m] ms[m+1] p0 q0 p1 q1 _).mono ?_;rintro e w2 ⟨rfl,hb2⟩;have hS:=(⟨(hb2.cell (p:=⟨b,_,none⟩) hb').trans hS.1,(hb2.cell (p:=⟨b,_,none⟩) hb').trans hS.2.1,(hb2.cell (p:=⟨b,_,none⟩) hb').trans hS.2.2.1,(hb2.cell (p:=⟨b,_,none⟩) hb').trans hS.2.2.2.1,(hb2.cell (p:=⟨b,_,none⟩) hb').trans hS.2.2.2.2.1,(hb2.cell (p:=⟨b,_,none⟩) hb').trans hS.2.2.2.2.2.1,(hb2.cell (p:=⟨b,_,none⟩) hb').trans hS.2.2.2.2.2.2.1,(hb2.cell (p:=⟨b,_,none⟩) hb').trans hS.2.2.2.2.2.2.2.1,(hb2.cell (p:=⟨b,_,none⟩) hb').trans hS.2.2.2.2.2.2.2.2.1,(hb2.cell (p:=⟨b,_,none⟩) hb').trans hS.2.2.2.2.2.2.2.2.2.1,(hb2.cell (p:=⟨b,_,none⟩) hb').trans hS.2.2.2.2.2.2.2.2.2.2.1,(hb2.cell (p:=⟨b,_,none⟩) hb').trans hS.2.2.2.2.2.2.2.2.2.2.2.1,(hb2.cell (p:=⟨b,_,none⟩) hb').trans hS.2.2.2.2.2.2.2.2.2.2.2.2.1,(hb2.cell (p:=⟨b,_,none⟩) hb').trans hS.2.2.2.2.2.2.2.2.2.2.2.2.2⟩:_/\_/\_/\_/\_/\_/\_/\_/\_/\_/\_/\_/\_/\_);have hB2:=HBr.out.drew.trans (hb2.mono HBr.out.drew.size);clear hb2))
   by_cases hk:Gate.zbl ms[m] ms[m+1] < 0
   ·have HA:Hid (Gate.jC Gate.zbl ms (m+1+1)):=Gate.zdw HM.out hlt hk
    have hd:decide (0<=Gate.zbl ms[m] ms[m+1])=false:=by simp;omega
    rw [hd]
    clear hk hd
    go_wp2_with fail
    exact ⟨⟨m+1,by go_num,by omega,HA.out,hB2⟩,ze0 (by omega)⟩
   ·have HA:Hid (Gate.zaV Gate.zbl ms=false):=Gate.zfz hlt hk
    have hd:decide (0<=Gate.zbl ms[m] ms[m+1])=true:=by simp;omega
    rw [hd]
    clear hk hd
    go_wp2_with fail
    go_ret
    exact ⟨ze HA.out.symm,hB2⟩
  ·have HA:Hid (Gate.zaV Gate.zbl ms=true):=Gate.zfO HQ.out.1 (by omega)
   have HB:Hid (Below w.heap.size w wr):=HQ.out.2
   clear HQ
   go_wp2_with fail
   go_ret
   exact ⟨ze HA.out.symm,HB.out⟩
theorem zhx (a:Option Addr) (cap:Nat) (ms:List Lg) (w:World) (hw:zbL w a ms) :
 Calls Tryz.prog 148 #[.slice a ms.length cap,.func (.func 149) #[] #[]] w fun e w'=>e = .returned (.bool (Gate.zaV Gate.qz ms))/\Below w.heap.size w w':=by
 have hl:=hw.len
 unfold maxLen at hl
 have HW:Hid (zbL w a ms):=hw
 clear hw
 go_enter Tryz.func148,Tryz.ntmps148
 go_wp2_with fail
 go_loopw [5] (fun iv wr=>∃ m:Nat,iv = .int .i64 ((m:Int)+1)/\m<=ms.length/\Hid (Gate.jC Gate.qz ms (m+1)/\Below w.heap.size w wr)) (fun iv _=>ms.length+1 - (intOf iv).toNat)
 case atStart=>exact ⟨0,rfl,Nat.zero_le _,fun i h h'=>by omega,Below.refl _ _⟩
 case round =>
  obtain ⟨m,rfl,hml,HQ⟩:=hrel
  by_cases hlt:m+1 < ms.length
  ·have hm:m < ms.length:=by omega
   obtain ⟨b,off,rfl,hb,d0,d1,d2,d3⟩:=HW.out.load HQ.out.2 m hm
   obtain ⟨b2,off2,ha2,hbq,e0,e1,e2,e3⟩:=HW.out.load HQ.out.2 (m+1) hlt
   obtain ⟨rfl,rfl⟩:b=b2/\off=off2:=by
    have h:=ha2
    simpa using h
   have hb':b < wr.heap.size:=Nat.lt_of_lt_of_le hb HQ.out.2.size
   have hltI:(m:Int)+1 < (ms.length:Int):=by omega
   have h0m:(0:Int)<=(m:Int):=by omega
   have h01:(0:Int)<=(m:Int)+1:=by omega
   have hsub:IntKind.i64.wrap ((m:Int)+1 - 1)=(m:Int):=by rw [IntKind.wrap_i64];omega
   have hsub2:IntKind.i64.wrap (m:Int)=(m:Int):=by rw [IntKind.wrap_i64];omega
   have hsub3:wrap64 (m:Int)=(m:Int):=by unfold wrap64;omega
   have htn:((m:Int)+1).toNat=m+1:=by omega
   have hlmI:(m:Int) < (ms.length:Int):=by omega
   have HBr:Hid (Below w.heap.size w wr):=HQ.out.2
   have hS:wr.drew.cell? ⟨b,off+m * 4,none⟩=some (.string ms[m].tm)/\wr.drew.cell? ⟨b,off+m * 4+1,none⟩=some (.string ms[m].rs)/\wr.drew.cell? ⟨b,off+m * 4+2,none⟩=some (.int .i64 ms[m].mo)/\wr.drew.cell? ⟨b,off+m * 4+3,none⟩=some (.int .i64 ms[m].fr)/\wr.drew.cell? ⟨b,off+(m+1) * 4,none⟩=some (.string ms[m+1].tm)/\wr.drew.cell? ⟨b,off+(m+1) * 4+1,none⟩=some (.string ms[m+1].rs)/\wr.drew.cell? ⟨b,off+(m+1) * 4+2,none⟩=some (.int .i64 ms[m+1].mo)/\wr.drew.cell? ⟨b,off+(m+1) * 4+3,none⟩=some (.int .i64 ms[m+1].fr):=⟨d0,d1,d2,d3,e0,e1,e2,e3⟩
   clear d0 d1 d2 d3 e0 e1 e2 e3
   have HM:Hid (Gate.jC Gate.qz ms (m+1)):=HQ.out.1
   clear HQ
   go_wp2_with fail
   go_region_held3 (fun w'=>w'.cell? ⟨b,off+m * 4,none⟩=some (.string ms[m].tm)/\w'.cell? ⟨b,off+m * 4+1,none⟩=some (.string ms[m].rs)/\w'.cell? ⟨b,off+m * 4+2,none⟩=some (.int .i64 ms[m].mo)/\w'.cell? ⟨b,off+m * 4+3,none⟩=some (.int .i64 ms[m].fr)/\w'.cell? ⟨b,off+(m+1) * 4,none⟩=some (.string ms[m+1].tm)/\w'.cell? ⟨b,off+(m+1) * 4+1,none⟩=some (.string ms[m+1].rs)/\w'.cell? ⟨b,off+(m+1) * 4+2,none⟩=some (.int .i64 ms[m+1].mo)/\w'.cell? ⟨b,off+(m+1) * 4+3,none⟩=some (.int .i64 ms[m+1].fr)) (exact hS) (first | (go_at_call 149;refine (zbU ms[m] ms[m+1] _).mono ?_;rintro e w2 ⟨rfl,hb2⟩;have hS:=(⟨(hb2.cell (p:=⟨b,_,none⟩) hb').trans hS.1,(hb2.cell (p:=⟨b,_,none⟩) hb').trans hS.2.1,(hb2.cell (p:=⟨b,_,none⟩) hb').trans hS.2.2.1,(hb2.cell (p:=⟨b,_,none⟩) hb').trans hS.2.2.2.1,(hb2.cell (p:=⟨b,_,none⟩) hb').trans hS.2.2.2.2.1,(hb2.cell (p:=⟨b,_,none⟩) hb').trans hS.2.2.2.2.2.1,(hb2.cell (p:=⟨b,_,none⟩) hb').trans hS.2.2.2.2.2.2.1,(hb2.cell (p:=⟨b,_,none⟩) hb').trans hS.2.2.2.2.2.2.2⟩:_/\_/\_/\_/\_/\_/\_/\_);have hB2:=HBr.out.drew.trans (hb2.mono HBr.out.drew.size);clear hb2))
   by_cases hk:Gate.qz ms[m] ms[m+1] < 0
   ·have HA:Hid (Gate.jC Gate.qz ms (m+1+1)):=Gate.zdw HM.out hlt hk
    have hd:decide (0<=Gate.qz ms[m] ms[m+1])=false:=by simp;omega
    rw [hd]
    clear hk hd
    go_wp2_with fail
    exact ⟨⟨m+1,by go_num,by omega,HA.out,hB2⟩,ze0 (by omega)⟩
   ·have HA:Hid (Gate.zaV Gate.qz ms=false):=Gate.zfz hlt hk
    have hd:decide (0<=Gate.qz ms[m] ms[m+1])=true:=by simp;omega
    rw [hd]
    clear hk hd
    go_wp2_with fail
    go_ret
    exact ⟨ze HA.out.symm,hB2⟩
  ·have HA:Hid (Gate.zaV Gate.qz ms=true):=Gate.zfO HQ.out.1 (by omega)
   have HB:Hid (Below w.heap.size w wr):=HQ.out.2
   clear HQ
   go_wp2_with fail
   go_ret
   exact ⟨ze HA.out.symm,HB.out⟩
theorem zg3 (a:Option Addr) (cap:Nat) (ms:List Pu) (w:World) (hw:zcF w a ms) :
 Calls Tryz.prog 151 #[.slice a ms.length cap,.func (.func 152) #[] #[]] w fun e w'=>e = .returned (.bool (Gate.zaV Gate.jV ms))/\Below w.heap.size w w':=by
 have hl:=hw.len
 unfold maxLen at hl
 have HW:Hid (zcF w a ms):=hw
 clear hw
 go_enter Tryz.func151,Tryz.ntmps151
 go_wp2_with fail
 go_loopw [5] (fun iv wr=>∃ m:Nat,iv = .int .i64 ((m:Int)+1)/\m<=ms.length/\Hid (Gate.jC Gate.jV ms (m+1)/\Below w.heap.size w wr)) (fun iv _=>ms.length+1 - (intOf iv).toNat)
 case atStart=>exact ⟨0,rfl,Nat.zero_le _,fun i h h'=>by omega,Below.refl _ _⟩
 case round =>
  obtain ⟨m,rfl,hml,HQ⟩:=hrel
  by_cases hlt:m+1 < ms.length
  ·have hm:m < ms.length:=by omega
   obtain ⟨b,off,rfl,hb,d0,d1,d2,d3,d4⟩:=HW.out.load HQ.out.2 m hm
   obtain ⟨b2,off2,ha2,hbq,e0,e1,e2,e3,e4⟩:=HW.out.load HQ.out.2 (m+1) hlt
   obtain ⟨rfl,rfl⟩:b=b2/\off=off2:=by
    have h:=ha2
    simpa using h
   have hb':b < wr.heap.size:=Nat.lt_of_lt_of_le hb HQ.out.2.size
   have hltI:(m:Int)+1 < (ms.length:Int):=by omega
   have h0m:(0:Int)<=(m:Int):=by omega
   have h01:(0:Int)<=(m:Int)+1:=by omega
   have hsub:IntKind.i64.wrap ((m:Int)+1 - 1)=(m:Int):=by rw [IntKind.wrap_i64];omega
   have hsub2:IntKind.i64.wrap (m:Int)=(m:Int):=by rw [IntKind.wrap_i64];omega
   have hsub3:wrap64 (m:Int)=(m:Int):=by unfold wrap64;omega
   have htn:((m:Int)+1).toNat=m+1:=by omega
   have hlmI:(m:Int) < (ms.length:Int):=by omega
   have HBr:Hid (Below w.heap.size w wr):=HQ.out.2
   have hS:wr.drew.cell? ⟨b,off+m * 5,none⟩=some (.string ms[m].dr)/\wr.drew.cell? ⟨b,off+m * 5+1,none⟩=some (.string ms[m].tm)/\wr.drew.cell? ⟨b,off+m * 5+2,none⟩=some (.string ms[m].rs)/\wr.drew.cell? ⟨b,off+m * 5+3,none⟩=some (.int .i64 ms[m].am)/\wr.drew.cell? ⟨b,off+m * 5+4,none⟩=some (.int .i64 ms[m].un)/\wr.drew.cell? ⟨b,off+(m+1) * 5,none⟩=some (.string ms[m+1].dr)/\wr.drew.cell? ⟨b,off+(m+1) * 5+1,none⟩=some (.string ms[m+1].tm)/\wr.drew.cell? ⟨b,off+(m+1) * 5+2,none⟩=some (.string ms[m+1].rs)/\wr.drew.cell? ⟨b,off+(m+1) * 5+3,none⟩=some (.int .i64 ms[m+1].am)/\wr.drew.cell? ⟨b,off+(m+1) * 5+4,none⟩=some (.int .i64 ms[m+1].un):=⟨d0,d1,d2,d3,d4,e0,e1,e2,e3,e4⟩
   clear d0 d1 d2 d3 d4 e0 e1 e2 e3 e4
   have HM:Hid (Gate.jC Gate.jV ms (m+1)):=HQ.out.1
   clear HQ
   go_wp2_with fail
   go_region_held3 (fun w'=>w'.cell? ⟨b,off+m * 5,none⟩=some (.string ms[m].dr)/\w'.cell? ⟨b,off+m * 5+1,none⟩=some (.string ms[m].tm)/\w'.cell? ⟨b,off+m * 5+2,none⟩=some (.string ms[m].rs)/\w'.cell? ⟨b,off+m * 5+3,none⟩=some (.int .i64 ms[m].am)/\w'.cell? ⟨b,off+m * 5+4,none⟩=some (.int .i64 ms[m].un)/\w'.cell? ⟨b,off+(m+1) * 5,none⟩=some (.string ms[m+1].dr)/\w'.cell? ⟨b,off+(m+1) * 5+1,none⟩=some (.string ms[m+1].tm)/\w'.cell? ⟨b,off+(m+1) * 5+2,none⟩=some (.string ms[m+1].rs)/\w'.cell? ⟨b,off+(m+1) * 5+3,none⟩=some (.int .i64 ms[m+1].am)/\w'.cell? ⟨b,off+(m+1) * 5+4,none⟩=some (.int .i64 ms[m+1].un)) (exact hS) (first | (go_at_call 152;refine (zhM ms[m] ms[m+1] _).mono ?_;rintro e w2 ⟨rfl,hb2⟩;have hS:=(⟨(hb2.cell (p:=⟨b,_,none⟩) hb').trans hS.1,(hb2.cell (p:=⟨b,_,none⟩) hb').trans hS.2.1,(hb2.cell (p:=⟨b,_,none⟩) hb').trans hS.2.2.1,(hb2.cell (p:=⟨b,_,none⟩) hb').trans hS.2.2.2.1,(hb2.cell (p:=⟨b,_,none⟩) hb').trans hS.2.2.2.2.1,(hb2.cell (p:=⟨b,_,none⟩) hb').trans hS.2.2.2.2.2.1,(hb2.cell (p:=⟨b,_,none⟩) hb').trans hS.2.2.2.2.2.2.1,(hb2.cell (p:=⟨b,_,none⟩) hb').trans hS.2.2.2.2.2.2.2.1,(hb2.cell (p:=⟨b,_,none⟩) hb').trans hS.2.2.2.2.2.2.2.2.1,(hb2.cell (p:=⟨b,_,none⟩) hb').trans hS.2.2.2.2.2.2.2.2.2⟩:_/\_/\_/\_/\_/\_/\_/\_/\_/\_);have hB2:=HBr.out.drew.trans (hb2.mono HBr.out.drew.size);clear hb2))
   by_cases hk:Gate.jV ms[m] ms[m+1] < 0
   ·have HA:Hid (Gate.jC Gate.jV ms (m+1+1)):=Gate.zdw HM.out hlt hk
    have hd:decide (0<=Gate.jV ms[m] ms[m+1])=false:=by simp;omega
    rw [hd]
    clear hk hd
    go_wp2_with fail
    exact ⟨⟨m+1,by go_num,by omega,HA.out,hB2⟩,ze0 (by omega)⟩
   ·have HA:Hid (Gate.zaV Gate.jV ms=false):=Gate.zfz hlt hk
    have hd:decide (0<=Gate.jV ms[m] ms[m+1])=true:=by simp;omega
    rw [hd]
    clear hk hd
    go_wp2_with fail
    go_ret
    exact ⟨ze HA.out.symm,hB2⟩
  ·have HA:Hid (Gate.zaV Gate.jV ms=true):=Gate.zfO HQ.out.1 (by omega)
   have HB:Hid (Below w.heap.size w wr):=HQ.out.2
   clear HQ
   go_wp2_with fail
   go_ret
   exact ⟨ze HA.out.symm,HB.out⟩
theorem zbH {α:Type} (p:α->Bool) (l:List α) (k:Nat) (h:k < l.length):(l.take (k+1)).any p=((l.take k).any p || p l[k]):=by
 rw [List.take_succ_eq_append_getElem h,List.any_append];simp
theorem zkt {α:Type} (p:α->Bool) (l:List α) (k:Nat) (h:k < l.length) (hp:p l[k]=true):l.any p=true:=by
 rw [List.any_eq_true];exact ⟨l[k],List.getElem_mem h,hp⟩
def zgm (P:Program) (fid:Nat) (q:Value) (ts:List Tm) (w:World) (p:Tm->Bool):Prop :=
 ∀ w1,Below w.heap.size w w1->∀ i (h:i < ts.length),Calls P fid #[.agg ts[i].cells,q] w1 fun e w'=>e = .returned (.bool (p ts[i]))/\Below w1.heap.size w1 w'
theorem zih (a:Option Addr) (cap:Nat) (ts:List Tm) (q:Value) (p:Tm->Bool) (w:World) (hw:qJ w a ts) (hf:zgm Tryz.prog 182 q ts w p) :
 Calls Tryz.prog 183 #[.slice a ts.length cap,.func (.func 182) #[] #[q]] w fun e w'=>∃ r:Int,e = .returned (.int .i64 r)/\decide (0<=r)=ts.any p/\Below w.heap.size w w':=by
 have hl:=hw.len
 unfold maxLen at hl
 go_enter Tryz.func183,Tryz.ntmps183
 go_wp2_with fail
 go_loopw [8] (fun i wr=>∃ k:Nat,k<=ts.length/\i = .int .i64 k/\(ts.take k).any p=false/\Below w.heap.size w wr) (fun i _=>ts.length - (intOf i).toNat)
 case atStart=>exact ⟨0,Nat.zero_le _,rfl,rfl,Below.refl _ _⟩
 case round =>
  obtain ⟨k,hk,rfl,hno,hB⟩:=hrel
  by_cases hlt:k < ts.length
  ·obtain ⟨b,off,rfl,hb,c0,c1⟩:=hw.load hB k hlt
   have hltI:(k:Int) < (ts.length:Int):=by omega
   have hc:=hf wr hB k hlt
   clear hw hf
   by_cases he:p ts[k]=true
   ·have HA:Hid (ts.any p=true):=zkt p ts k hlt he
    have HE:Hid (p ts[k]=true):=he
    clear he hno
    go_wp2_with fail
    refine (zf HE.out hc).mono ?_
    rintro e w2 ⟨rfl,hb2⟩
    go_wp2_with fail
    go_ret
    exact ⟨_,rfl,by rw [HA.out];simp,hB.trans (hb2.mono hB.size)⟩
   ·have he':p ts[k]=false:=by simpa using he
    have HS:Hid ((ts.take (k+1)).any p=false):=by unfold Hid;rw [zbH p ts k hlt,hno,he'];rfl
    have HE:Hid (p ts[k]=false):=he'
    clear he he' hno
    go_wp2_with fail
    refine (zf HE.out hc).mono ?_
    rintro e w2 ⟨rfl,hb2⟩
    go_wp2_with fail
    exact ⟨⟨k+1,by omega,by go_num,HS.out,hB.trans (hb2.mono hB.size)⟩,by simp [intOf];omega⟩
  ·have HA:Hid (ts.any p=false):=by unfold Hid;rw [<- hno,List.take_of_length_le (by omega)]
   clear hno hw hf
   go_wp2_with fail
   go_ret
   exact ⟨_,rfl,by rw [HA.out];rfl,hB⟩
theorem zfe (a:Option Addr) (cap:Nat) (ts:List Tm) (q:Value) (p:Tm->Bool) (w:World) (hw:qJ w a ts) (hf:zgm Tryz.prog 182 q ts w p) :
 Calls Tryz.prog 136 #[.slice a ts.length cap,.func (.func 182) #[] #[q]] w fun e w'=>e = .returned (.bool (ts.any p))/\Below w.heap.size w w':=by
 go_enter Tryz.func136,Tryz.ntmps136
 go_wp2_with fail
 refine (zih _ _ _ _ _ _ hw hf).mono ?_
 rintro e w2 ⟨r,rfl,hr,hb2⟩
 go_wp2_with fail
 go_ret
 exact ⟨rfl,hb2⟩
theorem zh3 (a:Option Addr) (cap:Nat) (ts:List Tm) (q:Value) (p:Tm->Bool) (w:World) (hw:qJ w a ts) (hf:zgm Tryz.prog 137 q ts w p) :
 Calls Tryz.prog 183 #[.slice a ts.length cap,.func (.func 137) #[] #[q]] w fun e w'=>∃ r:Int,e = .returned (.int .i64 r)/\decide (0<=r)=ts.any p/\Below w.heap.size w w':=by
 have hl:=hw.len
 unfold maxLen at hl
 go_enter Tryz.func183,Tryz.ntmps183
 go_wp2_with fail
 go_loopw [8] (fun i wr=>∃ k:Nat,k<=ts.length/\i = .int .i64 k/\(ts.take k).any p=false/\Below w.heap.size w wr) (fun i _=>ts.length - (intOf i).toNat)
 case atStart=>exact ⟨0,Nat.zero_le _,rfl,rfl,Below.refl _ _⟩
 case round =>
  obtain ⟨k,hk,rfl,hno,hB⟩:=hrel
  by_cases hlt:k < ts.length
  ·obtain ⟨b,off,rfl,hb,c0,c1⟩:=hw.load hB k hlt
   have hltI:(k:Int) < (ts.length:Int):=by omega
   have hc:=hf wr hB k hlt
   clear hw hf
   by_cases he:p ts[k]=true
   ·have HA:Hid (ts.any p=true):=zkt p ts k hlt he
    have HE:Hid (p ts[k]=true):=he
    clear he hno
    go_wp2_with fail
    refine (zf HE.out hc).mono ?_
    rintro e w2 ⟨rfl,hb2⟩
    go_wp2_with fail
    go_ret
    exact ⟨_,rfl,by rw [HA.out];simp,hB.trans (hb2.mono hB.size)⟩
   ·have he':p ts[k]=false:=by simpa using he
    have HS:Hid ((ts.take (k+1)).any p=false):=by unfold Hid;rw [zbH p ts k hlt,hno,he'];rfl
    have HE:Hid (p ts[k]=false):=he'
    clear he he' hno
    go_wp2_with fail
    refine (zf HE.out hc).mono ?_
    rintro e w2 ⟨rfl,hb2⟩
    go_wp2_with fail
    exact ⟨⟨k+1,by omega,by go_num,HS.out,hB.trans (hb2.mono hB.size)⟩,by simp [intOf];omega⟩
  ·have HA:Hid (ts.any p=false):=by unfold Hid;rw [<- hno,List.take_of_length_le (by omega)]
   clear hno hw hf
   go_wp2_with fail
   go_ret
   exact ⟨_,rfl,by rw [HA.out];rfl,hB⟩
theorem zfp (a:Option Addr) (cap:Nat) (ts:List Tm) (q:Value) (p:Tm->Bool) (w:World) (hw:qJ w a ts) (hf:zgm Tryz.prog 137 q ts w p) :
 Calls Tryz.prog 136 #[.slice a ts.length cap,.func (.func 137) #[] #[q]] w fun e w'=>e = .returned (.bool (ts.any p))/\Below w.heap.size w w':=by
 go_enter Tryz.func136,Tryz.ntmps136
 go_wp2_with fail
 refine (zh3 _ _ _ _ _ _ hw hf).mono ?_
 rintro e w2 ⟨r,rfl,hr,hb2⟩
 go_wp2_with fail
 go_ret
 exact ⟨rfl,hb2⟩
theorem zkp (t:Tm) (v:ByteArray) (bn:Nat) (w:World) (hb:bn < w.heap.size) (hn:w.cell? ⟨bn,0,none⟩=some (.string v)) :
 Calls Tryz.prog 182 #[.agg t.cells,.pointer (some ⟨bn,0,none⟩)] w fun e w'=>e = .returned (.bool (t.nm.toList == v.toList))/\Below w.heap.size w w':=by
 unfold Tm.cells
 go_enter Tryz.func182,Tryz.ntmps182
 go_wp2_with fail
 go_ret
 exact ⟨rfl,(Below.refl _ _).alloc (Nat.le_refl _) _⟩
theorem zlJ (ts:List Tm) (v:ByteArray) (bn:Nat) (w:World) (hb:bn < w.heap.size) (hn:w.cell? ⟨bn,0,none⟩=some (.string v)) :
 zgm Tryz.prog 182 (.pointer (some ⟨bn,0,none⟩)) ts w (fun t=>decide (t.nm=v)):=fun w1 hB i hi=>by
 refine (zkp ts[i] v bn w1 (Nat.lt_of_lt_of_le hb hB.size) ((hB.cell (p:=⟨bn,0,none⟩) hb).trans hn)).mono ?_
 rintro e w' ⟨rfl,hb'⟩
 exact ⟨ze (Gate.beq_toList _ _),hb'⟩
theorem zbv (a:Option Addr) (cap:Nat) (ts:List Tm) (v:ByteArray) (w:World) (hw:qJ w a ts) :
 Calls Tryz.prog 135 #[.slice a ts.length cap,.string v] w fun e w'=>e = .returned (.bool (Gate.yC ts v))/\Below w.heap.size w w':=by
 go_enter Tryz.func135,Tryz.ntmps135
 go_wp2_with fail
 refine (zfe _ _ _ _ _ _ (hw.mono ((Below.refl _ _).alloc (Nat.le_refl _) _)) (zlJ ts v _ _ (by simp) (by rw [World.cell?_alloc_at _ _ _ _ rfl];rfl))).mono ?_
 rintro e w2 ⟨rfl,hb2⟩
 go_wp2_with fail
 go_ret
 exact ⟨rfl,((Below.refl _ _).alloc (Nat.le_refl _) _).trans (hb2.mono (by simp))⟩
theorem zjd (a:Option Addr) (cap:Nat) (ts:List Tm) (t:Tm) (w:World) (hw:qJ w a ts) :
 Calls Tryz.prog 138 #[.slice a ts.length cap,.agg t.cells] w fun e w'=>e = .returned (.bool (!Gate.zdq ts t))/\Below w.heap.size w w':=by
 unfold Tm.cells
 go_enter Tryz.func138,Tryz.ntmps138
 go_wp2_with fail
 go_loopw [5,8] (fun p i wr=>∃ (k:Nat) (z:ByteArray),k<=4/\p = .string z/\i = .int .i64 k/\Gate.zdT ts 4 t.ov=Gate.zdT ts (4 - k) z/\Below w.heap.size w wr) (fun _ i _=>4 - (intOf i).toNat)
 case atStart=>exact ⟨0,t.ov,Nat.zero_le _,rfl,rfl,rfl,(Below.refl _ _).alloc (Nat.le_refl _) _⟩
 case round =>
  obtain ⟨k,z,hk,rfl,rfl,hz,hB⟩:=hrel
  by_cases hlt:k < 4
  ·have hltI:(k:Int) < 4:=by omega
   have HZ:Hid (Gate.zdT ts 4 t.ov=Gate.zdT ts (4 - (k+1)) (Gate.over ts z)):=by
    obtain ⟨m,hm⟩:∃ m,4 - k=m+1:=⟨3 - k,by omega⟩
    rw [Hid,hz,hm,show 4 - (k+1)=m by omega];rfl
   clear hz
   go_wp2_with fail
   refine (zdy _ _ _ _ _ (hw.mono hB)).mono ?_
   rintro e w1 ⟨rfl,hb1⟩
   have hB1:=hB.trans (hb1.mono hB.size)
   clear hb1
   go_wp2_with fail
   exact ⟨⟨k+1,Gate.over ts z,by omega,rfl,by go_num,HZ.out,hB1⟩,by simp [intOf];omega⟩
  ·have HF:Hid (Gate.zdq ts t=z.toList.isEmpty):=by
    have e:4 - k=0:=by omega
    rw [e] at hz
    unfold Hid Gate.zdq
    rw [hz,Gate.zq];rfl
   clear hz
   go_wp2_with fail
   go_ret
   exact ⟨ze (by rw [HF.out]),hB⟩
theorem zmi (a:Option Addr) (cap:Nat) (ts:List Tm) (t:Tm) (bn:Nat) (w:World) (hw:qJ w a ts) (hb:bn < w.heap.size) (hn:w.cell? ⟨bn,0,none⟩=some (.slice a ts.length cap)) :
 Calls Tryz.prog 137 #[.agg t.cells,.pointer (some ⟨bn,0,none⟩)] w fun e w'=>e = .returned (.bool (!Gate.zdq ts t))/\Below w.heap.size w w':=by
 unfold Tm.cells
 go_enter Tryz.func137,Tryz.ntmps137
 go_wp2_with fail
 refine (zjd _ _ _ t _ (hw.mono ((Below.refl _ _).alloc (Nat.le_refl _) _))).mono ?_
 rintro e w2 ⟨rfl,hb2⟩
 go_wp2_with fail
 go_ret
 exact ⟨rfl,((Below.refl _ _).alloc (Nat.le_refl _) _).trans (hb2.mono (by simp))⟩
theorem znT (a:Option Addr) (cap:Nat) (ts:List Tm) (bn:Nat) (w:World) (hw:qJ w a ts) (hb:bn < w.heap.size) (hn:w.cell? ⟨bn,0,none⟩=some (.slice a ts.length cap)) :
 zgm Tryz.prog 137 (.pointer (some ⟨bn,0,none⟩)) ts w (fun t=>!Gate.zdq ts t):=fun w1 hB i _ =>
 zmi a cap ts ts[i] bn w1 (hw.mono hB) (Nat.lt_of_lt_of_le hb hB.size) ((hB.cell (p:=⟨bn,0,none⟩) hb).trans hn)
end Go.Proofs.YtaickbhifenbjaaGreat
