import Derived.Test.YtihdafafigceiaaGreatM33
import Derived.Test.YtihdafafigceiaaGreatM32
import Derived.RangeFuncNested
import Derived.RangeFuncBound
import Derived.RangeFuncCalls
import Derived.RangeFuncLeaves
import Derived.Shelf.Abstract
import Derived.Shelf.RegionOpen
import Derived.WalkKit
import Derived.OwnWalkIn
import Derived.TacticsInMore
import Derived.LoopNIn
import Derived.LoopIn
set_option maxHeartbeats 4000000
namespace Go.Proofs.YtihdafafigceiaaGreat
open Go.RowKit
structure zfS (b:Bk):Prop where
 one:∀ i j (hi:i < b.ls.length) (hj:j < b.ls.length),b.ls[i].tm=b.ls[j].tm->b.ls[i].rs=b.ls[j].rs->i=j
 has:∀ k (hk:k < b.ps.length),∃ j,∃ hj:j < b.ls.length,b.ls[j].tm=b.ps[k].tm/\b.ls[j].rs=b.ps[k].rs
 fr:∀ i (hi:i < b.ls.length),0<=b.ls[i].fr/\b.ls[i].fr<=1000000
 am:∀ i (hi:i < b.ps.length),0<=b.ps[i].am/\b.ps[i].am<=1000000
 ll:b.ls.length<=1000
 lp:b.ps.length<=1000
 sz:qD b.os<=1048576
def Gate.sumTo (l:Lw) (b:Bk) (g:Lg) (k:Nat):Int:=g.fr+Gate.used l b.os g.tm g.rs+Gate.zaM b.ps g.tm g.rs k
theorem zdJ (l:Lw) (b:Bk) (tm rs:ByteArray) (h:qD b.os<=1048576):0<=Gate.used l b.os tm rs/\Gate.used l b.os tm rs<=20000000000000:=by
 have h2:=Gate.zbP l b.os tm rs b.os.length (Nat.le_refl _)
 rw [List.take_of_length_le (Nat.le_refl _)] at h2
 unfold Gate.used
 unfold qD at h
 omega
theorem zfF {r:Nat} {w w':World} (h:zgq r w w') {b o:Nat} (hb:b ≠ r):w'.cell? ⟨b,o,none⟩=w.cell? ⟨b,o,none⟩:=by
 unfold World.cell?
 rw [h.out b hb]
set_option maxRecDepth 20000 in
theorem zmL (l:Lw) (la lb lc:Option Addr) (lca lcb lcc:Nat) (b:Bk) (a0 a1 a2 a3:Option Addr) (c0 c1 c2 c3:Nat) (w:World) (hl:y9 w l la lb lc) (hb:qw w b a0 a1 a2 a3) (hs:zfS b) :
 Calls Tryz.prog 161 #[.agg #[.slice la l.ss.length lca,.slice lb l.ms.length lcb,.slice lc l.ts.length lcc],.agg #[.int .i64 b.now,.int .i64 b.tick,.int .i64 b.given,.slice a0 b.os.length c0,.slice a1 b.gs.length c1,.slice a2 b.ls.length c2,.slice a3 b.ps.length c3]] w fun e w'=>(∃ r f,e = .returned (.map (some r))/\w.heap.size<=r/\yc w' r f/\∀ i (hi:i < b.ls.length),f b.ls[i].tm b.ls[i].rs=some (Gate.sumTo l b b.ls[i] b.ps.length))/\Below w.heap.size w w':=by
 have HH:Hid (y9 w l la lb lc/\qw w b a0 a1 a2 a3/\zfS b):=⟨hl,hb,hs⟩
 have hll:=hs.ll
 have hlp:=hs.lp
 have hmk:∀ w:World,(Instr.makeMap 225 none).run Tryz.prog w = .ok (.map (some w.heap.size)) (w.alloc (.map #[] 0)):=fun w=>by kernel_rfl
 clear hl hb hs
 go_enter Tryz.func161,Tryz.ntmps161
 go_wp2_with fail
 have HB0:Hid (Below w.heap.size w ((w.alloc (.cells #[.slice la l.ss.length lca,.slice lb l.ms.length lcb,.slice lc l.ts.length lcc] 41)).alloc (.cells #[.int .i64 b.now,.int .i64 b.tick,.int .i64 b.given,.slice a0 b.os.length c0,.slice a1 b.gs.length c1,.slice a2 b.ls.length c2,.slice a3 b.ps.length c3] 48))):=zA _ _ _
 have hX0:∀ j,((w.alloc (.cells #[.slice la l.ss.length lca,.slice lb l.ms.length lcb,.slice lc l.ts.length lcc] 41)).alloc (.cells #[.int .i64 b.now,.int .i64 b.tick,.int .i64 b.given,.slice a0 b.os.length c0,.slice a1 b.gs.length c1,.slice a2 b.ls.length c2,.slice a3 b.ps.length c3] 48)).cell? ⟨w.heap.size,j,none⟩=(#[.slice la l.ss.length lca,.slice lb l.ms.length lcb,.slice lc l.ts.length lcc]:Array Value)[j]?:=fun j=>cell_of_block (yu _ _ _).1
 have hX1:∀ j,((w.alloc (.cells #[.slice la l.ss.length lca,.slice lb l.ms.length lcb,.slice lc l.ts.length lcc] 41)).alloc (.cells #[.int .i64 b.now,.int .i64 b.tick,.int .i64 b.given,.slice a0 b.os.length c0,.slice a1 b.gs.length c1,.slice a2 b.ls.length c2,.slice a3 b.ps.length c3] 48)).cell? ⟨w.heap.size+1,j,none⟩=(#[.int .i64 b.now,.int .i64 b.tick,.int .i64 b.given,.slice a0 b.os.length c0,.slice a1 b.gs.length c1,.slice a2 b.ls.length c2,.slice a3 b.ps.length c3]:Array Value)[j]?:=fun j=>cell_of_block (yu _ _ _).2
 obtain ⟨W0,hW0⟩:∃ W0,W0=(w.alloc (.cells #[.slice la l.ss.length lca,.slice lb l.ms.length lcb,.slice lc l.ts.length lcc] 41)).alloc (.cells #[.int .i64 b.now,.int .i64 b.tick,.int .i64 b.given,.slice a0 b.os.length c0,.slice a1 b.gs.length c1,.slice a2 b.ls.length c2,.slice a3 b.ps.length c3] 48):=⟨_,rfl⟩
 have hsz:W0.heap.size=w.heap.size+1+1:=by rw [hW0];simp
 rw [<- hW0] at HB0 hX0 hX1 ⊢
 clear hW0
 have hz0:w.heap.size < W0.heap.size:=by omega
 have hz1:w.heap.size+1 < W0.heap.size:=by omega
 have HSZ:Hid (W0.heap.size=w.heap.size+1+1):=hsz
 clear hsz
 have hba:=(Below.refl W0.heap.size W0).alloc (Nat.le_refl _) (.map #[] 0)
 have hY1:=za hX1 hz1 hba
 have hzm:w.heap.size+1 < (W0.alloc (.map #[] 0)).heap.size:=Nat.lt_of_lt_of_le hz1 hba.size
 go_wp2_with fail
 clear hmk hY1 hzm hba
 go_loopw [14] (fun iv wr=>∃ k:Nat,k<=b.ls.length/\iv = .int .i64 k/\Hid ((∃ f,yc wr W0.heap.size f/\∀ i (hi:i < b.ls.length),i < k->f b.ls[i].tm b.ls[i].rs=some (Gate.sumTo l b b.ls[i] 0))/\Below W0.heap.size W0 wr)) (fun iv _=>b.ls.length - (intOf iv).toNat)
 case atStart=>exact ⟨0,Nat.zero_le _,rfl,⟨_,yc.new W0,fun i hi h=>absurd h (Nat.not_lt_zero _)⟩,(Below.refl _ _).alloc (Nat.le_refl _) _⟩
 case round =>
  obtain ⟨k,hk,rfl,HQ⟩:=hrel
  have hkn:k<=1000:=by omega
  by_cases hlt:k < b.ls.length
  ·obtain ⟨f,hf,hfk⟩:=HQ.out.1
   have hBr:=HQ.out.2
   have HBw:Hid (∀ W,Below W0.heap.size W0 W->Below w.heap.size w W):=fun W hW=>HB0.out.trans (hW.mono HB0.out.size)
   obtain ⟨ob,off,rfl,hob,d0,d1,d2,d3⟩:=HH.out.2.1.ls.load (HBw.out _ hBr) k hlt
   have hsm:=HH.out.2.1.ls.small k hlt
   have hltI:(k:Int) < (b.ls.length:Int):=by omega
   have hob':ob < wr.heap.size:=Nat.lt_of_lt_of_le hob (HBw.out _ hBr).size
   have hfr:=HH.out.2.2.fr k hlt
   have hus:=zdJ l b b.ls[k].tm b.ls[k].rs HH.out.2.2.sz
   have hwr:IntKind.i64.wrap (b.ls[k].fr+Gate.used l b.os b.ls[k].tm b.ls[k].rs)=b.ls[k].fr+Gate.used l b.os b.ls[k].tm b.ls[k].rs:=by rw [IntKind.wrap_i64];omega
   have hS0:=za hX0 hz0 hBr
   have hS1:=za hX1 hz1 hBr
   have HM:Hid (yc wr W0.heap.size f/\Below W0.heap.size W0 wr):=⟨hf,hBr⟩
   have HFK:Hid (∀ i (hi:i < b.ls.length),i < k->f b.ls[i].tm b.ls[i].rs=some (Gate.sumTo l b b.ls[i] 0)):=hfk
   have hzl:w.heap.size < wr.heap.size:=Nat.lt_of_lt_of_le hz0 hBr.size
   have hzb:w.heap.size+1 < wr.heap.size:=Nat.lt_of_lt_of_le hz1 hBr.size
   clear hf hfk hBr HQ
   go_wp2_with fail
   have hba:=(Below.refl wr.heap.size wr).alloc (Nat.le_refl _) (.cells #[.string b.ls[k].tm,.string b.ls[k].rs,.int .i64 b.ls[k].mo,.int .i64 b.ls[k].fr] 130)
   have hT0:=za hS0 hzl hba
   have hT1:=za hS1 hzb hba
   have hT2:=zm wr #[.string b.ls[k].tm,.string b.ls[k].rs,.int .i64 b.ls[k].mo,.int .i64 b.ls[k].fr] 130
   have hzg:wr.heap.size < (wr.alloc (.cells #[.string b.ls[k].tm,.string b.ls[k].rs,.int .i64 b.ls[k].mo,.int .i64 b.ls[k].fr] 130)).heap.size:=by simp
   obtain ⟨W2,hW2⟩:∃ W2,W2=wr.alloc (.cells #[.string b.ls[k].tm,.string b.ls[k].rs,.int .i64 b.ls[k].mo,.int .i64 b.ls[k].fr] 130):=⟨_,rfl⟩
   rw [<- hW2] at hba hT0 hT1 hT2 hzg ⊢
   clear hW2 hS0 hS1 d0 d1 d2 d3
   have hS0:=za hT0 (Nat.lt_of_lt_of_le hzl hba.size) (Below.refl W2.heap.size W2).drew
   have hS1:=za hT1 (Nat.lt_of_lt_of_le hzb hba.size) (Below.refl W2.heap.size W2).drew
   have hS2:=za hT2 hzg (Below.refl W2.heap.size W2).drew
   have hb:=hba.trans ((Below.refl W2.heap.size W2).drew.mono hba.size)
   have hy0:w.heap.size < W2.drew.heap.size:=Nat.lt_of_lt_of_le hzl hb.size
   have hy1:w.heap.size+1 < W2.drew.heap.size:=Nat.lt_of_lt_of_le hzb hb.size
   have hy2:wr.heap.size < W2.drew.heap.size:=hzg
   have hne0:w.heap.size ≠ W0.heap.size:=by have:=HSZ.out;omega
   have hne1:w.heap.size+1 ≠ W0.heap.size:=by have:=HSZ.out;omega
   have hne2:wr.heap.size ≠ W0.heap.size:=by have:=HM.out.1.lt;omega
   have HNE:Hid (w.heap.size ≠ W0.heap.size/\w.heap.size+1 ≠ W0.heap.size/\wr.heap.size ≠ W0.heap.size):=⟨hne0,hne1,hne2⟩
   clear hne0 hne1 hne2
   clear hT0 hT1 hT2 hba
   go_region_held3 (fun w'=>(∀ j,w'.cell? ⟨w.heap.size,j,none⟩=(#[.slice la l.ss.length lca,.slice lb l.ms.length lcb,.slice lc l.ts.length lcc]:Array Value)[j]?)/\(∀ j,w'.cell? ⟨w.heap.size+1,j,none⟩=(#[.int .i64 b.now,.int .i64 b.tick,.int .i64 b.given,.slice a0 b.os.length c0,.slice a1 b.gs.length c1,.slice (some ⟨ob,off,none⟩) b.ls.length c2,.slice a3 b.ps.length c3]:Array Value)[j]?)/\(∀ j,w'.cell? ⟨wr.heap.size,j,none⟩=(#[.string b.ls[k].tm,.string b.ls[k].rs,.int .i64 b.ls[k].mo,.int .i64 b.ls[k].fr]:Array Value)[j]?)) (first | exact ⟨fun j=>by rw [hS0],fun j=>by rw [hS1],fun j=>by rw [hS2]⟩ | exact ⟨fun j=>by rw [hU0],fun j=>by rw [hU1],fun j=>by rw [hU2]⟩) (first
    | (go_at_call 162;refine (zbm b.ls[k] _).mono ?_;rintro e w5 ⟨rfl,hb5⟩;unfold qM;have hS0:=za hS0 hy0 hb5;have hS1:=za hS1 hy1 hb5;have hS2:=za hS2 hy2 hb5;have hy0:=Nat.lt_of_lt_of_le hy0 hb5.size;have hy1:=Nat.lt_of_lt_of_le hy1 hb5.size;have hy2:=Nat.lt_of_lt_of_le hy2 hb5.size;have hb:=hb.trans (hb5.mono hb.size);clear hb5)
    | (go_at_call 197;refine (zkZ l la lb lc lca lcb lcc b a0 a1 (some ⟨ob,off,none⟩) a3 c0 c1 c2 c3 _ _ _ (by exact HH.out.1.mono ((HBw.out _ HM.out.2).trans (hb.mono (HBw.out _ HM.out.2).size))) (by exact HH.out.2.1.mono ((HBw.out _ HM.out.2).trans (hb.mono (HBw.out _ HM.out.2).size))) HH.out.2.2.sz).mono ?_;rintro e w6 ⟨rfl,hb6⟩;have hS0:=za hS0 hy0 hb6;have hS1:=za hS1 hy1 hb6;have hS2:=za hS2 hy2 hb6;have hb:=hb.trans (hb6.mono hb.size);have hf6:=HM.out.1.mono hb;obtain ⟨w7,hup,hf7,hp7⟩:=hf6.upd zcn Tryz.underlying225 b.ls[k].tm b.ls[k].rs hsm.tm hsm.rs (b.ls[k].fr+Gate.used l b.os b.ls[k].tm b.ls[k].rs);unfold qM at hup;rw [HSZ.out] at hup;have hU0:=fun j=>(zfF hp7 (o:=j) HNE.out.1).trans (hS0 j);have hU1:=fun j=>(zfF hp7 (o:=j) HNE.out.2.1).trans (hS1 j);have hU2:=fun j=>(zfF hp7 (o:=j) HNE.out.2.2).trans (hS2 j);clear hb6))
   go_wp2_with fail
   refine ⟨⟨k+1,by omega,by go_num,⟨_,hf7,fun i hi hik=>?_⟩,hp7.below (HM.out.2.trans (hb.mono HM.out.2.size)) (Nat.le_refl _)⟩,zn hlt⟩
   by_cases e:i=k
   ·subst e
    rw [if_pos ⟨rfl,rfl⟩]
    simp [Gate.sumTo,Gate.zaM]
   ·rw [if_neg (fun h=>e (HH.out.2.2.one i k hi hlt h.1 h.2))]
    exact HFK.out i hi (by omega)
  ·have e:k=b.ls.length:=by omega
   have hBr:=HQ.out.2
   have hS1:=za hX1 hz1 hBr
   have hzb:w.heap.size+1 < wr.heap.size:=Nat.lt_of_lt_of_le hz1 hBr.size
   have HM:Hid (∃ f,yc wr W0.heap.size f/\∀ i (hi:i < b.ls.length),f b.ls[i].tm b.ls[i].rs=some (Gate.sumTo l b b.ls[i] 0)):=by
    obtain ⟨f,hf,hfk⟩:=HQ.out.1
    exact ⟨f,hf,fun i hi=>hfk i hi (by omega)⟩
   have HBr:Hid (Below W0.heap.size W0 wr):=hBr
   have HBw:Hid (∀ W,Below W0.heap.size W0 W->Below w.heap.size w W):=fun W hW=>HB0.out.trans (hW.mono HB0.out.size)
   clear hBr HQ hlt hk hkn
   subst e
   go_wp2_with fail
   clear hS1
   go_loopw [35] (fun iv ws=>∃ k:Nat,k<=b.ps.length/\iv = .int .i64 k/\Hid ((∃ f,yc ws W0.heap.size f/\∀ i (hi:i < b.ls.length),f b.ls[i].tm b.ls[i].rs=some (Gate.sumTo l b b.ls[i] k))/\Below W0.heap.size W0 ws)) (fun iv _=>b.ps.length - (intOf iv).toNat)
   case atStart=>exact ⟨0,Nat.zero_le _,rfl,HM.out,HBr.out⟩
   case round =>
    obtain ⟨k,hk,rfl,HQ⟩:=hrel
    have hkn:k<=1000:=by omega
    by_cases hlt:k < b.ps.length
    ·obtain ⟨f,hf,hfk⟩:=HQ.out.1
     have hBr:=HQ.out.2
     obtain ⟨ob,off,rfl,hob,d0,d1,d2,d3,d4⟩:=HH.out.2.1.ps.load (HBw.out _ hBr) k hlt
     have hsm:=HH.out.2.1.ps.small k hlt
     have hltI:(k:Int) < (b.ps.length:Int):=by omega
     have hob':ob < wr.heap.size:=Nat.lt_of_lt_of_le hob (HBw.out _ hBr).size
     obtain ⟨v,hv,hvb⟩:∃ v,f b.ps[k].tm b.ps[k].rs=some v/\0<=v/\v<=30000000000000:=by
      obtain ⟨j,hj,e1,e2⟩:=HH.out.2.2.has k hlt
      refine ⟨_,by rw [<- e1,<- e2];exact hfk j hj,?_⟩
      have h1:=HH.out.2.2.fr j hj
      have h2:=zdJ l b b.ls[j].tm b.ls[j].rs HH.out.2.2.sz
      have h3:=Gate.zbn b.ps b.ls[j].tm b.ls[j].rs HH.out.2.2.am k hk
      unfold Gate.sumTo
      omega
     have ham:=HH.out.2.2.am k hlt
     have hwr:IntKind.i64.wrap (v+b.ps[k].am)=v+b.ps[k].am:=by rw [IntKind.wrap_i64];omega
     have HM2:Hid (yc wr W0.heap.size f/\Below W0.heap.size W0 wr/\f b.ps[k].tm b.ps[k].rs=some v/\∀ i (hi:i < b.ls.length),f b.ls[i].tm b.ls[i].rs=some (Gate.sumTo l b b.ls[i] k)):=⟨hf,hBr,hv,hfk⟩
     clear hf hfk hBr HQ hv hvb
     have HFIN:Hid (∀ i (hi:i < b.ls.length),(if b.ls[i].tm=b.ps[k].tm/\b.ls[i].rs=b.ps[k].rs then some (v+b.ps[k].am) else f b.ls[i].tm b.ls[i].rs)=some (Gate.sumTo l b b.ls[i] (k+1))):=by
      intro i hi
      obtain ⟨_,_,g1,g2⟩:=HM2.out
      have g3:=g2 i hi
      by_cases e:b.ls[i].tm=b.ps[k].tm/\b.ls[i].rs=b.ps[k].rs
      ·rw [if_pos e]
       have g4:v=Gate.sumTo l b b.ls[i] k:=by
        rw [e.1,e.2,g1] at g3
        exact Option.some.inj g3
       unfold Gate.sumTo at g4 ⊢
       rw [Gate.zeD _ _ _ _ hlt,if_pos (by unfold Gate.zk3;simp [e.1,e.2]),g4]
       congr 1
       omega
      ·rw [if_neg e,g3]
       unfold Gate.sumTo
       rw [Gate.zeD _ _ _ _ hlt,if_neg (by unfold Gate.zk3;simp only [Bool.and_eq_true,decide_eq_true_eq];exact fun h=>e ⟨h.1.symm,h.2.symm⟩)]
       congr 1
       omega
     go_wp2_with fail
     have hba:=(Below.refl wr.heap.size wr).alloc (Nat.le_refl _) (.cells #[.string b.ps[k].dr,.string b.ps[k].tm,.string b.ps[k].rs,.int .i64 b.ps[k].am,.int .i64 b.ps[k].un] 132)
     have hT2:=zm wr #[.string b.ps[k].dr,.string b.ps[k].tm,.string b.ps[k].rs,.int .i64 b.ps[k].am,.int .i64 b.ps[k].un] 132
     have hzg:wr.heap.size < (wr.alloc (.cells #[.string b.ps[k].dr,.string b.ps[k].tm,.string b.ps[k].rs,.int .i64 b.ps[k].am,.int .i64 b.ps[k].un] 132)).heap.size:=by simp
     obtain ⟨W2,hW2⟩:∃ W2,W2=wr.alloc (.cells #[.string b.ps[k].dr,.string b.ps[k].tm,.string b.ps[k].rs,.int .i64 b.ps[k].am,.int .i64 b.ps[k].un] 132):=⟨_,rfl⟩
     rw [<- hW2] at hba hT2 hzg ⊢
     clear hW2 d0 d1 d2 d3 d4
     have hS2:=za hT2 hzg (Below.refl W2.heap.size W2).drew
     have hb:=hba.trans ((Below.refl W2.heap.size W2).drew.mono hba.size)
     have hy2:wr.heap.size < W2.drew.heap.size:=hzg
     have HNE:Hid (wr.heap.size ≠ W0.heap.size):=by have:=HM2.out.1.lt;intro h;omega
     clear hT2 hba
     go_region_held3 (fun w'=>∀ j,w'.cell? ⟨wr.heap.size,j,none⟩=(#[.string b.ps[k].dr,.string b.ps[k].tm,.string b.ps[k].rs,.int .i64 b.ps[k].am,.int .i64 b.ps[k].un]:Array Value)[j]?) (first | exact fun j=>by rw [hS2] | exact fun j=>by rw [hU2]) (first
      | (go_at_call 160;refine (zdh b.ps[k] _).mono ?_;rintro e w5 ⟨rfl,hb5⟩;have hS2:=za hS2 hy2 hb5;have hb:=hb.trans (hb5.mono hb.size);have hf5:=HM2.out.1.mono hb;have hlk:=hf5.look zcn Tryz.underlying225 b.ps[k].tm b.ps[k].rs hsm.tm hsm.rs false;rw [HM2.out.2.2.1] at hlk;obtain ⟨st,hen,hst⟩:=hf5.entry zcn Tryz.underlying225 b.ps[k].tm b.ps[k].rs hsm.tm hsm.rs v HM2.out.2.2.1;obtain ⟨w7,hup,hf7,hp7⟩:=hst (v+b.ps[k].am);unfold qM at hlk hen ⊢;rw [HSZ.out] at hlk hen hup;simp only [Option.getD_some,Bool.false_eq_true,if_false] at hlk;have hU2:=fun j=>(zfF hp7 (o:=j) HNE.out).trans (hS2 j);clear hb5 hst))
     all_goals first | (go_wp2_with fail;exact ⟨⟨k+1,by omega,by go_num,⟨_,hf7,HFIN.out⟩,hp7.below (HM2.out.2.1.trans (hb.mono HM2.out.2.1.size)) (Nat.le_refl _)⟩,zn hlt⟩) | exact ⟨⟨k+1,by omega,by go_num,⟨_,hf7,HFIN.out⟩,hp7.below (HM2.out.2.1.trans (hb.mono HM2.out.2.1.size)) (Nat.le_refl _)⟩,zn hlt⟩
    ·have e:k=b.ps.length:=by omega
     subst e
     have HE:Hid _:=HQ.out
     clear HQ hlt hk
     go_wp2_with fail
     go_ret
     obtain ⟨⟨f,h1,h2⟩,h3⟩:=HE.out
     rw [HSZ.out] at h1
     exact ⟨⟨_,f,rfl,by omega,h1,h2⟩,HBw.out _ h3⟩
namespace Gate
def zaS (l:Lw) (b:Bk) (g:Lg):Bool:=decide (sumTo l b g b.ps.length=g.mo)
def zcy (l:Lw) (b:Bk):Bool:=b.ls.all (zaS l b)
end Gate
set_option maxRecDepth 20000 in
theorem zl0 (l:Lw) (la lb lc:Option Addr) (lca lcb lcc:Nat) (b:Bk) (a0 a1 a2 a3:Option Addr) (c0 c1 c2 c3:Nat) (w:World) (hl:y9 w l la lb lc) (hb:qw w b a0 a1 a2 a3) (hs:zfS b) :
 Calls Tryz.prog 111 #[.agg #[.slice la l.ss.length lca,.slice lb l.ms.length lcb,.slice lc l.ts.length lcc],.agg #[.int .i64 b.now,.int .i64 b.tick,.int .i64 b.given,.slice a0 b.os.length c0,.slice a1 b.gs.length c1,.slice a2 b.ls.length c2,.slice a3 b.ps.length c3]] w fun e w'=>e = .returned (.bool (Gate.zcy l b))/\Below w.heap.size w w':=by
 have HH:Hid (y9 w l la lb lc/\qw w b a0 a1 a2 a3/\zfS b):=⟨hl,hb,hs⟩
 have hll:=hs.ll
 clear hl hb hs
 have HG:Hid (Gate.zcy l b=b.ls.all (Gate.zaS l b)):=rfl
 go_enter Tryz.func111,Tryz.ntmps111
 go_wp2_with fail
 have hb2:=zA w (.cells #[.slice la l.ss.length lca,.slice lb l.ms.length lcb,.slice lc l.ts.length lcc] 41) (.cells #[.int .i64 b.now,.int .i64 b.tick,.int .i64 b.given,.slice a0 b.os.length c0,.slice a1 b.gs.length c1,.slice a2 b.ls.length c2,.slice a3 b.ps.length c3] 48)
 refine (zmL l la lb lc lca lcb lcc b a0 a1 a2 a3 c0 c1 c2 c3 _ (HH.out.1.mono hb2) (HH.out.2.1.mono hb2) HH.out.2.2).mono ?_
 rintro e w1 ⟨⟨r,f,rfl,hr,hf,hfk⟩,hb1⟩
 have hX1:∀ j,w1.cell? ⟨w.heap.size+1,j,none⟩=(#[.int .i64 b.now,.int .i64 b.tick,.int .i64 b.given,.slice a0 b.os.length c0,.slice a1 b.gs.length c1,.slice a2 b.ls.length c2,.slice a3 b.ps.length c3]:Array Value)[j]?:=fun j=>cell_of_block ((hb1.block (w.heap.size+1) (by simp)).trans (yu _ _ _).2)
 have hz1:w.heap.size+1 < w1.heap.size:=by have:=hb1.size;simp at this;omega
 have HB1:Hid (Below w.heap.size w w1):=hb2.trans (hb1.mono (by simp;omega))
 have HM:Hid (yc w1 r f/\∀ i (hi:i < b.ls.length),f b.ls[i].tm b.ls[i].rs=some (Gate.sumTo l b b.ls[i] b.ps.length)):=⟨hf,hfk⟩
 clear hb1 hb2 hf hfk hr
 go_wp2_with fail
 go_loopw [14] (fun iv wr=>∃ k:Nat,k<=b.ls.length/\iv = .int .i64 k/\Hid ((b.ls.take k).all (Gate.zaS l b)=true/\Below w1.heap.size w1 wr)) (fun iv _=>b.ls.length - (intOf iv).toNat)
 case atStart=>exact ⟨0,Nat.zero_le _,rfl,by simp,Below.refl _ _⟩
 case round =>
  obtain ⟨k,hk,rfl,HQ⟩:=hrel
  have hkn:k<=1000:=by omega
  by_cases hlt:k < b.ls.length
  ·have hBr:=HQ.out.2
   have hBw:=HB1.out.trans (hBr.mono HB1.out.size)
   obtain ⟨ob,off,rfl,hob,d0,d1,d2,d3⟩:=HH.out.2.1.ls.load hBw k hlt
   have hsm:=HH.out.2.1.ls.small k hlt
   have hltI:(k:Int) < (b.ls.length:Int):=by omega
   have hob':ob < wr.heap.size:=Nat.lt_of_lt_of_le hob hBw.size
   have HSn:Hid ((b.ls.take (k+1)).all (Gate.zaS l b)=((b.ls.take k).all (Gate.zaS l b) && (Gate.zaS l b) b.ls[k])):=Gate.qP _ _ _ hlt
   have HNo:Hid ((Gate.zaS l b) b.ls[k]=false->Gate.zcy l b=false):=fun h=>by rw [HG.out];exact Gate.zaw _ _ _ hlt h
   have HYes:Hid ((Gate.zaS l b) b.ls[k]=true->(b.ls.take (k+1)).all (Gate.zaS l b)=true):=fun h=>by rw [HSn.out,HQ.out.1,h];rfl
   obtain ⟨v,hv⟩:∃ v,v=Gate.sumTo l b b.ls[k] b.ps.length:=⟨_,rfl⟩
   have HM2:Hid (yc wr r f/\Below w1.heap.size w1 wr/\f b.ls[k].tm b.ls[k].rs=some v):=⟨HM.out.1.mono hBr,hBr,by rw [hv];exact HM.out.2 k hlt⟩
   have HV:Hid (v=Gate.sumTo l b b.ls[k] b.ps.length):=hv
   clear hBr hBw HQ hv
   by_cases he:v=b.ls[k].mo
   ·have e2:(v != b.ls[k].mo)=false:=by simp [he]
    have HN:Hid ((b.ls.take (k+1)).all (Gate.zaS l b)=true):=HYes.out (by unfold Gate.zaS;rw [decide_eq_true_eq,<- HV.out];exact he)
    clear he
    go_wp2_with fail
    have hba:=(Below.refl wr.heap.size wr).alloc (Nat.le_refl _) (.cells #[.string b.ls[k].tm,.string b.ls[k].rs,.int .i64 b.ls[k].mo,.int .i64 b.ls[k].fr] 130)
    have hT2:=zm wr #[.string b.ls[k].tm,.string b.ls[k].rs,.int .i64 b.ls[k].mo,.int .i64 b.ls[k].fr] 130
    have hzg:wr.heap.size < (wr.alloc (.cells #[.string b.ls[k].tm,.string b.ls[k].rs,.int .i64 b.ls[k].mo,.int .i64 b.ls[k].fr] 130)).heap.size:=by simp
    obtain ⟨W2,hW2⟩:∃ W2,W2=wr.alloc (.cells #[.string b.ls[k].tm,.string b.ls[k].rs,.int .i64 b.ls[k].mo,.int .i64 b.ls[k].fr] 130):=⟨_,rfl⟩
    rw [<- hW2] at hba hT2 hzg ⊢
    clear hW2 d0 d1 d2 d3
    have hS2:=za hT2 hzg (Below.refl W2.heap.size W2).drew
    have hb:=hba.trans ((Below.refl W2.heap.size W2).drew.mono hba.size)
    have hy2:wr.heap.size < W2.drew.heap.size:=hzg
    clear hT2 hba
    go_region_held3 (fun w'=>∀ j,w'.cell? ⟨wr.heap.size,j,none⟩=(#[.string b.ls[k].tm,.string b.ls[k].rs,.int .i64 b.ls[k].mo,.int .i64 b.ls[k].fr]:Array Value)[j]?) (exact fun j=>by rw [hS2]) (first
     | (go_at_call 162;refine (zbm b.ls[k] _).mono ?_;rintro e w5 ⟨rfl,hb5⟩;have hS2:=za hS2 hy2 hb5;have hb:=hb.trans (hb5.mono hb.size);have hf5:=HM2.out.1.mono hb;have hlk:=hf5.look zcn Tryz.underlying225 b.ls[k].tm b.ls[k].rs hsm.tm hsm.rs false;rw [HM2.out.2.2] at hlk;unfold qM at hlk ⊢;simp only [Option.getD_some,Bool.false_eq_true,if_false] at hlk;clear hb5))
    go_wp2_with fail
    exact ⟨⟨k+1,by omega,by go_num,HN.out,HM2.out.2.1.trans (hb.mono HM2.out.2.1.size)⟩,zn hlt⟩
   ·have e2:(v != b.ls[k].mo)=true:=by simp [he]
    have HN:Hid (Gate.zcy l b=false):=HNo.out (by unfold Gate.zaS;rw [decide_eq_false_iff_not,<- HV.out];exact he)
    clear he
    go_wp2_with fail
    have hba:=(Below.refl wr.heap.size wr).alloc (Nat.le_refl _) (.cells #[.string b.ls[k].tm,.string b.ls[k].rs,.int .i64 b.ls[k].mo,.int .i64 b.ls[k].fr] 130)
    have hT2:=zm wr #[.string b.ls[k].tm,.string b.ls[k].rs,.int .i64 b.ls[k].mo,.int .i64 b.ls[k].fr] 130
    have hzg:wr.heap.size < (wr.alloc (.cells #[.string b.ls[k].tm,.string b.ls[k].rs,.int .i64 b.ls[k].mo,.int .i64 b.ls[k].fr] 130)).heap.size:=by simp
    obtain ⟨W2,hW2⟩:∃ W2,W2=wr.alloc (.cells #[.string b.ls[k].tm,.string b.ls[k].rs,.int .i64 b.ls[k].mo,.int .i64 b.ls[k].fr] 130):=⟨_,rfl⟩
    rw [<- hW2] at hba hT2 hzg ⊢
    clear hW2 d0 d1 d2 d3
    have hS2:=za hT2 hzg (Below.refl W2.heap.size W2).drew
    have hb:=hba.trans ((Below.refl W2.heap.size W2).drew.mono hba.size)
    have hy2:wr.heap.size < W2.drew.heap.size:=hzg
    clear hT2 hba
    go_region_held3 (fun w'=>∀ j,w'.cell? ⟨wr.heap.size,j,none⟩=(#[.string b.ls[k].tm,.string b.ls[k].rs,.int .i64 b.ls[k].mo,.int .i64 b.ls[k].fr]:Array Value)[j]?) (exact fun j=>by rw [hS2]) (first
     | (go_at_call 162;refine (zbm b.ls[k] _).mono ?_;rintro e w5 ⟨rfl,hb5⟩;have hS2:=za hS2 hy2 hb5;have hb:=hb.trans (hb5.mono hb.size);have hf5:=HM2.out.1.mono hb;have hlk:=hf5.look zcn Tryz.underlying225 b.ls[k].tm b.ls[k].rs hsm.tm hsm.rs false;rw [HM2.out.2.2] at hlk;unfold qM at hlk ⊢;simp only [Option.getD_some,Bool.false_eq_true,if_false] at hlk;clear hb5))
    go_wp2_with fail
    go_ret
    have h9:=HM2.out.2.1.trans (hb.mono HM2.out.2.1.size)
    exact ⟨ze HN.out.symm,HB1.out.trans (h9.mono HB1.out.size)⟩
  ·have e:k=b.ls.length:=by omega
   subst e
   have HE:Hid (Gate.zcy l b=true):=by have:=HQ.out.1;rw [List.take_of_length_le (Nat.le_refl _)] at this;unfold Hid;rw [HG.out];exact this
   have HB:Hid (Below w1.heap.size w1 wr):=HQ.out.2
   clear HQ hlt hk
   go_wp2_with fail
   go_ret
   exact ⟨ze HE.out.symm,HB1.out.trans (HB.out.mono HB1.out.size)⟩
end Go.Proofs.YtihdafafigceiaaGreat
namespace Go.Proofs.YtihdafafigceiaaGreat
open Go.RowKit Go.Shelf
attribute [local go_sem] Oper.semAt_some
structure Lk where
 pl:Int
 rl:Int
 to:ByteArray
 nm:ByteArray
 hto:to.size<=maxLen
 hnm:nm.size<=maxLen
def Lk.enc (x:Lk):Array Value:=#[.agg #[.int .i64 x.pl,.int .i64 x.rl,.string x.to,.string x.nm]]
noncomputable def zeJ (fs:List Fld) (vs:List ByteArray) (k:Nat):List Lk :=
 match fs[k]?,vs[k]? with
 | some f,some v=>if h:(f.kd=4/\v.toList.isEmpty=false)/\f.to.size<=maxLen/\v.size<=maxLen then [⟨k,f.rl,f.to,v,h.2.1,h.2.2⟩] else []
 | _,_=>[]
noncomputable def qX (fs:List Fld) (vs:List ByteArray) (k:Nat):List Lk:=(List.range k).flatMap (zeJ fs vs)
theorem zao (fs:List Fld) (vs:List ByteArray) (k:Nat):qX fs vs (k+1)=qX fs vs k ++ zeJ fs vs k:=by
 simp [qX,List.range_succ]
theorem zoK (fs:List Fld) (vs:List ByteArray) (k:Nat):(zeJ fs vs k).length<=1:=by
 unfold zeJ
 split
 ·split <;> simp
 ·simp
theorem zjV (fs:List Fld) (vs:List ByteArray):∀ k,(qX fs vs k).length<=k
 | 0=>by simp [qX]
 | k+1=>by
  rw [zao,List.length_append]
  have:=zjV fs vs k
  have:=zoK fs vs k
  omega
theorem znp {fs:List Fld} {vs:List ByteArray} {k:Nat} (h:k < fs.length) (h':k < vs.length) (hn:¬ (fs[k].kd=4/\vs[k].toList.isEmpty=false)):zeJ fs vs k=[]:=by
 unfold zeJ
 rw [List.getElem?_eq_getElem h,List.getElem?_eq_getElem h']
 simp only
 rw [dif_neg (fun e=>hn e.1)]
theorem zoo {fs:List Fld} {vs:List ByteArray} {k:Nat} (h:k < fs.length) (h':k < vs.length) (hk:fs[k].kd=4) (hv:vs[k].toList.isEmpty=false) (h1:fs[k].to.size<=maxLen) (h2:vs[k].size<=maxLen):zeJ fs vs k=[⟨k,fs[k].rl,fs[k].to,vs[k],h1,h2⟩]:=by
 unfold zeJ
 rw [List.getElem?_eq_getElem h,List.getElem?_eq_getElem h']
 simp only
 rw [dif_pos ⟨⟨hk,hv⟩,h1,h2⟩]
theorem zdZ (fs:List Fld) (vs:List ByteArray) {k n:Nat} (h:k<=n):qX fs vs k <+: qX fs vs n:=by
 induction n with
 | zero=>
  have:k=0:=by omega
  subst this;exact List.prefix_rfl
 | succ n ih =>
  rcases Nat.eq_or_lt_of_le h with e | h2
  ·subst e;exact List.prefix_rfl
  ·rw [zao]
   exact (ih (by omega)).trans (List.prefix_append _ _)
set_option maxRecDepth 100000 in
theorem zob (n:Nat) (hn:1<=n) (l Bs Bo:Nat) (kd:ByteArray) (fs:List Fld) (fa:Option Addr) (fcap:Nat) (o:Ob) (va ha:Option Addr) (cap cap':Nat) (w0:World) (hbs:Bs < w0.heap.size) (hbo:Bo < w0.heap.size)
 (hBs:∀ j,w0.cell? ⟨Bs,j,none⟩=(#[.string kd,.slice fa fs.length fcap]:Array Value)[j]?) (hBo:∀ j,w0.cell? ⟨Bo,j,none⟩=(#[.string o.kd,.string o.nm,.string o.tm,.slice va o.vs.length cap,.bool o.en,.slice ha o.hs.length cap',.int .i64 o.vr]:Array Value)[j]?)
 (hf:zP w0 fa fs) (hv:zD w0 va o.vs) (hc:o.vs.length=fs.length) (J Jx:List Lk->World->Prop) (W:World) (hW:Below w0.heap.size w0 W) (hJ:AbidesFrom W.heap.size J)
 (hY:∀ pre x W1,J pre W1->pre.length < fs.length->YieldAt Fence.wide (n - 1) Tryz.prog l x.enc W1 fun e W' =>
  (e = .returned (.bool true)/\J (pre ++ [x]) W'/\Below w0.heap.size W1 W') \/ (e = .returned (.bool false)/\Jx (pre ++ [x]) W')) (h0:J [] W) :
 CallsIn Fence.wide n Tryz.prog 163 #[.func (.yield l) #[] #[],.pointer (some ⟨Bs,0,none⟩),.pointer (some ⟨Bo,0,none⟩)] W fun e W'=>(∃ v,e = .returned v) /\
  ((∃ ys,ys=qX fs o.vs fs.length/\J ys W') \/ (∃ pre,pre <+: qX fs o.vs fs.length/\Jx pre W')):=by
 refine callsIn_of_wp Tryz.func163 rfl trivial ?_ rfl
 simp only [Tryz.ntmps163,List.size_toArray,List.length_cons,List.length_nil,Nat.reduceAdd,Nat.reduceSub,Array.replicate_succ,Array.replicate_zero,List.push_toArray,List.append_toArray,List.nil_append,List.cons_append]
 have hlen:=hf.len
 unfold maxLen at hlen
 have hX0:=za hBs hbs hW
 have hXo:=za hBo hbo hW
 gi_wp2
 clear hX0 hXo
 gi_loopw [9] (fun i wr=>∃ k:Nat,k<=fs.length/\i = .int .i64 k/\J (qX fs o.vs k) wr/\Below w0.heap.size w0 wr) (fun i _=>fs.length - (intOf i).toNat)
 case atStart=>exact ⟨0,Nat.zero_le _,rfl,h0,hW⟩
 case round =>
  obtain ⟨k,hk,rfl,hJs,hB⟩:=hrel
  by_cases hlt:k < fs.length
  ·have hltv:k < o.vs.length:=by omega
   obtain ⟨fb,foff,rfl,hfb,hr⟩:=hf.rows (by rintro rfl;simp at hlt)
   obtain ⟨wa,wcap,hf0⟩:=hr k hlt
   have hf1:=hf0.mono hfb hB
   obtain ⟨d0,d1,d2,d3,d4,d5,d6,d7,d8,d9,d10⟩:=hf1.load
   obtain ⟨p,po,rfl,hp,hpc⟩:=hv.cells (by intro e;rw [e] at hltv;simp at hltv)
   have hltI:(k:Int) < (fs.length:Int):=by omega
   have hltV:(k:Int) < (o.vs.length:Int):=by omega
   have hfbw:fb < wr.heap.size:=Nat.lt_of_lt_of_le hfb hB.size
   have hpw:p < wr.heap.size:=Nat.lt_of_lt_of_le hp hB.size
   have hbow:Bo < wr.heap.size:=Nat.lt_of_lt_of_le hbo hB.size
   have cv:=(hB.cell (p:=⟨p,po+k,none⟩) hp).trans (hpc k hltv)
   have hXo:=za hBo hbo hB
   have HS:Hid (fs[k].to.size<=maxLen/\o.vs[k].size<=maxLen):=⟨hf0.small.to,hv.small _ (List.getElem_mem _)⟩
   have HBa:Hid (∀ ob,Below w0.heap.size w0 (wr.alloc ob)):=fun ob=>hB.alloc hB.size _
   have HJa:Hid (∀ ob,J (qX fs o.vs k) (wr.alloc ob)):=fun ob=>hJ _ _ _ none hJs (World.grownBy_alloc wr ob none) (fun r e=>by cases e)
   clear hf1 hf0 hpc
   by_cases hk4:fs[k].kd=4
   rotate_left
   ·have HN:Hid (qX fs o.vs (k+1)=qX fs o.vs k):=by unfold Hid;rw [zao,znp hlt hltv (fun h=>hk4 h.1),List.append_nil]
    have e1:(fs[k].kd != 4)=true:=by simp [hk4]
    clear hk4
    gi_wp2
    exact ⟨⟨k+1,by omega,by go_num,by rw [HN.out];exact HJa.out _,HBa.out _⟩,zn hlt⟩
   ·by_cases hve:o.vs[k].toList.isEmpty=true
    ·have HN:Hid (qX fs o.vs (k+1)=qX fs o.vs k):=by unfold Hid;rw [zao,znp hlt hltv (fun h=>by rw [hve] at h;cases h.2),List.append_nil]
     have e1:(fs[k].kd != 4)=false:=by simp [hk4]
     clear hk4
     gi_wp2
     exact ⟨⟨k+1,by omega,by go_num,by rw [HN.out];exact HJa.out _,HBa.out _⟩,zn hlt⟩
    ·have hve':o.vs[k].toList.isEmpty=false:=by simpa using hve
     have HN:Hid (qX fs o.vs (k+1)=qX fs o.vs k ++ [⟨k,fs[k].rl,fs[k].to,o.vs[k],HS.out.1,HS.out.2⟩]):=by unfold Hid;rw [zao,zoo hlt hltv hk4 hve' HS.out.1 HS.out.2]
     have e1:(fs[k].kd != 4)=false:=by simp [hk4]
     clear hk4 hve
     have hmx:Tryz.prog.follows .mixedOrders=true:=by kernel_rfl
     gi_wp2
     have hT0:=zm wr #[.string fs[k].nm,.int .i64 fs[k].kd,.int .i64 fs[k].ls,.int .i64 fs[k].ms,.slice wa fs[k].ws.length wcap,.string fs[k].to,.int .i64 fs[k].rl,.bool fs[k].mu,.bool fs[k].fx,.string fs[k].df,.string fs[k].wg] 161
     have hT1:=za hXo hbow ((Below.refl wr.heap.size wr).alloc (Nat.le_refl _) (.cells #[.string fs[k].nm,.int .i64 fs[k].kd,.int .i64 fs[k].ls,.int .i64 fs[k].ms,.slice wa fs[k].ws.length wcap,.string fs[k].to,.int .i64 fs[k].rl,.bool fs[k].mu,.bool fs[k].fx,.string fs[k].df,.string fs[k].wg] 161))
     have hT2:=(((Below.refl wr.heap.size wr).alloc (Nat.le_refl _) (.cells #[.string fs[k].nm,.int .i64 fs[k].kd,.int .i64 fs[k].ls,.int .i64 fs[k].ms,.slice wa fs[k].ws.length wcap,.string fs[k].to,.int .i64 fs[k].rl,.bool fs[k].mu,.bool fs[k].fx,.string fs[k].df,.string fs[k].wg] 161)).cell (p:=⟨p,po+k,none⟩) hpw).trans cv
     have hW1J:=HJa.out (.cells #[.string fs[k].nm,.int .i64 fs[k].kd,.int .i64 fs[k].ls,.int .i64 fs[k].ms,.slice wa fs[k].ws.length wcap,.string fs[k].to,.int .i64 fs[k].rl,.bool fs[k].mu,.bool fs[k].fx,.string fs[k].df,.string fs[k].wg] 161)
     have hW1B:=HBa.out (.cells #[.string fs[k].nm,.int .i64 fs[k].kd,.int .i64 fs[k].ls,.int .i64 fs[k].ms,.slice wa fs[k].ws.length wcap,.string fs[k].to,.int .i64 fs[k].rl,.bool fs[k].mu,.bool fs[k].fx,.string fs[k].df,.string fs[k].wg] 161)
     have hzg:wr.heap.size < (wr.alloc (.cells #[.string fs[k].nm,.int .i64 fs[k].kd,.int .i64 fs[k].ls,.int .i64 fs[k].ms,.slice wa fs[k].ws.length wcap,.string fs[k].to,.int .i64 fs[k].rl,.bool fs[k].mu,.bool fs[k].fx,.string fs[k].df,.string fs[k].wg] 161)).heap.size:=by simp
     obtain ⟨W1,hW1⟩:∃ W1,W1=wr.alloc (.cells #[.string fs[k].nm,.int .i64 fs[k].kd,.int .i64 fs[k].ls,.int .i64 fs[k].ms,.slice wa fs[k].ws.length wcap,.string fs[k].to,.int .i64 fs[k].rl,.bool fs[k].mu,.bool fs[k].fx,.string fs[k].df,.string fs[k].wg] 161):=⟨_,rfl⟩
     rw [<- hW1] at hT0 hT1 hT2 hW1J hW1B hzg ⊢
     clear hW1 d0 d1 d2 d3 d4 d5 d6 d7 d8 d9 d10 hXo cv
     have hJd:J (qX fs o.vs k) W1.drew:=hJ _ _ _ none hW1J ⟨rfl,rfl,rfl,Nat.le_refl _,fun _ _ _=>rfl⟩ (fun r e=>by cases e)
     obtain ⟨x,hx⟩:∃ x:Lk,x=⟨k,fs[k].rl,fs[k].to,o.vs[k],HS.out.1,HS.out.2⟩:=⟨_,rfl⟩
     rw [<- hx] at HN
     obtain ⟨fn,tmps,assign,body,hy,hR⟩:=hY _ x W1.drew hJd (Nat.lt_of_le_of_lt (zjV fs o.vs k) hlt)
     rw [hx] at hy
     unfold Lk.enc at hy
     dsimp only at hy
     have HR:=hR.mono (R':=fun e W'=>∃ t:Bool,e = .returned (.bool t)/\Hid (if t=true then J (qX fs o.vs k ++ [x]) W'/\Below w0.heap.size W1.drew W' else Jx (qX fs o.vs k ++ [x]) W')) (by
      rintro e W' (⟨h1,h2,h3⟩ | ⟨h1,h2⟩)
      ·exact ⟨true,h1,h2,h3⟩
      ·exact ⟨false,h1,h2⟩)
     clear hR hx
     gi_region_with_o (refine HR.mono ?_;rintro e W3 ⟨t,rfl,H3⟩)
     all_goals cases t
     all_goals gi_wp2
     all_goals first
      | (refine bodyPost_ret (results_none rfl _ _ _) rfl ?_
         have h9:=H3.out
         rw [if_neg (by simp)] at h9
         refine ⟨⟨_,rfl⟩,.inr ⟨_,?_,h9⟩⟩
         rw [<- HN.out]
         exact zdZ fs o.vs (by omega))
      | (have h9:=H3.out
         rw [if_pos rfl] at h9
         exact ⟨⟨k+1,by omega,by go_num,by rw [HN.out];exact h9.1,(hW1B.drew).trans h9.2⟩,zn hlt⟩)
  ·obtain rfl:k=fs.length:=by omega
   gi_wp2
   go_end0
   exact ⟨⟨_,rfl⟩,.inl ⟨_,rfl,hJs⟩⟩
theorem zgW (n:Nat) (hn:1<=n) (Bs Bo:Nat) (kd:ByteArray) (fs:List Fld) (fa:Option Addr) (fcap:Nat) (o:Ob) (va ha:Option Addr) (cap cap':Nat) (w0:World) (hbs:Bs < w0.heap.size) (hbo:Bo < w0.heap.size)
 (hBs:∀ j,w0.cell? ⟨Bs,j,none⟩=(#[.string kd,.slice fa fs.length fcap]:Array Value)[j]?) (hBo:∀ j,w0.cell? ⟨Bo,j,none⟩=(#[.string o.kd,.string o.nm,.string o.tm,.slice va o.vs.length cap,.bool o.en,.slice ha o.hs.length cap',.int .i64 o.vr]:Array Value)[j]?)
 (hf:zP w0 fa fs) (hv:zD w0 va o.vs) (hc:o.vs.length=fs.length) :
 SeqStopsK Fence.wide n Tryz.prog 163 #[.pointer (some ⟨Bs,0,none⟩),.pointer (some ⟨Bo,0,none⟩)] Lk.enc (Below w0.heap.size) (fun ys=>ys=qX fs o.vs fs.length) (fun pre=>pre <+: qX fs o.vs fs.length) fs.length w0 :=
 fun l J Jx W hW hJ _ hY h0=>zob n hn l Bs Bo kd fs fa fcap o va ha cap cap' w0 hbs hbo hBs hBo hf hv hc J Jx W hW hJ hY h0
end Go.Proofs.YtihdafafigceiaaGreat
namespace Go.Proofs.YtihdafafigceiaaGreat
open Go.RowKit
set_option maxRecDepth 20000 in
theorem zhg (l:Lw) (a b c:Option Addr) (ca cb cc:Nat) (o:Ob) (va ha:Option Addr) (cap cap':Nat) (w:World) (hL:y9 w l a b c) :
 Calls Tryz.prog 113 #[.agg #[.slice a l.ss.length ca,.slice b l.ms.length cb,.slice c l.ts.length cc],.agg #[.string o.kd,.string o.nm,.string o.tm,.slice va o.vs.length cap,.bool o.en,.slice ha o.hs.length cap',.int .i64 o.vr]] w
  fun e w'=>∃ Bs Bo fa fcap,e = .returned (.func (.func 163) #[] #[.pointer (some ⟨Bs,0,none⟩),.pointer (some ⟨Bo,0,none⟩)])/\Bs < w'.heap.size/\Bo < w'.heap.size/\zP w' fa (Gate.shapeOf l.ss o.kd).fs /\
   (∀ j,w'.cell? ⟨Bs,j,none⟩=(#[.string (Gate.shapeOf l.ss o.kd).kd,.slice fa (Gate.shapeOf l.ss o.kd).fs.length fcap]:Array Value)[j]?)/\(∀ j,w'.cell? ⟨Bo,j,none⟩=(#[.string o.kd,.string o.nm,.string o.tm,.slice va o.vs.length cap,.bool o.en,.slice ha o.hs.length cap',.int .i64 o.vr]:Array Value)[j]?)/\Below w.heap.size w w':=by
 have HH:Hid (y9 w l a b c):=hL
 clear hL
 go_enter Tryz.func113,Tryz.ntmps113
 go_wp2_with fail
 have hb2:=zA w (.cells #[.slice a l.ss.length ca,.slice b l.ms.length cb,.slice c l.ts.length cc] 41) (.cells #[.string o.kd,.string o.nm,.string o.tm,.slice va o.vs.length cap,.bool o.en,.slice ha o.hs.length cap',.int .i64 o.vr] 115)
 refine (qJ _ _ l.ss o.kd _ (HH.out.ss.mono hb2)).mono ?_
 rintro e w1 ⟨fa,fcap,rfl,hfl0,hb1⟩
 have HFL:Hid (zP w1 fa (Gate.shapeOf l.ss o.kd).fs):=hfl0.mono hb1
 have hX1:∀ j,w1.cell? ⟨w.heap.size+1,j,none⟩=(#[.string o.kd,.string o.nm,.string o.tm,.slice va o.vs.length cap,.bool o.en,.slice ha o.hs.length cap',.int .i64 o.vr]:Array Value)[j]?:=fun j=>cell_of_block ((hb1.block (w.heap.size+1) (by simp)).trans (yu _ _ _).2)
 have hz1:w.heap.size+1 < w1.heap.size:=by have:=hb1.size;simp at this;omega
 have HB1:Hid (Below w.heap.size w w1):=hb2.trans (hb1.mono (by simp;omega))
 have HX1:Hid (∀ j,w1.cell? ⟨w.heap.size+1,j,none⟩=(#[.string o.kd,.string o.nm,.string o.tm,.slice va o.vs.length cap,.bool o.en,.slice ha o.hs.length cap',.int .i64 o.vr]:Array Value)[j]?):=hX1
 clear hb1 hb2 hfl0
 go_wp2_with fail
 go_ret
 have hba:=(Below.refl w1.heap.size w1).alloc (Nat.le_refl _) (.cells #[.string (Gate.shapeOf l.ss o.kd).kd,.slice fa (Gate.shapeOf l.ss o.kd).fs.length fcap] 119)
 exact ⟨w1.heap.size,w.heap.size+1,fa,fcap,rfl,by simp,Nat.lt_of_lt_of_le hz1 hba.size,HFL.out.mono hba,zm w1 _ _,za HX1.out hz1 hba,HB1.out.trans (hba.mono HB1.out.size)⟩
end Go.Proofs.YtihdafafigceiaaGreat
