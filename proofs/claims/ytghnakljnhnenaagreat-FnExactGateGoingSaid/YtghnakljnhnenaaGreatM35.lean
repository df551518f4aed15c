import Derived.Test.YtghnakljnhnenaaGreatM34
import Derived.WideKeyEntry
import Derived.RangeFuncNested
import Derived.RangeFuncBound
import Derived.RangeFuncCalls
import Derived.RangeFuncLeaves
import Derived.Shelf.Abstract
import Derived.Shelf.RegionOpen
import Derived.OwnWalkIn
import Derived.TacticsInMore
import Derived.LoopNIn
import Derived.LoopIn
set_option maxHeartbeats 4000000
namespace Go.Proofs.YtghnakljnhnenaaGreat
open Go.RowKit
theorem zW.entry {kt mt:TypeId} (K:ziv kt) (hm:Tryz.prog.underlying mt=some (.map kt 3)) {w:World} {r:Nat} {f:ByteArray->ByteArray->Option Int} (h:zW w r f) (a b:ByteArray) (ha:a.size<=maxLen) (hb:b.size<=maxLen) (v0:Int) (hf:f a b=some v0) :
 ∃ st:Int,(Instr.mapEntry mt (.map (some r)) (qj a b)).run Tryz.prog w = .ok (.tuple #[.int .i64 v0,.int .i64 st]) w /\
  ∀ v:Int,∃ w',(Instr.entryStore mt (.map (some r)) (.int .i64 st) (.int .i64 v)).run Tryz.prog w = .ok () w'/\zW w' r (fun p q=>if p=a/\q=b then some v else f p q)/\zd6 r w w':=by
 obtain ⟨es,clock,hh,h1,h2,h3⟩:=h.ex;obtain ⟨l,hl⟩:=K.key a b ha hb;obtain ⟨s1,s2⟩:=h.stamps es clock hh
 have hkeys:∀ e ∈ es.toList,∃ l,keyOf Tryz.prog kt e.key=some l:=fun e he=>by
  obtain ⟨a',b',v,e1,ha',hb',_⟩:=h1 e he;rw [e1];exact K.key a' b' ha' hb'
 have hc:=K.law.check w false hl;have hs:=K.law.stays w hl
 rcases K.law.find w hl es.toList hkeys with ⟨g1,g2⟩ | ⟨j,e,g1,g2,g3⟩
 ·obtain ⟨x,hx,hk⟩:=h2 a b v0 hf
  exact absurd hk (g2 x hx)
 ·have hj:es[j]?=some e:=by simpa using g2
  have hv:e.val = .int .i64 v0:=by
   obtain ⟨a',b',v',e1,_,_,e2,e3⟩:=h1 e (List.mem_of_getElem? g2);rw [g3] at e1;have hab:a=a'/\b=b':=by unfold qj at e1;simpa using e1
   obtain ⟨rfl,rfl⟩:=hab;rw [e3] at hf;rw [e2,Option.some.inj hf]
  have hsame:es.modify j (fun e=>{ e with key:=qj a b })=es:=by
   apply Array.ext'
   rw [Array.toList_modify]
   apply List.ext_getElem?
   intro i;rw [List.getElem?_modify]
   by_cases e':j=i
   ·subst e'
    rw [g2]
    simp [<- g3]
   ·simp [e']
  have hset:{ w with heap:=w.heap.setIfInBounds r (.map es clock) }=w:=by
   have hr:r < w.heap.size:=(gES hh).1
   have:w.heap.setIfInBounds r (.map es clock)=w.heap:=by
    apply Array.ext_getElem?
    intro i
    by_cases e':r=i
    ·subst e';rw [Array.getElem?_setIfInBounds_self_of_lt hr,hh]
    ·rw [Array.getElem?_setIfInBounds_ne e']
   rw [this]
  refine ⟨(e.born:Int),?_,fun v=>?_⟩
  ·rw [hv] at g1
   simp [Instr.mapEntry,run_underlying hm,MapKept.run_getObj_map hh,hc,g1,hj,g3,hs,hsame,MapKept.run_setObj_map _ hh,Result.andThen,goInt,hset]
  ·obtain ⟨w',u1,u2,u3⟩:=h.upd K hm a b ha hb v
   refine ⟨w',?_,u2,u3⟩
   have hidx:es.findIdx? (fun e'=>((e'.born:Nat):Int) == ((e.born:Nat):Int))=some j:=by
    rw [WideElems.findIdx_arr];exact WideElems.findIdx_born s2 g2
   have hmod:es.modify j (fun e=>{ e with val:=.int .i64 v })=es.modify j (fun e'=>{ e' with key:=qj a b,val:=.int .i64 v }):=by
    apply Array.ext'
    rw [Array.toList_modify,Array.toList_modify]
    apply List.ext_getElem?
    intro i;rw [List.getElem?_modify,List.getElem?_modify]
    by_cases e':j=i
    ·subst e'
     rw [g2]
     simp [<- g3]
    ·simp [e']
   simp [Instr.mapUpdate,run_underlying hm,MapKept.run_getObj_map hh,hc,g1,hj,g3,hs,MapKept.run_setObj_map _ hh,Result.andThen] at u1
   simp [Instr.entryStore,MapKept.run_getObj_map hh,asInt,asIntOf,hidx,hmod,MapKept.run_setObj_map _ hh,Result.andThen]
   exact u1
structure zgs (b:Bk):Prop where
 one:∀ i j (hi:i < b.ls.length) (hj:j < b.ls.length),b.ls[i].tm=b.ls[j].tm->b.ls[i].rs=b.ls[j].rs->i=j
 has:∀ k (hk:k < b.ps.length),∃ j,∃ hj:j < b.ls.length,b.ls[j].tm=b.ps[k].tm/\b.ls[j].rs=b.ps[k].rs
 fr:∀ i (hi:i < b.ls.length),0<=b.ls[i].fr/\b.ls[i].fr<=1000000
 am:∀ i (hi:i < b.ps.length),0<=b.ps[i].am/\b.ps[i].am<=1000000
 ll:b.ls.length<=1000
 lp:b.ps.length<=1000
 sz:qF b.os<=1048576
def Gate.sumTo (l:Lw) (b:Bk) (g:Lg) (k:Nat):Int:=g.fr+Gate.used l b.os g.tm g.rs+Gate.zaU b.ps g.tm g.rs k
theorem zd9 (l:Lw) (b:Bk) (tm rs:ByteArray) (h:qF b.os<=1048576):0<=Gate.used l b.os tm rs/\Gate.used l b.os tm rs<=20000000000000:=by
 have h2:=Gate.zb3 l b.os tm rs b.os.length (Nat.le_refl _);rw [tOl (Nat.le_refl _)] at h2;unfold Gate.used;unfold qF at h;omega
theorem zgr {r:Nat} {w w':World} (h:zd6 r w w') {b o:Nat} (hb:b ≠ r):w'.cell? ⟨b,o,none⟩=w.cell? ⟨b,o,none⟩:=by
 unfold World.cell?
 rw [h.out b hb]
set_option maxRecDepth 20000 in
theorem znP (l:Lw) (la lb lc:Option Addr) (lca lcb lcc:Nat) (b:Bk) (a0 a1 a2 a3:Option Addr) (c0 c1 c2 c3:Nat) (w:World) (hl:y9 w l la lb lc) (hb:y7 w b a0 a1 a2 a3) (hs:zgs b) :
 Calls Tryz.prog 165 #[.agg #[.slice la l.ss.length lca,.slice lb l.ms.length lcb,.slice lc l.ts.length lcc],.agg #[.int .i64 b.now,.int .i64 b.tick,.int .i64 b.given,.slice a0 b.os.length c0,.slice a1 b.gs.length c1,.slice a2 b.ls.length c2,.slice a3 b.ps.length c3]] w fun e w'=>(∃ r f,e = .returned (.map (some r))/\w.heap.size<=r/\zW w' r f/\∀ i (hi:i < b.ls.length),f b.ls[i].tm b.ls[i].rs=some (Gate.sumTo l b b.ls[i] b.ps.length))/\Below w.heap.size w w':=by
 have HH:Hid (y9 w l la lb lc/\y7 w b a0 a1 a2 a3/\zgs b):=⟨hl,hb,hs⟩
 have hll:=hs.ll;have hlp:=hs.lp;have hmk:∀ w:World,(Instr.makeMap 231 none).run Tryz.prog w = .ok (.map (some w.heap.size)) (w.alloc (.map #[] 0)):=fun w=>by kernel_rfl
 clear hl hb hs;go_enter Tryz.func165,Tryz.ntmps165;go_wp2_with fail
 have HB0:Hid (Below w.heap.size w ((w.alloc (.cells #[.slice la l.ss.length lca,.slice lb l.ms.length lcb,.slice lc l.ts.length lcc] 41)).alloc (.cells #[.int .i64 b.now,.int .i64 b.tick,.int .i64 b.given,.slice a0 b.os.length c0,.slice a1 b.gs.length c1,.slice a2 b.ls.length c2,.slice a3 b.ps.length c3] 48))):=zA _ _ _;have hX0:∀ j,((w.alloc (.cells #[.slice la l.ss.length lca,.slice lb l.ms.length lcb,.slice lc l.ts.length lcc] 41)).alloc (.cells #[.int .i64 b.now,.int .i64 b.tick,.int .i64 b.given,.slice a0 b.os.length c0,.slice a1 b.gs.length c1,.slice a2 b.ls.length c2,.slice a3 b.ps.length c3] 48)).cell? ⟨w.heap.size,j,none⟩=(#[.slice la l.ss.length lca,.slice lb l.ms.length lcb,.slice lc l.ts.length lcc]:Array Value)[j]?:=fun j=>cell_of_block (yh _ _ _).1
 have hX1:∀ j,((w.alloc (.cells #[.slice la l.ss.length lca,.slice lb l.ms.length lcb,.slice lc l.ts.length lcc] 41)).alloc (.cells #[.int .i64 b.now,.int .i64 b.tick,.int .i64 b.given,.slice a0 b.os.length c0,.slice a1 b.gs.length c1,.slice a2 b.ls.length c2,.slice a3 b.ps.length c3] 48)).cell? ⟨w.heap.size+1,j,none⟩=(#[.int .i64 b.now,.int .i64 b.tick,.int .i64 b.given,.slice a0 b.os.length c0,.slice a1 b.gs.length c1,.slice a2 b.ls.length c2,.slice a3 b.ps.length c3]:Array Value)[j]?:=fun j=>cell_of_block (yh _ _ _).2
 obtain ⟨W0,hW0⟩:∃ W0,W0=(w.alloc (.cells #[.slice la l.ss.length lca,.slice lb l.ms.length lcb,.slice lc l.ts.length lcc] 41)).alloc (.cells #[.int .i64 b.now,.int .i64 b.tick,.int .i64 b.given,.slice a0 b.os.length c0,.slice a1 b.gs.length c1,.slice a2 b.ls.length c2,.slice a3 b.ps.length c3] 48):=⟨_,rfl⟩
 have hsz:W0.heap.size=w.heap.size+1+1:=by rw [hW0];simp
 rw [<- hW0] at HB0 hX0 hX1 ⊢;clear hW0;have hz0:w.heap.size < W0.heap.size:=by omega
 have hz1:w.heap.size+1 < W0.heap.size:=by omega
 have HSZ:Hid (W0.heap.size=w.heap.size+1+1):=hsz;clear hsz;have hba:=(bRf W0.heap.size W0).alloc (Nat.le_refl _) (.map #[] 0);have hY1:=za hX1 hz1 hba;have hzm:w.heap.size+1 < (W0.alloc (.map #[] 0)).heap.size:=nLt hz1 hba.size;go_wp2_with fail
 clear hmk hY1 hzm hba
 go_loopw [14] (fun iv wr=>∃ k:Nat,k<=b.ls.length/\iv = .int .i64 k/\Hid ((∃ f,zW wr W0.heap.size f/\∀ i (hi:i < b.ls.length),i < k->f b.ls[i].tm b.ls[i].rs=some (Gate.sumTo l b b.ls[i] 0))/\Below W0.heap.size W0 wr)) (fun iv _=>b.ls.length - (intOf iv).toNat)
 case atStart=>exact ⟨0,Nat.zero_le _,rfl,⟨_,zW.new W0,fun i hi h=>absurd h (Nat.not_lt_zero _)⟩,bAl _ _⟩
 case round =>
  obtain ⟨k,hk,rfl,HQ⟩:=hrel;have hkn:k<=1000:=by omega
  by_cases hlt:k < b.ls.length
  ·obtain ⟨f,hf,hfk⟩:=HQ.out.1
   have hBr:=HQ.out.2;have HBw:Hid (∀ W,Below W0.heap.size W0 W->Below w.heap.size w W):=fun W hW=>HB0.out.trans (hW.mono HB0.out.size)
   obtain ⟨ob,off,rfl,hob,d0,d1,d2,d3⟩:=HH.out.2.1.ls.load (HBw.out _ hBr) k hlt;have hsm:=HH.out.2.1.ls.small k hlt;have hltI:(k:Int) < (b.ls.length:Int):=by omega
   have hob':ob < wr.heap.size:=nLt hob (HBw.out _ hBr).size;have hfr:=HH.out.2.2.fr k hlt;have hus:=zd9 l b b.ls[k].tm b.ls[k].rs HH.out.2.2.sz;have hwr:IntKind.i64.wrap (b.ls[k].fr+Gate.used l b.os b.ls[k].tm b.ls[k].rs)=b.ls[k].fr+Gate.used l b.os b.ls[k].tm b.ls[k].rs:=by rw [IntKind.wrap_i64];omega
   have hS0:=za hX0 hz0 hBr;have hS1:=za hX1 hz1 hBr;have HM:Hid (zW wr W0.heap.size f/\Below W0.heap.size W0 wr):=⟨hf,hBr⟩
   have HFK:Hid (∀ i (hi:i < b.ls.length),i < k->f b.ls[i].tm b.ls[i].rs=some (Gate.sumTo l b b.ls[i] 0)):=hfk;have hzl:w.heap.size < wr.heap.size:=nLt hz0 hBr.size;have hzb:w.heap.size+1 < wr.heap.size:=nLt hz1 hBr.size;clear hf hfk hBr HQ;go_wp2_with fail
   have hba:=(bRf wr.heap.size wr).alloc (Nat.le_refl _) (.cells #[.string b.ls[k].tm,.string b.ls[k].rs,.int .i64 b.ls[k].mo,.int .i64 b.ls[k].fr] 134);have hT0:=za hS0 hzl hba;have hT1:=za hS1 hzb hba;have hT2:=zm wr #[.string b.ls[k].tm,.string b.ls[k].rs,.int .i64 b.ls[k].mo,.int .i64 b.ls[k].fr] 134;have hzg:wr.heap.size < (wr.alloc (.cells #[.string b.ls[k].tm,.string b.ls[k].rs,.int .i64 b.ls[k].mo,.int .i64 b.ls[k].fr] 134)).heap.size:=by simp
   obtain ⟨W2,hW2⟩:∃ W2,W2=wr.alloc (.cells #[.string b.ls[k].tm,.string b.ls[k].rs,.int .i64 b.ls[k].mo,.int .i64 b.ls[k].fr] 134):=⟨_,rfl⟩
   rw [<- hW2] at hba hT0 hT1 hT2 hzg ⊢;clear hW2 hS0 hS1 d0 d1 d2 d3;have hS0:=za hT0 (nLt hzl hba.size) (bRf W2.heap.size W2).drew;have hS1:=za hT1 (nLt hzb hba.size) (bRf W2.heap.size W2).drew;have hS2:=za hT2 hzg (bRf W2.heap.size W2).drew;have hb:=hba.trans ((bRf W2.heap.size W2).drew.mono hba.size);have hy0:w.heap.size < W2.drew.heap.size:=nLt hzl hb.size;have hy1:w.heap.size+1 < W2.drew.heap.size:=nLt hzb hb.size;have hy2:wr.heap.size < W2.drew.heap.size:=hzg;have hne0:w.heap.size ≠ W0.heap.size:=by have:=HSZ.out;omega
   have hne1:w.heap.size+1 ≠ W0.heap.size:=by have:=HSZ.out;omega
   have hne2:wr.heap.size ≠ W0.heap.size:=by have:=HM.out.1.lt;omega
   have HNE:Hid (w.heap.size ≠ W0.heap.size/\w.heap.size+1 ≠ W0.heap.size/\wr.heap.size ≠ W0.heap.size):=⟨hne0,hne1,hne2⟩
   clear hne0 hne1 hne2;clear hT0 hT1 hT2 hba
   go_region_held3 (fun w'=>(∀ j,w'.cell? ⟨w.heap.size,j,none⟩=(#[.slice la l.ss.length lca,.slice lb l.ms.length lcb,.slice lc l.ts.length lcc]:Array Value)[j]?)/\(∀ j,w'.cell? ⟨w.heap.size+1,j,none⟩=(#[.int .i64 b.now,.int .i64 b.tick,.int .i64 b.given,.slice a0 b.os.length c0,.slice a1 b.gs.length c1,.slice (some ⟨ob,off,none⟩) b.ls.length c2,.slice a3 b.ps.length c3]:Array Value)[j]?)/\(∀ j,w'.cell? ⟨wr.heap.size,j,none⟩=(#[.string b.ls[k].tm,.string b.ls[k].rs,.int .i64 b.ls[k].mo,.int .i64 b.ls[k].fr]:Array Value)[j]?)) (first | exact ⟨fun j=>by rw [hS0],fun j=>by rw [hS1],fun j=>by rw [hS2]⟩ | exact ⟨fun j=>by rw [hU0],fun j=>by rw [hU1],fun j=>by rw [hU2]⟩) (first
    | (go_at_call 166;refine (zbz b.ls[k] _).mono ?_;rintro e w5 ⟨rfl,hb5⟩;unfold qj;have hS0:=za hS0 hy0 hb5;have hS1:=za hS1 hy1 hb5;have hS2:=za hS2 hy2 hb5;have hy0:=nLt hy0 hb5.size;have hy1:=nLt hy1 hb5.size;have hy2:=nLt hy2 hb5.size;have hb:=hb.trans (hb5.mono hb.size);clear hb5)
    | (go_at_call 201;refine (zkZ l la lb lc lca lcb lcc b a0 a1 (some ⟨ob,off,none⟩) a3 c0 c1 c2 c3 _ _ _ (by exact HH.out.1.mono ((HBw.out _ HM.out.2).trans (hb.mono (HBw.out _ HM.out.2).size))) (by exact HH.out.2.1.mono ((HBw.out _ HM.out.2).trans (hb.mono (HBw.out _ HM.out.2).size))) HH.out.2.2.sz).mono ?_;rintro e w6 ⟨rfl,hb6⟩;have hS0:=za hS0 hy0 hb6;have hS1:=za hS1 hy1 hb6;have hS2:=za hS2 hy2 hb6;have hb:=hb.trans (hb6.mono hb.size);have hf6:=HM.out.1.mono hb;obtain ⟨w7,hup,hf7,hp7⟩:=hf6.upd zcI Tryz.underlying231 b.ls[k].tm b.ls[k].rs hsm.tm hsm.rs (b.ls[k].fr+Gate.used l b.os b.ls[k].tm b.ls[k].rs);unfold qj at hup;rw [HSZ.out] at hup;have hU0:=fun j=>(zgr hp7 (o:=j) HNE.out.1).trans (hS0 j);have hU1:=fun j=>(zgr hp7 (o:=j) HNE.out.2.1).trans (hS1 j);have hU2:=fun j=>(zgr hp7 (o:=j) HNE.out.2.2).trans (hS2 j);clear hb6))
   go_wp2_with fail
   refine ⟨⟨k+1,by omega,by go_num,⟨_,hf7,fun i hi hik=>?_⟩,hp7.below (HM.out.2.trans (hb.mono HM.out.2.size)) (Nat.le_refl _)⟩,zn hlt⟩
   by_cases e:i=k
   ·subst e
    rw [if_pos ⟨rfl,rfl⟩]
    simp [Gate.sumTo,Gate.zaU]
   ·rw [if_neg (fun h=>e (HH.out.2.2.one i k hi hlt h.1 h.2))]
    exact HFK.out i hi (by omega)
  ·have e:k=b.ls.length:=by omega
   have hBr:=HQ.out.2;have hS1:=za hX1 hz1 hBr;have hzb:w.heap.size+1 < wr.heap.size:=nLt hz1 hBr.size
   have HM:Hid (∃ f,zW wr W0.heap.size f/\∀ i (hi:i < b.ls.length),f b.ls[i].tm b.ls[i].rs=some (Gate.sumTo l b b.ls[i] 0)):=by
    obtain ⟨f,hf,hfk⟩:=HQ.out.1;exact ⟨f,hf,fun i hi=>hfk i hi (by omega)⟩
   have HBr:Hid (Below W0.heap.size W0 wr):=hBr;have HBw:Hid (∀ W,Below W0.heap.size W0 W->Below w.heap.size w W):=fun W hW=>HB0.out.trans (hW.mono HB0.out.size)
   clear hBr HQ hlt hk hkn;subst e;go_wp2_with fail
   clear hS1
   go_loopw [35] (fun iv ws=>∃ k:Nat,k<=b.ps.length/\iv = .int .i64 k/\Hid ((∃ f,zW ws W0.heap.size f/\∀ i (hi:i < b.ls.length),f b.ls[i].tm b.ls[i].rs=some (Gate.sumTo l b b.ls[i] k))/\Below W0.heap.size W0 ws)) (fun iv _=>b.ps.length - (intOf iv).toNat)
   case atStart=>exact ⟨0,Nat.zero_le _,rfl,HM.out,HBr.out⟩
   case round =>
    obtain ⟨k,hk,rfl,HQ⟩:=hrel;have hkn:k<=1000:=by omega
    by_cases hlt:k < b.ps.length
    ·obtain ⟨f,hf,hfk⟩:=HQ.out.1
     have hBr:=HQ.out.2;obtain ⟨ob,off,rfl,hob,d0,d1,d2,d3,d4⟩:=HH.out.2.1.ps.load (HBw.out _ hBr) k hlt;have hsm:=HH.out.2.1.ps.small k hlt;have hltI:(k:Int) < (b.ps.length:Int):=by omega
     have hob':ob < wr.heap.size:=nLt hob (HBw.out _ hBr).size
     obtain ⟨v,hv,hvb⟩:∃ v,f b.ps[k].tm b.ps[k].rs=some v/\0<=v/\v<=30000000000000:=by
      obtain ⟨j,hj,e1,e2⟩:=HH.out.2.2.has k hlt;refine ⟨_,by rw [<- e1,<- e2];exact hfk j hj,?_⟩;have h1:=HH.out.2.2.fr j hj;have h2:=zd9 l b b.ls[j].tm b.ls[j].rs HH.out.2.2.sz;have h3:=Gate.zbE b.ps b.ls[j].tm b.ls[j].rs HH.out.2.2.am k hk;unfold Gate.sumTo;omega
     have ham:=HH.out.2.2.am k hlt;have hwr:IntKind.i64.wrap (v+b.ps[k].am)=v+b.ps[k].am:=by rw [IntKind.wrap_i64];omega
     have HM2:Hid (zW wr W0.heap.size f/\Below W0.heap.size W0 wr/\f b.ps[k].tm b.ps[k].rs=some v/\∀ i (hi:i < b.ls.length),f b.ls[i].tm b.ls[i].rs=some (Gate.sumTo l b b.ls[i] k)):=⟨hf,hBr,hv,hfk⟩
     clear hf hfk hBr HQ hv hvb
     have HFIN:Hid (∀ i (hi:i < b.ls.length),(if b.ls[i].tm=b.ps[k].tm/\b.ls[i].rs=b.ps[k].rs then some (v+b.ps[k].am) else f b.ls[i].tm b.ls[i].rs)=some (Gate.sumTo l b b.ls[i] (k+1))):=by
      intro i hi;obtain ⟨_,_,g1,g2⟩:=HM2.out;have g3:=g2 i hi
      by_cases e:b.ls[i].tm=b.ps[k].tm/\b.ls[i].rs=b.ps[k].rs
      ·rw [if_pos e]
       have g4:v=Gate.sumTo l b b.ls[i] k:=by
        rw [e.1,e.2,g1] at g3;exact Option.some.inj g3
       unfold Gate.sumTo at g4 ⊢;rw [Gate.ze0 _ _ _ _ hlt,if_pos (by unfold Gate.zmM;simp [e.1,e.2]),g4]
       congr 1
       omega
      ·rw [if_neg e,g3]
       unfold Gate.sumTo;rw [Gate.ze0 _ _ _ _ hlt,if_neg (by unfold Gate.zmM;simp only [Bool.and_eq_true,decide_eq_true_eq];exact fun h=>e ⟨h.1.symm,h.2.symm⟩)]
       congr 1
       omega
     go_wp2_with fail
     have hba:=(bRf wr.heap.size wr).alloc (Nat.le_refl _) (.cells #[.string b.ps[k].dr,.string b.ps[k].tm,.string b.ps[k].rs,.int .i64 b.ps[k].am,.int .i64 b.ps[k].un] 136);have hT2:=zm wr #[.string b.ps[k].dr,.string b.ps[k].tm,.string b.ps[k].rs,.int .i64 b.ps[k].am,.int .i64 b.ps[k].un] 136;have hzg:wr.heap.size < (wr.alloc (.cells #[.string b.ps[k].dr,.string b.ps[k].tm,.string b.ps[k].rs,.int .i64 b.ps[k].am,.int .i64 b.ps[k].un] 136)).heap.size:=by simp
     obtain ⟨W2,hW2⟩:∃ W2,W2=wr.alloc (.cells #[.string b.ps[k].dr,.string b.ps[k].tm,.string b.ps[k].rs,.int .i64 b.ps[k].am,.int .i64 b.ps[k].un] 136):=⟨_,rfl⟩
     rw [<- hW2] at hba hT2 hzg ⊢;clear hW2 d0 d1 d2 d3 d4;have hS2:=za hT2 hzg (bRf W2.heap.size W2).drew;have hb:=hba.trans ((bRf W2.heap.size W2).drew.mono hba.size);have hy2:wr.heap.size < W2.drew.heap.size:=hzg;have HNE:Hid (wr.heap.size ≠ W0.heap.size):=by have:=HM2.out.1.lt;intro h;omega
     clear hT2 hba
     go_region_held3 (fun w'=>∀ j,w'.cell? ⟨wr.heap.size,j,none⟩=(#[.string b.ps[k].dr,.string b.ps[k].tm,.string b.ps[k].rs,.int .i64 b.ps[k].am,.int .i64 b.ps[k].un]:Array Value)[j]?) (first | exact fun j=>by rw [hS2] | exact fun j=>by rw [hU2]) (first
      | (go_at_call 164;refine (zdp b.ps[k] _).mono ?_;rintro e w5 ⟨rfl,hb5⟩;have hS2:=za hS2 hy2 hb5;have hb:=hb.trans (hb5.mono hb.size);have hf5:=HM2.out.1.mono hb;have hlk:=hf5.look zcI Tryz.underlying231 b.ps[k].tm b.ps[k].rs hsm.tm hsm.rs false;rw [HM2.out.2.2.1] at hlk;obtain ⟨st,hen,hst⟩:=hf5.entry zcI Tryz.underlying231 b.ps[k].tm b.ps[k].rs hsm.tm hsm.rs v HM2.out.2.2.1;obtain ⟨w7,hup,hf7,hp7⟩:=hst (v+b.ps[k].am);unfold qj at hlk hen ⊢;rw [HSZ.out] at hlk hen hup;simp only [Option.getD_some,Bool.false_eq_true,if_false] at hlk;have hU2:=fun j=>(zgr hp7 (o:=j) HNE.out).trans (hS2 j);clear hb5 hst))
     all_goals first | (go_wp2_with fail;exact ⟨⟨k+1,by omega,by go_num,⟨_,hf7,HFIN.out⟩,hp7.below (HM2.out.2.1.trans (hb.mono HM2.out.2.1.size)) (Nat.le_refl _)⟩,zn hlt⟩) | exact ⟨⟨k+1,by omega,by go_num,⟨_,hf7,HFIN.out⟩,hp7.below (HM2.out.2.1.trans (hb.mono HM2.out.2.1.size)) (Nat.le_refl _)⟩,zn hlt⟩
    ·have e:k=b.ps.length:=by omega
     subst e;have HE:Hid _:=HQ.out;clear HQ hlt hk;go_wp2_with fail
     go_ret;obtain ⟨⟨f,h1,h2⟩,h3⟩:=HE.out;rw [HSZ.out] at h1;exact ⟨⟨_,f,rfl,by omega,h1,h2⟩,HBw.out _ h3⟩
namespace Gate
def za0 (l:Lw) (b:Bk) (g:Lg):Bool:=decide (sumTo l b g b.ps.length=g.mo)
def zcJ (l:Lw) (b:Bk):Bool:=b.ls.all (za0 l b)
end Gate
set_option maxRecDepth 20000 in
theorem zlV (l:Lw) (la lb lc:Option Addr) (lca lcb lcc:Nat) (b:Bk) (a0 a1 a2 a3:Option Addr) (c0 c1 c2 c3:Nat) (w:World) (hl:y9 w l la lb lc) (hb:y7 w b a0 a1 a2 a3) (hs:zgs b) :
 Calls Tryz.prog 114 #[.agg #[.slice la l.ss.length lca,.slice lb l.ms.length lcb,.slice lc l.ts.length lcc],.agg #[.int .i64 b.now,.int .i64 b.tick,.int .i64 b.given,.slice a0 b.os.length c0,.slice a1 b.gs.length c1,.slice a2 b.ls.length c2,.slice a3 b.ps.length c3]] w fun e w'=>e = .returned (.bool (Gate.zcJ l b))/\Below w.heap.size w w':=by
 have HH:Hid (y9 w l la lb lc/\y7 w b a0 a1 a2 a3/\zgs b):=⟨hl,hb,hs⟩
 have hll:=hs.ll;clear hl hb hs;have HG:Hid (Gate.zcJ l b=b.ls.all (Gate.za0 l b)):=rfl;go_enter Tryz.func114,Tryz.ntmps114;go_wp2_with fail
 have hb2:=zA w (.cells #[.slice la l.ss.length lca,.slice lb l.ms.length lcb,.slice lc l.ts.length lcc] 41) (.cells #[.int .i64 b.now,.int .i64 b.tick,.int .i64 b.given,.slice a0 b.os.length c0,.slice a1 b.gs.length c1,.slice a2 b.ls.length c2,.slice a3 b.ps.length c3] 48);refine (znP l la lb lc lca lcb lcc b a0 a1 a2 a3 c0 c1 c2 c3 _ (HH.out.1.mono hb2) (HH.out.2.1.mono hb2) HH.out.2.2).mono ?_;rintro e w1 ⟨⟨r,f,rfl,hr,hf,hfk⟩,hb1⟩;have hX1:∀ j,w1.cell? ⟨w.heap.size+1,j,none⟩=(#[.int .i64 b.now,.int .i64 b.tick,.int .i64 b.given,.slice a0 b.os.length c0,.slice a1 b.gs.length c1,.slice a2 b.ls.length c2,.slice a3 b.ps.length c3]:Array Value)[j]?:=fun j=>cell_of_block ((hb1.block (w.heap.size+1) (by simp)).trans (yh _ _ _).2)
 have hz1:w.heap.size+1 < w1.heap.size:=by have:=hb1.size;simp at this;omega
 have HB1:Hid (Below w.heap.size w w1):=hb2.trans (hb1.mono (by simp;omega));have HM:Hid (zW w1 r f/\∀ i (hi:i < b.ls.length),f b.ls[i].tm b.ls[i].rs=some (Gate.sumTo l b b.ls[i] b.ps.length)):=⟨hf,hfk⟩
 clear hb1 hb2 hf hfk hr;go_wp2_with fail
 go_loopw [14] (fun iv wr=>∃ k:Nat,k<=b.ls.length/\iv = .int .i64 k/\Hid ((b.ls.take k).all (Gate.za0 l b)=true/\Below w1.heap.size w1 wr)) (fun iv _=>b.ls.length - (intOf iv).toNat)
 case atStart=>exact ⟨0,Nat.zero_le _,rfl,by simp,bRf _ _⟩
 case round =>
  obtain ⟨k,hk,rfl,HQ⟩:=hrel;have hkn:k<=1000:=by omega
  by_cases hlt:k < b.ls.length
  ·have hBr:=HQ.out.2
   have hBw:=HB1.out.trans (hBr.mono HB1.out.size);obtain ⟨ob,off,rfl,hob,d0,d1,d2,d3⟩:=HH.out.2.1.ls.load hBw k hlt;have hsm:=HH.out.2.1.ls.small k hlt;have hltI:(k:Int) < (b.ls.length:Int):=by omega
   have hob':ob < wr.heap.size:=nLt hob hBw.size;have HSn:Hid ((b.ls.take (k+1)).all (Gate.za0 l b)=((b.ls.take k).all (Gate.za0 l b) && (Gate.za0 l b) b.ls[k])):=Gate.qU _ _ _ hlt;have HNo:Hid ((Gate.za0 l b) b.ls[k]=false->Gate.zcJ l b=false):=fun h=>by rw [HG.out];exact Gate.zaC _ _ _ hlt h
   have HYes:Hid ((Gate.za0 l b) b.ls[k]=true->(b.ls.take (k+1)).all (Gate.za0 l b)=true):=fun h=>by rw [HSn.out,HQ.out.1,h];rfl
   obtain ⟨v,hv⟩:∃ v,v=Gate.sumTo l b b.ls[k] b.ps.length:=⟨_,rfl⟩
   have HM2:Hid (zW wr r f/\Below w1.heap.size w1 wr/\f b.ls[k].tm b.ls[k].rs=some v):=⟨HM.out.1.mono hBr,hBr,by rw [hv];exact HM.out.2 k hlt⟩
   have HV:Hid (v=Gate.sumTo l b b.ls[k] b.ps.length):=hv;clear hBr hBw HQ hv
   by_cases he:v=b.ls[k].mo
   ·have e2:(v != b.ls[k].mo)=false:=by simp [he]
    have HN:Hid ((b.ls.take (k+1)).all (Gate.za0 l b)=true):=HYes.out (by unfold Gate.za0;rw [decide_eq_true_eq,<- HV.out];exact he);clear he;go_wp2_with fail
    have hba:=(bRf wr.heap.size wr).alloc (Nat.le_refl _) (.cells #[.string b.ls[k].tm,.string b.ls[k].rs,.int .i64 b.ls[k].mo,.int .i64 b.ls[k].fr] 134);have hT2:=zm wr #[.string b.ls[k].tm,.string b.ls[k].rs,.int .i64 b.ls[k].mo,.int .i64 b.ls[k].fr] 134;have hzg:wr.heap.size < (wr.alloc (.cells #[.string b.ls[k].tm,.string b.ls[k].rs,.int .i64 b.ls[k].mo,.int .i64 b.ls[k].fr] 134)).heap.size:=by simp
    obtain ⟨W2,hW2⟩:∃ W2,W2=wr.alloc (.cells #[.string b.ls[k].tm,.string b.ls[k].rs,.int .i64 b.ls[k].mo,.int .i64 b.ls[k].fr] 134):=⟨_,rfl⟩
    rw [<- hW2] at hba hT2 hzg ⊢;clear hW2 d0 d1 d2 d3;have hS2:=za hT2 hzg (bRf W2.heap.size W2).drew;have hb:=hba.trans ((bRf W2.heap.size W2).drew.mono hba.size);have hy2:wr.heap.size < W2.drew.heap.size:=hzg;clear hT2 hba
    go_region_held3 (fun w'=>∀ j,w'.cell? ⟨wr.heap.size,j,none⟩=(#[.string b.ls[k].tm,.string b.ls[k].rs,.int .i64 b.ls[k].mo,.int .i64 b.ls[k].fr]:Array Value)[j]?) (exact fun j=>by rw [hS2]) (first
     | (go_at_call 166;refine (zbz b.ls[k] _).mono ?_;rintro e w5 ⟨rfl,hb5⟩;have hS2:=za hS2 hy2 hb5;have hb:=hb.trans (hb5.mono hb.size);have hf5:=HM2.out.1.mono hb;have hlk:=hf5.look zcI Tryz.underlying231 b.ls[k].tm b.ls[k].rs hsm.tm hsm.rs false;rw [HM2.out.2.2] at hlk;unfold qj at hlk ⊢;simp only [Option.getD_some,Bool.false_eq_true,if_false] at hlk;clear hb5))
    go_wp2_with fail
    exact ⟨⟨k+1,by omega,by go_num,HN.out,HM2.out.2.1.trans (hb.mono HM2.out.2.1.size)⟩,zn hlt⟩
   ·have e2:(v != b.ls[k].mo)=true:=by simp [he]
    have HN:Hid (Gate.zcJ l b=false):=HNo.out (by unfold Gate.za0;rw [decide_eq_false_iff_not,<- HV.out];exact he);clear he;go_wp2_with fail
    have hba:=(bRf wr.heap.size wr).alloc (Nat.le_refl _) (.cells #[.string b.ls[k].tm,.string b.ls[k].rs,.int .i64 b.ls[k].mo,.int .i64 b.ls[k].fr] 134);have hT2:=zm wr #[.string b.ls[k].tm,.string b.ls[k].rs,.int .i64 b.ls[k].mo,.int .i64 b.ls[k].fr] 134;have hzg:wr.heap.size < (wr.alloc (.cells #[.string b.ls[k].tm,.string b.ls[k].rs,.int .i64 b.ls[k].mo,.int .i64 b.ls[k].fr] 134)).heap.size:=by simp
    obtain ⟨W2,hW2⟩:∃ W2,W2=wr.alloc (.cells #[.string b.ls[k].tm,.string b.ls[k].rs,.int .i64 b.ls[k].mo,.int .i64 b.ls[k].fr] 134):=⟨_,rfl⟩
    rw [<- hW2] at hba hT2 hzg ⊢;clear hW2 d0 d1 d2 d3;have hS2:=za hT2 hzg (bRf W2.heap.size W2).drew;have hb:=hba.trans ((bRf W2.heap.size W2).drew.mono hba.size);have hy2:wr.heap.size < W2.drew.heap.size:=hzg;clear hT2 hba
    go_region_held3 (fun w'=>∀ j,w'.cell? ⟨wr.heap.size,j,none⟩=(#[.string b.ls[k].tm,.string b.ls[k].rs,.int .i64 b.ls[k].mo,.int .i64 b.ls[k].fr]:Array Value)[j]?) (exact fun j=>by rw [hS2]) (first
     | (go_at_call 166;refine (zbz b.ls[k] _).mono ?_;rintro e w5 ⟨rfl,hb5⟩;have hS2:=za hS2 hy2 hb5;have hb:=hb.trans (hb5.mono hb.size);have hf5:=HM2.out.1.mono hb;have hlk:=hf5.look zcI Tryz.underlying231 b.ls[k].tm b.ls[k].rs hsm.tm hsm.rs false;rw [HM2.out.2.2] at hlk;unfold qj at hlk ⊢;simp only [Option.getD_some,Bool.false_eq_true,if_false] at hlk;clear hb5))
    go_wp2_with fail
    go_ret;have h9:=HM2.out.2.1.trans (hb.mono HM2.out.2.1.size);exact ⟨ze HN.out.symm,HB1.out.trans (h9.mono HB1.out.size)⟩
  ·have e:k=b.ls.length:=by omega
   subst e;have HE:Hid (Gate.zcJ l b=true):=by have:=HQ.out.1;rw [tOl (Nat.le_refl _)] at this;unfold Hid;rw [HG.out];exact this
   have HB:Hid (Below w1.heap.size w1 wr):=HQ.out.2;clear HQ hlt hk;go_wp2_with fail
   go_ret;exact ⟨ze HE.out.symm,HB1.out.trans (HB.out.mono HB1.out.size)⟩
end Go.Proofs.YtghnakljnhnenaaGreat
namespace Go.Proofs.YtghnakljnhnenaaGreat
open Go.RowKit Go.Shelf
attribute [local go_sem] Oper.semAt_some
structure Lk where
 pl:Int
 rl:Int
 to:ByteArray
 nm:ByteArray
 hto:to.size<=maxLen
 hnm:nm.size<=maxLen
def Lk.enc (x:Lk):Array Value:=#[.agg #[.int .i64 x.pl,.int .i64 x.rl,.string x.to,.string x.nm]]
noncomputable def zeF (fs:List Fld) (vs:List ByteArray) (k:Nat):List Lk :=
 match fs[k]?,vs[k]? with
 | some f,some v=>if h:(f.kd=4/\v.toList.isEmpty=false)/\f.to.size<=maxLen/\v.size<=maxLen then [⟨k,f.rl,f.to,v,h.2.1,h.2.2⟩] else []
 | _,_=>[]
noncomputable def qH (fs:List Fld) (vs:List ByteArray) (k:Nat):List Lk:=(List.range k).flatMap (zeF fs vs)
theorem zan (fs:List Fld) (vs:List ByteArray) (k:Nat):qH fs vs (k+1)=qH fs vs k ++ zeF fs vs k:=by
 simp [qH,List.range_succ]
theorem zpM (fs:List Fld) (vs:List ByteArray) (k:Nat):(zeF fs vs k).length<=1:=by
 unfold zeF
 split
 ·split <;> simp
 ·simp
theorem zkp (fs:List Fld) (vs:List ByteArray):∀ k,(qH fs vs k).length<=k
 | 0=>by simp [qH]
 | k+1=>by
  rw [zan,List.length_append]
  have:=zkp fs vs k
  have:=zpM fs vs k
  omega
theorem zol {fs:List Fld} {vs:List ByteArray} {k:Nat} (h:k < fs.length) (h':k < vs.length) (hn:¬ (fs[k].kd=4/\vs[k].toList.isEmpty=false)):zeF fs vs k=[]:=by
 unfold zeF;rw [List.getElem?_eq_getElem h,List.getElem?_eq_getElem h']
 simp only
 rw [dif_neg (fun e=>hn e.1)]
theorem zpd {fs:List Fld} {vs:List ByteArray} {k:Nat} (h:k < fs.length) (h':k < vs.length) (hk:fs[k].kd=4) (hv:vs[k].toList.isEmpty=false) (h1:fs[k].to.size<=maxLen) (h2:vs[k].size<=maxLen):zeF fs vs k=[⟨k,fs[k].rl,fs[k].to,vs[k],h1,h2⟩]:=by
 unfold zeF;rw [List.getElem?_eq_getElem h,List.getElem?_eq_getElem h']
 simp only
 rw [dif_pos ⟨⟨hk,hv⟩,h1,h2⟩]
theorem zcu (fs:List Fld) (vs:List ByteArray) {k n:Nat} (h:k<=n):qH fs vs k <+: qH fs vs n:=by
 induction n with
 | zero =>
  have:k=0:=by omega
  subst this;exact List.prefix_rfl
 | succ n ih =>
  rcases Nat.eq_or_lt_of_le h with e | h2
  ·subst e;exact List.prefix_rfl
  ·rw [zan]
   exact (ih (by omega)).trans (List.prefix_append _ _)
structure CB (B:Nat) (w w':World):Prop where
 size:w.heap.size<=w'.heap.size
 cells:∀ (k:Nat) (C:Array Value) (t:TypeId) (z:Nat × Nat),k < B->w.heap[k]?=some (.cells C t z)->w'.heap[k]?=some (.cells C t z)
theorem CB.trans {B:Nat} {a b c:World} (h:CB B a b) (k:CB B b c):CB B a c:=⟨Nat.le_trans h.size k.size,fun i C t z hi hc=>k.cells i C t z hi (h.cells i C t z hi hc)⟩
theorem CB.of_below {B:Nat} {w w':World} (h:Below B w w'):CB B w w':=⟨h.size,fun k _ _ _ hk hc=>(h.block k hk).trans hc⟩
theorem CB.alloc {B:Nat} {w0 w:World} (h:CB B w0 w) (o:Obj):CB B w0 (w.alloc o):=⟨Nat.le_trans h.size (by simp),fun k C t z hk hc=>by
 have h1:=h.cells k C t z hk hc;rw [Below.heap_alloc _ _ _ (gES h1).1];exact h1⟩
theorem CB.drew {B:Nat} {w0 w:World} (h:CB B w0 w):CB B w0 w.drew:=⟨h.size,h.cells⟩
theorem znQ {w:World} {b o:Nat} {v:Value} (h:w.cell? ⟨b,o,none⟩=some v):∃ C t z,w.heap[b]?=some (.cells C t z):=by
 unfold World.cell? at h
 cases hb:w.heap[b]? with
 | none=>simp [hb] at h
 | some ob=>cases ob <;> first | exact ⟨_,_,_,rfl⟩ | simp [hb] at h
theorem CB.same {B:Nat} {w w':World} (h:CB B w w') {b o:Nat} {v:Value} (hb:b < B) (hc:w.cell? ⟨b,o,none⟩=some v) (o':Nat):w'.cell? ⟨b,o',none⟩=w.cell? ⟨b,o',none⟩:=by
 obtain ⟨C,t,z,hC⟩:=znQ hc
 simp [World.cell?,hC,h.cells b C t z hb hC]
theorem CB.cell {B:Nat} {w w':World} (h:CB B w w') {b o:Nat} {v:Value} (hb:b < B) (hc:w.cell? ⟨b,o,none⟩=some v):w'.cell? ⟨b,o,none⟩=some v:=(h.same hb hc o).trans hc
theorem CB.box {B:Nat} {w w':World} {b:Nat} {X:Array Value} (h:CB B w w') (hX:∀ o,w.cell? ⟨b,o,none⟩=X[o]?) (hb:b < B) (h0:0 < X.size):∀ o,w'.cell? ⟨b,o,none⟩=X[o]?:=fun o =>
 (h.same hb ((hX 0).trans (Array.getElem?_eq_getElem h0)) o).trans (hX o)
set_option maxRecDepth 100000 in
theorem zkD (n:Nat) (hn:1<=n) (l Bs Bo:Nat) (kd:ByteArray) (fs:List Fld) (fa:Option Addr) (fcap:Nat) (o:Ob) (va ha:Option Addr) (cap cap':Nat) (w0:World) (hbs:Bs < w0.heap.size) (hbo:Bo < w0.heap.size)
 (hBs:∀ j,w0.cell? ⟨Bs,j,none⟩=(#[.string kd,.slice fa fs.length fcap]:Array Value)[j]?) (hBo:∀ j,w0.cell? ⟨Bo,j,none⟩=(#[.string o.kd,.string o.nm,.string o.tm,.slice va o.vs.length cap,.bool o.en,.slice ha o.hs.length cap',.int .i64 o.vr]:Array Value)[j]?)
 (hf:zP w0 fa fs) (hv:zD w0 va o.vs) (hc:o.vs.length=fs.length) (J Jx:List Lk->World->Prop) (W:World) (hW:Below w0.heap.size w0 W) (hJ:AbidesFrom W.heap.size J)
 (hY:∀ pre x W1,J pre W1->pre.length < fs.length->x ∈ qH fs o.vs fs.length->YieldAt Fence.wide (n - 1) Tryz.prog l x.enc W1 fun e W' =>
  (e = .returned (.bool true)/\J (pre ++ [x]) W'/\CB w0.heap.size W1 W') \/ (e = .returned (.bool false)/\Jx (pre ++ [x]) W')) (h0:J [] W) :
 CallsIn Fence.wide n Tryz.prog 167 #[.func (.yield l) #[] #[],.pointer (some ⟨Bs,0,none⟩),.pointer (some ⟨Bo,0,none⟩)] W fun e W'=>(∃ v,e = .returned v) /\
  ((∃ ys,ys=qH fs o.vs fs.length/\J ys W') \/ (∃ pre,pre <+: qH fs o.vs fs.length/\Jx pre W')):=by
 refine callsIn_of_wp Tryz.func167 rfl trivial ?_ rfl;simp only [Tryz.ntmps167,List.size_toArray,List.length_cons,List.length_nil,Nat.reduceAdd,Nat.reduceSub,Array.replicate_succ,Array.replicate_zero,List.push_toArray,List.append_toArray,List.nil_append,List.cons_append];have hlen:=hf.len;unfold maxLen at hlen;have hX0:=za hBs hbs hW;have hXo:=za hBo hbo hW
 gi_wp2
 clear hX0 hXo
 gi_loopw [9] (fun i wr=>∃ k:Nat,k<=fs.length/\i = .int .i64 k/\J (qH fs o.vs k) wr/\CB w0.heap.size w0 wr) (fun i _=>fs.length - (intOf i).toNat)
 case atStart=>exact ⟨0,Nat.zero_le _,rfl,h0,CB.of_below hW⟩
 case round =>
  obtain ⟨k,hk,rfl,hJs,hB⟩:=hrel
  by_cases hlt:k < fs.length
  ·have hltv:k < o.vs.length:=by omega
   obtain ⟨fb,foff,rfl,hfb,hr⟩:=hf.rows (by rintro rfl;simp at hlt);obtain ⟨wa,wcap,hf0⟩:=hr k hlt;obtain ⟨d0,d1,d2,d3,d4,d5,d6,d7,d8,d9,d10⟩:=hf0.load;have d0:=hB.cell hfb d0;have d1:=hB.cell hfb d1;have d2:=hB.cell hfb d2;have d3:=hB.cell hfb d3;have d4:=hB.cell hfb d4;have d5:=hB.cell hfb d5;have d6:=hB.cell hfb d6;have d7:=hB.cell hfb d7;have d8:=hB.cell hfb d8;have d9:=hB.cell hfb d9;have d10:=hB.cell hfb d10;obtain ⟨p,po,rfl,hp,hpc⟩:=hv.cells (by intro e;rw [e] at hltv;simp at hltv);have hltI:(k:Int) < (fs.length:Int):=by omega
   have hltV:(k:Int) < (o.vs.length:Int):=by omega
   have hfbw:fb < wr.heap.size:=nLt hfb hB.size;have hpw:p < wr.heap.size:=nLt hp hB.size;have hbow:Bo < wr.heap.size:=nLt hbo hB.size;have cv:=hB.cell hp (hpc k hltv);have hXo:=hB.box hBo hbo (by simp);have HS:Hid (fs[k].to.size<=maxLen/\o.vs[k].size<=maxLen):=⟨hf0.small.to,hv.small _ (List.getElem_mem _)⟩
   have HBa:Hid (∀ ob,CB w0.heap.size w0 (wr.alloc ob)):=fun ob=>hB.alloc _
   have HJa:Hid (∀ ob,J (qH fs o.vs k) (wr.alloc ob)):=fun ob=>hJ _ _ _ none hJs (World.grownBy_alloc wr ob none) (fun r e=>by cases e)
   clear hf0 hpc
   by_cases hk4:fs[k].kd=4
   rotate_left
   ·have HN:Hid (qH fs o.vs (k+1)=qH fs o.vs k):=by unfold Hid;rw [zan,zol hlt hltv (fun h=>hk4 h.1),List.append_nil]
    have e1:(fs[k].kd != 4)=true:=by simp [hk4]
    clear hk4
    gi_wp2
    exact ⟨⟨k+1,by omega,by go_num,by rw [HN.out];exact HJa.out _,HBa.out _⟩,zn hlt⟩
   ·by_cases hve:o.vs[k].toList.isEmpty=true
    ·have HN:Hid (qH fs o.vs (k+1)=qH fs o.vs k):=by unfold Hid;rw [zan,zol hlt hltv (fun h=>by rw [hve] at h;cases h.2),List.append_nil]
     have e1:(fs[k].kd != 4)=false:=by simp [hk4]
     clear hk4
     gi_wp2
     exact ⟨⟨k+1,by omega,by go_num,by rw [HN.out];exact HJa.out _,HBa.out _⟩,zn hlt⟩
    ·have hve':o.vs[k].toList.isEmpty=false:=by simpa using hve
     have HN:Hid (qH fs o.vs (k+1)=qH fs o.vs k ++ [⟨k,fs[k].rl,fs[k].to,o.vs[k],HS.out.1,HS.out.2⟩]):=by unfold Hid;rw [zan,zpd hlt hltv hk4 hve' HS.out.1 HS.out.2]
     have e1:(fs[k].kd != 4)=false:=by simp [hk4]
     clear hk4 hve;have hmx:Tryz.prog.follows .mixedOrders=true:=by kernel_rfl
     gi_wp2
     have hT0:=zm wr #[.string fs[k].nm,.int .i64 fs[k].kd,.int .i64 fs[k].ls,.int .i64 fs[k].ms,.slice wa fs[k].ws.length wcap,.string fs[k].to,.int .i64 fs[k].rl,.bool fs[k].mu,.bool fs[k].fx,.string fs[k].df,.string fs[k].wg] 165;have hT1:=za hXo hbow ((bRf wr.heap.size wr).alloc (Nat.le_refl _) (.cells #[.string fs[k].nm,.int .i64 fs[k].kd,.int .i64 fs[k].ls,.int .i64 fs[k].ms,.slice wa fs[k].ws.length wcap,.string fs[k].to,.int .i64 fs[k].rl,.bool fs[k].mu,.bool fs[k].fx,.string fs[k].df,.string fs[k].wg] 165));have hT2:=(((bRf wr.heap.size wr).alloc (Nat.le_refl _) (.cells #[.string fs[k].nm,.int .i64 fs[k].kd,.int .i64 fs[k].ls,.int .i64 fs[k].ms,.slice wa fs[k].ws.length wcap,.string fs[k].to,.int .i64 fs[k].rl,.bool fs[k].mu,.bool fs[k].fx,.string fs[k].df,.string fs[k].wg] 165)).cell (p:=⟨p,po+k,none⟩) hpw).trans cv;have hW1J:=HJa.out (.cells #[.string fs[k].nm,.int .i64 fs[k].kd,.int .i64 fs[k].ls,.int .i64 fs[k].ms,.slice wa fs[k].ws.length wcap,.string fs[k].to,.int .i64 fs[k].rl,.bool fs[k].mu,.bool fs[k].fx,.string fs[k].df,.string fs[k].wg] 165);have hW1B:=HBa.out (.cells #[.string fs[k].nm,.int .i64 fs[k].kd,.int .i64 fs[k].ls,.int .i64 fs[k].ms,.slice wa fs[k].ws.length wcap,.string fs[k].to,.int .i64 fs[k].rl,.bool fs[k].mu,.bool fs[k].fx,.string fs[k].df,.string fs[k].wg] 165);have hzg:wr.heap.size < (wr.alloc (.cells #[.string fs[k].nm,.int .i64 fs[k].kd,.int .i64 fs[k].ls,.int .i64 fs[k].ms,.slice wa fs[k].ws.length wcap,.string fs[k].to,.int .i64 fs[k].rl,.bool fs[k].mu,.bool fs[k].fx,.string fs[k].df,.string fs[k].wg] 165)).heap.size:=by simp
     obtain ⟨W1,hW1⟩:∃ W1,W1=wr.alloc (.cells #[.string fs[k].nm,.int .i64 fs[k].kd,.int .i64 fs[k].ls,.int .i64 fs[k].ms,.slice wa fs[k].ws.length wcap,.string fs[k].to,.int .i64 fs[k].rl,.bool fs[k].mu,.bool fs[k].fx,.string fs[k].df,.string fs[k].wg] 165):=⟨_,rfl⟩
     rw [<- hW1] at hT0 hT1 hT2 hW1J hW1B hzg ⊢;clear hW1 d0 d1 d2 d3 d4 d5 d6 d7 d8 d9 d10 hXo cv;have hJd:J (qH fs o.vs k) W1.drew:=hJ _ _ _ none hW1J ⟨rfl,rfl,rfl,Nat.le_refl _,fun _ _ _=>rfl⟩ (fun r e=>by cases e);obtain ⟨x,hx⟩:∃ x:Lk,x=⟨k,fs[k].rl,fs[k].to,o.vs[k],HS.out.1,HS.out.2⟩:=⟨_,rfl⟩
     rw [<- hx] at HN;obtain ⟨fn,tmps,assign,body,hy,hR⟩:=hY _ x W1.drew hJd (Nat.lt_of_le_of_lt (zkp fs o.vs k) hlt) ((zcu fs o.vs (show k+1<=fs.length by omega)).subset (by rw [HN.out];simp));rw [hx] at hy;unfold Lk.enc at hy;dsimp only at hy
     have HR:=hR.mono (R':=fun e W'=>∃ t:Bool,e = .returned (.bool t)/\Hid (if t=true then J (qH fs o.vs k ++ [x]) W'/\CB w0.heap.size W1.drew W' else Jx (qH fs o.vs k ++ [x]) W')) (by
      rintro e W' (⟨h1,h2,h3⟩ | ⟨h1,h2⟩)
      ·exact ⟨true,h1,h2,h3⟩
      ·exact ⟨false,h1,h2⟩)
     clear hR hx
     gi_region_with_o (refine HR.mono ?_;rintro e W3 ⟨t,rfl,H3⟩)
     all_goals cases t
     all_goals gi_wp2
     all_goals first
      | (refine bodyPost_ret (results_none rfl _ _ _) rfl ?_
         have h9:=H3.out;rw [if_neg (by simp)] at h9;refine ⟨⟨_,rfl⟩,.inr ⟨_,?_,h9⟩⟩;rw [<- HN.out];exact zcu fs o.vs (by omega))
      | (have h9:=H3.out
         rw [if_pos rfl] at h9;exact ⟨⟨k+1,by omega,by go_num,by rw [HN.out];exact h9.1,(hW1B.drew).trans h9.2⟩,zn hlt⟩)
  ·obtain rfl:k=fs.length:=by omega
   gi_wp2
   go_end0
   exact ⟨⟨_,rfl⟩,.inl ⟨_,rfl,hJs⟩⟩
theorem zm2 (n:Nat) (hn:1<=n) (Bs Bo:Nat) (kd:ByteArray) (fs:List Fld) (fa:Option Addr) (fcap:Nat) (o:Ob) (va ha:Option Addr) (cap cap':Nat) (w0:World) (hbs:Bs < w0.heap.size) (hbo:Bo < w0.heap.size)
 (hBs:∀ j,w0.cell? ⟨Bs,j,none⟩=(#[.string kd,.slice fa fs.length fcap]:Array Value)[j]?) (hBo:∀ j,w0.cell? ⟨Bo,j,none⟩=(#[.string o.kd,.string o.nm,.string o.tm,.slice va o.vs.length cap,.bool o.en,.slice ha o.hs.length cap',.int .i64 o.vr]:Array Value)[j]?)
 (hf:zP w0 fa fs) (hv:zD w0 va o.vs) (hc:o.vs.length=fs.length) :
 SeqStopsK Fence.wide n Tryz.prog 167 #[.pointer (some ⟨Bs,0,none⟩),.pointer (some ⟨Bo,0,none⟩)] Lk.enc (Below w0.heap.size) (fun ys=>ys=qH fs o.vs fs.length) (fun pre=>pre <+: qH fs o.vs fs.length) fs.length w0 :=
 fun l J Jx W hW hJ _ hY h0=>zkD n hn l Bs Bo kd fs fa fcap o va ha cap cap' w0 hbs hbo hBs hBo hf hv hc J Jx W hW hJ (fun pre x W1 h1 h2 _=>by
  obtain ⟨fn,tmps,assign,body,hy,hR⟩:=hY pre x W1 h1 h2;exact ⟨fn,tmps,assign,body,hy,hR.mono (fun e W' h=>h.imp (fun h=>⟨h.1,h.2.1,CB.of_below h.2.2⟩) id)⟩) h0
theorem zlE (n:Nat) (hn:1<=n) (Bs Bo:Nat) (kd:ByteArray) (fs:List Fld) (fa:Option Addr) (fcap:Nat) (o:Ob) (va ha:Option Addr) (cap cap':Nat) (w0:World) (hbs:Bs < w0.heap.size) (hbo:Bo < w0.heap.size)
 (hBs:∀ j,w0.cell? ⟨Bs,j,none⟩=(#[.string kd,.slice fa fs.length fcap]:Array Value)[j]?) (hBo:∀ j,w0.cell? ⟨Bo,j,none⟩=(#[.string o.kd,.string o.nm,.string o.tm,.slice va o.vs.length cap,.bool o.en,.slice ha o.hs.length cap',.int .i64 o.vr]:Array Value)[j]?)
 (hf:zP w0 fa fs) (hv:zD w0 va o.vs) (hc:o.vs.length=fs.length) :
 SeqStopsK Fence.wide n Tryz.prog 167 #[.pointer (some ⟨Bs,0,none⟩),.pointer (some ⟨Bo,0,none⟩)] (fun x:{ x:Lk // x ∈ qH fs o.vs fs.length }=>x.1.enc) (CB w0.heap.size) (fun ys=>ys.map (·.1)=qH fs o.vs fs.length) (fun pre=>pre.map (·.1) <+: qH fs o.vs fs.length) fs.length w0 :=
 fun l J Jx W hW hJ _ hY h0=>by
 refine (zkD n hn l Bs Bo kd fs fa fcap o va ha cap cap' w0 hbs hbo hBs hBo hf hv hc (fun pre W=>∃ p,p.map (·.1)=pre/\J p W) (fun pre W=>∃ p,p.map (·.1)=pre/\Jx p W) W hW ?_ ?_ ⟨[],rfl,h0⟩).mono ?_
 ·rintro s A B row ⟨p,e,h⟩ hg hr
  exact ⟨p,e,hJ p A B row h hg hr⟩
 ·rintro pre x W1 ⟨p,rfl,hp⟩ hlen hmem
  obtain ⟨fn,tmps,assign,body,hy,hR⟩:=hY p ⟨x,hmem⟩ W1 hp (by simpa using hlen);exact ⟨fn,tmps,assign,body,hy,hR.mono (fun e W' h=>h.imp (fun h=>⟨h.1,⟨p ++ [⟨x,hmem⟩],by simp,h.2.1⟩,h.2.2⟩) (fun h=>⟨h.1,⟨p ++ [⟨x,hmem⟩],by simp,h.2⟩⟩))⟩
 ·rintro e W' ⟨h1,h2⟩
  refine ⟨h1,h2.imp ?_ ?_⟩
  ·rintro ⟨ys,rfl,p,e,hp⟩
   exact ⟨p,e,hp⟩
  ·rintro ⟨pre,hpre,p,rfl,hp⟩
   exact ⟨p,hpre,hp⟩
end Go.Proofs.YtghnakljnhnenaaGreat
