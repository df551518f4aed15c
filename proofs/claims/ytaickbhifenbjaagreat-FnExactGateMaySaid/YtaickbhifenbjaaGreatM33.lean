import Derived.Test.YtaickbhifenbjaaGreatM32
import Derived.Deep.QuietTactic
import Derived.BigQuiet
import Derived.WalkKit
import Derived.Deep.RegionHeld3
import Derived.Test.YtaickbhifenbjaaGreatM12
import Derived.DeepKeys4
set_option maxHeartbeats 4000000
namespace Go.Proofs.YtaickbhifenbjaaGreat
open Go.RowKit
namespace Gate
theorem zoJ (a b:ByteArray):key a b < 0 ↔ less a b=true:=by
 rw [ziL,decide_eq_true_eq]
 have:=zlF a b
 omega
theorem zjB {a b c:ByteArray} (h:key a b < 0) (h':key b c < 0):key a c < 0:=by
 rw [zoJ] at h h' ⊢
 exact zaY _ _ _ h h'
theorem zmO {a b c d e f:ByteArray} (h:key2 a b c d < 0) (h':key2 c d e f < 0):key2 a b e f < 0:=by
 unfold key2 at h h' ⊢
 by_cases h1:key a c=0
 ·rw [if_pos h1] at h
  have e1:=(zbp a c).1 h1
  subst e1
  by_cases h2:key a e=0
  ·rw [if_pos h2] at h' ⊢
   exact zjB h h'
  ·rw [if_neg h2] at h' ⊢
   exact h'
 ·rw [if_neg h1] at h
  by_cases h2:key c e=0
  ·have e1:=(zbp c e).1 h2
   subst e1
   rw [if_neg h1]
   exact h
  ·rw [if_neg h2] at h'
   have h3:=zjB h h'
   rw [if_neg (by omega)]
   exact h3
theorem za9 {a b c:Lg} (h:qz a b < 0) (h':qz b c < 0):qz a c < 0:=zmO h h'
theorem zgb {a b c d:ByteArray}:key2 a b c d=0 ↔ a=c/\b=d:=by
 unfold key2
 by_cases h:key a c=0
 ·rw [if_pos h,zbp]
  exact ⟨fun e=>⟨(zbp a c).1 h,e⟩,fun e=>e.2⟩
 ·rw [if_neg h]
  exact ⟨fun e=>absurd e h,fun e=>absurd ((zbp a c).2 e.1) h⟩
theorem zc2 {α:Type} {key:α->α->Int} (ht:∀ a b c:α,key a b < 0->key b c < 0->key a c < 0) {ms:List α} (h:rising key ms):∀ (j:Nat) (hj:j < ms.length) (i:Nat) (hi:i < j),key (ms[i]'(by omega)) ms[j] < 0
 | 0,_,i,hi=>by omega
 | j+1,hj,i,hi=>by
  rcases Nat.lt_or_ge i j with hlt | hge
  ·have hjl:j < ms.length:=by omega
   have hil:i < ms.length:=by omega
   exact ht ms[i] ms[j] ms[j+1] (zc2 ht h j hjl i hlt) (h j hj)
  ·have e:i=j:=by omega
   subst e
   exact h i hj
def jq (ls:List Lg) (tm rs:ByteArray):Bool:=ls.any fun g=>decide (g.tm=tm) && decide (g.rs=rs)
structure zd6 (ls:List Lg) (tm rs:ByteArray) (p:Nat):Prop where
 le:p<=ls.length
 below:∀ i (h:i < ls.length),i < p->key2 ls[i].tm ls[i].rs tm rs < 0
 above:∀ i (h:i < ls.length),p<=i->0<=key2 ls[i].tm ls[i].rs tm rs
theorem zd6.found {ls:List Lg} {tm rs:ByteArray} {p:Nat} (h:zd6 ls tm rs p) (hr:rising qz ls):jq ls tm rs=true ↔ ∃ hp:p < ls.length,ls[p].tm=tm/\ls[p].rs=rs:=by
 unfold jq
 rw [List.any_eq_true]
 constructor
 ·rintro ⟨g,hg,he⟩
  obtain ⟨i,hi,rfl⟩:=List.mem_iff_getElem.1 hg
  simp only [Bool.and_eq_true,decide_eq_true_eq] at he
  have hz:key2 ls[i].tm ls[i].rs tm rs=0:=zgb.2 he
  have hpi:p<=i:=by
   rcases Nat.lt_or_ge i p with hlt | hge
   ·have:=h.below i hi hlt;omega
   ·exact hge
  rcases Nat.eq_or_lt_of_le hpi with e | hlt
  ·subst e;exact ⟨hi,he⟩
  ·have h1:=zc2 (fun a b c=>za9 (a:=a) (b:=b) (c:=c)) hr i hi p hlt
   have h2:=h.above p (by omega) (Nat.le_refl _)
   unfold qz at h1
   rw [he.1,he.2] at h1
   omega
 ·rintro ⟨hp,he⟩
  exact ⟨ls[p],List.getElem_mem _,by simp [he.1,he.2]⟩
end Gate
def nth:List Oper->Nat->Option Oper
 | [],_=>none
 | o :: _,0=>some o
 | _ :: l,n+1=>nth l n
theorem zol:∀ (l:List Oper) (i:Nat),nth l i=l[i]?
 | [],_=>by simp [nth]
 | _ :: _,0=>by simp [nth]
 | _ :: l,n+1=>by simp [nth,zol l n]
section
variable {P:Program} {ops:Array Oper} {Q:Exit->Act->World->Prop} {md:Region.Mode} {S:World->Prop}
theorem zmn {i:Nat} {oi:Oper} (hi:nth ops.toList i=some oi):ops[i]?=some oi:=by
 rw [zol] at hi;simpa using hi
theorem zo3 {i:Nat} {oi:Oper} {v:Value} {fuel:Nat} {listed:Array Bool} {a:Act} {w:World} (hi:nth ops.toList i=some oi)
 (hs:Region.noSelect ops=true) (hf:Region.free md ops listed i=true) (hr:(Region.ready md ops listed).contains i=true)
 (hQ:∀ c a w,Q (.panic c) (a.put oi.dst v) w->Q (.panic c) a w) (hw:Region.wanted oi (yielded ops a.tmps)=true) (hS:S w)
 (hy:∀ w,S w->(execOp a.eval oi).run P w = .ok (.value v) w)
 (h:wpAnyH P md ops Q S fuel (listed.setIfInBounds i true) (a.put oi.dst v) w):wpAnyH P md ops Q S (fuel+1) listed a w :=
 wpAnyH_take (zmn hi) hs hf hr hQ (Or.inl ⟨hw,hy⟩) hS h
theorem zo2 {i:Nat} {oi:Oper} {fuel:Nat} {listed:Array Bool} {a:Act} {w:World} (hi:nth ops.toList i=some oi)
 (hs:Region.noSelect ops=true) (hf:Region.free md ops listed i=true) (hr:(Region.ready md ops listed).contains i=true)
 (hQ:∀ c a w,Q (.panic c) (a.put oi.dst undef) w->Q (.panic c) a w) (hw:Region.wanted oi (yielded ops a.tmps)=false) (hS:S w)
 (h:wpAnyH P md ops Q S fuel (listed.setIfInBounds i true) (a.put oi.dst undef) w):wpAnyH P md ops Q S (fuel+1) listed a w :=
 wpAnyH_take (zmn hi) hs hf hr hQ (Or.inr ⟨hw,rfl⟩) hS h
theorem zoX {i:Nat} {oi:Oper} {fuel:Nat} {listed:Array Bool} {a:Act} {w:World} (hi:nth ops.toList i=some oi)
 (hr:Region.ready md ops listed=[i]) (hw:Region.wanted oi (yielded ops a.tmps)=true)
 (h:∀ K:Act->World->Prop,Shut (∀ a w,S w->(S w->wpAnyH P md ops Q S fuel (listed.setIfInBounds i true) a w)->K a w)->Oper.wp P oi a w K Q):wpAnyH P md ops Q S (fuel+1) listed a w :=
 wpAnyH_ready hr (by simp) (AllReadyH.cons (zmn hi) (fun K hK=>by rw [if_pos hw];exact h K hK) AllReadyH.nil)
end
theorem zf1 (a:Option Addr) (cap:Nat) (ms:List Lg) (t:Lg) (w:World) (hw:zbL w a ms) (hl:ms.length<=1000) (hr:Gate.rising Gate.qz ms) :
 Calls Tryz.prog 194 #[.slice a ms.length cap,.agg t.cells,.func (.func 149) #[] #[]] w fun e w'=>(∃ p:Nat,e = .returned (.tuple #[.int .i64 p,.bool (Gate.jq ms t.tm t.rs)])/\Gate.zd6 ms t.tm t.rs p)/\Below w.heap.size w w':=by
 have HW:Hid (zbL w a ms):=hw
 have HR:Hid (Gate.rising Gate.qz ms):=hr
 clear hw hr
 unfold Lg.cells
 go_enter Tryz.func194,Tryz.ntmps194
 go_wp2_with fail
 have hT0:=zl w #[.string t.tm,.string t.rs,.int .i64 t.mo,.int .i64 t.fr] 126
 have HB0:Hid (Below w.heap.size w (w.alloc (.cells #[.string t.tm,.string t.rs,.int .i64 t.mo,.int .i64 t.fr] 126))):=(Below.refl _ _).alloc (Nat.le_refl _) _
 obtain ⟨W0,hW0⟩:∃ W0,W0=w.alloc (.cells #[.string t.tm,.string t.rs,.int .i64 t.mo,.int .i64 t.fr] 126):=⟨_,rfl⟩
 have hz0:w.heap.size < W0.heap.size:=by rw [hW0];simp
 rw [<- hW0] at HB0 hT0 ⊢
 clear hW0
 have hlI:(ms.length:Int)<=1000:=by omega
 go_loopw [9,10] (fun iv jv wr=>∃ lo hi:Nat,iv = .int .i64 lo/\jv = .int .i64 hi/\lo<=hi/\hi<=ms.length/\Hid ((∀ i (h:i < ms.length),i < lo->Gate.qz ms[i] t < 0)/\(∀ i (h:i < ms.length),hi<=i->0<=Gate.qz ms[i] t)/\Below W0.heap.size W0 wr)) (fun iv jv _=>(intOf jv).toNat - (intOf iv).toNat)
 case atStart=>exact ⟨0,ms.length,rfl,rfl,Nat.zero_le _,Nat.le_refl _,fun i h h'=>by omega,fun i h h'=>by omega,Below.refl _ _⟩
 case round =>
  obtain ⟨lo,hi,rfl,rfl,hlh,hhn,HQ⟩:=hrel
  have hT:=za hT0 hz0 HQ.out.2.2
  have hzT:w.heap.size < wr.heap.size:=Nat.lt_of_lt_of_le hz0 HQ.out.2.2.size
  have HBr:Hid (Below w.heap.size w wr):=HB0.out.trans (HQ.out.2.2.mono HB0.out.size)
  have HBW:Hid (∀ W,Below w.heap.size w W->Below wr.heap.size wr W->Below W0.heap.size W0 W):=fun W _ h=>HQ.out.2.2.trans (h.mono HQ.out.2.2.size)
  have hloI:(lo:Int)<=1000:=by omega
  have hhiI:(hi:Int)<=1000:=by omega
  by_cases hlt:lo < hi
  ·obtain ⟨m,hm⟩:∃ m,m=(lo+hi) / 2:=⟨_,rfl⟩
   have HM1:Hid (lo<=m/\m < hi):=⟨by omega,by omega⟩
   have hml:m < ms.length:=by omega
   have hmI:((lo:Int)+(hi:Int)) / 2=(m:Int):=by omega
   clear hm
   obtain ⟨b,off,rfl,hb,d0,d1,d2,d3⟩:=HW.out.load HBr.out m hml
   have hb':b < wr.heap.size:=Nat.lt_of_lt_of_le hb HBr.out.size
   have hmlI:(m:Int) < (ms.length:Int):=by omega
   have hS:(∀ j,wr.drew.cell? ⟨w.heap.size,j,none⟩=(#[.string t.tm,.string t.rs,.int .i64 t.mo,.int .i64 t.fr]:Array Value)[j]?)/\wr.drew.cell? ⟨b,off+m * 4,none⟩=some (.string ms[m].tm)/\wr.drew.cell? ⟨b,off+m * 4+1,none⟩=some (.string ms[m].rs)/\wr.drew.cell? ⟨b,off+m * 4+2,none⟩=some (.int .i64 ms[m].mo)/\wr.drew.cell? ⟨b,off+m * 4+3,none⟩=some (.int .i64 ms[m].fr):=⟨hT,d0,d1,d2,d3⟩
   clear d0 d1 d2 d3 hT
   go_wp2_with fail
   go_region_held3 (fun w'=>(∀ j,w'.cell? ⟨w.heap.size,j,none⟩=(#[.string t.tm,.string t.rs,.int .i64 t.mo,.int .i64 t.fr]:Array Value)[j]?)/\w'.cell? ⟨b,off+m * 4,none⟩=some (.string ms[m].tm)/\w'.cell? ⟨b,off+m * 4+1,none⟩=some (.string ms[m].rs)/\w'.cell? ⟨b,off+m * 4+2,none⟩=some (.int .i64 ms[m].mo)/\w'.cell? ⟨b,off+m * 4+3,none⟩=some (.int .i64 ms[m].fr)) (exact hS) (first | (go_at_call 149;refine (zbU ms[m] t _).mono ?_;rintro e w2 ⟨rfl,hb2⟩;have hS:=(⟨za hS.1 hzT hb2,(hb2.cell (p:=⟨b,_,none⟩) hb').trans hS.2.1,(hb2.cell (p:=⟨b,_,none⟩) hb').trans hS.2.2.1,(hb2.cell (p:=⟨b,_,none⟩) hb').trans hS.2.2.2.1,(hb2.cell (p:=⟨b,_,none⟩) hb').trans hS.2.2.2.2⟩:_/\_/\_/\_/\_);have hB2:=HBr.out.drew.trans (hb2.mono HBr.out.drew.size);have hB2':=(Below.refl wr.heap.size wr).drew.trans hb2;clear hb2))
   have HB2:Hid (Below W0.heap.size W0 w2):=HBW.out w2 hB2 hB2'
   by_cases hk:Gate.qz ms[m] t < 0
   ·have hd:decide (Gate.qz ms[m] t < 0)=true:=by simpa using hk
    have HA:Hid (∀ i (h:i < ms.length),i < m+1->Gate.qz ms[i] t < 0):=by
     intro i hi him
     rcases Nat.eq_or_lt_of_le (Nat.le_of_lt_succ him) with e | hlt'
     ·subst e;exact hk
     ·exact Gate.za9 (Gate.zc2 (fun a b c=>Gate.za9 (a:=a) (b:=b) (c:=c)) HR.out m hml i hlt') hk
    rw [hd]
    clear hd hk hS
    go_wp2_with fail
    exact ⟨⟨m+1,hi,by go_num,rfl,HM1.out.2,hhn,HA.out,HQ.out.2.1,HB2.out⟩,by have:=HM1.out;show (hi:Int).toNat - ((m:Int)+1).toNat < (hi:Int).toNat - (lo:Int).toNat;omega⟩
   ·have hd:decide (Gate.qz ms[m] t < 0)=false:=by simpa using hk
    have HA:Hid (∀ i (h:i < ms.length),m<=i->0<=Gate.qz ms[i] t):=by
     intro i hi him
     rcases Nat.eq_or_lt_of_le him with e | hlt'
     ·subst e;omega
     ·rcases Int.lt_or_le (Gate.qz ms[i] t) 0 with h1 | h1
      ·exact absurd (Gate.za9 (Gate.zc2 (fun a b c=>Gate.za9 (a:=a) (b:=b) (c:=c)) HR.out i hi m hlt') h1) hk
      ·exact h1
    rw [hd]
    clear hd hk hS
    go_wp2_with fail
    exact ⟨⟨lo,m,rfl,rfl,HM1.out.1,Nat.le_of_lt hml,HQ.out.1,HA.out,HB2.out⟩,by have:=HM1.out;show (m:Int).toNat - (lo:Int).toNat < (hi:Int).toNat - (lo:Int).toNat;omega⟩
  ·have e:hi=lo:=by omega
   subst e
   have HA:Hid (Gate.zd6 ms t.tm t.rs hi):=⟨hhn,HQ.out.1,HQ.out.2.1⟩
   clear HQ
   by_cases hn:hi < ms.length
   ·obtain ⟨b,off,rfl,hb,d0,d1,d2,d3⟩:=HW.out.load HBr.out hi hn
    have hb':b < wr.heap.size:=Nat.lt_of_lt_of_le hb HBr.out.size
    have hnI:(hi:Int) < (ms.length:Int):=by omega
    have hS:(∀ j,wr.drew.cell? ⟨w.heap.size,j,none⟩=(#[.string t.tm,.string t.rs,.int .i64 t.mo,.int .i64 t.fr]:Array Value)[j]?)/\wr.drew.cell? ⟨b,off+hi * 4,none⟩=some (.string ms[hi].tm)/\wr.drew.cell? ⟨b,off+hi * 4+1,none⟩=some (.string ms[hi].rs)/\wr.drew.cell? ⟨b,off+hi * 4+2,none⟩=some (.int .i64 ms[hi].mo)/\wr.drew.cell? ⟨b,off+hi * 4+3,none⟩=some (.int .i64 ms[hi].fr):=⟨hT,d0,d1,d2,d3⟩
    have HFd:Hid (Gate.jq ms t.tm t.rs=(Gate.qz ms[hi] t == 0)):=by
     unfold Hid
     rw [Bool.eq_iff_iff,HA.out.found HR.out,beq_iff_eq]
     unfold Gate.qz
     rw [Gate.zgb]
     exact ⟨fun h=>h.2,fun h=>⟨hn,h⟩⟩
    clear d0 d1 d2 d3 hT hlt
    go_wp2_with fail
    go_region_held3 (fun w'=>(∀ j,w'.cell? ⟨w.heap.size,j,none⟩=(#[.string t.tm,.string t.rs,.int .i64 t.mo,.int .i64 t.fr]:Array Value)[j]?)/\w'.cell? ⟨b,off+hi * 4,none⟩=some (.string ms[hi].tm)/\w'.cell? ⟨b,off+hi * 4+1,none⟩=some (.string ms[hi].rs)/\w'.cell? ⟨b,off+hi * 4+2,none⟩=some (.int .i64 ms[hi].mo)/\w'.cell? ⟨b,off+hi * 4+3,none⟩=some (.int .i64 ms[hi].fr)) (exact hS) (first | (go_at_call 149;refine (zbU ms[hi] t _).mono ?_;rintro e w2 ⟨rfl,hb2⟩;have hS:=(⟨za hS.1 hzT hb2,(hb2.cell (p:=⟨b,_,none⟩) hb').trans hS.2.1,(hb2.cell (p:=⟨b,_,none⟩) hb').trans hS.2.2.1,(hb2.cell (p:=⟨b,_,none⟩) hb').trans hS.2.2.2.1,(hb2.cell (p:=⟨b,_,none⟩) hb').trans hS.2.2.2.2⟩:_/\_/\_/\_/\_);have hB2:=HBr.out.drew.trans (hb2.mono HBr.out.drew.size);have hB2':=(Below.refl wr.heap.size wr).drew.trans hb2;clear hb2))
    go_wp2_with fail
    go_ret2
    exact ⟨⟨hi,by rw [HFd.out];rfl,HA.out⟩,hB2⟩
   ·have hnI:¬ (hi:Int) < (ms.length:Int):=by omega
    have HFd:Hid (Gate.jq ms t.tm t.rs=false):=by
     unfold Hid
     rw [Bool.eq_false_iff]
     intro h
     obtain ⟨hp,_⟩:=(HA.out.found HR.out).1 h
     exact hn hp
    clear hlt
    go_wp2_with fail
    go_quiet (fail)
    go_wp2_with fail
    go_ret2
    exact ⟨⟨hi,by rw [HFd.out];rfl,HA.out⟩,below_drewN HBr.out _⟩
def q8 (a b:ByteArray):Value:=.agg #[.string a,.string b]
structure yK (w:World) (r:Nat) (f:ByteArray->ByteArray->Option Int):Prop where
 ex:∃ es clock,w.heap[r]?=some (.map es clock)/\(∀ x ∈ es.toList,∃ a b v,x.key=q8 a b/\a.size<=maxLen/\b.size<=maxLen/\x.val = .int .i64 v/\f a b=some v)/\(∀ a b v,f a b=some v->∃ x ∈ es.toList,x.key=q8 a b)/\∀ (i j:Nat) (x y:MapEntry),es[i]?=some x->es[j]?=some y->x.key=y.key->i=j
 stamps:∀ es clock,w.heap[r]?=some (.map es clock)->(∀ x ∈ es.toList,x.born < clock)/\(es.toList.map (·.born)).Nodup
theorem yK.keep {w w':World} {r:Nat} {f:ByteArray->ByteArray->Option Int} (h:yK w r f) (hb:w'.heap[r]?=w.heap[r]?):yK w' r f:=by
 obtain ⟨es,clock,h1,h2⟩:=h.ex
 exact ⟨⟨es,clock,hb.trans h1,h2⟩,fun es' c' h'=>h.stamps es' c' (hb.symm.trans h')⟩
theorem yK.lt {w:World} {r:Nat} {f:ByteArray->ByteArray->Option Int} (h:yK w r f):r < w.heap.size:=by
 obtain ⟨es,clock,h1,_⟩:=h.ex
 exact (Array.getElem?_eq_some_iff.1 h1).1
theorem yK.mono {w w':World} {r:Nat} {f:ByteArray->ByteArray->Option Int} (h:yK w r f) (hb:Below w.heap.size w w'):yK w' r f:=h.keep (hb.block r h.lt)
structure zhB (kt:TypeId):Prop where
 law:WideMaps.KeyLaw Tryz.prog kt
 key:∀ a b:ByteArray,a.size<=maxLen->b.size<=maxLen->∃ l,keyOf Tryz.prog kt (q8 a b)=some l
theorem zkF (a b:ByteArray) (ha:a.size<=maxLen) (hb:b.size<=maxLen):Tryz.prog.keyLits (Tryz.prog.types.size+1) 217 [.string a,.string b]=some [.string a.data.toList,.string b.data.toList]:=by
 have e:Tryz.prog.types.size=(Tryz.prog.types.size - 1)+1:=by kernel_rfl
 rw [e]
 generalize Tryz.prog.types.size - 1=n
 have c:Tryz.prog.cellsOf 217=2:=by kernel_rfl
 have cs:Tryz.prog.cellsOf 9=1:=by kernel_rfl
 simp [Program.keyLits,Tryz.underlying217,Tryz.underlying9,c,cs,ha,hb]
theorem zcr:zhB 217:=by
 refine ⟨deep_law_laid (m:=3) (by kernel_rfl) (by omega) (by decide +kernel) (by kernel_rfl) (by kernel_rfl),fun a b ha hb=>?_⟩
 have h1:Tryz.prog.keyType 217=true:=by kernel_rfl
 have h2:(q8 a b).formed Tryz.prog 217=true:=by kernel_rfl
 have h3:(q8 a b).cells.toList=[.string a,.string b]:=rfl
 refine ⟨.string (keyBytes [.string a.data.toList,.string b.data.toList]),?_⟩
 ·unfold keyOf
  rw [Tryz.underlying217]
  simp only [h1,h2,h3,Bool.and_self,if_true]
  rw [zkF a b ha hb]
  rfl
theorem zkW (a b:ByteArray) (ha:a.size<=maxLen) (hb:b.size<=maxLen):Tryz.prog.keyLits (Tryz.prog.types.size+1) 246 [.string a,.string b]=some [.string a.data.toList,.string b.data.toList]:=by
 have e:Tryz.prog.types.size=(Tryz.prog.types.size - 1)+1:=by kernel_rfl
 rw [e]
 generalize Tryz.prog.types.size - 1=n
 have c:Tryz.prog.cellsOf 246=2:=by kernel_rfl
 have cs:Tryz.prog.cellsOf 9=1:=by kernel_rfl
 simp [Program.keyLits,Tryz.underlying246,Tryz.underlying9,c,cs,ha,hb]
theorem zio:zhB 246:=by
 refine ⟨deep_law_laid (m:=3) (by kernel_rfl) (by omega) (by decide +kernel) (by kernel_rfl) (by kernel_rfl),fun a b ha hb=>?_⟩
 have h1:Tryz.prog.keyType 246=true:=by kernel_rfl
 have h2:(q8 a b).formed Tryz.prog 246=true:=by kernel_rfl
 have h3:(q8 a b).cells.toList=[.string a,.string b]:=rfl
 refine ⟨.string (keyBytes [.string a.data.toList,.string b.data.toList]),?_⟩
 ·unfold keyOf
  rw [Tryz.underlying246]
  simp only [h1,h2,h3,Bool.and_self,if_true]
  rw [zkW a b ha hb]
  rfl
section
variable {kt mt:TypeId} (K:zhB kt) (hm:Tryz.prog.underlying mt=some (.map kt 3))
include K hm
theorem yK.look {w:World} {r:Nat} {f:ByteArray->ByteArray->Option Int} (h:yK w r f) (a b:ByteArray) (ha:a.size<=maxLen) (hb:b.size<=maxLen) (ok:Bool) :
 (Instr.lookup mt (.map (some r)) (q8 a b) ok).run Tryz.prog w = .ok (if ok then .tuple #[.int .i64 ((f a b).getD 0),.bool (f a b).isSome] else .int .i64 ((f a b).getD 0)) w:=by
 obtain ⟨es,clock,hh,h1,h2,h3⟩:=h.ex
 obtain ⟨l,hl⟩:=K.key a b ha hb
 have hz:(zeroValue 3).run Tryz.prog w = .ok (.int .i64 0) w:=by kernel_rfl
 have hkeys:∀ e ∈ es.toList,∃ l,keyOf Tryz.prog kt e.key=some l:=fun e he=>by
  obtain ⟨a',b',v,e1,ha',hb',_⟩:=h1 e he
  rw [e1];exact K.key a' b' ha' hb'
 have hc:=K.law.check w es.isEmpty hl
 rcases K.law.find w hl es.toList hkeys with ⟨g1,g2⟩ | ⟨j,e,g1,g2,g3⟩
 ·have hn:f a b=none:=by
   cases hf:f a b with
   | none=>rfl
   | some v =>
    obtain ⟨x,hx,hk⟩:=h2 a b v hf
    exact absurd hk (g2 x hx)
  rw [hn]
  cases ok <;> simp [Instr.lookup,run_underlying hm,MapKept.run_getObj_map hh,hc,g1,hz,Result.andThen]
 ·obtain ⟨a',b',v',e1,_,_,e2,e3⟩:=h1 e (List.mem_of_getElem? g2)
  rw [g3] at e1
  have hab:a=a'/\b=b':=by unfold q8 at e1;simpa using e1
  obtain ⟨rfl,rfl⟩:=hab
  rw [e3]
  rw [e2] at g1
  cases ok <;> simp [Instr.lookup,run_underlying hm,MapKept.run_getObj_map hh,hc,g1,Result.andThen]
theorem yK.upd {w:World} {r:Nat} {f:ByteArray->ByteArray->Option Int} (h:yK w r f) (a b:ByteArray) (ha:a.size<=maxLen) (hb:b.size<=maxLen) (v:Int) :
 ∃ w',(Instr.mapUpdate mt (.map (some r)) (q8 a b) (.int .i64 v)).run Tryz.prog w = .ok () w'/\yK w' r (fun p q=>if p=a/\q=b then some v else f p q)/\zgz r w w':=by
 obtain ⟨es,clock,hh,h1,h2,h3⟩:=h.ex
 obtain ⟨l,hl⟩:=K.key a b ha hb
 have hkeys:∀ e ∈ es.toList,∃ l,keyOf Tryz.prog kt e.key=some l:=fun e he=>by
  obtain ⟨a',b',v,e1,ha',hb',_⟩:=h1 e he
  rw [e1];exact K.key a' b' ha' hb'
 have hc:=K.law.check w es.isEmpty hl
 have hs:=K.law.stays w hl
 have inj:∀ p q,q8 p q=q8 a b ↔ p=a/\q=b:=fun p q=>by unfold q8;simp
 rcases K.law.find w hl es.toList hkeys with ⟨g1,g2⟩ | ⟨j,e,g1,g2,g3⟩
 ·refine ⟨{ w with heap:=w.heap.setIfInBounds r (.map (es.push ⟨q8 a b,.int .i64 v,clock⟩) (clock+1)) },?_,⟨⟨_,_,(MapKept.heap_set hh).1,?_,?_,?_⟩,?_⟩,rfl,rfl,rfl,by simp,fun q hq=>(MapKept.heap_set hh).2 q hq⟩
  ·have hc':=K.law.check w false hl
   simp [Instr.mapUpdate,run_underlying hm,MapKept.run_getObj_map hh,hc',g1,MapKept.run_setObj_map _ hh,Result.andThen]
  ·intro x hx
   rw [Array.toList_push,List.mem_append,List.mem_singleton] at hx
   rcases hx with hx | rfl
   ·obtain ⟨a',b',v',e1,s1,s2,e2,e3⟩:=h1 x hx
    refine ⟨a',b',v',e1,s1,s2,e2,?_⟩
    have:¬ (a'=a/\b'=b):=fun he=>g2 x hx (e1.trans ((inj a' b').2 he))
    simp only [if_neg this];exact e3
   ·exact ⟨a,b,v,rfl,ha,hb,rfl,by simp⟩
  ·intro p q u hq
   by_cases e:p=a/\q=b
   ·obtain ⟨rfl,rfl⟩:=e
    exact ⟨⟨q8 p q,.int .i64 v,clock⟩,by simp,rfl⟩
   ·rw [if_neg e] at hq
    obtain ⟨x,hx,hk⟩:=h2 p q u hq
    exact ⟨x,by simp [Array.toList_push];exact Or.inl (by simpa using hx),hk⟩
  ·intro i j' x y hx hy hxy
   rw [Array.getElem?_push] at hx hy
   by_cases e1:i=es.size
   ·by_cases e2:j'=es.size
    ·omega
    ·rw [if_pos e1] at hx
     rw [if_neg e2] at hy
     have hm:y ∈ es.toList:=by rw [<- Array.mem_def];exact Array.mem_of_getElem? hy
     cases hx
     exact absurd hxy.symm (g2 y hm)
   ·by_cases e2:j'=es.size
    ·rw [if_neg e1] at hx
     rw [if_pos e2] at hy
     have hm:x ∈ es.toList:=by rw [<- Array.mem_def];exact Array.mem_of_getElem? hx
     cases hy
     exact absurd hxy (g2 x hm)
    ·rw [if_neg e1] at hx
     rw [if_neg e2] at hy
     exact h3 i j' x y hx hy hxy
  ·intro es' c' h'
   rw [(MapKept.heap_set hh).1] at h'
   cases h'
   obtain ⟨s1,s2⟩:=h.stamps es clock hh
   refine ⟨fun x hx=>?_,?_⟩
   ·rw [Array.toList_push,List.mem_append,List.mem_singleton] at hx
    rcases hx with hx | rfl
    ·have:=s1 x hx;omega
    ·exact Nat.lt_succ_self _
   ·simp only [Array.toList_push,List.map_append,List.map_cons,List.map_nil]
    refine List.nodup_append.2 ⟨s2,by simp,fun a ha c hc e1=>?_⟩
    simp only [List.mem_singleton] at hc
    obtain ⟨x,hx,rfl⟩:=List.mem_map.1 ha
    have:=s1 x hx
    omega
 ·have hj:es[j]?=some e:=by simpa using g2
  have hj':j < es.size:=(Array.getElem?_eq_some_iff.1 hj).1
  refine ⟨{ w with heap:=w.heap.setIfInBounds r (.map (es.modify j fun x=>{ x with key:=q8 a b,val:=.int .i64 v }) clock) },?_,⟨⟨_,_,(MapKept.heap_set hh).1,?_,?_,?_⟩,?_⟩,rfl,rfl,rfl,by simp,fun q hq=>(MapKept.heap_set hh).2 q hq⟩
  ·have hc':=K.law.check w false hl
   simp [Instr.mapUpdate,run_underlying hm,MapKept.run_getObj_map hh,hc',g1,hj,g3,hs,MapKept.run_setObj_map _ hh,Result.andThen]
  ·intro x hx
   obtain ⟨i,hi,rfl⟩:=List.mem_iff_getElem.1 hx
   have hi':i < es.size:=by simpa using hi
   simp only [Array.getElem_toList,Array.getElem_modify]
   by_cases e':j=i
   ·subst e'
    simp only [if_true]
    exact ⟨a,b,v,rfl,ha,hb,rfl,by simp⟩
   ·simp only [if_neg e']
    obtain ⟨a',b',v',e1,s1,s2,e2,e3⟩:=h1 es[i] (by simp)
    have ek:¬ (a'=a/\b'=b):=by
     intro he
     exact e' (h3 j i e es[i] hj (Array.getElem?_eq_getElem hi') (g3.trans (e1.trans ((inj a' b').2 he)).symm))
    exact ⟨a',b',v',e1,s1,s2,e2,by rw [if_neg ek];exact e3⟩
  ·intro p q u hq
   by_cases e':p=a/\q=b
   ·obtain ⟨rfl,rfl⟩:=e'
    refine ⟨(es.modify j fun x=>{ x with key:=q8 p q,val:=.int .i64 v })[j]'(by simpa using hj'),?_,?_⟩
    ·rw [<- Array.mem_def];exact Array.getElem_mem _
    ·rw [Array.getElem_modify];simp
   ·rw [if_neg e'] at hq
    obtain ⟨x,hx,hk⟩:=h2 p q u hq
    obtain ⟨i,hi,rfl⟩:=List.mem_iff_getElem.1 hx
    have hi':i < es.size:=by simpa using hi
    refine ⟨(es.modify j fun x=>{ x with key:=q8 a b,val:=.int .i64 v })[i]'(by simpa using hi'),?_,?_⟩
    ·rw [<- Array.mem_def];exact Array.getElem_mem _
    ·rw [Array.getElem_modify]
     by_cases e2:j=i
     ·subst e2
      have hjj:es[j]=e:=by
       have:=Array.getElem?_eq_getElem hj'
       rw [hj] at this
       exact (Option.some.inj this).symm
      simp only [Array.getElem_toList] at hk
      rw [hjj,g3] at hk
      exact absurd ((inj p q).1 hk.symm) e'
     ·rw [if_neg e2];exact hk
  ·have hkey:∀ (i:Nat) (x:MapEntry),(es.modify j fun x=>{ x with key:=q8 a b,val:=.int .i64 v })[i]?=some x->∃ y,es[i]?=some y/\x.key=y.key:=by
    intro i x hx
    obtain ⟨hi,rfl⟩:=Array.getElem?_eq_some_iff.1 hx
    have hi':i < es.size:=by simpa using hi
    refine ⟨es[i],Array.getElem?_eq_getElem hi',?_⟩
    rw [Array.getElem_modify]
    by_cases e':j=i
    ·subst e'
     rw [Array.getElem?_eq_getElem hi'] at hj
     cases hj
     simp [g3]
    ·rw [if_neg e']
   intro i j' x y hx hy hxy
   obtain ⟨x',hx',ex⟩:=hkey i x hx
   obtain ⟨y',hy',ey⟩:=hkey j' y hy
   exact h3 i j' x' y' hx' hy' (ex.symm.trans (hxy.trans ey))
  ·intro es' c' h'
   rw [(MapKept.heap_set hh).1] at h'
   cases h'
   obtain ⟨s1,s2⟩:=h.stamps es clock hh
   have hb:(es.modify j fun x=>{ x with key:=q8 a b,val:=.int .i64 v }).toList.map (·.born)=es.toList.map (·.born):=by
    apply List.ext_getElem?
    intro i
    simp only [Array.toList_modify,List.getElem?_map,List.getElem?_modify]
    by_cases e':j=i
    ·simp only [if_pos e'];cases es.toList[i]? <;> rfl
    ·simp [if_neg e']
   refine ⟨fun x hx=>?_,by rw [hb];exact s2⟩
   have h4:x.born ∈ es.toList.map (·.born):=by rw [<- hb];exact List.mem_map.2 ⟨x,hx,rfl⟩
   obtain ⟨y,hy,e5⟩:=List.mem_map.1 h4
   rw [<- e5];exact s1 y hy
end
end Go.Proofs.YtaickbhifenbjaaGreat
