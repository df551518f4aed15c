import Derived.Test.YtghnakljnhnenaaGreatM31
import Derived.DeepKeys4
set_option maxHeartbeats 4000000
namespace Go.Proofs.YtghnakljnhnenaaGreat
open Go.RowKit
theorem zhc (a:Option Addr) (cap:Nat) (ms:List Lg) (t:Lg) (w:World) (hw:zb8 w a ms) (hl:ms.length<=1000) (hr:Gate.rising Gate.qC ms) :
 Calls Tryz.prog 200 #[.slice a ms.length cap,.agg t.cells,.func (.func 159) #[] #[]] w fun e w'=>(∃ p:Nat,e = .returned (.tuple #[.int .i64 p,.bool (Gate.jq ms t.tm t.rs)])/\Gate.zex ms t.tm t.rs p)/\Below w.heap.size w w':=by
 have HW:Hid (zb8 w a ms):=hw;have HR:Hid (Gate.rising Gate.qC ms):=hr;clear hw hr;unfold Lg.cells;go_enter Tryz.func200,Tryz.ntmps200;go_wp2_with fail
 have hT0:=zm w #[.string t.tm,.string t.rs,.int .i64 t.mo,.int .i64 t.fr] 134;have HB0:Hid (Below w.heap.size w (w.alloc (.cells #[.string t.tm,.string t.rs,.int .i64 t.mo,.int .i64 t.fr] 134))):=bAl _ _;obtain ⟨W0,hW0⟩:∃ W0,W0=w.alloc (.cells #[.string t.tm,.string t.rs,.int .i64 t.mo,.int .i64 t.fr] 134):=⟨_,rfl⟩
 have hz0:w.heap.size < W0.heap.size:=by rw [hW0];simp
 rw [<- hW0] at HB0 hT0 ⊢;clear hW0;have hlI:(ms.length:Int)<=1000:=by omega
 go_loopw [9,10] (fun iv jv wr=>∃ lo hi:Nat,iv = .int .i64 lo/\jv = .int .i64 hi/\lo<=hi/\hi<=ms.length/\Hid ((∀ i (h:i < ms.length),i < lo->Gate.qC ms[i] t < 0)/\(∀ i (h:i < ms.length),hi<=i->0<=Gate.qC ms[i] t)/\Below W0.heap.size W0 wr)) (fun iv jv _=>(intOf jv).toNat - (intOf iv).toNat)
 case atStart=>exact ⟨0,ms.length,rfl,rfl,Nat.zero_le _,Nat.le_refl _,fun i h h'=>by omega,fun i h h'=>by omega,bRf _ _⟩
 case round =>
  obtain ⟨lo,hi,rfl,rfl,hlh,hhn,HQ⟩:=hrel;have hT:=za hT0 hz0 HQ.out.2.2;have hzT:w.heap.size < wr.heap.size:=nLt hz0 HQ.out.2.2.size;have HBr:Hid (Below w.heap.size w wr):=HB0.out.trans (HQ.out.2.2.mono HB0.out.size);have HBW:Hid (∀ W,Below w.heap.size w W->Below wr.heap.size wr W->Below W0.heap.size W0 W):=fun W _ h=>HQ.out.2.2.trans (h.mono HQ.out.2.2.size)
  have hloI:(lo:Int)<=1000:=by omega
  have hhiI:(hi:Int)<=1000:=by omega
  by_cases hlt:lo < hi
  ·obtain ⟨m,hm⟩:∃ m,m=(lo+hi) / 2:=⟨_,rfl⟩
   have HM1:Hid (lo<=m/\m < hi):=⟨by omega,by omega⟩
   have hml:m < ms.length:=by omega
   have hmI:((lo:Int)+(hi:Int)) / 2=(m:Int):=by omega
   clear hm;obtain ⟨b,off,rfl,hb,d0,d1,d2,d3⟩:=HW.out.load HBr.out m hml;have hb':b < wr.heap.size:=nLt hb HBr.out.size;have hmlI:(m:Int) < (ms.length:Int):=by omega
   have hS:(∀ j,wr.drew.cell? ⟨w.heap.size,j,none⟩=(#[.string t.tm,.string t.rs,.int .i64 t.mo,.int .i64 t.fr]:Array Value)[j]?)/\wr.drew.cell? ⟨b,off+m * 4,none⟩=some (.string ms[m].tm)/\wr.drew.cell? ⟨b,off+m * 4+1,none⟩=some (.string ms[m].rs)/\wr.drew.cell? ⟨b,off+m * 4+2,none⟩=some (.int .i64 ms[m].mo)/\wr.drew.cell? ⟨b,off+m * 4+3,none⟩=some (.int .i64 ms[m].fr):=⟨hT,d0,d1,d2,d3⟩
   clear d0 d1 d2 d3 hT;go_wp2_with fail
   go_region_held3 (fun w'=>(∀ j,w'.cell? ⟨w.heap.size,j,none⟩=(#[.string t.tm,.string t.rs,.int .i64 t.mo,.int .i64 t.fr]:Array Value)[j]?)/\w'.cell? ⟨b,off+m * 4,none⟩=some (.string ms[m].tm)/\w'.cell? ⟨b,off+m * 4+1,none⟩=some (.string ms[m].rs)/\w'.cell? ⟨b,off+m * 4+2,none⟩=some (.int .i64 ms[m].mo)/\w'.cell? ⟨b,off+m * 4+3,none⟩=some (.int .i64 ms[m].fr)) (exact hS) (first | (go_at_call 159;refine (zci ms[m] t _).mono ?_;rintro e w2 ⟨rfl,hb2⟩;have hS:=(⟨za hS.1 hzT hb2,(hb2.cell (p:=⟨b,_,none⟩) hb').trans hS.2.1,(hb2.cell (p:=⟨b,_,none⟩) hb').trans hS.2.2.1,(hb2.cell (p:=⟨b,_,none⟩) hb').trans hS.2.2.2.1,(hb2.cell (p:=⟨b,_,none⟩) hb').trans hS.2.2.2.2⟩:_/\_/\_/\_/\_);have hB2:=HBr.out.drew.trans (hb2.mono HBr.out.drew.size);have hB2':=(bRf wr.heap.size wr).drew.trans hb2;clear hb2))
   have HB2:Hid (Below W0.heap.size W0 w2):=HBW.out w2 hB2 hB2'
   by_cases hk:Gate.qC ms[m] t < 0
   ·have hd:decide (Gate.qC ms[m] t < 0)=true:=by simpa using hk
    have HA:Hid (∀ i (h:i < ms.length),i < m+1->Gate.qC ms[i] t < 0):=by
     intro i hi him
     rcases Nat.eq_or_lt_of_le (Nat.le_of_lt_succ him) with e | hlt'
     ·subst e;exact hk
     ·exact Gate.zbx (Gate.zcA (fun a b c=>Gate.zbx (a:=a) (b:=b) (c:=c)) HR.out m hml i hlt') hk
    rw [hd];clear hd hk hS;go_wp2_with fail
    exact ⟨⟨m+1,hi,by go_num,rfl,HM1.out.2,hhn,HA.out,HQ.out.2.1,HB2.out⟩,by have:=HM1.out;show (hi:Int).toNat - ((m:Int)+1).toNat < (hi:Int).toNat - (lo:Int).toNat;omega⟩
   ·have hd:decide (Gate.qC ms[m] t < 0)=false:=by simpa using hk
    have HA:Hid (∀ i (h:i < ms.length),m<=i->0<=Gate.qC ms[i] t):=by
     intro i hi him
     rcases Nat.eq_or_lt_of_le him with e | hlt'
     ·subst e;omega
     ·rcases Int.lt_or_le (Gate.qC ms[i] t) 0 with h1 | h1
      ·exact absurd (Gate.zbx (Gate.zcA (fun a b c=>Gate.zbx (a:=a) (b:=b) (c:=c)) HR.out i hi m hlt') h1) hk
      ·exact h1
    rw [hd];clear hd hk hS;go_wp2_with fail
    exact ⟨⟨lo,m,rfl,rfl,HM1.out.1,Nat.le_of_lt hml,HQ.out.1,HA.out,HB2.out⟩,by have:=HM1.out;show (m:Int).toNat - (lo:Int).toNat < (hi:Int).toNat - (lo:Int).toNat;omega⟩
  ·have e:hi=lo:=by omega
   subst e;have HA:Hid (Gate.zex ms t.tm t.rs hi):=⟨hhn,HQ.out.1,HQ.out.2.1⟩
   clear HQ
   by_cases hn:hi < ms.length
   ·obtain ⟨b,off,rfl,hb,d0,d1,d2,d3⟩:=HW.out.load HBr.out hi hn
    have hb':b < wr.heap.size:=nLt hb HBr.out.size;have hnI:(hi:Int) < (ms.length:Int):=by omega
    have hS:(∀ j,wr.drew.cell? ⟨w.heap.size,j,none⟩=(#[.string t.tm,.string t.rs,.int .i64 t.mo,.int .i64 t.fr]:Array Value)[j]?)/\wr.drew.cell? ⟨b,off+hi * 4,none⟩=some (.string ms[hi].tm)/\wr.drew.cell? ⟨b,off+hi * 4+1,none⟩=some (.string ms[hi].rs)/\wr.drew.cell? ⟨b,off+hi * 4+2,none⟩=some (.int .i64 ms[hi].mo)/\wr.drew.cell? ⟨b,off+hi * 4+3,none⟩=some (.int .i64 ms[hi].fr):=⟨hT,d0,d1,d2,d3⟩
    have HFd:Hid (Gate.jq ms t.tm t.rs=(Gate.qC ms[hi] t == 0)):=by
     unfold Hid;rw [Bool.eq_iff_iff,HA.out.found HR.out,beq_iff_eq];unfold Gate.qC;rw [Gate.zeY];exact ⟨fun h=>h.2,fun h=>⟨hn,h⟩⟩
    clear d0 d1 d2 d3 hT hlt;go_wp2_with fail
    go_region_held3 (fun w'=>(∀ j,w'.cell? ⟨w.heap.size,j,none⟩=(#[.string t.tm,.string t.rs,.int .i64 t.mo,.int .i64 t.fr]:Array Value)[j]?)/\w'.cell? ⟨b,off+hi * 4,none⟩=some (.string ms[hi].tm)/\w'.cell? ⟨b,off+hi * 4+1,none⟩=some (.string ms[hi].rs)/\w'.cell? ⟨b,off+hi * 4+2,none⟩=some (.int .i64 ms[hi].mo)/\w'.cell? ⟨b,off+hi * 4+3,none⟩=some (.int .i64 ms[hi].fr)) (exact hS) (first | (go_at_call 159;refine (zci ms[hi] t _).mono ?_;rintro e w2 ⟨rfl,hb2⟩;have hS:=(⟨za hS.1 hzT hb2,(hb2.cell (p:=⟨b,_,none⟩) hb').trans hS.2.1,(hb2.cell (p:=⟨b,_,none⟩) hb').trans hS.2.2.1,(hb2.cell (p:=⟨b,_,none⟩) hb').trans hS.2.2.2.1,(hb2.cell (p:=⟨b,_,none⟩) hb').trans hS.2.2.2.2⟩:_/\_/\_/\_/\_);have hB2:=HBr.out.drew.trans (hb2.mono HBr.out.drew.size);have hB2':=(bRf wr.heap.size wr).drew.trans hb2;clear hb2))
    go_wp2_with fail
    go_ret2
    exact ⟨⟨hi,by rw [HFd.out];rfl,HA.out⟩,hB2⟩
   ·have hnI:¬ (hi:Int) < (ms.length:Int):=by omega
    have HFd:Hid (Gate.jq ms t.tm t.rs=false):=by
     unfold Hid;rw [Bool.eq_false_iff];intro h;obtain ⟨hp,_⟩:=(HA.out.found HR.out).1 h;exact hn hp
    clear hlt;go_wp2_with fail
    go_quiet (fail)
    go_wp2_with fail
    go_ret2
    exact ⟨⟨hi,by rw [HFd.out];rfl,HA.out⟩,below_drewN HBr.out _⟩
def qj (a b:ByteArray):Value:=.agg #[.string a,.string b]
structure zW (w:World) (r:Nat) (f:ByteArray->ByteArray->Option Int):Prop where
 ex:∃ es clock,w.heap[r]?=some (.map es clock)/\(∀ x ∈ es.toList,∃ a b v,x.key=qj a b/\a.size<=maxLen/\b.size<=maxLen/\x.val = .int .i64 v/\f a b=some v)/\(∀ a b v,f a b=some v->∃ x ∈ es.toList,x.key=qj a b)/\∀ (i j:Nat) (x y:MapEntry),es[i]?=some x->es[j]?=some y->x.key=y.key->i=j
 stamps:∀ es clock,w.heap[r]?=some (.map es clock)->(∀ x ∈ es.toList,x.born < clock)/\(es.toList.map (·.born)).Nodup
theorem zW.keep {w w':World} {r:Nat} {f:ByteArray->ByteArray->Option Int} (h:zW w r f) (hb:w'.heap[r]?=w.heap[r]?):zW w' r f:=by
 obtain ⟨es,clock,h1,h2⟩:=h.ex;exact ⟨⟨es,clock,hb.trans h1,h2⟩,fun es' c' h'=>h.stamps es' c' (hb.symm.trans h')⟩
theorem zW.lt {w:World} {r:Nat} {f:ByteArray->ByteArray->Option Int} (h:zW w r f):r < w.heap.size:=by
 obtain ⟨es,clock,h1,_⟩:=h.ex;exact (gES h1).1
theorem zW.mono {w w':World} {r:Nat} {f:ByteArray->ByteArray->Option Int} (h:zW w r f) (hb:Below w.heap.size w w'):zW w' r f:=h.keep (hb.block r h.lt)
structure ziv (kt:TypeId):Prop where
 law:WideMaps.KeyLaw Tryz.prog kt
 key:∀ a b:ByteArray,a.size<=maxLen->b.size<=maxLen->∃ l,keyOf Tryz.prog kt (qj a b)=some l
theorem zlZ (a b:ByteArray) (ha:a.size<=maxLen) (hb:b.size<=maxLen):Tryz.prog.keyLits (Tryz.prog.types.size+1) 229 [.string a,.string b]=some [.string a.data.toList,.string b.data.toList]:=by
 have e:Tryz.prog.types.size=(Tryz.prog.types.size - 1)+1:=by kernel_rfl
 rw [e]
 generalize Tryz.prog.types.size - 1=n
 have c:Tryz.prog.cellsOf 229=2:=by kernel_rfl
 have cs:Tryz.prog.cellsOf 9=1:=by kernel_rfl
 simp [Program.keyLits,Tryz.underlying229,Tryz.underlying9,c,cs,ha,hb]
theorem zcI:ziv 229:=by
 refine ⟨deep_law_laid (m:=3) (by kernel_rfl) (by omega) (by decide +kernel) (by kernel_rfl) (by kernel_rfl),fun a b ha hb=>?_⟩;have h1:Tryz.prog.keyType 229=true:=by kernel_rfl
 have h2:(qj a b).formed Tryz.prog 229=true:=by kernel_rfl
 have h3:(qj a b).cells.toList=[.string a,.string b]:=rfl;refine ⟨.string (keyBytes [.string a.data.toList,.string b.data.toList]),?_⟩
 ·unfold keyOf
  rw [Tryz.underlying229];simp only [h1,h2,h3,Bool.and_self,if_true];rw [zlZ a b ha hb]
  rfl
theorem zmo (a b:ByteArray) (ha:a.size<=maxLen) (hb:b.size<=maxLen):Tryz.prog.keyLits (Tryz.prog.types.size+1) 178 [.string a,.string b]=some [.string a.data.toList,.string b.data.toList]:=by
 have e:Tryz.prog.types.size=(Tryz.prog.types.size - 1)+1:=by kernel_rfl
 rw [e]
 generalize Tryz.prog.types.size - 1=n
 have c:Tryz.prog.cellsOf 178=2:=by kernel_rfl
 have cs:Tryz.prog.cellsOf 9=1:=by kernel_rfl
 simp [Program.keyLits,Tryz.underlying178,Tryz.underlying9,c,cs,ha,hb]
theorem zaL:ziv 178:=by
 refine ⟨deep_law_laid (m:=3) (by kernel_rfl) (by omega) (by decide +kernel) (by kernel_rfl) (by kernel_rfl),fun a b ha hb=>?_⟩;have h1:Tryz.prog.keyType 178=true:=by kernel_rfl
 have h2:(qj a b).formed Tryz.prog 178=true:=by kernel_rfl
 have h3:(qj a b).cells.toList=[.string a,.string b]:=rfl;refine ⟨.string (keyBytes [.string a.data.toList,.string b.data.toList]),?_⟩
 ·unfold keyOf
  rw [Tryz.underlying178];simp only [h1,h2,h3,Bool.and_self,if_true];rw [zmo a b ha hb]
  rfl
section
variable {kt mt:TypeId} (K:ziv kt) (hm:Tryz.prog.underlying mt=some (.map kt 3))
include K hm
theorem zW.look {w:World} {r:Nat} {f:ByteArray->ByteArray->Option Int} (h:zW w r f) (a b:ByteArray) (ha:a.size<=maxLen) (hb:b.size<=maxLen) (ok:Bool) :
 (Instr.lookup mt (.map (some r)) (qj a b) ok).run Tryz.prog w = .ok (if ok then .tuple #[.int .i64 ((f a b).getD 0),.bool (f a b).isSome] else .int .i64 ((f a b).getD 0)) w:=by
 obtain ⟨es,clock,hh,h1,h2,h3⟩:=h.ex;obtain ⟨l,hl⟩:=K.key a b ha hb;have hz:(zeroValue 3).run Tryz.prog w = .ok (.int .i64 0) w:=by kernel_rfl
 have hkeys:∀ e ∈ es.toList,∃ l,keyOf Tryz.prog kt e.key=some l:=fun e he=>by
  obtain ⟨a',b',v,e1,ha',hb',_⟩:=h1 e he;rw [e1];exact K.key a' b' ha' hb'
 have hc:=K.law.check w es.isEmpty hl
 rcases K.law.find w hl es.toList hkeys with ⟨g1,g2⟩ | ⟨j,e,g1,g2,g3⟩
 ·have hn:f a b=none:=by
   cases hf:f a b with
   | none=>rfl
   | some v =>
    obtain ⟨x,hx,hk⟩:=h2 a b v hf;exact absurd hk (g2 x hx)
  rw [hn]
  cases ok <;> simp [Instr.lookup,run_underlying hm,MapKept.run_getObj_map hh,hc,g1,hz,Result.andThen]
 ·obtain ⟨a',b',v',e1,_,_,e2,e3⟩:=h1 e (List.mem_of_getElem? g2)
  rw [g3] at e1;have hab:a=a'/\b=b':=by unfold qj at e1;simpa using e1
  obtain ⟨rfl,rfl⟩:=hab;rw [e3];rw [e2] at g1
  cases ok <;> simp [Instr.lookup,run_underlying hm,MapKept.run_getObj_map hh,hc,g1,Result.andThen]
theorem zW.upd {w:World} {r:Nat} {f:ByteArray->ByteArray->Option Int} (h:zW w r f) (a b:ByteArray) (ha:a.size<=maxLen) (hb:b.size<=maxLen) (v:Int) :
 ∃ w',(Instr.mapUpdate mt (.map (some r)) (qj a b) (.int .i64 v)).run Tryz.prog w = .ok () w'/\zW w' r (fun p q=>if p=a/\q=b then some v else f p q)/\zd6 r w w':=by
 obtain ⟨es,clock,hh,h1,h2,h3⟩:=h.ex;obtain ⟨l,hl⟩:=K.key a b ha hb
 have hkeys:∀ e ∈ es.toList,∃ l,keyOf Tryz.prog kt e.key=some l:=fun e he=>by
  obtain ⟨a',b',v,e1,ha',hb',_⟩:=h1 e he;rw [e1];exact K.key a' b' ha' hb'
 have hc:=K.law.check w es.isEmpty hl;have hs:=K.law.stays w hl;have inj:∀ p q,qj p q=qj a b ↔ p=a/\q=b:=fun p q=>by unfold qj;simp
 rcases K.law.find w hl es.toList hkeys with ⟨g1,g2⟩ | ⟨j,e,g1,g2,g3⟩
 ·refine ⟨{ w with heap:=w.heap.setIfInBounds r (.map (es.push ⟨qj a b,.int .i64 v,clock⟩) (clock+1)) },?_,⟨⟨_,_,(MapKept.heap_set hh).1,?_,?_,?_⟩,?_⟩,rfl,rfl,rfl,by simp,fun q hq=>(MapKept.heap_set hh).2 q hq⟩
  ·have hc':=K.law.check w false hl
   simp [Instr.mapUpdate,run_underlying hm,MapKept.run_getObj_map hh,hc',g1,MapKept.run_setObj_map _ hh,Result.andThen]
  ·intro x hx
   rw [Array.toList_push,List.mem_append,List.mem_singleton] at hx
   rcases hx with hx | rfl
   ·obtain ⟨a',b',v',e1,s1,s2,e2,e3⟩:=h1 x hx
    refine ⟨a',b',v',e1,s1,s2,e2,?_⟩
    have:¬ (a'=a/\b'=b):=fun he=>g2 x hx (e1.trans ((inj a' b').2 he))
    simp only [if_neg this];exact e3
   ·exact ⟨a,b,v,rfl,ha,hb,rfl,by simp⟩
  ·intro p q u hq
   by_cases e:p=a/\q=b
   ·obtain ⟨rfl,rfl⟩:=e
    exact ⟨⟨qj p q,.int .i64 v,clock⟩,by simp,rfl⟩
   ·rw [if_neg e] at hq
    obtain ⟨x,hx,hk⟩:=h2 p q u hq;exact ⟨x,by simp [Array.toList_push];exact Or.inl (by simpa using hx),hk⟩
  ·intro i j' x y hx hy hxy
   rw [Array.getElem?_push] at hx hy
   by_cases e1:i=es.size
   ·by_cases e2:j'=es.size
    ·omega
    ·rw [if_pos e1] at hx
     rw [if_neg e2] at hy;have hm:y ∈ es.toList:=by rw [<- Array.mem_def];exact Array.mem_of_getElem? hy
     cases hx
     exact absurd hxy.symm (g2 y hm)
   ·by_cases e2:j'=es.size
    ·rw [if_neg e1] at hx
     rw [if_pos e2] at hy;have hm:x ∈ es.toList:=by rw [<- Array.mem_def];exact Array.mem_of_getElem? hx
     cases hy
     exact absurd hxy (g2 x hm)
    ·rw [if_neg e1] at hx
     rw [if_neg e2] at hy;exact h3 i j' x y hx hy hxy
  ·intro es' c' h'
   rw [(MapKept.heap_set hh).1] at h'
   cases h'
   obtain ⟨s1,s2⟩:=h.stamps es clock hh;refine ⟨fun x hx=>?_,?_⟩
   ·rw [Array.toList_push,List.mem_append,List.mem_singleton] at hx
    rcases hx with hx | rfl
    ·have:=s1 x hx;omega
    ·exact Nat.lt_succ_self _
   ·simp only [Array.toList_push,List.map_append,List.map_cons,List.map_nil]
    refine List.nodup_append.2 ⟨s2,by simp,fun a ha c hc e1=>?_⟩;simp only [List.mem_singleton] at hc;obtain ⟨x,hx,rfl⟩:=List.mem_map.1 ha
    have:=s1 x hx
    omega
 ·have hj:es[j]?=some e:=by simpa using g2
  have hj':j < es.size:=(gES hj).1;refine ⟨{ w with heap:=w.heap.setIfInBounds r (.map (es.modify j fun x=>{ x with key:=qj a b,val:=.int .i64 v }) clock) },?_,⟨⟨_,_,(MapKept.heap_set hh).1,?_,?_,?_⟩,?_⟩,rfl,rfl,rfl,by simp,fun q hq=>(MapKept.heap_set hh).2 q hq⟩
  ·have hc':=K.law.check w false hl
   simp [Instr.mapUpdate,run_underlying hm,MapKept.run_getObj_map hh,hc',g1,hj,g3,hs,MapKept.run_setObj_map _ hh,Result.andThen]
  ·intro x hx
   obtain ⟨i,hi,rfl⟩:=List.mem_iff_getElem.1 hx;have hi':i < es.size:=by simpa using hi
   simp only [Array.getElem_toList,Array.getElem_modify]
   by_cases e':j=i
   ·subst e'
    simp only [if_true];exact ⟨a,b,v,rfl,ha,hb,rfl,by simp⟩
   ·simp only [if_neg e']
    obtain ⟨a',b',v',e1,s1,s2,e2,e3⟩:=h1 es[i] (by simp)
    have ek:¬ (a'=a/\b'=b):=by
     intro he;exact e' (h3 j i e es[i] hj (Array.getElem?_eq_getElem hi') (g3.trans (e1.trans ((inj a' b').2 he)).symm))
    exact ⟨a',b',v',e1,s1,s2,e2,by rw [if_neg ek];exact e3⟩
  ·intro p q u hq
   by_cases e':p=a/\q=b
   ·obtain ⟨rfl,rfl⟩:=e'
    refine ⟨(es.modify j fun x=>{ x with key:=qj p q,val:=.int .i64 v })[j]'(by simpa using hj'),?_,?_⟩
    ·rw [<- Array.mem_def];exact Array.getElem_mem _
    ·rw [Array.getElem_modify];simp
   ·rw [if_neg e'] at hq
    obtain ⟨x,hx,hk⟩:=h2 p q u hq;obtain ⟨i,hi,rfl⟩:=List.mem_iff_getElem.1 hx;have hi':i < es.size:=by simpa using hi
    refine ⟨(es.modify j fun x=>{ x with key:=qj a b,val:=.int .i64 v })[i]'(by simpa using hi'),?_,?_⟩
    ·rw [<- Array.mem_def];exact Array.getElem_mem _
    ·rw [Array.getElem_modify]
     by_cases e2:j=i
     ·subst e2
      have hjj:es[j]=e:=by
       have:=Array.getElem?_eq_getElem hj'
       rw [hj] at this;exact (Option.some.inj this).symm
      simp only [Array.getElem_toList] at hk;rw [hjj,g3] at hk;exact absurd ((inj p q).1 hk.symm) e'
     ·rw [if_neg e2];exact hk
  ·have hkey:∀ (i:Nat) (x:MapEntry),(es.modify j fun x=>{ x with key:=qj a b,val:=.int .i64 v })[i]?=some x->∃ y,es[i]?=some y/\x.key=y.key:=by
    intro i x hx;obtain ⟨hi,rfl⟩:=gES hx;have hi':i < es.size:=by simpa using hi
    refine ⟨es[i],Array.getElem?_eq_getElem hi',?_⟩;rw [Array.getElem_modify]
    by_cases e':j=i
    ·subst e'
     rw [Array.getElem?_eq_getElem hi'] at hj
     cases hj
     simp [g3]
    ·rw [if_neg e']
   intro i j' x y hx hy hxy;obtain ⟨x',hx',ex⟩:=hkey i x hx;obtain ⟨y',hy',ey⟩:=hkey j' y hy;exact h3 i j' x' y' hx' hy' (ex.symm.trans (hxy.trans ey))
  ·intro es' c' h'
   rw [(MapKept.heap_set hh).1] at h'
   cases h'
   obtain ⟨s1,s2⟩:=h.stamps es clock hh
   have hb:(es.modify j fun x=>{ x with key:=qj a b,val:=.int .i64 v }).toList.map (·.born)=es.toList.map (·.born):=by
    apply List.ext_getElem?
    intro i;simp only [Array.toList_modify,List.getElem?_map,List.getElem?_modify]
    by_cases e':j=i
    ·simp only [if_pos e'];cases es.toList[i]? <;> rfl
    ·simp [if_neg e']
   refine ⟨fun x hx=>?_,by rw [hb];exact s2⟩;have h4:x.born ∈ es.toList.map (·.born):=by rw [<- hb];exact List.mem_map.2 ⟨x,hx,rfl⟩
   obtain ⟨y,hy,e5⟩:=List.mem_map.1 h4;rw [<- e5];exact s1 y hy
end
namespace Gate
def yE (ls:List Lg) (tick:Int) (p:Pu):Bool:=jq ls p.tm p.rs && (zy p.dr && (within p.am 1 1000000 && within p.un tick (tick+10)))
noncomputable def yX (b:Bk):Bool:=decide (b.ps.length<=24) && (zbd zae b.ps && b.ps.all (yE b.ls b.tick))
end Gate
theorem zdp (p:Pu) (w:World):Calls Tryz.prog 164 #[.agg p.cells] w fun e w'=>e = .returned (qj p.tm p.rs)/\Below w.heap.size w w':=by
 unfold Pu.cells qj;go_enter Tryz.func164,Tryz.ntmps164;go_wp2_with fail
 refine bodyPost_ret (v:=.agg #[.string p.tm,.string p.rs]) (by simp [results,Tryz.results164,go_sem]) rfl ⟨rfl,?_⟩
 first | exact zA _ _ _ | exact ((zA _ _ _).setCell (by simp) _).setCell (by simp) _ | exact ((zA _ _ _).setCell (by show _<=_+1;omega) _).setCell (by show _<=_+1;omega) _
theorem zbz (p:Lg) (w:World):Calls Tryz.prog 166 #[.agg p.cells] w fun e w'=>e = .returned (qj p.tm p.rs)/\Below w.heap.size w w':=by
 unfold Lg.cells qj;go_enter Tryz.func166,Tryz.ntmps166;go_wp2_with fail
 refine bodyPost_ret (v:=.agg #[.string p.tm,.string p.rs]) (by simp [results,Tryz.results166,go_sem]) rfl ⟨rfl,?_⟩
 first | exact zA _ _ _ | exact ((zA _ _ _).setCell (by simp) _).setCell (by simp) _ | exact ((zA _ _ _).setCell (by show _<=_+1;omega) _).setCell (by show _<=_+1;omega) _
theorem zir (a:Option Addr) (cap:Nat) (ms:List Lg) (tm rs:ByteArray) (w:World) (hw:zb8 w a ms) (hl:ms.length<=1000) (hr:Gate.rising Gate.qC ms) :
 Calls Tryz.prog 163 #[.slice a ms.length cap,qj tm rs] w fun e w'=>(∃ p:Nat,e = .returned (.tuple #[.int .i64 p,.bool (Gate.jq ms tm rs)])/\Gate.zex ms tm rs p)/\Below w.heap.size w w':=by
 unfold qj;go_enter Tryz.func163,Tryz.ntmps163;go_wp2_with fail
 refine (zhc _ _ ms ⟨tm,rs,0,0⟩ _ (hw.mono (bAl _ _)) hl hr).mono ?_;rintro e w1 ⟨⟨p,rfl,hp⟩,hb⟩;have hB1:Below w.heap.size w w1:=(bAl _ _).trans (hb.mono (by simp));clear hb;go_wp2_with fail
 go_ret2
 exact ⟨⟨p,rfl,hp⟩,hB1⟩
theorem zj8 (b:Bk) (a0 a1 a2 a3:Option Addr) (c0 c1 c2 c3:Nat) (w:World) (hb:y7 w b a0 a1 a2 a3) (hrl:Gate.rising Gate.qC b.ls) (hll:b.ls.length<=10) (htk:0<=b.tick/\b.tick<=1000000) :
 Calls Tryz.prog 113 #[.agg (b.cells a0 a1 a2 a3 c0 c1 c2 c3)] w fun e w'=>e = .returned (.bool (Gate.yX b))/\Below w.heap.size w w':=by
 have HK:Hid (y7 w b a0 a1 a2 a3):=hb;have HRL:Hid (Gate.rising Gate.qC b.ls/\b.ls.length<=10):=⟨hrl,hll⟩
 clear hb hrl hll;unfold Bk.cells
 by_cases hln:b.ps.length<=24
 rotate_left
 ·have HF:Hid (Gate.yX b=false):=by unfold Hid Gate.yX;rw [decide_eq_false hln];rfl
  have hg:(24:Int) < (b.ps.length:Int):=by omega
  go_enter Tryz.func113,Tryz.ntmps113;go_wp2_with fail
  go_ret;exact ⟨ze HF.out.symm,bAl _ _⟩
 have hg:decide ((24:Int) < (b.ps.length:Int))=false:=by simp;omega
 have HLN:Hid (b.ps.length<=24):=hln;clear hln;go_enter Tryz.func113,Tryz.ntmps113;go_wp2_with fail
 have hX0:=zm w #[.int .i64 b.now,.int .i64 b.tick,.int .i64 b.given,.slice a0 b.os.length c0,.slice a1 b.gs.length c1,.slice a2 b.ls.length c2,.slice a3 b.ps.length c3] 48;have HB0:Hid (Below w.heap.size w (w.alloc (.cells #[.int .i64 b.now,.int .i64 b.tick,.int .i64 b.given,.slice a0 b.os.length c0,.slice a1 b.gs.length c1,.slice a2 b.ls.length c2,.slice a3 b.ps.length c3] 48))):=bAl _ _;obtain ⟨W0,hW0⟩:∃ W0,W0=w.alloc (.cells #[.int .i64 b.now,.int .i64 b.tick,.int .i64 b.given,.slice a0 b.os.length c0,.slice a1 b.gs.length c1,.slice a2 b.ls.length c2,.slice a3 b.ps.length c3] 48):=⟨_,rfl⟩
 have hz0:w.heap.size < W0.heap.size:=by rw [hW0];simp
 rw [<- hW0] at HB0 hX0 ⊢;clear hW0;refine (ziq _ _ b.ps _ (HK.out.ps.mono HB0.out)).mono ?_;rintro e w1 ⟨rfl,hb1⟩;have HB1:Hid (Below w.heap.size w w1):=HB0.out.trans (hb1.mono HB0.out.size);have hX1:=za hX0 hz0 hb1;have hz1:=nLt hz0 hb1.size;clear hb1 hX0 hz0 HB0
 by_cases has:Gate.zbd Gate.zae b.ps=true
 rotate_left
 ·have has':Gate.zbd Gate.zae b.ps=false:=by simpa using has
  have HF:Hid (Gate.yX b=false):=by unfold Hid Gate.yX;rw [has'];simp
  rw [has'];clear has has';go_wp2_with fail
  go_ret;exact ⟨ze HF.out.symm,HB1.out⟩
 have HG:Hid (Gate.yX b=b.ps.all (Gate.yE b.ls b.tick)):=by unfold Hid Gate.yX;rw [has,decide_eq_true HLN.out];rfl
 rw [has];clear has;go_wp2_with fail
 go_loopw [20] (fun iv wr=>∃ k:Nat,k<=b.ps.length/\iv = .int .i64 k/\Hid ((b.ps.take k).all (Gate.yE b.ls b.tick)=true/\Below w1.heap.size w1 wr)) (fun iv _=>b.ps.length - (intOf iv).toNat)
 case atStart=>exact ⟨0,Nat.zero_le _,rfl,by simp,bRf _ _⟩
 case round =>
  obtain ⟨k,hk,rfl,HQ⟩:=hrel;have hkn:k<=24:=by have:=HLN.out;omega
  by_cases hlt:k < b.ps.length
  ·obtain ⟨ob,off,rfl,hob,d0,d1,d2,d3,d4⟩:=HK.out.ps.load (HB1.out.trans (HQ.out.2.mono HB1.out.size)) k hlt
   have hob':ob < wr.heap.size:=nLt hob (HB1.out.trans (HQ.out.2.mono HB1.out.size)).size;have hltI:(k:Int) < (b.ps.length:Int):=by omega
   have hX:=za hX1 hz1 HQ.out.2;have hz:w.heap.size < wr.heap.size:=nLt hz1 HQ.out.2.size;have HSn:Hid ((b.ps.take (k+1)).all (Gate.yE b.ls b.tick)=((b.ps.take k).all (Gate.yE b.ls b.tick) && (Gate.yE b.ls b.tick) b.ps[k])):=Gate.qU _ _ _ hlt;have HBo:Hid (∀ ob,Below w1.heap.size w1 (wr.alloc ob)):=fun ob=>HQ.out.2.alloc HQ.out.2.size _
   have HBw:Hid (∀ W,Below w1.heap.size w1 W->Below w.heap.size w W):=fun W hW=>HB1.out.trans (hW.mono HB1.out.size)
   have HNo:Hid ((Gate.yE b.ls b.tick) b.ps[k]=false->Gate.yX b=false):=fun h=>by rw [HG.out];exact Gate.zaC _ _ _ hlt h
   have HYes:Hid ((Gate.yE b.ls b.tick) b.ps[k]=true->(b.ps.take (k+1)).all (Gate.yE b.ls b.tick)=true):=fun h=>by rw [HSn.out,HQ.out.1,h];rfl
   have HSm:Hid b.ps[k].Small:=HK.out.ps.small k hlt;go_wp2_with fail
   have hbN:Below wr.heap.size wr (wr.alloc (.cells #[.string b.ps[k].dr,.string b.ps[k].tm,.string b.ps[k].rs,.int .i64 b.ps[k].am,.int .i64 b.ps[k].un] 136)):=bAl _ _;have hN:=zm wr #[.string b.ps[k].dr,.string b.ps[k].tm,.string b.ps[k].rs,.int .i64 b.ps[k].am,.int .i64 b.ps[k].un] 136;obtain ⟨w2,hw2⟩:∃ w2,w2=wr.alloc (.cells #[.string b.ps[k].dr,.string b.ps[k].tm,.string b.ps[k].rs,.int .i64 b.ps[k].am,.int .i64 b.ps[k].un] 136):=⟨_,rfl⟩
   have hn2:wr.heap.size < w2.heap.size:=by rw [hw2];simp
   rw [<- hw2] at hbN hN ⊢;have HB2:Hid (Below w1.heap.size w1 w2):=by unfold Hid;rw [hw2];exact HBo.out _
   have hX2:=za hX hz hbN;have hzX2:w.heap.size < w2.heap.size:=Nat.lt_trans hz hn2;clear hw2 d0 d1 d2 d3 d4 hX hbN;have hS:(∀ j,w2.drew.cell? ⟨w.heap.size,j,none⟩=(#[.int .i64 b.now,.int .i64 b.tick,.int .i64 b.given,.slice a0 b.os.length c0,.slice a1 b.gs.length c1,.slice a2 b.ls.length c2,.slice (some ⟨ob,off,none⟩) b.ps.length c3]:Array Value)[j]?)/\(∀ j,w2.drew.cell? ⟨wr.heap.size,j,none⟩=(#[.string b.ps[k].dr,.string b.ps[k].tm,.string b.ps[k].rs,.int .i64 b.ps[k].am,.int .i64 b.ps[k].un]:Array Value)[j]?):=⟨hX2,hN⟩
   have hB:=HB2.out.drew;have hzx:w.heap.size < w2.drew.heap.size:=hzX2;have hzn:wr.heap.size < w2.drew.heap.size:=hn2;clear hX2 hN
   go_region_held3 (fun w'=>(∀ j,w'.cell? ⟨w.heap.size,j,none⟩=(#[.int .i64 b.now,.int .i64 b.tick,.int .i64 b.given,.slice a0 b.os.length c0,.slice a1 b.gs.length c1,.slice a2 b.ls.length c2,.slice (some ⟨ob,off,none⟩) b.ps.length c3]:Array Value)[j]?)/\(∀ j,w'.cell? ⟨wr.heap.size,j,none⟩=(#[.string b.ps[k].dr,.string b.ps[k].tm,.string b.ps[k].rs,.int .i64 b.ps[k].am,.int .i64 b.ps[k].un]:Array Value)[j]?)) (exact hS) (first
    | (go_at_call 164;refine (zdp b.ps[k] _).mono ?_;rintro e w3 ⟨rfl,hb3⟩;have hS:=(⟨za hS.1 hzx hb3,za hS.2 hzn hb3⟩:_/\_);have hB:=hB.trans (hb3.mono hB.size);have hzx:=nLt hzx hb3.size;have hzn:=nLt hzn hb3.size;clear hb3)
    | (go_at_call 163;refine (zir _ _ b.ls b.ps[k].tm b.ps[k].rs _ (by exact HK.out.ls.mono (HBw.out _ hB)) (by have:=HRL.out.2;omega) HRL.out.1).mono ?_;rintro e w3 ⟨⟨pl,rfl,_⟩,hb3⟩;have hS:=(⟨za hS.1 hzx hb3,za hS.2 hzn hb3⟩:_/\_);have hB:=hB.trans (hb3.mono hB.size);have hzx:=nLt hzx hb3.size;have hzn:=nLt hzn hb3.size;clear hb3))
   have HB3:Hid (Below w1.heap.size w1 w3):=hB;have hX3:=hS.1;have hN3:=hS.2;clear hS hB;have htk1:=htk;have HN1:∀ v,Gate.zy b.ps[k].dr=v->Hid (∀ W,Calls Tryz.prog 145 #[.string b.ps[k].dr] W fun e w'=>e = .returned (.bool v)/\w'=W):=fun v h W=>zf h (zG _ W HSm.out.dr)
   have HW1:∀ v,Gate.within b.ps[k].am 1 1000000=v->Hid (∀ W,Calls Tryz.prog 150 #[.int .i64 b.ps[k].am,.int .i64 1,.int .i64 1000000] W fun e w'=>e = .returned (.bool v)/\w'=W):=fun v h W=>zf h (jh _ _ _ W)
   have HW2:∀ v,Gate.within b.ps[k].un b.tick (b.tick+10)=v->Hid (∀ W,Calls Tryz.prog 150 #[.int .i64 b.ps[k].un,.int .i64 b.tick,.int .i64 (b.tick+10)] W fun e w'=>e = .returned (.bool v)/\w'=W):=fun v h W=>zf h (jh _ _ _ W)
   by_cases t1:Gate.jq b.ls b.ps[k].tm b.ps[k].rs=true
   rotate_left
   ·have HF:Hid (Gate.yX b=false):=HNo.out (by unfold Gate.yE;rw [bFi t1];rfl)
    rw [bFi t1];clear HN1 HW1 HW2 t1;go_wp2_with fail
    go_ret;exact ⟨ze HF.out.symm,HBw.out _ HB3.out⟩
   rw [t1]
   by_cases t2:Gate.zy b.ps[k].dr=true
   rotate_left
   ·have HF:Hid (Gate.yX b=false):=HNo.out (by unfold Gate.yE;rw [t1,bFi t2];rfl)
    have Ht2:=HN1 false (bFi t2);clear HN1 HW1 HW2 t1 t2;go_wp2_with fail
    refine (Ht2.out _).mono ?_;rintro e w4 ⟨rfl,rfl⟩;go_wp2_with fail
    go_ret;exact ⟨ze HF.out.symm,HBw.out _ HB3.out⟩
   have Ht2:=HN1 true t2
   by_cases t3:Gate.within b.ps[k].am 1 1000000=true
   rotate_left
   ·have HF:Hid (Gate.yX b=false):=HNo.out (by unfold Gate.yE;rw [t1,t2,bFi t3];rfl)
    have Ht3:=HW1 false (bFi t3);clear HN1 HW1 HW2 t1 t2 t3;go_wp2_with fail
    refine (Ht2.out _).mono ?_;rintro e w4 ⟨rfl,rfl⟩;go_wp2_with fail
    refine (Ht3.out _).mono ?_;rintro e w4 ⟨rfl,rfl⟩;go_wp2_with fail
    go_ret;exact ⟨ze HF.out.symm,HBw.out _ HB3.out⟩
   have Ht3:=HW1 true t3
   by_cases t4:Gate.within b.ps[k].un b.tick (b.tick+10)=true
   rotate_left
   ·have HF:Hid (Gate.yX b=false):=HNo.out (by unfold Gate.yE;rw [t1,t2,t3,bFi t4];rfl)
    have Ht4:=HW2 false (bFi t4);clear HN1 HW1 HW2 t1 t2 t3 t4;go_wp2_with fail
    refine (Ht2.out _).mono ?_;rintro e w4 ⟨rfl,rfl⟩;go_wp2_with fail
    refine (Ht3.out _).mono ?_;rintro e w4 ⟨rfl,rfl⟩;go_wp2_with fail
    refine (Ht4.out _).mono ?_;rintro e w4 ⟨rfl,rfl⟩;go_wp2_with fail
    go_ret;exact ⟨ze HF.out.symm,HBw.out _ HB3.out⟩
   have Ht4:=HW2 true t4;have HY:Hid ((b.ps.take (k+1)).all (Gate.yE b.ls b.tick)=true):=HYes.out (by unfold Gate.yE;rw [t1,t2,t3,t4];rfl);clear HN1 HW1 HW2 t1 t2 t3 t4;go_wp2_with fail
   refine (Ht2.out _).mono ?_;rintro e w4 ⟨rfl,rfl⟩;go_wp2_with fail
   refine (Ht3.out _).mono ?_;rintro e w4 ⟨rfl,rfl⟩;go_wp2_with fail
   refine (Ht4.out _).mono ?_;rintro e w4 ⟨rfl,rfl⟩;go_wp2_with fail
   exact ⟨⟨k+1,by omega,by go_num,HY.out,HB3.out⟩,zn hlt⟩
  ·have e:k=b.ps.length:=by omega
   subst e
   have HE:Hid (Gate.yX b=true):=by
    unfold Hid;rw [HG.out];have h:=HQ.out.1;rw [tOl (Nat.le_refl _)] at h;exact h
   have HBe:Hid (Below w.heap.size w wr):=HB1.out.trans (HQ.out.2.mono HB1.out.size);clear hlt hk HQ;go_wp2_with fail
   go_ret;exact ⟨ze HE.out.symm,HBe.out⟩
namespace Gate
def zct {α:Type} (p:α->Bool) (l:List α):Int:=if l.any p=true then (l.findIdx p:Int) else -1
theorem zop {α:Type} {p:α->Bool} {l:List α} {k:Nat} (hk:k < l.length) (h:∀ i (hi:i < l.length),i < k->p l[i]=false) (hp:p l[k]=true):zct p l=k:=by
 unfold zct;rw [if_pos (List.any_eq_true.2 ⟨l[k],List.getElem_mem _,hp⟩)];have e:l.findIdx p=k:=(List.findIdx_eq hk).2 ⟨hp,fun j hj=>h j (by omega) hj⟩;rw [e]
theorem zkJ {α:Type} {p:α->Bool} {l:List α} (h:∀ i (hi:i < l.length),p l[i]=false):zct p l=-1:=by
 unfold zct;rw [if_neg];intro hc;obtain ⟨x,hx,hp⟩:=List.any_eq_true.1 hc;obtain ⟨i,hi,rfl⟩:=List.mem_iff_getElem.1 hx;rw [h i hi] at hp
 cases hp
theorem zcb {α:Type} (p:α->Bool) (l:List α):zct p l < 0 ↔ l.any p=false:=by
 unfold zct
 split
 ·rename_i h;rw [h];constructor
  ·intro h';omega
  ·intro h';cases h'
 ·rename_i h
  exact ⟨fun _=>by simpa using h,fun _=>by omega⟩
def jL (kd nm:ByteArray) (o:Ob):Bool:=decide (o.kd=kd) && decide (o.nm=nm)
def zeo (tm rs:ByteArray) (g:Lg):Bool:=decide (g.tm=tm) && decide (g.rs=rs)
def zmM (tm rs:ByteArray) (p:Pu):Bool:=decide (p.tm=tm) && decide (p.rs=rs)
def zaU (ps:List Pu) (tm rs:ByteArray):Nat->Int
 | 0=>0
 | k+1=>zaU ps tm rs k+(match ps[k]? with | some p=>if zmM tm rs p=true then p.am else 0 | none=>0)
def out (ps:List Pu) (tm rs:ByteArray):Int:=zaU ps tm rs ps.length
theorem ze0 (ps:List Pu) (tm rs:ByteArray) (k:Nat) (h:k < ps.length):zaU ps tm rs (k+1)=zaU ps tm rs k+(if zmM tm rs ps[k]=true then ps[k].am else 0):=by
 simp only [zaU,List.getElem?_eq_getElem h]
theorem zbE (ps:List Pu) (tm rs:ByteArray) (ha:∀ i (h:i < ps.length),0<=ps[i].am/\ps[i].am<=1000000):∀ k,k<=ps.length->0<=zaU ps tm rs k/\zaU ps tm rs k<=k * 1000000
 | 0,_=>by simp [zaU]
 | k+1,h=>by
  have h1:=zbE ps tm rs ha k (by omega);have h2:=ha k h;rw [ze0 ps tm rs k h]
  split <;> omega
end Gate
theorem zgW (x y:ByteArray) (w:World):Calls Tryz.prog 131 #[.string x,.string y] w fun e w'=>e = .returned (.int .i64 (Gate.key x y))/\w'=w:=by
 have k1:=Gate.ziL x y;have k2:=Gate.ziL y x;have k3:=Gate.zph x y;have k4:=Gate.zm6 x y;unfold Gate.less at k1 k2
 by_cases h1:Gate.key x y=-1
 ·have HF:=ziJ h1
  have e1:Op.bytesLess x.toList y.toList=true:=by rw [k1];simpa using h1
  clear k1 k2 k3 k4 h1;go_enter Tryz.func131,Tryz.ntmps131;go_wp2_with fail
  go_ret;exact ⟨zq HF.out.symm,rfl⟩
 ·have e1:Op.bytesLess x.toList y.toList=false:=by rw [k1];simpa using h1
  by_cases h2:Gate.key y x=-1
  ·have HF:Hid (Gate.key x y=1):=by unfold Hid;omega
   have e2:Op.bytesLess y.toList x.toList=true:=by rw [k2];simpa using h2
   have e3:(x.toList == y.toList)=false:=by rw [Gate.beq_toList,decide_eq_false_iff_not];intro e;have:=(Gate.zbL x y).2 e;omega
   clear k1 k2 k3 k4 h1 h2;go_enter Tryz.func131,Tryz.ntmps131;go_wp2_with fail
   go_ret;exact ⟨zq HF.out.symm,rfl⟩
  ·have HF:Hid (Gate.key x y=0):=by unfold Hid;omega
   have e2:Op.bytesLess y.toList x.toList=false:=by rw [k2];simpa using h2
   have e3:(x.toList == y.toList)=true:=by rw [Gate.beq_toList,decide_eq_true_eq];exact (Gate.zbL x y).1 HF.out
   clear k1 k2 k3 k4 h1 h2;go_enter Tryz.func131,Tryz.ntmps131;go_wp2_with fail
   go_ret;exact ⟨zq HF.out.symm,rfl⟩
theorem zhe (x y z u:ByteArray) (w:World):Calls Tryz.prog 92 #[.string x,.string y,.string z,.string u] w fun e w'=>e = .returned (.int .i64 (Gate.key2 x y z u))/\w'=w:=by
 by_cases h:Gate.key x z=0
 ·have HF:Hid (Gate.key2 x y z u=Gate.key y u):=by unfold Hid Gate.key2;rw [if_pos h]
  have e1:(Gate.key x z != 0)=false:=by simpa using h
  clear h;go_enter Tryz.func92,Tryz.ntmps92
  go_wp2_with (go_at_call 131;refine (zgW _ _ _).mono ?_;rintro e w2 ⟨rfl,rfl⟩)
  go_ret;exact ⟨zq HF.out.symm,rfl⟩
 ·have HF:Hid (Gate.key2 x y z u=Gate.key x z):=by unfold Hid Gate.key2;rw [if_neg h]
  have e1:(Gate.key x z != 0)=true:=by simpa using h
  clear h;go_enter Tryz.func92,Tryz.ntmps92
  go_wp2_with (go_at_call 131;refine (zgW _ _ _).mono ?_;rintro e w2 ⟨rfl,rfl⟩)
  go_ret;exact ⟨zq HF.out.symm,rfl⟩
theorem ziy (p q:Pu) (w:World):Calls Tryz.prog 100 #[.agg p.cells,.agg q.cells] w fun e w'=>e = .returned (.int .i64 (Gate.zae p q))/\Below w.heap.size w w':=by
 unfold Pu.cells
 by_cases h:p.dr=q.dr
 ·have HF:Hid (Gate.zae p q=Gate.key2 p.tm p.rs q.tm q.rs):=by unfold Hid Gate.zae;rw [if_pos ((Gate.zbL _ _).2 h)]
  have e1:(p.dr.toList == q.dr.toList)=true:=by rw [Gate.beq_toList];simpa using h
  clear h;go_enter Tryz.func100,Tryz.ntmps100;go_wp2_with fail
  refine (zhe _ _ _ _ _).mono ?_;rintro e w2 ⟨rfl,rfl⟩;go_wp2_with fail
  go_ret;exact ⟨zq HF.out.symm,zA _ _ _⟩
 ·have HF:Hid (Gate.zae p q=Gate.key p.dr q.dr):=by unfold Hid Gate.zae;rw [if_neg (fun e=>h ((Gate.zbL _ _).1 e))]
  have e1:(p.dr.toList == q.dr.toList)=false:=by rw [Gate.beq_toList];simpa using h
  clear h;go_enter Tryz.func100,Tryz.ntmps100;go_wp2_with fail
  refine (zgW _ _ _).mono ?_;rintro e w2 ⟨rfl,rfl⟩;go_wp2_with fail
  go_ret;exact ⟨zq HF.out.symm,zA _ _ _⟩
theorem zl4 (b:Bk) (a0 a1 a2 a3:Option Addr) (c0 c1 c2 c3:Nat) (kd nm:ByteArray) (w:World) (hb:y7 w b a0 a1 a2 a3) (hl:b.os.length<=1048576) :
 Calls Tryz.prog 96 #[.agg (b.cells a0 a1 a2 a3 c0 c1 c2 c3),.string kd,.string nm] w fun e w'=>e = .returned (.int .i64 (Gate.zct (Gate.jL kd nm) b.os))/\Below w.heap.size w w':=by
 have HK:Hid (y7 w b a0 a1 a2 a3):=hb;clear hb;unfold Bk.cells;go_enter Tryz.func96,Tryz.ntmps96;go_wp2_with fail
 have hX0:=zm w #[.int .i64 b.now,.int .i64 b.tick,.int .i64 b.given,.slice a0 b.os.length c0,.slice a1 b.gs.length c1,.slice a2 b.ls.length c2,.slice a3 b.ps.length c3] 48;have HB0:Hid (Below w.heap.size w (w.alloc (.cells #[.int .i64 b.now,.int .i64 b.tick,.int .i64 b.given,.slice a0 b.os.length c0,.slice a1 b.gs.length c1,.slice a2 b.ls.length c2,.slice a3 b.ps.length c3] 48))):=bAl _ _;obtain ⟨W0,hW0⟩:∃ W0,W0=w.alloc (.cells #[.int .i64 b.now,.int .i64 b.tick,.int .i64 b.given,.slice a0 b.os.length c0,.slice a1 b.gs.length c1,.slice a2 b.ls.length c2,.slice a3 b.ps.length c3] 48):=⟨_,rfl⟩
 have hz0:w.heap.size < W0.heap.size:=by rw [hW0];simp
 rw [<- hW0] at HB0 hX0 ⊢;clear hW0
 go_loopw [7] (fun iv wr=>∃ k:Nat,k<=b.os.length/\iv = .int .i64 k/\Hid (∀ i (hi:i < b.os.length),i < k->Gate.jL kd nm b.os[i]=false)/\wr=W0) (fun iv _=>b.os.length - (intOf iv).toNat)
 case atStart=>exact ⟨0,Nat.zero_le _,rfl,fun i hi h=>by omega,rfl⟩
 case round =>
  obtain ⟨k,hk,rfl,HQ,rfl⟩:=hrel;have hkn:k<=1048576:=by omega
  by_cases hlt:k < b.os.length
  ·obtain ⟨ob,off,v0,v1,q0,q1,rfl,hob,hsm,hl0,hl1,d0,d1,d2,d3,d4,d5,d6⟩:=HK.out.os.load HB0.out k hlt
   have hltI:(k:Int) < (b.os.length:Int):=by omega
   clear hsm hl0 hl1
   by_cases h1:b.os[k].kd=kd
   ·have e1:(b.os[k].kd.toList == kd.toList)=true:=by rw [Gate.beq_toList];simpa using h1
    by_cases h2:b.os[k].nm=nm
    ·have e2:(b.os[k].nm.toList == nm.toList)=true:=by rw [Gate.beq_toList];simpa using h2
     have HF:Hid (Gate.zct (Gate.jL kd nm) b.os=k):=Gate.zop hlt HQ.out (by unfold Gate.jL;simp [h1,h2]);clear h1 h2;go_wp2_with fail
     go_ret;exact ⟨zq HF.out.symm,HB0.out⟩
    ·have e2:(b.os[k].nm.toList == nm.toList)=false:=by rw [Gate.beq_toList];simpa using h2
     have HN:Hid (∀ i (hi:i < b.os.length),i < k+1->Gate.jL kd nm b.os[i]=false):=by
      intro i hi h
      rcases Nat.eq_or_lt_of_le (Nat.le_of_lt_succ h) with e | h'
      ·subst e;unfold Gate.jL;simp [h2]
      ·exact HQ.out i hi h'
     clear h1 h2;go_wp2_with fail
     exact ⟨⟨k+1,by omega,by go_num,HN.out,trivial⟩,zn hlt⟩
   ·have e1:(b.os[k].kd.toList == kd.toList)=false:=by rw [Gate.beq_toList];simpa using h1
    have HN:Hid (∀ i (hi:i < b.os.length),i < k+1->Gate.jL kd nm b.os[i]=false):=by
     intro i hi h
     rcases Nat.eq_or_lt_of_le (Nat.le_of_lt_succ h) with e | h'
     ·subst e;unfold Gate.jL;simp [h1]
     ·exact HQ.out i hi h'
    clear h1;go_wp2_with fail
    exact ⟨⟨k+1,by omega,by go_num,HN.out,trivial⟩,zn hlt⟩
  ·have HF:Hid (Gate.zct (Gate.jL kd nm) b.os=-1):=Gate.zkJ fun i hi=>HQ.out i hi (by omega)
   clear HQ;go_wp2_with fail
   go_ret;exact ⟨zq HF.out.symm,HB0.out⟩
theorem zfJ (b:Bk) (a0 a1 a2 a3:Option Addr) (c0 c1 c2 c3:Nat) (tm rs:ByteArray) (w:World) (hb:y7 w b a0 a1 a2 a3) (hl:b.ls.length<=1048576) :
 Calls Tryz.prog 99 #[.agg (b.cells a0 a1 a2 a3 c0 c1 c2 c3),.string tm,.string rs] w fun e w'=>e = .returned (.int .i64 (Gate.zct (Gate.zeo tm rs) b.ls))/\Below w.heap.size w w':=by
 have HK:Hid (y7 w b a0 a1 a2 a3):=hb;clear hb;unfold Bk.cells;go_enter Tryz.func99,Tryz.ntmps99;go_wp2_with fail
 have hX0:=zm w #[.int .i64 b.now,.int .i64 b.tick,.int .i64 b.given,.slice a0 b.os.length c0,.slice a1 b.gs.length c1,.slice a2 b.ls.length c2,.slice a3 b.ps.length c3] 48;have HB0:Hid (Below w.heap.size w (w.alloc (.cells #[.int .i64 b.now,.int .i64 b.tick,.int .i64 b.given,.slice a0 b.os.length c0,.slice a1 b.gs.length c1,.slice a2 b.ls.length c2,.slice a3 b.ps.length c3] 48))):=bAl _ _;obtain ⟨W0,hW0⟩:∃ W0,W0=w.alloc (.cells #[.int .i64 b.now,.int .i64 b.tick,.int .i64 b.given,.slice a0 b.os.length c0,.slice a1 b.gs.length c1,.slice a2 b.ls.length c2,.slice a3 b.ps.length c3] 48):=⟨_,rfl⟩
 have hz0:w.heap.size < W0.heap.size:=by rw [hW0];simp
 rw [<- hW0] at HB0 hX0 ⊢;clear hW0
 go_loopw [7] (fun iv wr=>∃ k:Nat,k<=b.ls.length/\iv = .int .i64 k/\Hid (∀ i (hi:i < b.ls.length),i < k->Gate.zeo tm rs b.ls[i]=false)/\wr=W0) (fun iv _=>b.ls.length - (intOf iv).toNat)
 case atStart=>exact ⟨0,Nat.zero_le _,rfl,fun i hi h=>by omega,rfl⟩
 case round =>
  obtain ⟨k,hk,rfl,HQ,rfl⟩:=hrel;have hkn:k<=1048576:=by omega
  by_cases hlt:k < b.ls.length
  ·obtain ⟨ob,off,rfl,hob,d0,d1,d2,d3⟩:=HK.out.ls.load HB0.out k hlt
   have hltI:(k:Int) < (b.ls.length:Int):=by omega
   clear d2 d3
   by_cases h1:b.ls[k].tm=tm
   ·have e1:(b.ls[k].tm.toList == tm.toList)=true:=by rw [Gate.beq_toList];simpa using h1
    by_cases h2:b.ls[k].rs=rs
    ·have e2:(b.ls[k].rs.toList == rs.toList)=true:=by rw [Gate.beq_toList];simpa using h2
     have HF:Hid (Gate.zct (Gate.zeo tm rs) b.ls=k):=Gate.zop hlt HQ.out (by unfold Gate.zeo;simp [h1,h2]);clear h1 h2;go_wp2_with fail
     go_ret;exact ⟨zq HF.out.symm,HB0.out⟩
    ·have e2:(b.ls[k].rs.toList == rs.toList)=false:=by rw [Gate.beq_toList];simpa using h2
     have HN:Hid (∀ i (hi:i < b.ls.length),i < k+1->Gate.zeo tm rs b.ls[i]=false):=by
      intro i hi h
      rcases Nat.eq_or_lt_of_le (Nat.le_of_lt_succ h) with e | h'
      ·subst e;unfold Gate.zeo;simp [h2]
      ·exact HQ.out i hi h'
     clear h1 h2;go_wp2_with fail
     exact ⟨⟨k+1,by omega,by go_num,HN.out,trivial⟩,zn hlt⟩
   ·have e1:(b.ls[k].tm.toList == tm.toList)=false:=by rw [Gate.beq_toList];simpa using h1
    have HN:Hid (∀ i (hi:i < b.ls.length),i < k+1->Gate.zeo tm rs b.ls[i]=false):=by
     intro i hi h
     rcases Nat.eq_or_lt_of_le (Nat.le_of_lt_succ h) with e | h'
     ·subst e;unfold Gate.zeo;simp [h1]
     ·exact HQ.out i hi h'
    clear h1;go_wp2_with fail
    exact ⟨⟨k+1,by omega,by go_num,HN.out,trivial⟩,zn hlt⟩
  ·have HF:Hid (Gate.zct (Gate.zeo tm rs) b.ls=-1):=Gate.zkJ fun i hi=>HQ.out i hi (by omega)
   clear HQ;go_wp2_with fail
   go_ret;exact ⟨zq HF.out.symm,HB0.out⟩
end Go.Proofs.YtghnakljnhnenaaGreat
