import Derived.Test.YtjnpjkigofldlaaGreatM33
import Derived.DeepKeys4
set_option maxHeartbeats 4000000
namespace Go.Proofs.YtjnpjkigofldlaaGreat
open Go.RowKit
variable {w:World}{r:Nat}
theorem zid (a:OA)(cap:Nat)(ms:List Lg)(t:Lg)(w:World)(hw:zbU w a ms)(hl:ms.length<=1000)(hr:rising qz ms) :
 Calls Tryz.prog 230 #[.l a ms.length cap,.agg t.cells,.func (.func 189) #[] #[]] w fun e w'=>(∃p:Nat,e=.returned (.tuple #[.i p,.bool (jA ms t.tm t.rs)])/\zfd ms t.tm t.rs p)/\Bw w w':=by
 have HW:=hid hw;have HR:Hid (rising qz ms):=hr;clear hw hr;unfold Lg.cells;go_in;go_wp2_with fail
 have hT0:=zI w #[.s t.tm,.s t.rs,.i t.mo,.i t.fr] 138;have HB0:Hid (Bw w (w.alloc (.cells #[.s t.tm,.s t.rs,.i t.mo,.i t.fr] 138))):=bAl _ _;obtain⟨W0,hW0⟩:=xN (w.alloc (.cells #[.s t.tm,.s t.rs,.i t.mo,.i t.fr] 138));have hz0:w.heap.size<W0.heap.size:=by rw[hW0];simp
 rw[<- hW0]at HB0 hT0 ⊢;clear hW0;have hlI:(ms.length:Int)<=1000:=by omega
 go_loopw [9,10] (fun iv jv wr=>∃lo hi:Nat,iv=.i lo/\jv=.i hi/\lo<=hi/\hi<=ms.length/\Hid ((∀i (h:i<ms.length),i<lo->qz ms[i] t<0)/\(∀i (h:i<ms.length),hi<=i->0<=qz ms[i] t)/\Bw W0 wr)) (fun iv jv _=>(intOf jv).toNat-(intOf iv).toNat)
 case atStart=>exact⟨0,ms.length,rfl,rfl,Nat.zero_le _,Nat.le_refl _,fun i h h'=>by omega,fun i h h'=>by omega,bRf _ _⟩
 case round=>
  obtain⟨lo,hi,rfl,rfl,hlh,hhn,HQ⟩:=hrel;have hT:=za hT0 hz0 HQ.o.2.2;have hzT:=nLt hz0 HQ.o.2.2.size;have HBr:=hid (HB0.o.trans (HQ.o.2.2.mono HB0.o.size));have HBW:Hid (∀W,Bw w W->Bw wr W->Bw W0 W):=fun W _ h=>HQ.o.2.2.trans (h.mono HQ.o.2.2.size)
  have hloI:(lo:Int)<=1000:=by omega
  have hhiI:(hi:Int)<=1000:=by omega
  by_cases hlt:lo<hi
  ·obtain⟨m,hm⟩:=xN ((lo+hi) / 2)
   have HM1:Hid (lo<=m/\m<hi):=⟨by omega,by omega⟩
   have hml:m<ms.length:=by omega
   have hmI:((lo:Int)+(hi:Int)) / 2=(m:Int):=by omega
   clear hm;obtain⟨b,off,rfl,hb,d0,d1,d2,d3⟩:=HW.o.load HBr.o m hml;have hb':=nLt hb HBr.o.size;have hmlI:(m:Int)<(ms.length:Int):=by omega
   have hS:(∀j,wr.drew.cell? (aD w.heap.size j)=(#[.s t.tm,.s t.rs,.i t.mo,.i t.fr]:AV)[j]?)/\wr.drew.cell? (aD b (off+m*4))=some (.s ms[m].tm)/\wr.drew.cell? (aD b (off+m*4+1))=some (.s ms[m].rs)/\wr.drew.cell? (aD b (off+m*4+2))=some (.i ms[m].mo)/\wr.drew.cell? (aD b (off+m*4+3))=some (.i ms[m].fr):=⟨hT,d0,d1,d2,d3⟩
   clear d0 d1 d2 d3 hT;go_wp2_with fail
   go_region_held3 (fun w'=>(∀j,w'.cell? (aD w.heap.size j)=(#[.s t.tm,.s t.rs,.i t.mo,.i t.fr]:AV)[j]?)/\w'.cell? (aD b (off+m*4))=some (.s ms[m].tm)/\w'.cell? (aD b (off+m*4+1))=some (.s ms[m].rs)/\w'.cell? (aD b (off+m*4+2))=some (.i ms[m].mo)/\w'.cell? (aD b (off+m*4+3))=some (.i ms[m].fr)) (exact hS) (first|(go_at_call 189;refine(zcC ms[m] t _).mono ?_;rintro e w2⟨rfl,hb2⟩;have hS:=(⟨za hS.1 hzT hb2,(hb2.cell (p:=(aD b _)) hb').trans hS.2.1,(hb2.cell (p:=(aD b _)) hb').trans hS.2.2.1,(hb2.cell (p:=(aD b _)) hb').trans hS.2.2.2.1,(hb2.cell (p:=(aD b _)) hb').trans hS.2.2.2.2⟩:_/\_/\_/\_/\_);have hB2:=HBr.o.drew.trans (hb2.mono HBr.o.drew.size);have hB2':=(bRf wr.heap.size wr).drew.trans hb2;clear hb2))
   have HB2:=hid (HBW.o w2 hB2 hB2')
   by_cases hk:qz ms[m] t<0
   ·have hd:decide (qz ms[m] t<0)=true:=by simpa using hk
    have HA:Hid (∀i (h:i<ms.length),i<m+1->qz ms[i] t<0):=by
     intro i hi him
     rcases Nat.eq_or_lt_of_le (Nat.le_of_lt_succ him) with e|hlt'
     ·subst e;exact hk
     ·exact zbs (zcS (fun a b c=>zbs (a:=a) (b:=b) (c:=c)) HR.o m hml i hlt') hk
    rw[hd];clear hd hk hS;go_wp2
    exact⟨⟨m+1,hi,by go_num,rfl,HM1.o.2,hhn,HA.o,HQ.o.2.1,HB2.o⟩,by have:=HM1.o;show(hi:Int).toNat-((m:Int)+1).toNat<(hi:Int).toNat-(lo:Int).toNat;omega⟩
   ·have hd:decide (qz ms[m] t<0)=false:=by simpa using hk
    have HA:Hid (∀i (h:i<ms.length),m<=i->0<=qz ms[i] t):=by
     intro i hi him
     rcases Nat.eq_or_lt_of_le him with e|hlt'
     ·subst e;omega
     ·rcases Int.lt_or_le (qz ms[i] t) 0 with h1|h1
      ·exact absurd (zbs (zcS (fun a b c=>zbs (a:=a) (b:=b) (c:=c)) HR.o i hi m hlt') h1) hk
      ·exact h1
    rw[hd];clear hd hk hS;go_wp2
    exact⟨⟨lo,m,rfl,rfl,HM1.o.1,Nat.le_of_lt hml,HQ.o.1,HA.o,HB2.o⟩,by have:=HM1.o;show(m:Int).toNat-(lo:Int).toNat<(hi:Int).toNat-(lo:Int).toNat;omega⟩
  ·have e:hi=lo:=by omega
   subst e;have HA:Hid (zfd ms t.tm t.rs hi):=⟨hhn,HQ.o.1,HQ.o.2.1⟩
   clear HQ
   by_cases hn:hi<ms.length
   ·obtain⟨b,off,rfl,hb,d0,d1,d2,d3⟩:=HW.o.load HBr.o hi hn
    have hb':b<wr.heap.size:=nLt hb HBr.o.size;have hnI:(hi:Int)<(ms.length:Int):=by omega
    have hS:(∀j,wr.drew.cell? (aD w.heap.size j)=(#[.s t.tm,.s t.rs,.i t.mo,.i t.fr]:AV)[j]?)/\wr.drew.cell? (aD b (off+hi*4))=some (.s ms[hi].tm)/\wr.drew.cell? (aD b (off+hi*4+1))=some (.s ms[hi].rs)/\wr.drew.cell? (aD b (off+hi*4+2))=some (.i ms[hi].mo)/\wr.drew.cell? (aD b (off+hi*4+3))=some (.i ms[hi].fr):=⟨hT,d0,d1,d2,d3⟩
    have HFd:Hid (jA ms t.tm t.rs=(qz ms[hi] t == 0)):=by
     unfold Hid;rw[Bool.eq_iff_iff,HA.o.found HR.o,beq_iff_eq];unfold qz;rw[zfX];exact⟨fun h=>h.2,fun h=>⟨hn,h⟩⟩
    clear d0 d1 d2 d3 hT hlt;go_wp2_with fail
    go_region_held3 (fun w'=>(∀j,w'.cell? (aD w.heap.size j)=(#[.s t.tm,.s t.rs,.i t.mo,.i t.fr]:AV)[j]?)/\w'.cell? (aD b (off+hi*4))=some (.s ms[hi].tm)/\w'.cell? (aD b (off+hi*4+1))=some (.s ms[hi].rs)/\w'.cell? (aD b (off+hi*4+2))=some (.i ms[hi].mo)/\w'.cell? (aD b (off+hi*4+3))=some (.i ms[hi].fr)) (exact hS) (first|(go_at_call 189;refine(zcC ms[hi] t _).mono ?_;rintro e w2⟨rfl,hb2⟩;have hS:=(⟨za hS.1 hzT hb2,(hb2.cell (p:=(aD b _)) hb').trans hS.2.1,(hb2.cell (p:=(aD b _)) hb').trans hS.2.2.1,(hb2.cell (p:=(aD b _)) hb').trans hS.2.2.2.1,(hb2.cell (p:=(aD b _)) hb').trans hS.2.2.2.2⟩:_/\_/\_/\_/\_);have hB2:=HBr.o.drew.trans (hb2.mono HBr.o.drew.size);have hB2':=(bRf wr.heap.size wr).drew.trans hb2;clear hb2))
    go_wp2
    go_ret2
    exact⟨⟨hi,by rw[HFd.o];rfl,HA.o⟩,hB2⟩
   ·have hnI:¬(hi:Int)<(ms.length:Int):=by omega
    have HFd:Hid (jA ms t.tm t.rs=false):=by
     unfold Hid;rw[Bool.eq_false_iff];intro h;obtain⟨hp,_⟩:=(HA.o.found HR.o).1 h;exact hn hp
    clear hlt;go_wp2_with fail
    go_quiet (fail)
    go_wp2
    go_ret2
    exact⟨⟨hi,by rw[HFd.o];rfl,HA.o⟩,below_drewN HBr.o _⟩
def y8 (a b:BA):Value:=.agg #[.s a,.s b]
structure zH (w:World)(r:Nat)(f:BA->BA->Option Int):Prop where
 ex:∃es clock,w.heap[r]?=some (.map es clock)/\(∀x∈es.toList,∃a b v,x.key=y8 a b/\a.size<=maxLen/\b.size<=maxLen/\x.val=.i v/\f a b=some v)/\(∀a b v,f a b=some v->∃x∈es.toList,x.key=y8 a b)/\∀(i j:Nat) (x y:MapEntry),es[i]?=some x->es[j]?=some y->x.key=y.key->i=j
 stamps:∀es clock,w.heap[r]?=some (.map es clock)->(∀x∈es.toList,x.born<clock)/\(es.toList.map (·.born)).Nodup
theorem zH.keep {w':World}{f:BA->BA->Option Int}(h:zH w r f)(hb:w'.heap[r]?=w.heap[r]?):zH w' r f:=by
 obtain⟨es,clock,h1,h2⟩:=h.ex;exact⟨⟨es,clock,hb.trans h1,h2⟩,fun es' c' h'=>h.stamps es' c' (hb.symm.trans h')⟩
theorem zH.lt {f:BA->BA->Option Int}(h:zH w r f):r<w.heap.size:=by
 obtain⟨es,clock,h1,_⟩:=h.ex;exact(gES h1).1
theorem zH.mono {w':World}{f:BA->BA->Option Int}(h:zH w r f)(hb:Bw w w'):zH w' r f:=h.keep (hb.block r h.lt)
structure zj8 (kt:TypeId):Prop where
 law:WideMaps.KeyLaw Tryz.prog kt
 key:∀a b:BA,a.size<=maxLen->b.size<=maxLen->∃l,keyOf Tryz.prog kt (y8 a b)=some l
theorem zpW (a b:BA)(ha:a.size<=maxLen)(hb:b.size<=maxLen):Tryz.prog.keyLits (Tryz.prog.types.size+1) 246 [.string a,.string b]=some [.string a.data.toList,.string b.data.toList]:=by
 have e:Tryz.prog.types.size=(Tryz.prog.types.size-1)+1:=by kernel_rfl
 rw[e]
 generalize Tryz.prog.types.size-1=n
 have c:Tryz.prog.cellsOf 246=2:=by kernel_rfl
 have cs:Tryz.prog.cellsOf 9=1:=by kernel_rfl
 simp[Program.keyLits,Tryz.underlying246,Tryz.underlying9,c,cs,ha,hb]
theorem zc3:zj8 246:=by
 refine⟨deep_law_laid (m:=3) (by kernel_rfl) (by omega) (by decide +kernel) (by kernel_rfl) (by kernel_rfl),fun a b ha hb=>?_⟩;have h1:Tryz.prog.keyType 246=true:=by kernel_rfl
 have h2:(y8 a b).formed Tryz.prog 246=true:=by kernel_rfl
 have h3:(y8 a b).cells.toList=[.s a,.s b]:=rfl;refine⟨.string (keyBytes [.string a.data.toList,.string b.data.toList]),?_⟩
 ·unfold keyOf
  rw[Tryz.underlying246];simp only[h1,h2,h3,Bool.and_self,if_true];rw[zpW a b ha hb]
  rfl
theorem zp0 (a b:BA)(ha:a.size<=maxLen)(hb:b.size<=maxLen):Tryz.prog.keyLits (Tryz.prog.types.size+1) 152 [.string a,.string b]=some [.string a.data.toList,.string b.data.toList]:=by
 have e:Tryz.prog.types.size=(Tryz.prog.types.size-1)+1:=by kernel_rfl
 rw[e]
 generalize Tryz.prog.types.size-1=n
 have c:Tryz.prog.cellsOf 152=2:=by kernel_rfl
 have cs:Tryz.prog.cellsOf 9=1:=by kernel_rfl
 simp[Program.keyLits,Tryz.underlying152,Tryz.underlying9,c,cs,ha,hb]
theorem zaw:zj8 152:=by
 refine⟨deep_law_laid (m:=3) (by kernel_rfl) (by omega) (by decide +kernel) (by kernel_rfl) (by kernel_rfl),fun a b ha hb=>?_⟩;have h1:Tryz.prog.keyType 152=true:=by kernel_rfl
 have h2:(y8 a b).formed Tryz.prog 152=true:=by kernel_rfl
 have h3:(y8 a b).cells.toList=[.s a,.s b]:=rfl;refine⟨.string (keyBytes [.string a.data.toList,.string b.data.toList]),?_⟩
 ·unfold keyOf
  rw[Tryz.underlying152];simp only[h1,h2,h3,Bool.and_self,if_true];rw[zp0 a b ha hb]
  rfl
section
variable {kt mt:TypeId} (K:zj8 kt) (hm:Tryz.prog.underlying mt=some (.map kt 3))
include K hm
theorem zH.look {f:BA->BA->Option Int}(h:zH w r f)(a b:BA)(ha:a.size<=maxLen)(hb:b.size<=maxLen)(ok:Bool) :
 (Instr.lookup mt (.map (some r)) (y8 a b) ok).run Tryz.prog w=.ok (if ok then .tuple #[.i ((f a b).getD 0),.bool (f a b).isSome] else .i ((f a b).getD 0)) w:=by
 obtain⟨es,clock,hh,h1,h2,h3⟩:=h.ex;obtain⟨l,hl⟩:=K.key a b ha hb;have hz:(zeroValue 3).run Tryz.prog w=.ok (.i 0) w:=by kernel_rfl
 have hkeys:∀e∈es.toList,∃l,keyOf Tryz.prog kt e.key=some l:=fun e he=>by
  obtain⟨a',b',v,e1,ha',hb',_⟩:=h1 e he;rw[e1];exact K.key a' b' ha' hb'
 have hc:=K.law.check w es.isEmpty hl
 rcases K.law.find w hl es.toList hkeys with⟨g1,g2⟩|⟨j,e,g1,g2,g3⟩
 ·have hn:f a b=none:=by
   cases hf:f a b with
   | none=>rfl
   | some v=>
    obtain⟨x,hx,hk⟩:=h2 a b v hf;exact absurd hk (g2 x hx)
  rw[hn]
  cases ok <;> simp[Instr.lookup,run_underlying hm,MapKept.run_getObj_map hh,hc,g1,hz,Result.andThen]
 ·obtain⟨a',b',v',e1,_,_,e2,e3⟩:=h1 e (List.mem_of_getElem? g2)
  rw[g3]at e1;have hab:a=a'/\b=b':=by unfold y8 at e1;simpa using e1
  obtain⟨rfl,rfl⟩:=hab;rw[e3];rw[e2]at g1
  cases ok <;> simp[Instr.lookup,run_underlying hm,MapKept.run_getObj_map hh,hc,g1,Result.andThen]
theorem zH.upd {f:BA->BA->Option Int}(h:zH w r f)(a b:BA)(ha:a.size<=maxLen)(hb:b.size<=maxLen)(v:Int) :
 ∃w',(Instr.mapUpdate mt (.map (some r)) (y8 a b) (.i v)).run Tryz.prog w=.ok () w'/\zH w' r (fun p q=>if p=a/\q=b then some v else f p q)/\zeA r w w':=by
 obtain⟨es,clock,hh,h1,h2,h3⟩:=h.ex;obtain⟨l,hl⟩:=K.key a b ha hb
 have hkeys:∀e∈es.toList,∃l,keyOf Tryz.prog kt e.key=some l:=fun e he=>by
  obtain⟨a',b',v,e1,ha',hb',_⟩:=h1 e he;rw[e1];exact K.key a' b' ha' hb'
 have hc:=K.law.check w es.isEmpty hl;have hs:=K.law.stays w hl;have inj:∀p q,y8 p q=y8 a b↔p=a/\q=b:=fun p q=>by unfold y8;simp
 rcases K.law.find w hl es.toList hkeys with⟨g1,g2⟩|⟨j,e,g1,g2,g3⟩
 ·refine⟨{ w with heap:=w.heap.setIfInBounds r (.map (es.push ⟨y8 a b,.i v,clock⟩) (clock+1)) },?_,⟨⟨_,_,(MapKept.heap_set hh).1,?_,?_,?_⟩,?_⟩,rfl,rfl,rfl,by simp,fun q hq=>(MapKept.heap_set hh).2 q hq⟩
  ·have hc':=K.law.check w false hl
   simp[Instr.mapUpdate,run_underlying hm,MapKept.run_getObj_map hh,hc',g1,MapKept.run_setObj_map _ hh,Result.andThen]
  ·intro x hx
   rw[Array.toList_push,List.mem_append,List.mem_singleton]at hx
   rcases hx with hx|rfl
   ·obtain⟨a',b',v',e1,s1,s2,e2,e3⟩:=h1 x hx
    refine⟨a',b',v',e1,s1,s2,e2,?_⟩
    have:¬(a'=a/\b'=b):=fun he=>g2 x hx (e1.trans ((inj a' b').2 he))
    simp only[if_neg this];exact e3
   ·exact⟨a,b,v,rfl,ha,hb,rfl,by simp⟩
  ·intro p q u hq
   by_cases e:p=a/\q=b
   ·obtain⟨rfl,rfl⟩:=e
    exact⟨⟨y8 p q,.i v,clock⟩,by simp,rfl⟩
   ·rw[if_neg e]at hq
    obtain⟨x,hx,hk⟩:=h2 p q u hq;exact⟨x,by simp[Array.toList_push];exact Or.inl (by simpa using hx),hk⟩
  ·intro i j' x y hx hy hxy
   rw[Array.getElem?_push]at hx hy
   by_cases e1:i=es.size
   ·by_cases e2:j'=es.size
    ·omega
    ·rw[if_pos e1]at hx
     rw[if_neg e2]at hy;have hm:y∈es.toList:=by rw[<- Array.mem_def];exact Array.mem_of_getElem? hy
     cases hx
     exact absurd hxy.symm (g2 y hm)
   ·by_cases e2:j'=es.size
    ·rw[if_neg e1]at hx
     rw[if_pos e2]at hy;have hm:x∈es.toList:=by rw[<- Array.mem_def];exact Array.mem_of_getElem? hx
     cases hy
     exact absurd hxy (g2 x hm)
    ·rw[if_neg e1]at hx
     rw[if_neg e2]at hy;exact h3 i j' x y hx hy hxy
  ·intro es' c' h'
   rw[(MapKept.heap_set hh).1]at h'
   cases h'
   obtain⟨s1,s2⟩:=h.stamps es clock hh;refine⟨fun x hx=>?_,?_⟩
   ·rw[Array.toList_push,List.mem_append,List.mem_singleton]at hx
    rcases hx with hx|rfl
    ·have:=s1 x hx;omega
    ·exact Nat.lt_succ_self _
   ·simp only[Array.toList_push,List.map_append,List.map_cons,List.map_nil]
    refine List.nodup_append.2 ⟨s2,by simp,fun a ha c hc e1=>?_⟩;simp only[List.mem_singleton]at hc;obtain⟨x,hx,rfl⟩:=List.mem_map.1 ha
    have:=s1 x hx
    omega
 ·have hj:es[j]?=some e:=by simpa using g2
  have hj':j<es.size:=(gES hj).1;refine⟨{ w with heap:=w.heap.setIfInBounds r (.map (es.modify j fun x=>{ x with key:=y8 a b,val:=.i v }) clock) },?_,⟨⟨_,_,(MapKept.heap_set hh).1,?_,?_,?_⟩,?_⟩,rfl,rfl,rfl,by simp,fun q hq=>(MapKept.heap_set hh).2 q hq⟩
  ·have hc':=K.law.check w false hl
   simp[Instr.mapUpdate,run_underlying hm,MapKept.run_getObj_map hh,hc',g1,hj,g3,hs,MapKept.run_setObj_map _ hh,Result.andThen]
  ·intro x hx
   obtain⟨i,hi,rfl⟩:=List.mem_iff_getElem.1 hx;have hi':i<es.size:=by simpa using hi
   simp only[Array.getElem_toList,Array.getElem_modify]
   by_cases e':j=i
   ·subst e'
    simp only[if_true];exact⟨a,b,v,rfl,ha,hb,rfl,by simp⟩
   ·simp only[if_neg e']
    obtain⟨a',b',v',e1,s1,s2,e2,e3⟩:=h1 es[i] (by simp)
    have ek:¬(a'=a/\b'=b):=by
     intro he;exact e' (h3 j i e es[i] hj (Array.getElem?_eq_getElem hi') (g3.trans (e1.trans ((inj a' b').2 he)).symm))
    exact⟨a',b',v',e1,s1,s2,e2,by rw[if_neg ek];exact e3⟩
  ·intro p q u hq
   by_cases e':p=a/\q=b
   ·obtain⟨rfl,rfl⟩:=e'
    refine⟨(es.modify j fun x=>{ x with key:=y8 p q,val:=.i v })[j]'(by simpa using hj'),?_,?_⟩
    ·rw[<- Array.mem_def];exact Array.getElem_mem _
    ·rw[Array.getElem_modify];simp
   ·rw[if_neg e']at hq
    obtain⟨x,hx,hk⟩:=h2 p q u hq;obtain⟨i,hi,rfl⟩:=List.mem_iff_getElem.1 hx;have hi':i<es.size:=by simpa using hi
    refine⟨(es.modify j fun x=>{ x with key:=y8 a b,val:=.i v })[i]'(by simpa using hi'),?_,?_⟩
    ·rw[<- Array.mem_def];exact Array.getElem_mem _
    ·rw[Array.getElem_modify]
     by_cases e2:j=i
     ·subst e2
      have hjj:es[j]=e:=by
       have:=Array.getElem?_eq_getElem hj'
       rw[hj]at this;exact(Option.some.inj this).symm
      simp only[Array.getElem_toList]at hk;rw[hjj,g3]at hk;exact absurd ((inj p q).1 hk.symm) e'
     ·rw[if_neg e2];exact hk
  ·have hkey:∀(i:Nat) (x:MapEntry),(es.modify j fun x=>{ x with key:=y8 a b,val:=.i v })[i]?=some x->∃y,es[i]?=some y/\x.key=y.key:=by
    intro i x hx;obtain⟨hi,rfl⟩:=gES hx;have hi':i<es.size:=by simpa using hi
    refine⟨es[i],Array.getElem?_eq_getElem hi',?_⟩;rw[Array.getElem_modify]
    by_cases e':j=i
    ·subst e'
     rw[Array.getElem?_eq_getElem hi']at hj
     cases hj
     simp[g3]
    ·rw[if_neg e']
   intro i j' x y hx hy hxy;obtain⟨x',hx',ex⟩:=hkey i x hx;obtain⟨y',hy',ey⟩:=hkey j' y hy;exact h3 i j' x' y' hx' hy' (ex.symm.trans (hxy.trans ey))
  ·intro es' c' h'
   rw[(MapKept.heap_set hh).1]at h'
   cases h'
   obtain⟨s1,s2⟩:=h.stamps es clock hh
   have hb:(es.modify j fun x=>{ x with key:=y8 a b,val:=.i v }).toList.map (·.born)=es.toList.map (·.born):=by
    apply List.ext_getElem?
    intro i;simp only[Array.toList_modify,List.getElem?_map,List.getElem?_modify]
    by_cases e':j=i
    ·simp only[if_pos e'];cases es.toList[i]? <;> rfl
    ·simp[if_neg e']
   refine⟨fun x hx=>?_,by rw[hb];exact s2⟩;have h4:x.born∈es.toList.map (·.born):=by rw[<- hb];exact List.mem_map.2 ⟨x,hx,rfl⟩
   obtain⟨y,hy,e5⟩:=List.mem_map.1 h4;rw[<- e5];exact s1 y hy
end
def yT (ls:List Lg)(tick:Int)(p:Pu):Bool:=jA ls p.tm p.rs&&(zC p.dr&&(within p.am 1 1000000&&within p.un tick (tick+10)))
noncomputable def yV (b:Bk):Bool:=decide (b.ps.length<=24)&&(zb0 zan b.ps&&b.ps.all (yT b.ls b.tick))
theorem zd9 (p:Pu)(w:World):Calls Tryz.prog 194 #[.agg p.cells] w fun e w'=>e=.returned (y8 p.tm p.rs)/\Bw w w':=by
 unfold Pu.cells y8;go_in;go_wp2
 refine bodyPost_ret (v:=.agg #[.s p.tm,.s p.rs]) (by simp[results,Tryz.results194,go_sem]) rfl ⟨rfl,?_⟩
 first|exact zo _ _ _|exact((zo _ _ _).setCell (by simp) _).setCell (by simp) _|exact((zo _ _ _).setCell (by show _<=_+1;omega) _).setCell (by show _<=_+1;omega) _
theorem zbM (p:Lg)(w:World):Calls Tryz.prog 196 #[.agg p.cells] w fun e w'=>e=.returned (y8 p.tm p.rs)/\Bw w w':=by
 unfold Lg.cells y8;go_in;go_wp2
 refine bodyPost_ret (v:=.agg #[.s p.tm,.s p.rs]) (by simp[results,Tryz.results196,go_sem]) rfl ⟨rfl,?_⟩
 first|exact zo _ _ _|exact((zo _ _ _).setCell (by simp) _).setCell (by simp) _|exact((zo _ _ _).setCell (by show _<=_+1;omega) _).setCell (by show _<=_+1;omega) _
theorem zjI (a:OA)(cap:Nat)(ms:List Lg)(tm rs:BA)(w:World)(hw:zbU w a ms)(hl:ms.length<=1000)(hr:rising qz ms) :
 Calls Tryz.prog 193 #[.l a ms.length cap,y8 tm rs] w fun e w'=>(∃p:Nat,e=.returned (.tuple #[.i p,.bool (jA ms tm rs)])/\zfd ms tm rs p)/\Bw w w':=by
 unfold y8;go_in;go_wp2_with fail
 refine(zid _ _ ms ⟨tm,rs,0,0⟩ _ (hw.mono (bAl _ _)) hl hr).mono ?_;rintro e w1⟨⟨p,rfl,hp⟩,hb⟩;have hB1:Bw w w1:=(bAl _ _).trans (hb.mono (by simp));clear hb;go_wp2
 go_ret2
 exact⟨⟨p,rfl,hp⟩,hB1⟩
theorem zlV (b:Bk)(a0 a1 a2 a3:OA)(c0 c1 c2 c3:Nat)(w:World)(hb:qj w b a0 a1 a2 a3)(hrl:rising qz b.ls)(hll:b.ls.length<=10)(htk:0<=b.tick/\b.tick<=1000000) :
 Calls Tryz.prog 141 #[.agg (b.cells a0 a1 a2 a3 c0 c1 c2 c3)] w fun e w'=>e=.returned (.bool (yV b))/\Bw w w':=by
 have HK:=hid hb;have HRL:=yB hrl hll;clear hb hrl hll;unfold Bk.cells
 by_cases hln:b.ps.length<=24
 rotate_left
 ·have HF:Hid (yV b=false):=by unfold Hid yV;rw[decide_eq_false hln];rfl
  have hg:(24:Int)<(b.ps.length:Int):=by omega
  go_in;go_wp2
  go_ret;exact⟨ze HF.o.symm,bAl _ _⟩
 have hg:decide ((24:Int)<(b.ps.length:Int))=false:=by simp;omega
 have HLN:Hid (b.ps.length<=24):=hln;clear hln;go_in;go_wp2_with fail
 have hX0:=zI w (bC b a0 a1 a2 a3 c0 c1 c2 c3) 40;have HB0:Hid (Bw w (w.alloc (.cells (bC b a0 a1 a2 a3 c0 c1 c2 c3) 40))):=bAl _ _;obtain⟨W0,hW0⟩:=xN (w.alloc (.cells (bC b a0 a1 a2 a3 c0 c1 c2 c3) 40));have hz0:w.heap.size<W0.heap.size:=by rw[hW0];simp
 rw[<- hW0]at HB0 hX0 ⊢;clear hW0;refine(zjY _ _ b.ps _ (HK.o.ps.mono HB0.o)).mono ?_;rintro e w1⟨rfl,hb1⟩;have HB1:=hid (HB0.o.trans (hb1.mono HB0.o.size));have hX1:=za hX0 hz0 hb1;have hz1:=nLt hz0 hb1.size;clear hb1 hX0 hz0 HB0
 by_cases has:zb0 zan b.ps=true
 rotate_left
 ·have has':zb0 zan b.ps=false:=by simpa using has
  have HF:Hid (yV b=false):=by unfold Hid yV;rw[has'];simp
  rw[has'];clear has has';go_wp2
  go_ret;exact⟨ze HF.o.symm,HB1.o⟩
 have HG:Hid (yV b=b.ps.all (yT b.ls b.tick)):=by unfold Hid yV;rw[has,decide_eq_true HLN.o];rfl
 rw[has];clear has;go_wp2
 go_loopw [20] (fun iv wr=>∃k:Nat,k<=b.ps.length/\iv=.i k/\Hid ((b.ps.take k).all (yT b.ls b.tick)=true/\Bw w1 wr)) (fun iv _=>b.ps.length-(intOf iv).toNat)
 case atStart=>exact⟨0,Nat.zero_le _,rfl,by simp,bRf _ _⟩
 case round=>
  obtain⟨k,hk,rfl,HQ⟩:=hrel;have hkn:k<=24:=by have:=HLN.o;omega
  by_cases hlt:k<b.ps.length
  ·obtain⟨ob,off,rfl,hob,d0,d1,d2,d3,d4⟩:=HK.o.ps.load (HB1.o.trans (HQ.o.2.mono HB1.o.size)) k hlt
   have hob':=nLt hob (HB1.o.trans (HQ.o.2.mono HB1.o.size)).size;have hltI:(k:Int)<(b.ps.length:Int):=by omega
   have hX:=za hX1 hz1 HQ.o.2;have hz:w.heap.size<wr.heap.size:=nLt hz1 HQ.o.2.size;have HSn:Hid ((b.ps.take (k+1)).all (yT b.ls b.tick)=((b.ps.take k).all (yT b.ls b.tick)&&(yT b.ls b.tick) b.ps[k])):=qM _ _ _ hlt;have HBo:Hid (∀ob,Bw w1 (wr.alloc ob)):=fun ob=>HQ.o.2.alloc HQ.o.2.size _
   have HBw:Hid (∀W,Bw w1 W->Bw w W):=fun W hW=>HB1.o.trans (hW.mono HB1.o.size)
   have HNo:Hid ((yT b.ls b.tick) b.ps[k]=false->yV b=false):=fun h=>by rw[HG.o];exact zaE _ _ _ hlt h
   have HYes:Hid ((yT b.ls b.tick) b.ps[k]=true->(b.ps.take (k+1)).all (yT b.ls b.tick)=true):=fun h=>by rw[HSn.o,HQ.o.1,h];rfl
   have HSm:Hid b.ps[k].Small:=HK.o.ps.small k hlt;go_wp2_with fail
   have hbN:Bw wr (wr.alloc (.cells #[.s b.ps[k].dr,.s b.ps[k].tm,.s b.ps[k].rs,.i b.ps[k].am,.i b.ps[k].un] 140)):=bAl _ _;have hN:=zI wr #[.s b.ps[k].dr,.s b.ps[k].tm,.s b.ps[k].rs,.i b.ps[k].am,.i b.ps[k].un] 140;obtain⟨w2,hw2⟩:=xN (wr.alloc (.cells #[.s b.ps[k].dr,.s b.ps[k].tm,.s b.ps[k].rs,.i b.ps[k].am,.i b.ps[k].un] 140));have hn2:wr.heap.size<w2.heap.size:=by rw[hw2];simp
   rw[<- hw2]at hbN hN ⊢;have HB2:Hid (Bw w1 w2):=by unfold Hid;rw[hw2];exact HBo.o _
   have hX2:=za hX hz hbN;have hzX2:=Nat.lt_trans hz hn2;clear hw2 d0 d1 d2 d3 d4 hX hbN;have hS:(∀j,w2.drew.cell? (aD w.heap.size j)=(bC b a0 a1 a2 (some (aD ob off)) c0 c1 c2 c3)[j]?)/\(∀j,w2.drew.cell? (aD wr.heap.size j)=(#[.s b.ps[k].dr,.s b.ps[k].tm,.s b.ps[k].rs,.i b.ps[k].am,.i b.ps[k].un]:AV)[j]?):=⟨hX2,hN⟩
   have hB:=HB2.o.drew;have hzx:=hzX2;have hzn:=hn2;clear hX2 hN
   go_region_held3 (fun w'=>(∀j,w'.cell? (aD w.heap.size j)=(bC b a0 a1 a2 (some (aD ob off)) c0 c1 c2 c3)[j]?)/\(∀j,w'.cell? (aD wr.heap.size j)=(#[.s b.ps[k].dr,.s b.ps[k].tm,.s b.ps[k].rs,.i b.ps[k].am,.i b.ps[k].un]:AV)[j]?)) (exact hS) (first
    | (go_at_call 194;refine(zd9 b.ps[k] _).mono ?_;rintro e w3⟨rfl,hb3⟩;have hS:=(⟨za hS.1 hzx hb3,za hS.2 hzn hb3⟩:_/\_);have hB:=hB.trans (hb3.mono hB.size);have hzx:=nLt hzx hb3.size;have hzn:=nLt hzn hb3.size;clear hb3)
    | (go_at_call 193;refine(zjI _ _ b.ls b.ps[k].tm b.ps[k].rs _ (by exact HK.o.ls.mono (HBw.o _ hB)) (by have:=HRL.o.2;omega) HRL.o.1).mono ?_;rintro e w3⟨⟨pl,rfl,_⟩,hb3⟩;have hS:=(⟨za hS.1 hzx hb3,za hS.2 hzn hb3⟩:_/\_);have hB:=hB.trans (hb3.mono hB.size);have hzx:=nLt hzx hb3.size;have hzn:=nLt hzn hb3.size;clear hb3))
   have HB3:=hid hB;have hX3:=hS.1;have hN3:=hS.2;clear hS hB;have htk1:=htk;have HN1:∀v,zC b.ps[k].dr=v->Hid (∀W,Calls Tryz.prog 175 #[.s b.ps[k].dr] W fun e w'=>e=.returned (.bool v)/\w'=W):=fun v h W=>zw h (zZ _ W HSm.o.dr)
   have HW1:∀v,within b.ps[k].am 1 1000000=v->Hid (∀W,Calls Tryz.prog 180 #[.i b.ps[k].am,.i 1,.i 1000000] W fun e w'=>e=.returned (.bool v)/\w'=W):=fun v h W=>zw h (qZ _ _ _ W)
   have HW2:∀v,within b.ps[k].un b.tick (b.tick+10)=v->Hid (∀W,Calls Tryz.prog 180 #[.i b.ps[k].un,.i b.tick,.i (b.tick+10)] W fun e w'=>e=.returned (.bool v)/\w'=W):=fun v h W=>zw h (qZ _ _ _ W)
   by_cases t1:jA b.ls b.ps[k].tm b.ps[k].rs=true
   rotate_left
   ·have HF:Hid (yV b=false):=HNo.o (by unfold yT;rw[bFi t1];rfl)
    rw[bFi t1];clear HN1 HW1 HW2 t1;go_wp2
    go_ret;exact⟨ze HF.o.symm,HBw.o _ HB3.o⟩
   rw[t1]
   by_cases t2:zC b.ps[k].dr=true
   rotate_left
   ·have HF:Hid (yV b=false):=HNo.o (by unfold yT;rw[t1,bFi t2];rfl)
    have Ht2:=HN1 false (bFi t2);clear HN1 HW1 HW2 t1 t2;go_wp2_with fail
    refine(Ht2.o _).mono ?_;rintro e w4⟨rfl,rfl⟩;go_wp2
    go_ret;exact⟨ze HF.o.symm,HBw.o _ HB3.o⟩
   have Ht2:=HN1 true t2
   by_cases t3:within b.ps[k].am 1 1000000=true
   rotate_left
   ·have HF:Hid (yV b=false):=HNo.o (by unfold yT;rw[t1,t2,bFi t3];rfl)
    have Ht3:=HW1 false (bFi t3);clear HN1 HW1 HW2 t1 t2 t3;go_wp2_with fail
    refine(Ht2.o _).mono ?_;rintro e w4⟨rfl,rfl⟩;go_wp2_with fail
    refine(Ht3.o _).mono ?_;rintro e w4⟨rfl,rfl⟩;go_wp2
    go_ret;exact⟨ze HF.o.symm,HBw.o _ HB3.o⟩
   have Ht3:=HW1 true t3
   by_cases t4:within b.ps[k].un b.tick (b.tick+10)=true
   rotate_left
   ·have HF:Hid (yV b=false):=HNo.o (by unfold yT;rw[t1,t2,t3,bFi t4];rfl)
    have Ht4:=HW2 false (bFi t4);clear HN1 HW1 HW2 t1 t2 t3 t4;go_wp2_with fail
    refine(Ht2.o _).mono ?_;rintro e w4⟨rfl,rfl⟩;go_wp2_with fail
    refine(Ht3.o _).mono ?_;rintro e w4⟨rfl,rfl⟩;go_wp2_with fail
    refine(Ht4.o _).mono ?_;rintro e w4⟨rfl,rfl⟩;go_wp2
    go_ret;exact⟨ze HF.o.symm,HBw.o _ HB3.o⟩
   have Ht4:=HW2 true t4;have HY:Hid ((b.ps.take (k+1)).all (yT b.ls b.tick)=true):=HYes.o (by unfold yT;rw[t1,t2,t3,t4];rfl);clear HN1 HW1 HW2 t1 t2 t3 t4;go_wp2_with fail
   refine(Ht2.o _).mono ?_;rintro e w4⟨rfl,rfl⟩;go_wp2_with fail
   refine(Ht3.o _).mono ?_;rintro e w4⟨rfl,rfl⟩;go_wp2_with fail
   refine(Ht4.o _).mono ?_;rintro e w4⟨rfl,rfl⟩;go_wp2
   exact⟨⟨k+1,by omega,by go_num,HY.o,HB3.o⟩,zi hlt⟩
  ·have e:k=b.ps.length:=by omega
   subst e
   have HE:Hid (yV b=true):=by
    unfold Hid;rw[HG.o];have h:=HQ.o.1;rw[tOl (Nat.le_refl _)]at h;exact h
   have HBe:=hid (HB1.o.trans (HQ.o.2.mono HB1.o.size));clear hlt hk HQ;go_wp2
   go_ret;exact⟨ze HE.o.symm,HBe.o⟩
def zep {α:Type}(p:α->Bool)(l:List α):Int:=if l.any p=true then (l.findIdx p:Int) else -1
theorem zn0 {α:Type}{p:α->Bool}{l:List α}{k:Nat}(hk:k<l.length)(h:∀i (hi:i<l.length),i<k->p l[i]=false)(hp:p l[k]=true):zep p l=k:=by
 unfold zep;rw[if_pos (List.any_eq_true.2 ⟨l[k],List.getElem_mem _,hp⟩)];have e:l.findIdx p=k:=(List.findIdx_eq hk).2 ⟨hp,fun j hj=>h j (by omega) hj⟩;rw[e]
theorem zmT {α:Type}{p:α->Bool}{l:List α}(h:∀i (hi:i<l.length),p l[i]=false):zep p l=-1:=by
 unfold zep;rw[if_neg];intro hc;obtain⟨x,hx,hp⟩:=List.any_eq_true.1 hc;obtain⟨i,hi,rfl⟩:=List.mem_iff_getElem.1 hx;rw[h i hi]at hp
 cases hp
theorem zhk {α:Type}(p:α->Bool)(l:List α):zep p l<0↔l.any p=false:=by
 unfold zep
 split
 ·rename_i h;rw[h];constructor
  ·intro h';omega
  ·intro h';cases h'
 ·rename_i h
  exact⟨fun _=>by simpa using h,fun _=>by omega⟩
def jC (kd nm:BA)(o:Ob):Bool:=decide (o.kd=kd)&&decide (o.nm=nm)
def zgL (tm rs:BA)(g:Lg):Bool:=decide (g.tm=tm)&&decide (g.rs=rs)
def zrr (tm rs:BA)(p:Pu):Bool:=decide (p.tm=tm)&&decide (p.rs=rs)
def zbk (ps:List Pu)(tm rs:BA):Nat->Int
 | 0=>0
 | k+1=>zbk ps tm rs k+(match ps[k]? with|some p=>if zrr tm rs p=true then p.am else 0|none=>0)
def out (ps:List Pu)(tm rs:BA):Int:=zbk ps tm rs ps.length
theorem zfW (ps:List Pu)(tm rs:BA)(k:Nat)(h:k<ps.length):zbk ps tm rs (k+1)=zbk ps tm rs k+(if zrr tm rs ps[k]=true then ps[k].am else 0):=by
 simp only[zbk,List.getElem?_eq_getElem h]
theorem zcM (ps:List Pu)(tm rs:BA)(ha:∀i (h:i<ps.length),0<=ps[i].am/\ps[i].am<=1000000):∀k,k<=ps.length->0<=zbk ps tm rs k/\zbk ps tm rs k<=k*1000000
 | 0,_=>by simp[zbk]
 | k+1,h=>by
  have h1:=zcM ps tm rs ha k (by omega);have h2:=ha k h;rw[zfW ps tm rs k h]
  split <;> omega
theorem zh4 (x y:BA)(w:World):Calls Tryz.prog 162 #[.s x,.s y] w fun e w'=>e=.returned (.i (key x y))/\w'=w:=by
 have k1:=zku x y;have k2:=zku y x;have k3:=zto x y;have k4:=zpX x y;unfold less at k1 k2
 by_cases h1:key x y=-1
 ·have HF:=zlk h1
  have e1:Op.bytesLess x.toList y.toList=true:=by rw[k1];simpa using h1
  clear k1 k2 k3 k4 h1;go_in;go_wp2
  go_ret;exact⟨zm HF.o.symm,rfl⟩
 ·have e1:Op.bytesLess x.toList y.toList=false:=by rw[k1];simpa using h1
  by_cases h2:key y x=-1
  ·have HF:Hid (key x y=1):=by unfold Hid;omega
   have e2:Op.bytesLess y.toList x.toList=true:=by rw[k2];simpa using h2
   have e3:(x.toList == y.toList)=false:=by rw[beq_toList,decide_eq_false_iff_not];intro e;have:=(zbO x y).2 e;omega
   clear k1 k2 k3 k4 h1 h2;go_in;go_wp2
   go_ret;exact⟨zm HF.o.symm,rfl⟩
  ·have HF:Hid (key x y=0):=by unfold Hid;omega
   have e2:Op.bytesLess y.toList x.toList=false:=by rw[k2];simpa using h2
   have e3:(x.toList == y.toList)=true:=by rw[beq_toList,decide_eq_true_eq];exact(zbO x y).1 HF.o
   clear k1 k2 k3 k4 h1 h2;go_in;go_wp2
   go_ret;exact⟨zm HF.o.symm,rfl⟩
theorem zis (x y z u:BA)(w:World):Calls Tryz.prog 117 #[.s x,.s y,.s z,.s u] w fun e w'=>e=.returned (.i (key2 x y z u))/\w'=w:=by
 by_cases h:key x z=0
 ·have HF:Hid (key2 x y z u=key y u):=by unfold Hid key2;rw[if_pos h]
  have e1:(key x z != 0)=false:=by simpa using h
  clear h;go_in
  go_wp2_with (go_at_call 162;refine(zh4 _ _ _).mono ?_;rintro e w2⟨rfl,rfl⟩)
  go_ret;exact⟨zm HF.o.symm,rfl⟩
 ·have HF:Hid (key2 x y z u=key x z):=by unfold Hid key2;rw[if_neg h]
  have e1:(key x z != 0)=true:=by simpa using h
  clear h;go_in
  go_wp2_with (go_at_call 162;refine(zh4 _ _ _).mono ?_;rintro e w2⟨rfl,rfl⟩)
  go_ret;exact⟨zm HF.o.symm,rfl⟩
theorem zlz (p q:Pu)(w:World):Calls Tryz.prog 125 #[.agg p.cells,.agg q.cells] w fun e w'=>e=.returned (.i (zan p q))/\Bw w w':=by
 unfold Pu.cells
 by_cases h:p.dr=q.dr
 ·have HF:Hid (zan p q=key2 p.tm p.rs q.tm q.rs):=by unfold Hid zan;rw[if_pos ((zbO _ _).2 h)]
  have e1:(p.dr.toList == q.dr.toList)=true:=by rw[beq_toList];simpa using h
  clear h;go_in;go_wp2_with fail
  refine(zis _ _ _ _ _).mono ?_;rintro e w2⟨rfl,rfl⟩;go_wp2
  go_ret;exact⟨zm HF.o.symm,zo _ _ _⟩
 ·have HF:Hid (zan p q=key p.dr q.dr):=by unfold Hid zan;rw[if_neg (fun e=>h ((zbO _ _).1 e))]
  have e1:(p.dr.toList == q.dr.toList)=false:=by rw[beq_toList];simpa using h
  clear h;go_in;go_wp2_with fail
  refine(zh4 _ _ _).mono ?_;rintro e w2⟨rfl,rfl⟩;go_wp2
  go_ret;exact⟨zm HF.o.symm,zo _ _ _⟩
theorem zoS (b:Bk)(a0 a1 a2 a3:OA)(c0 c1 c2 c3:Nat)(kd nm:BA)(w:World)(hb:qj w b a0 a1 a2 a3)(hl:b.os.length<=1048576) :
 Calls Tryz.prog 121 #[.agg (b.cells a0 a1 a2 a3 c0 c1 c2 c3),.s kd,.s nm] w fun e w'=>e=.returned (.i (zep (jC kd nm) b.os))/\Bw w w':=by
 have HK:Hid (qj w b a0 a1 a2 a3):=hb;clear hb;unfold Bk.cells;go_in;go_wp2_with fail
 have hX0:=zI w (bC b a0 a1 a2 a3 c0 c1 c2 c3) 40;have HB0:Hid (Bw w (w.alloc (.cells (bC b a0 a1 a2 a3 c0 c1 c2 c3) 40))):=bAl _ _;obtain⟨W0,hW0⟩:=xN (w.alloc (.cells (bC b a0 a1 a2 a3 c0 c1 c2 c3) 40));have hz0:w.heap.size<W0.heap.size:=by rw[hW0];simp
 rw[<- hW0]at HB0 hX0 ⊢;clear hW0
 go_loopw [7] (fun iv wr=>∃k:Nat,k<=b.os.length/\iv=.i k/\Hid (∀i (hi:i<b.os.length),i<k->jC kd nm b.os[i]=false)/\wr=W0) (fun iv _=>b.os.length-(intOf iv).toNat)
 case atStart=>exact⟨0,Nat.zero_le _,rfl,fun i hi h=>by omega,rfl⟩
 case round=>
  obtain⟨k,hk,rfl,HQ,rfl⟩:=hrel;have hkn:k<=1048576:=by omega
  by_cases hlt:k<b.os.length
  ·obtain⟨ob,off,v0,v1,q0,q1,rfl,hob,hsm,hl0,hl1,d0,d1,d2,d3,d4,d5,d6⟩:=HK.o.os.load HB0.o k hlt
   have hltI:(k:Int)<(b.os.length:Int):=by omega
   clear hsm hl0 hl1
   by_cases h1:b.os[k].kd=kd
   ·have e1:(b.os[k].kd.toList == kd.toList)=true:=by rw[beq_toList];simpa using h1
    by_cases h2:b.os[k].nm=nm
    ·have e2:(b.os[k].nm.toList == nm.toList)=true:=by rw[beq_toList];simpa using h2
     have HF:Hid (zep (jC kd nm) b.os=k):=zn0 hlt HQ.o (by unfold jC;simp[h1,h2]);clear h1 h2;go_wp2
     go_ret;exact⟨zm HF.o.symm,HB0.o⟩
    ·have e2:(b.os[k].nm.toList == nm.toList)=false:=by rw[beq_toList];simpa using h2
     have HN:Hid (∀i (hi:i<b.os.length),i<k+1->jC kd nm b.os[i]=false):=by
      intro i hi h
      rcases Nat.eq_or_lt_of_le (Nat.le_of_lt_succ h) with e|h'
      ·subst e;unfold jC;simp[h2]
      ·exact HQ.o i hi h'
     clear h1 h2;go_wp2
     exact⟨⟨k+1,by omega,by go_num,HN.o,trivial⟩,zi hlt⟩
   ·have e1:(b.os[k].kd.toList == kd.toList)=false:=by rw[beq_toList];simpa using h1
    have HN:Hid (∀i (hi:i<b.os.length),i<k+1->jC kd nm b.os[i]=false):=by
     intro i hi h
     rcases Nat.eq_or_lt_of_le (Nat.le_of_lt_succ h) with e|h'
     ·subst e;unfold jC;simp[h1]
     ·exact HQ.o i hi h'
    clear h1;go_wp2
    exact⟨⟨k+1,by omega,by go_num,HN.o,trivial⟩,zi hlt⟩
  ·have HF:Hid (zep (jC kd nm) b.os=-1):=zmT fun i hi=>HQ.o i hi (by omega)
   clear HQ;go_wp2
   go_ret;exact⟨zm HF.o.symm,HB0.o⟩
theorem znL (b:Bk)(a0 a1 a2 a3:OA)(c0 c1 c2 c3:Nat)(tm rs:BA)(w:World)(hb:qj w b a0 a1 a2 a3)(hl:b.ls.length<=1048576) :
 Calls Tryz.prog 124 #[.agg (b.cells a0 a1 a2 a3 c0 c1 c2 c3),.s tm,.s rs] w fun e w'=>e=.returned (.i (zep (zgL tm rs) b.ls))/\Bw w w':=by
 have HK:Hid (qj w b a0 a1 a2 a3):=hb;clear hb;unfold Bk.cells;go_in;go_wp2_with fail
 have hX0:=zI w (bC b a0 a1 a2 a3 c0 c1 c2 c3) 40;have HB0:Hid (Bw w (w.alloc (.cells (bC b a0 a1 a2 a3 c0 c1 c2 c3) 40))):=bAl _ _;obtain⟨W0,hW0⟩:=xN (w.alloc (.cells (bC b a0 a1 a2 a3 c0 c1 c2 c3) 40));have hz0:w.heap.size<W0.heap.size:=by rw[hW0];simp
 rw[<- hW0]at HB0 hX0 ⊢;clear hW0
 go_loopw [7] (fun iv wr=>∃k:Nat,k<=b.ls.length/\iv=.i k/\Hid (∀i (hi:i<b.ls.length),i<k->zgL tm rs b.ls[i]=false)/\wr=W0) (fun iv _=>b.ls.length-(intOf iv).toNat)
 case atStart=>exact⟨0,Nat.zero_le _,rfl,fun i hi h=>by omega,rfl⟩
 case round=>
  obtain⟨k,hk,rfl,HQ,rfl⟩:=hrel;have hkn:k<=1048576:=by omega
  by_cases hlt:k<b.ls.length
  ·obtain⟨ob,off,rfl,hob,d0,d1,d2,d3⟩:=HK.o.ls.load HB0.o k hlt
   have hltI:(k:Int)<(b.ls.length:Int):=by omega
   clear d2 d3
   by_cases h1:b.ls[k].tm=tm
   ·have e1:(b.ls[k].tm.toList == tm.toList)=true:=by rw[beq_toList];simpa using h1
    by_cases h2:b.ls[k].rs=rs
    ·have e2:(b.ls[k].rs.toList == rs.toList)=true:=by rw[beq_toList];simpa using h2
     have HF:Hid (zep (zgL tm rs) b.ls=k):=zn0 hlt HQ.o (by unfold zgL;simp[h1,h2]);clear h1 h2;go_wp2
     go_ret;exact⟨zm HF.o.symm,HB0.o⟩
    ·have e2:(b.ls[k].rs.toList == rs.toList)=false:=by rw[beq_toList];simpa using h2
     have HN:Hid (∀i (hi:i<b.ls.length),i<k+1->zgL tm rs b.ls[i]=false):=by
      intro i hi h
      rcases Nat.eq_or_lt_of_le (Nat.le_of_lt_succ h) with e|h'
      ·subst e;unfold zgL;simp[h2]
      ·exact HQ.o i hi h'
     clear h1 h2;go_wp2
     exact⟨⟨k+1,by omega,by go_num,HN.o,trivial⟩,zi hlt⟩
   ·have e1:(b.ls[k].tm.toList == tm.toList)=false:=by rw[beq_toList];simpa using h1
    have HN:Hid (∀i (hi:i<b.ls.length),i<k+1->zgL tm rs b.ls[i]=false):=by
     intro i hi h
     rcases Nat.eq_or_lt_of_le (Nat.le_of_lt_succ h) with e|h'
     ·subst e;unfold zgL;simp[h1]
     ·exact HQ.o i hi h'
    clear h1;go_wp2
    exact⟨⟨k+1,by omega,by go_num,HN.o,trivial⟩,zi hlt⟩
  ·have HF:Hid (zep (zgL tm rs) b.ls=-1):=zmT fun i hi=>HQ.o i hi (by omega)
   clear HQ;go_wp2
   go_ret;exact⟨zm HF.o.symm,HB0.o⟩
theorem zrQ (b:Bk)(a0 a1 a2 a3:OA)(c0 c1 c2 c3:Nat)(tm rs:BA)(w:World)(hb:qj w b a0 a1 a2 a3)(hl:b.ps.length<=1000)(ha:∀i (h:i<b.ps.length),0<=b.ps[i].am/\b.ps[i].am<=1000000) :
 Calls Tryz.prog 127 #[.agg (b.cells a0 a1 a2 a3 c0 c1 c2 c3),.s tm,.s rs] w fun e w'=>e=.returned (.i (out b.ps tm rs))/\Bw w w':=by
 have HK:=hid hb;have HA:Hid (∀i (h:i<b.ps.length),0<=b.ps[i].am/\b.ps[i].am<=1000000):=ha;clear hb ha;unfold Bk.cells;go_in;go_wp2_with fail
 have hX0:=zI w (bC b a0 a1 a2 a3 c0 c1 c2 c3) 40;have HB0:Hid (Bw w (w.alloc (.cells (bC b a0 a1 a2 a3 c0 c1 c2 c3) 40))):=bAl _ _;obtain⟨W0,hW0⟩:=xN (w.alloc (.cells (bC b a0 a1 a2 a3 c0 c1 c2 c3) 40));have hz0:w.heap.size<W0.heap.size:=by rw[hW0];simp
 rw[<- hW0]at HB0 hX0 ⊢;clear hW0
 go_loopw [7,8] (fun nv iv wr=>∃(k:Nat) (s:Int),k<=b.ps.length/\iv=.i k/\nv=.i s/\Hid (s=zbk b.ps tm rs k)/\wr=W0) (fun _ iv _=>b.ps.length-(intOf iv).toNat)
 case atStart=>exact⟨0,0,Nat.zero_le _,rfl,rfl,by simp[zbk,Hid],rfl⟩
 case round=>
  obtain⟨k,s,hk,rfl,rfl,HQ,rfl⟩:=hrel;have hkn:k<=1000:=by omega
  have hsb:0<=s/\s<=1000000000:=by have h1:=HQ.o;have h2:=zcM b.ps tm rs HA.o k hk;omega
  by_cases hlt:k<b.ps.length
  ·obtain⟨ob,off,rfl,hob,d0,d1,d2,d3,d4⟩:=HK.o.ps.load HB0.o k hlt
   have hltI:(k:Int)<(b.ps.length:Int):=by omega
   have HSt:=hid (zfW b.ps tm rs k hlt);have hab:=HA.o k hlt;clear d0 d4
   by_cases h1:b.ps[k].tm=tm
   ·have e1:(b.ps[k].tm.toList == tm.toList)=true:=by rw[beq_toList];simpa using h1
    by_cases h2:b.ps[k].rs=rs
    ·have e2:(b.ps[k].rs.toList == rs.toList)=true:=by rw[beq_toList];simpa using h2
     have HN:Hid (zbk b.ps tm rs (k+1)=s+b.ps[k].am):=by unfold Hid;rw[HSt.o,<- HQ.o,if_pos (by unfold zrr;simp[h1,h2])]
     clear h1 h2;go_wp2
     exact⟨⟨k+1,s+b.ps[k].am,by omega,by go_num,by go_num,HN.o.symm,trivial⟩,zi hlt⟩
    ·have e2:(b.ps[k].rs.toList == rs.toList)=false:=by rw[beq_toList];simpa using h2
     have HN:Hid (zbk b.ps tm rs (k+1)=s):=by unfold Hid;rw[HSt.o,<- HQ.o,if_neg (by unfold zrr;simp[h2])];omega
     clear h1 h2;go_wp2
     exact⟨⟨k+1,s,by omega,by go_num,rfl,HN.o.symm,trivial⟩,zi hlt⟩
   ·have e1:(b.ps[k].tm.toList == tm.toList)=false:=by rw[beq_toList];simpa using h1
    have HN:Hid (zbk b.ps tm rs (k+1)=s):=by unfold Hid;rw[HSt.o,<- HQ.o,if_neg (by unfold zrr;simp[h1])];omega
    clear h1;go_wp2
    exact⟨⟨k+1,s,by omega,by go_num,rfl,HN.o.symm,trivial⟩,zi hlt⟩
  ·have e:k=b.ps.length:=by omega
   subst e;have HE:Hid (out b.ps tm rs=s):=by unfold Hid out;exact HQ.o.symm
   clear HQ hlt hk;go_wp2
   go_ret;exact⟨zm HE.o.symm,HB0.o⟩
theorem zjF (a c:OA)(ca cc:Nat)(xs ys:List BA)(w:World)(hx:zD w a xs)(hy:zD w c ys)(hl:xs.length<=1048576)(hl':ys.length<=1048576) :
 Calls Tryz.prog 118 #[.l a xs.length ca,.l c ys.length cc] w fun e w'=>e=.returned (.bool (decide (xs=ys)))/\Bw w w':=by
 obtain⟨r,hr⟩:=xN (decide (xs=ys));rw[<- hr];have HR:=hid hr;have HX:=yB hx hy;clear hr hx hy
 by_cases hn:xs.length=ys.length
 rotate_left
 ·have HF:Hid (r=false):=by unfold Hid;rw[HR.o,decide_eq_false_iff_not];intro e;exact hn (by rw[e])
  have e1:((xs.length:Int) != (ys.length:Int))=true:=by simp;omega
  clear hn;go_in;go_wp2
  go_ret;exact⟨ze HF.o.symm,bRf _ _⟩
 have e1:((xs.length:Int) != (ys.length:Int))=false:=by simp;omega
 have HN:=hid hn;clear hn;go_in;go_wp2
 go_loopw [5] (fun iv wr=>∃k:Nat,k<=xs.length/\iv=.i k/\Hid ((∀i (h:i<xs.length) (h':i<ys.length),i<k->xs[i]=ys[i])/\Bw w wr)) (fun iv _=>xs.length-(intOf iv).toNat)
 case atStart=>exact⟨0,Nat.zero_le _,rfl,fun i h h' hk=>by omega,bRf _ _⟩
 case round=>
  obtain⟨k,hk,rfl,HQ⟩:=hrel;have hkn:k<=1048576:=by omega
  by_cases hlt:k<xs.length
  ·have hlt':k<ys.length:=by have:=HN.o;omega
   obtain⟨p,po,rfl,hp,hpc⟩:=HX.o.1.cells (by intro e;rw[e]at hlt;simp at hlt);obtain⟨q,qo,rfl,hq,hqc⟩:=HX.o.2.cells (by intro e;rw[e]at hlt';simp at hlt');have c1:=(HQ.o.2.cell (p:=(aD p (po+k))) hp).trans (hpc k hlt);have c2:=(HQ.o.2.cell (p:=(aD q (qo+k))) hq).trans (hqc k hlt');have hltI:(k:Int)<(xs.length:Int):=by omega
   have hltI':(k:Int)<(ys.length:Int):=by omega
   have hp':=nLt hp HQ.o.2.size;have hq':=nLt hq HQ.o.2.size;have HB:=hid HQ.o.2;clear hpc hqc
   by_cases he:xs[k]=ys[k]
   ·have e2:(xs[k].toList == ys[k].toList)=true:=by rw[beq_toList];simpa using he
    have HA:Hid (∀i (h:i<xs.length) (h':i<ys.length),i<k+1->xs[i]=ys[i]):=by
     intro i h h' hi
     rcases Nat.eq_or_lt_of_le (Nat.le_of_lt_succ hi) with e|h2
     ·subst e;exact he
     ·exact HQ.o.1 i h h' h2
    clear he HQ;go_wp2_with fail
    go_quiet (fail)
    go_wp2
    exact⟨⟨k+1,by omega,by go_num,HA.o,below_drewN HB.o _⟩,zi hlt⟩
   ·have e2:(xs[k].toList == ys[k].toList)=false:=by rw[beq_toList];simpa using he
    have HF:Hid (r=false):=by
     unfold Hid;rw[HR.o,decide_eq_false_iff_not];intro e;subst e;exact he rfl
    clear he HQ;go_wp2_with fail
    go_quiet (fail)
    go_wp2
    go_ret;exact⟨ze HF.o.symm,below_drewN HB.o _⟩
  ·have HF:Hid (r=true):=by
    unfold Hid;rw[HR.o,decide_eq_true_eq];exact List.ext_getElem HN.o fun i h h'=>HQ.o.1 i h h' (by omega)
   have HB:=hid HQ.o.2;clear HQ;go_wp2
   go_ret;exact⟨ze HF.o.symm,HB.o⟩
end Go.Proofs.YtjnpjkigofldlaaGreat
