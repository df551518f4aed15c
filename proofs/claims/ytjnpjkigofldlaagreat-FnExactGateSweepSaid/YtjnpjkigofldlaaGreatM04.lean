import Derived.Test.YtjnpjkigofldlaaGreatM02
import Derived.Maps.AppendAt
import Derived.Deep.RegionHeld3
import Derived.SliceStrings
set_option maxHeartbeats 400000
namespace Go.Proofs.YtjnpjkigofldlaaGreat
open Go.RowKit
variable {w:World}{a a':Act}{base fuel i n size:Nat}{e et kt mty:TypeId}{v:Value}{xs:List Value}
theorem zf7.load {b off:Nat}{f:Fld}{a:OA}{cap:Nat}(h:zf7 w b off f a cap) :
 w.cell? (aD b off)=some (.s f.nm)/\w.cell? (aD b (off+1))=some (.i f.kd)/\w.cell? (aD b (off+2))=some (.i f.ls)/\w.cell? (aD b (off+3))=some (.i f.ms) /\
 w.cell? (aD b (off+4))=some (.l a f.ws.length cap)/\w.cell? (aD b (off+5))=some (.s f.to)/\w.cell? (aD b (off+6))=some (.i f.rl)/\w.cell? (aD b (off+7))=some (.bool f.mu) /\
 w.cell? (aD b (off+8))=some (.bool f.fx)/\w.cell? (aD b (off+9))=some (.s f.df)/\w.cell? (aD b (off+10))=some (.s f.wg):=
 ⟨h.cell 0 (by omega),h.cell 1 (by omega),h.cell 2 (by omega),h.cell 3 (by omega),h.cell 4 (by omega),h.cell 5 (by omega),h.cell 6 (by omega),h.cell 7 (by omega),h.cell 8 (by omega),h.cell 9 (by omega),h.cell 10 (by omega)⟩
theorem q9 {w':World}(h:w.ownsRow base e size v n xs)(hb:∀g,v.ownBlock=some g->w'.heap[g]?=w.heap[g]?):w'.ownsRow base e size v n xs:=by
 obtain⟨h0,h1|⟨g,cap,cur,rfl,h2,h3,h4⟩⟩:=h
 ·exact⟨h0,Or.inl h1⟩
 ·exact⟨h0,Or.inr ⟨g,cap,cur,rfl,h2,(hb g rfl).trans h3,h4⟩⟩
theorem yc {w':World}(h:w.ownsRow base e size v n xs)(hb:Bw w w'):w'.ownsRow base e size v n xs:=
 q9 h fun g hg=>hb.block g (h.lt g hg).2
theorem jU {base':Nat}(h:w.ownsRow base e size v n xs)(hb:base'<=base):w.ownsRow base' e size v n xs:=by
 obtain⟨h0,h1|⟨g,cap,cur,rfl,h2,h3,h4⟩⟩:=h
 ·exact⟨h0,Or.inl h1⟩
 ·exact⟨h0,Or.inr ⟨g,cap,cur,rfl,Nat.le_trans hb h2,h3,h4⟩⟩
theorem zbA (w:World)(x:Value)(t:TypeId):∀j u,[x][j]?=some u->(w.alloc (.cells #[x] t)).cell? (((aD w.heap.size 0):Addr).add j)=some u:=by
 intro j u hj
 rcases j with _|j
 ·have e:((aD w.heap.size 0):Addr).add 0=(aD w.heap.size 0):=rfl
  rw[e,World.cell?_alloc_at (hn:=rfl)]
  simpa using hj
 ·simp at hj
theorem zaT {w1:World}{row:Option Nat}{b:Nat}(hg:w.grownBy w1 row)(hb:b<w.heap.size)(h:∀g,row=some g->b≠g):w1.heap[b]?=w.heap[b]?:=
 hg.block b hb (fun e=>h b e.symm rfl)
theorem zar {B:Nat}{w0 w1:World}{x:Value}{t:TypeId}(h:Below B w0 w)(hB:B<=w.heap.size)(hg:(w.alloc (.cells #[x] t)).grownBy w1 v.ownBlock)(hr:∀k,v.ownBlock=some k->B<=k):Below B w0 w1:=
 (h.alloc hB _).grown hg (by simp;omega) hr
theorem Tryz.zdo:(Tryz.prog.info? 3).map (fun i=>(i.zero,i.size,i.bytes))=some (some (.i 0),1,8):=by kernel_rfl
theorem yY {lo:Nat}(h:w.ownsRow lo e 1 v n xs):∃a cap,v=.l a n cap:=by
 obtain⟨_,⟨rfl,h0⟩|⟨b,cap,cur,rfl,_⟩⟩:=h
 ·exact⟨none,0,by rw[h0]⟩
 ·exact⟨_,cap,rfl⟩
theorem zsr (w:World)(o o':Obj):{ (w.alloc o) with heap:=(w.alloc o).heap.setIfInBounds w.heap.size o' }=w.alloc o':=by
 show({ w with heap:=(w.heap.push o).setIfInBounds w.heap.size o' }:World)={ w with heap:=w.heap.push o' }
 congr 1
 apply Array.ext_getElem?
 intro i;simp only[Array.getElem?_setIfInBounds,Array.getElem?_push,Array.size_push]
 by_cases h:w.heap.size=i
 ·subst h;simp
 ·rw[if_neg h,if_neg (fun e=>h e.symm),if_neg (fun e=>h e.symm)]
theorem alloc_at (w:World)(o:Obj):(w.alloc o).heap[w.heap.size]?=some o:=by
 show(w.heap.push o)[w.heap.size]?=some o
 simp
theorem zbd {P:Program}{d:TypeDesc}(hm:P.underlying mty=some (.map kt et))(hd:P.underlying kt=some d)(key val:Value)(hk:MapKept.IsKey d key)
 (es:Array MapEntry) (clock:Nat) (hf:Instr.findNow d key es.toList 0=some none) (w:World) :
 (Instr.mapUpdate mty (.map (some w.heap.size)) key val).run P (w.alloc (.map es clock))=.ok () (w.alloc (.map (es.push ⟨key,val,clock⟩) (clock+1))):=by
 have hb:=alloc_at w (.map es clock);have hc:=MapKept.run_checkKey (P:=P) (w:=w.alloc (.map es clock)) hd hk false 9999
 simp[Instr.mapUpdate,run_underlying hm,MapKept.run_getObj_map hb,hc,MapKept.run_findKey hd hf,MapKept.run_setObj_map _ hb,Result.andThen,<- zsr w (.map es clock) (.map (es.push ⟨key,val,clock⟩) (clock+1))]
theorem qR {P:Program}{d:TypeDesc}(hm:P.underlying mty=some (.map kt et))(hd:P.underlying kt=some d)(key val:Value)(hk:MapKept.IsKey d key)
 (es:Array MapEntry) (clock i:Nat) (hf:Instr.findNow d key es.toList 0=some (some (i,val))) (w:World) (r:Nat) (hb:w.heap[r]?=some (.map es clock)) :
 (Instr.lookup mty (.map (some r)) key true).run P w=.ok (.tuple #[val,.bool true]) w:=by
 have hc:=MapKept.run_checkKey (P:=P) (w:=w) hd hk es.isEmpty 9999
 simp[Instr.lookup,run_underlying hm,MapKept.run_getObj_map hb,hc,MapKept.run_findKey hd hf,Result.andThen]
theorem zcA {P:Program}{d:TypeDesc}(hm:P.underlying mty=some (.map kt et))(hd:P.underlying kt=some d)(key z:Value)(hk:MapKept.IsKey d key)
 (es:Array MapEntry) (clock:Nat) (hf:Instr.findNow d key es.toList 0=some none) (w:World) (hz:(zeroValue et).run P w=.ok z w) (r:Nat) (hb:w.heap[r]?=some (.map es clock)) :
 (Instr.lookup mty (.map (some r)) key true).run P w=.ok (.tuple #[z,.bool false]) w:=by
 have hc:=MapKept.run_checkKey (P:=P) (w:=w) hd hk es.isEmpty 9999
 simp[Instr.lookup,run_underlying hm,MapKept.run_getObj_map hb,hc,MapKept.run_findKey hd hf,hz,Result.andThen]
theorem zi (h:i<n):n-(intOf (Value.int IntKind.i64 ((i:Int)+1))).toNat<n-(intOf (Value.int IntKind.i64 (i:Int))).toNat:=by
 show n-((i+1:Nat):Int).toNat<n-((i:Nat):Int).toNat
 rw[Int.toNat_natCast,Int.toNat_natCast];omega
theorem zx (n:Int)(h:-9223372036854775808<=n/\n<=9223372036854775807):wrap64 n=n:=by unfold wrap64;omega
theorem wrap_one (h:i<9000000000000000000):wrap64 ((i:Int)+1)=((i+1:Nat):Int):=by
 rw[zx _ ⟨by omega,by omega⟩];omega
theorem yO (h:i<n)(hi:i<9000000000000000000):n-(intOf (Value.int IntKind.i64 (wrap64 ((i:Int)+1)))).toNat<n-(intOf (Value.int IntKind.i64 (i:Int))).toNat:=by
 rw[wrap_one hi]
 show n-((i+1:Nat):Int).toNat<n-((i:Nat):Int).toNat
 rw[Int.toNat_natCast,Int.toNat_natCast];omega
theorem zeu (c:UInt8)(w:World) :
 Calls Tryz.prog 166 #[.int .u8 c.toNat] w fun e w'=>e=.returned (.bool (yF c))/\w'=w:=by
 go_in
 go_wp2
 all_goals
  go_ret;refine⟨ze ?_,rfl⟩;rw[Bool.eq_iff_iff];simp[yF];try omega
theorem znV {lo:Nat}{a:OA}{cap:Nat}{row:List BA}(h:w.ownsRow lo 9 1 (.l a n cap) row.length (row.map Value.string))(hl:row.length<=maxLen)(hs:∀s∈row,s.size<=maxLen):zD w a row:=by
 refine⟨hl,hs,fun hne=>?_⟩;obtain⟨_,⟨h0,h1⟩|⟨g,cp,cur,h0,h1⟩⟩:=id h
 ·exact absurd (List.length_eq_zero_iff.1 h1) hne
 ·cases h0
  refine⟨g,0,rfl,(h.lt g rfl).2,fun i hi=>?_⟩;rw[Nat.zero_add,h.cellAt i (by omega)]
  simp[hi]
theorem zca {P:Program}{id:Nat}{ops:Array Oper}{b:Bool}{Q:Exit->Act->World->Prop}(R:Act->Act->World->Prop)(h1:(Code.region id ops b).wp P (fun e a' w'=>e=.normal/\R a a' w') a w)(h2:∀a' w',R a a' w'->Q .normal a' w'):(Code.region id ops b).wp P Q a w:=
 Code.wp_mono (fun e a' w' ⟨he,hr⟩=>by subst he;exact h2 a' w' hr) h1
def nth:List Oper->Nat->Option Oper
 | [],_=>none
 | o :: _,0=>some o
 | _ :: l,n+1=>nth l n
theorem ztu:∀(l:List Oper) (i:Nat),nth l i=l[i]?
 | [],_=>by simp[nth]
 | _ :: _,0=>by simp[nth]
 | _ :: l,n+1=>by simp[nth,ztu l n]
section
variable {P:Program} {ops:Array Oper} {Q:Exit->Act->World->Prop} {md:Region.Mode} {S:World->Prop}
theorem zhZ {oi:Oper}(hi:nth ops.toList i=some oi):ops[i]?=some oi:=by
 rw[ztu]at hi;simpa using hi
theorem zs7 {oi:Oper}{listed:Array Bool}(hi:nth ops.toList i=some oi)
 (hs:Region.noSelect ops=true) (hf:Region.free md ops listed i=true) (hr:(Region.ready md ops listed).contains i=true)
 (hQ:∀c a w,Q (.panic c) (a.put oi.dst v) w->Q (.panic c) a w) (hw:Region.wanted oi (yielded ops a.tmps)=true) (hS:S w)
 (hy:∀w,S w->(execOp a.eval oi).run P w=.ok (.value v) w)
 (h:wpAnyH P md ops Q S fuel (listed.setIfInBounds i true) (a.put oi.dst v) w):wpAnyH P md ops Q S (fuel+1) listed a w:=
 wpAnyH_take (zhZ hi) hs hf hr hQ (Or.inl ⟨hw,hy⟩) hS h
theorem zrM {oi:Oper}{listed:Array Bool}(hi:nth ops.toList i=some oi)
 (hs:Region.noSelect ops=true) (hf:Region.free md ops listed i=true) (hr:(Region.ready md ops listed).contains i=true)
 (hQ:∀c a w,Q (.panic c) (a.put oi.dst undef) w->Q (.panic c) a w) (hw:Region.wanted oi (yielded ops a.tmps)=false) (hS:S w)
 (h:wpAnyH P md ops Q S fuel (listed.setIfInBounds i true) (a.put oi.dst undef) w):wpAnyH P md ops Q S (fuel+1) listed a w:=
 wpAnyH_take (zhZ hi) hs hf hr hQ (Or.inr ⟨hw,rfl⟩) hS h
theorem zt4 {oi:Oper}{listed:Array Bool}(hi:nth ops.toList i=some oi)
 (hr:Region.ready md ops listed=[i]) (hw:Region.wanted oi (yielded ops a.tmps)=true)
 (h:∀K:Act->World->Prop,Shut (∀a w,S w->(S w->wpAnyH P md ops Q S fuel (listed.setIfInBounds i true) a w)->K a w)->Oper.wp P oi a w K Q):wpAnyH P md ops Q S (fuel+1) listed a w:=
 wpAnyH_ready hr (by simp) (AllReadyH.cons (zhZ hi) (fun K hK=>by rw[if_pos hw];exact h K hK) AllReadyH.nil)
end
theorem sA {α:Type}(l:List α)(i:Nat)(x:α):l.toArray.setIfInBounds i x=(l.set i x).toArray:=List.setIfInBounds_toArray ..
theorem s0 {α:Type}(x y:α)(l:List α):(x :: l).set 0 y=y :: l:=rfl
theorem sS {α:Type}(x y:α)(l:List α)(n:Nat):(x :: l).set (n+1) y=x :: l.set n y:=rfl
section
variable {P:Program} {ops:Array Oper} {Q:Exit->Act->World->Prop} {md:Region.Mode} {S:World->Prop}
theorem tH (i:Nat){oi:Oper}{listed:Array Bool}(hi:nth ops.toList i=some oi)(hS:S w)
 (h:wpAnyH P md ops Q S fuel (listed.setIfInBounds i true) a' w) (hs:Region.noSelect ops=true:=by kernel_rfl) (hf:Region.free md ops listed i=true:=by kernel_rfl) (hr:(Region.ready md ops listed).contains i=true:=by kernel_rfl)
 (hw:Region.wanted oi (yielded ops a.tmps)=true:=by rfl)
 (hy:∀w,S w->(execOp a.eval oi).run P w=.ok (.value v) w:=by(intro w hSw;(try dsimp only at hSw);go_simp;try with_reducible rfl))
 (ha:a.put oi.dst v=a':=by((try simp only[Act.put,sA,s0,sS]);rfl))
 (hQ:∀c a w,Q (.panic c) (a.put oi.dst v) w->Q (.panic c) a w:=by exact fun _ _ _ h=>h):wpAnyH P md ops Q S (fuel+1) listed a w:=
 zs7 hi hs hf hr hQ hw hS hy (ha ▸ h)
theorem kH (i:Nat){oi:Oper}{listed:Array Bool}(hi:nth ops.toList i=some oi)(hS:S w)
 (h:wpAnyH P md ops Q S fuel (listed.setIfInBounds i true) a' w) (hs:Region.noSelect ops=true:=by kernel_rfl) (hf:Region.free md ops listed i=true:=by kernel_rfl) (hr:(Region.ready md ops listed).contains i=true:=by kernel_rfl)
 (hw:Region.wanted oi (yielded ops a.tmps)=false:=by rfl)
 (ha:a.put oi.dst undef=a':=by((try simp only[Act.put,sA,s0,sS]);rfl))
 (hQ:∀c a w,Q (.panic c) (a.put oi.dst undef) w->Q (.panic c) a w:=by exact fun _ _ _ h=>h):wpAnyH P md ops Q S (fuel+1) listed a w:=
 zrM hi hs hf hr hQ hw hS (ha ▸ h)
theorem tG (i:Nat){oi:Oper}{listed:Array Bool}(h:wpAnyH P md ops Q S fuel (listed.setIfInBounds i true) a' w)
 (hS:S w:=by assumption) (hi:nth ops.toList i=some oi:=by rfl) (hs:Region.noSelect ops=true:=by kernel_rfl) (hf:Region.free md ops listed i=true:=by kernel_rfl) (hr:(Region.ready md ops listed).contains i=true:=by kernel_rfl)
 (hw:Region.wanted oi (yielded ops a.tmps)=true:=by rfl)
 (hy:∀w,S w->(execOp a.eval oi).run P w=.ok (.value v) w:=by(intro w hSw;(try dsimp only at hSw);go_simp;try with_reducible rfl))
 (ha:a.put oi.dst v=a':=by((try simp only[Act.put,sA,s0,sS]);rfl))
 (hQ:∀c a w,Q (.panic c) (a.put oi.dst v) w->Q (.panic c) a w:=by exact fun _ _ _ h=>h):wpAnyH P md ops Q S (fuel+1) listed a w:=
 zs7 hi hs hf hr hQ hw hS hy (ha ▸ h)
theorem kG (i:Nat){oi:Oper}{listed:Array Bool}(h:wpAnyH P md ops Q S fuel (listed.setIfInBounds i true) a' w)
 (hS:S w:=by assumption) (hi:nth ops.toList i=some oi:=by rfl) (hs:Region.noSelect ops=true:=by kernel_rfl) (hf:Region.free md ops listed i=true:=by kernel_rfl) (hr:(Region.ready md ops listed).contains i=true:=by kernel_rfl)
 (hw:Region.wanted oi (yielded ops a.tmps)=false:=by rfl)
 (ha:a.put oi.dst undef=a':=by((try simp only[Act.put,sA,s0,sS]);rfl))
 (hQ:∀c a w,Q (.panic c) (a.put oi.dst undef) w->Q (.panic c) a w:=by exact fun _ _ _ h=>h):wpAnyH P md ops Q S (fuel+1) listed a w:=
 zrM hi hs hf hr hQ hw hS (ha ▸ h)
theorem cH (i:Nat){oi:Oper}{listed:Array Bool}(hi:nth ops.toList i=some oi)
 (h:∀K:Act->World->Prop,Shut (∀a w,S w->(S w->wpAnyH P md ops Q S fuel (listed.setIfInBounds i true) a w)->K a w)->Oper.wp P oi a w K Q)
 (hr:Region.ready md ops listed=[i]:=by kernel_rfl) (hw:Region.wanted oi (yielded ops a.tmps)=true:=by rfl):wpAnyH P md ops Q S (fuel+1) listed a w:=
 zt4 hi hr hw h
end
def within (n lo hi:Int):Bool:=decide (lo<=n)&&decide (n<=hi)
theorem qZ (n lo hi:Int)(w:World) :
 Calls Tryz.prog 180 #[.i n,.i lo,.i hi] w fun e w'=>e=.returned (.bool (within n lo hi))/\w'=w:=by
 by_cases h1:lo<=n
 ·by_cases h2:n<=hi
  ·have HF:Hid (within n lo hi=true):=by unfold Hid within;simp[h1,h2]
   go_in;go_wp2
   go_ret;exact⟨ze HF.o.symm,rfl⟩
  ·have HF:Hid (within n lo hi=false):=by unfold Hid within;simp[h2]
   go_in;go_wp2
   go_ret;exact⟨ze HF.o.symm,rfl⟩
 ·have HF:Hid (within n lo hi=false):=by unfold Hid within;simp[h1]
  go_in;go_wp2
  go_ret;exact⟨ze HF.o.symm,rfl⟩
end Go.Proofs.YtjnpjkigofldlaaGreat
namespace Go.Proofs.YtjnpjkigofldlaaGreat
open Go.ChangeShapes Go.WideShapes Go.ChangeAt Go.RowKit
variable {t:TypeId}{fuel:Nat}{cs:List Value}
section
variable {H:Type} {enc:TypeId × Value->H} {P:Program} {w:World} {base:Nat} {spare:Nat->Bool} {held:Bool}
theorem zgZ {a:Addr}{v:Value}(h:w.cell? a=some v):a=(aD a.block a.off)/\a.block<w.heap.size:=by
 obtain⟨b,o,s⟩:=a;unfold World.cell? at h
 cases hb:w.heap[b]? with
 | none=>simp[hb]at h
 | some x=>
  have hlt:=(gES hb).1
  cases s with
  | none=>exact⟨rfl,hlt⟩
  | some k=>cases x <;> simp[hb]at h
theorem ziB {e:TypeId}{x:DataW H × List MemPlace}(ht:P.underlying t=some (.slice e))(he:P.underlying e=some .string)(hc:P.cellsOf e=1)
 (h:DataW.trod enc P w base spare held fuel t cs=some x):∃a cap ws,cs=[.l a ws.length cap]/\zD w a ws:=by
 rcases open_strings ht he hc h with⟨rfl,_⟩|⟨a,len,cap,ss,rfl,_,hl,hm,hz,_,hcell,hws⟩
 ·exact⟨none,0,[],rfl,⟨by simp[maxLen],by simp,fun h=>absurd rfl h⟩⟩
 ·have hle:len<=ss.length:=by rw[hz];split <;> omega
  have hlen:(ss.take len).length=len:=by rw[List.length_take];omega
  refine⟨some a,cap,ss.take len,by rw[hlen],⟨by rw[hlen];omega,fun s hs=>hws s (List.mem_of_mem_take hs),fun hne=>?_⟩⟩
  have hpos:0<len:=by
   rcases Nat.eq_zero_or_pos len with h0|h0
   ·rw[h0]at hne;simp at hne
   ·exact h0
  have h0:=hcell 0 (by omega);obtain⟨ha,hb⟩:=zgZ h0;simp only[Addr.add,if_true]at ha hb;refine⟨a.block,a.off,by rw[<- ha],hb,fun i hi=>?_⟩;have hi':i<len:=by omega
  have h1:=hcell i (by omega)
  have e1:a.add i=(aD a.block (a.off+i)):=by
   unfold Addr.add;split
   ·rename_i h;subst h;simpa using ha
   ·rfl
  rw[e1]at h1;rw[h1,List.getElem_take,List.getD_eq_getElem?_getD,List.getElem?_eq_getElem (by omega)]
  rfl
theorem zkf {fs:Array Field}{x:DataW H × List MemPlace}(ht:P.underlying t=some (.struct fs))(h:DataW.trod enc P w base spare held fuel t cs=some x)
 (i:Nat) (f:Field) (hf:fs[i]?=some f):∃n y,DataW.trod enc P w base spare held n f.type ((cs.drop f.offset).take (P.cellsOf f.type))=some y:=by
 obtain⟨xs,n,_,_,_,hxl,hall⟩:=DataW.trod_struct ht h;have hi:i<fs.size:=(gES hf).1;exact⟨n,xs[i]'(by omega),by rw[hall i f hf,List.getElem?_eq_getElem (by omega)]⟩
theorem zai {fs:Array Field}{x:DataW H × List MemPlace}(ht:P.underlying t=some (.struct fs))(h:DataW.trod enc P w base spare held fuel t cs=some x)
 (i tf off:Nat) (c:Value) (hf:(fs[i]?).map (fun f=>(f.type,f.offset))=some (tf,off)) (hone:P.cellsOf tf=1) (hc:cs[off]?=some c):∃n y,DataW.trod enc P w base spare held n tf [c]=some y:=by
 obtain⟨f,hf1,hf2⟩:=Option.map_eq_some_iff.1 hf;simp only[Prod.mk.injEq]at hf2;obtain⟨rfl,rfl⟩:=hf2;obtain⟨n,y,hy⟩:=zkf ht h i f hf1;rw[hone]at hy;obtain⟨hlt,hget⟩:=List.getElem?_eq_some_iff.1 hc;rw[List.drop_eq_getElem_cons hlt,hget]at hy;exact⟨n,y,hy⟩
end
theorem zck {α:Type}{P:Nat->α->Prop}:∀n:Nat,(∀i,i<n->∃x,P i x)->∃l:List α,l.length=n/\∀i (h:i<l.length),P i l[i]
 | 0,_=>⟨[],rfl,fun i h=>absurd h (by simp)⟩
 | n+1,h=>by
  obtain⟨l,hl,hP⟩:=zck n (fun i hi=>h i (by omega));obtain⟨x,hx⟩:=h n (by omega);refine⟨l++[x],by simp[hl],fun i hi=>?_⟩
  rcases Nat.lt_or_ge i n with h1|h1
  ·rw[List.getElem_append_left (by omega)];exact hP i (by omega)
  ·have e:i=n:=by simp at hi;omega
   subst e;rw[List.getElem_append_right (by omega)]
   simpa[hl] using hx
theorem add_add (b o m j:Nat):(((aD b o):Addr).add m).add j=(aD b (o+m+j)):=by
 unfold Addr.add
 by_cases h1:m=0 <;> by_cases h2:j=0 <;> simp[h1,h2]
section
variable {H:Type} {enc:TypeId × Value->H} {P:Program} {w:World} {base:Nat} {spare:Nat->Bool} {held:Bool}
theorem za0 {e:TypeId}{sz:Nat}{x:DataW H × List MemPlace}(ht:P.underlying t=some (.slice e))(hsz:P.cellsOf e=sz)(hpos:0<sz)
 (h:DataW.trod enc P w base spare held fuel t cs=some x) :
 ∃a len cap,cs=[.l a len cap]/\len<=maxLen/\(0<len->∃b off,a=some (aD b off)/\b<w.heap.size /\
  ∀i,i<len->∃es n y,es.length=sz/\(∀j,j<sz->w.cell? (aD b (off+i*sz+j))=es[j]?)/\DataW.trod enc P w base spare held n e es=some y):=by
 rcases DataW.trod_slice ht h with⟨rfl,_⟩|⟨a,len,cap,elems,rest,n,_,rfl,_,hb,hl,hm,hlen,hel,_,_⟩
 ·exact⟨none,0,0,rfl,by simp[maxLen],fun h=>absurd h (by omega)⟩
 ·refine⟨some a,len,cap,rfl,by omega,fun hp=>?_⟩
  have each:∀i,i<len->∃es y,w.cells? base (a.add (i*sz)) sz=some es/\DataW.trod enc P w base spare held n e es=some y:=by
   intro i hi;have h1:=hel i hi;rw[hsz,List.getElem?_eq_getElem (by omega),Option.bind_eq_some_iff]at h1;obtain⟨es,h2,h3⟩:=h1;exact⟨es,_,h2,h3⟩
  obtain⟨es0,y0,hc0,_⟩:=each 0 hp;obtain⟨_,_,hcell0⟩:=World.cells?_some hc0;have h00:=hcell0 0 hpos
  have hes0:∃v,w.cell? a=some v:=by
   have hl0:=(World.cells?_some hc0).2.1;refine⟨es0[0]'(by omega),?_⟩
   have:=h00
   simp only[Nat.zero_mul,Addr.add,if_true]at this;rw[this,List.getElem?_eq_getElem (by omega)]
  obtain⟨v0,hv0⟩:=hes0;obtain⟨ha,hbl⟩:=zgZ hv0;refine⟨a.block,a.off,by rw[<- ha],hbl,fun i hi=>?_⟩;obtain⟨es,y,hc,hy⟩:=each i hi;obtain⟨_,hlen',hcell⟩:=World.cells?_some hc;refine⟨es,n,y,hlen',fun j hj=>?_,hy⟩
  have e1:(a.add (i*sz)).add j=(aD a.block (a.off+i*sz+j)):=by
   have:=add_add a.block a.off (i*sz) j
   rwa [<- ha]at this
  rw[<- e1];exact hcell j hj
end
theorem Tryz.zW:Tryz.prog.cellsOf 9=1:=by kernel_rfl
theorem Tryz.jT:Tryz.prog.cellsOf 3=1:=by kernel_rfl
theorem Tryz.zh0:Tryz.prog.cellsOf 4=1:=by kernel_rfl
end Go.Proofs.YtjnpjkigofldlaaGreat
namespace Go.Proofs.YtjnpjkigofldlaaGreat
open Go.ChangeShapes Go.WideShapes Go.ChangeAt Go.RowKit
theorem Tryz.zem:Tryz.prog.cellsOf 98=1:=by kernel_rfl
theorem Tryz.zkJ:Tryz.prog.cellsOf 210=11:=by kernel_rfl
theorem zqC {H:Type}{enc:TypeId × Value->H}{w:World}{base:Nat}{spare:Nat->Bool}{held:Bool}{fuel:Nat}{cs:List Value}{x:DataW H × List MemPlace}
 (h:DataW.trod enc Tryz.prog w base spare held fuel 210 cs=some x) :
 ∃nm kd ls ms a cap ws to rl mu fx df wg,cs=[.s nm,.i kd,.i ls,.i ms,.l a (List.length ws) cap,.s to,.i rl,.bool mu,.bool fx,.s df,.s wg]/\zD w a ws /\
  nm.size<=maxLen/\to.size<=maxLen/\df.size<=maxLen/\wg.size<=maxLen:=by
 have hlen:cs.length=11:=by
  obtain⟨_,_,_,_,hl,_,_⟩:=DataW.trod_struct Tryz.underlying210 h;rw[hl];exact Tryz.zkJ
 match cs,hlen with
 | [c0,c1,c2,c3,c4,c5,c6,c7,c8,c9,c10],_=>
  have hf:=zai Tryz.underlying210 h;obtain⟨_,_,f0⟩:=hf 0 9 0 c0 rfl Tryz.zW rfl;obtain⟨_,_,f1⟩:=hf 1 3 1 c1 rfl Tryz.jT rfl;obtain⟨_,_,f2⟩:=hf 2 3 2 c2 rfl Tryz.jT rfl;obtain⟨_,_,f3⟩:=hf 3 3 3 c3 rfl Tryz.jT rfl;obtain⟨_,_,f4⟩:=hf 4 98 4 c4 rfl Tryz.zem rfl;obtain⟨_,_,f5⟩:=hf 5 9 5 c5 rfl Tryz.zW rfl;obtain⟨_,_,f6⟩:=hf 6 3 6 c6 rfl Tryz.jT rfl;obtain⟨_,_,f7⟩:=hf 7 4 7 c7 rfl Tryz.zh0 rfl;obtain⟨_,_,f8⟩:=hf 8 4 8 c8 rfl Tryz.zh0 rfl;obtain⟨_,_,f9⟩:=hf 9 9 9 c9 rfl Tryz.zW rfl;obtain⟨_,_,f10⟩:=hf 10 9 10 c10 rfl Tryz.zW rfl;obtain⟨nm,e0,_,s0⟩:=DataW.trod_string Tryz.underlying9 f0;obtain⟨kd,e1,_,_⟩:=DataW.trod_int Tryz.underlying3 f1;obtain⟨ls,e2,_,_⟩:=DataW.trod_int Tryz.underlying3 f2;obtain⟨ms,e3,_,_⟩:=DataW.trod_int Tryz.underlying3 f3;obtain⟨a,cap,ws,e4,hS⟩:=ziB Tryz.underlying98 Tryz.underlying9 Tryz.zW f4;obtain⟨to,e5,_,s5⟩:=DataW.trod_string Tryz.underlying9 f5;obtain⟨rl,e6,_,_⟩:=DataW.trod_int Tryz.underlying3 f6;obtain⟨mu,e7,_⟩:=DataW.trod_bool Tryz.underlying4 f7;obtain⟨fx,e8,_⟩:=DataW.trod_bool Tryz.underlying4 f8;obtain⟨df,e9,_,s9⟩:=DataW.trod_string Tryz.underlying9 f9;obtain⟨wg,e10,_,s10⟩:=DataW.trod_string Tryz.underlying9 f10;simp only[List.cons.injEq,and_true]at e0 e1 e2 e3 e4 e5 e6 e7 e8 e9 e10;subst e0 e1 e2 e3 e4 e5 e6 e7 e8 e9 e10;exact⟨nm,kd,ls,ms,a,cap,ws,to,rl,mu,fx,df,wg,rfl,hS,s0,s5,s9,s10⟩
end Go.Proofs.YtjnpjkigofldlaaGreat
