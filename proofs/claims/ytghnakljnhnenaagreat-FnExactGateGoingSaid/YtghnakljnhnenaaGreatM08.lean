import Derived.Test.YtghnakljnhnenaaGreatM07
set_option maxHeartbeats 400000
namespace Go.Proofs.YtghnakljnhnenaaGreat
open Go.RowKit
theorem zok {w w':World} {g:Nat} {ws:List ByteArray} (h:zD w (some ⟨g,0,none⟩) ws) (hl:Below w.heap.size w w') (i:Nat) (hi:i < ws.length):g < w.heap.size/\w'.cell? ⟨g,i,none⟩=some (.string ws[i]):=by
 obtain ⟨b,off,e,hb,hr⟩:=h.cells (by rintro rfl;simp at hi);simp only [Option.some.injEq,Addr.mk.injEq] at e;obtain ⟨rfl,rfl,_⟩:=e;refine ⟨hb,?_⟩
 have:=hr i hi
 rw [Nat.zero_add] at this;exact (hl.cell (p:=⟨g,i,none⟩) hb).trans this
theorem zlj {w w':World} {a:Option Addr} {fs:List Fld} (h:zP w a fs) (hl:Below w.heap.size w w') (i:Nat) (hi:i < fs.length):∃ b off fw fc,a=some ⟨b,off,none⟩/\b < w.heap.size/\zel w' b (off+i * 11) fs[i] fw fc:=by
 obtain ⟨b,off,ha,hb,hr⟩:=(h.mono hl).rows (by rintro rfl;simp at hi);obtain ⟨b',off',ha',hb',_⟩:=h.rows (by rintro rfl;simp at hi);have e:=ha.symm.trans ha';simp only [Option.some.injEq,Addr.mk.injEq] at e;obtain ⟨rfl,rfl,_⟩:=e;obtain ⟨fw,fc,hf⟩:=hr i hi;exact ⟨b,off,fw,fc,ha,hb',hf⟩
def nth:List Oper->Nat->Option Oper
 | [],_=>none
 | o :: _,0=>some o
 | _ :: l,n+1=>nth l n
theorem zpH:∀ (l:List Oper) (i:Nat),nth l i=l[i]?
 | [],_=>by simp [nth]
 | _ :: _,0=>by simp [nth]
 | _ :: l,n+1=>by simp [nth,zpH l n]
section
variable {P:Program} {ops:Array Oper} {Q:Exit->Act->World->Prop} {md:Region.Mode} {S:World->Prop}
theorem znO {i:Nat} {oi:Oper} (hi:nth ops.toList i=some oi):ops[i]?=some oi:=by
 rw [zpH] at hi;simpa using hi
theorem zqb {i:Nat} {oi:Oper} {v:Value} {fuel:Nat} {listed:Array Bool} {a:Act} {w:World} (hi:nth ops.toList i=some oi)
 (hs:Region.noSelect ops=true) (hf:Region.free md ops listed i=true) (hr:(Region.ready md ops listed).contains i=true)
 (hQ:∀ c a w,Q (.panic c) (a.put oi.dst v) w->Q (.panic c) a w) (hw:Region.wanted oi (yielded ops a.tmps)=true) (hS:S w)
 (hy:∀ w,S w->(execOp a.eval oi).run P w = .ok (.value v) w)
 (h:wpAnyH P md ops Q S fuel (listed.setIfInBounds i true) (a.put oi.dst v) w):wpAnyH P md ops Q S (fuel+1) listed a w :=
 wpAnyH_take (znO hi) hs hf hr hQ (Or.inl ⟨hw,hy⟩) hS h
theorem zqc {i:Nat} {oi:Oper} {fuel:Nat} {listed:Array Bool} {a:Act} {w:World} (hi:nth ops.toList i=some oi)
 (hs:Region.noSelect ops=true) (hf:Region.free md ops listed i=true) (hr:(Region.ready md ops listed).contains i=true)
 (hQ:∀ c a w,Q (.panic c) (a.put oi.dst undef) w->Q (.panic c) a w) (hw:Region.wanted oi (yielded ops a.tmps)=false) (hS:S w)
 (h:wpAnyH P md ops Q S fuel (listed.setIfInBounds i true) (a.put oi.dst undef) w):wpAnyH P md ops Q S (fuel+1) listed a w :=
 wpAnyH_take (znO hi) hs hf hr hQ (Or.inr ⟨hw,rfl⟩) hS h
theorem zqh {i:Nat} {oi:Oper} {fuel:Nat} {listed:Array Bool} {a:Act} {w:World} (hi:nth ops.toList i=some oi)
 (hr:Region.ready md ops listed=[i]) (hw:Region.wanted oi (yielded ops a.tmps)=true)
 (h:∀ K:Act->World->Prop,Shut (∀ a w,S w->(S w->wpAnyH P md ops Q S fuel (listed.setIfInBounds i true) a w)->K a w)->Oper.wp P oi a w K Q):wpAnyH P md ops Q S (fuel+1) listed a w :=
 wpAnyH_ready hr (by simp) (AllReadyH.cons (znO hi) (fun K hK=>by rw [if_pos hw];exact h K hK) AllReadyH.nil)
end
theorem sA {α:Type} (l:List α) (i:Nat) (x:α):l.toArray.setIfInBounds i x=(l.set i x).toArray:=List.setIfInBounds_toArray ..
theorem s0 {α:Type} (x y:α) (l:List α):(x :: l).set 0 y=y :: l:=rfl
theorem sS {α:Type} (x y:α) (l:List α) (n:Nat):(x :: l).set (n+1) y=x :: l.set n y:=rfl
section
variable {P:Program} {ops:Array Oper} {Q:Exit->Act->World->Prop} {md:Region.Mode} {S:World->Prop}
theorem tH (i:Nat) {oi:Oper} {v:Value} {fuel:Nat} {listed:Array Bool} {a a':Act} {w:World} (hi:nth ops.toList i=some oi) (hS:S w)
 (h:wpAnyH P md ops Q S fuel (listed.setIfInBounds i true) a' w) (hs:Region.noSelect ops=true:=by kernel_rfl) (hf:Region.free md ops listed i=true:=by kernel_rfl) (hr:(Region.ready md ops listed).contains i=true:=by kernel_rfl)
 (hw:Region.wanted oi (yielded ops a.tmps)=true:=by rfl)
 (hy:∀ w,S w->(execOp a.eval oi).run P w = .ok (.value v) w:=by (intro w hSw;(try dsimp only at hSw);go_simp;try with_reducible rfl))
 (ha:a.put oi.dst v=a':=by ((try simp only [Act.put,sA,s0,sS]);rfl))
 (hQ:∀ c a w,Q (.panic c) (a.put oi.dst v) w->Q (.panic c) a w:=by exact fun _ _ _ h=>h):wpAnyH P md ops Q S (fuel+1) listed a w :=
 zqb hi hs hf hr hQ hw hS hy (ha ▸ h)
theorem kH (i:Nat) {oi:Oper} {fuel:Nat} {listed:Array Bool} {a a':Act} {w:World} (hi:nth ops.toList i=some oi) (hS:S w)
 (h:wpAnyH P md ops Q S fuel (listed.setIfInBounds i true) a' w) (hs:Region.noSelect ops=true:=by kernel_rfl) (hf:Region.free md ops listed i=true:=by kernel_rfl) (hr:(Region.ready md ops listed).contains i=true:=by kernel_rfl)
 (hw:Region.wanted oi (yielded ops a.tmps)=false:=by rfl)
 (ha:a.put oi.dst undef=a':=by ((try simp only [Act.put,sA,s0,sS]);rfl))
 (hQ:∀ c a w,Q (.panic c) (a.put oi.dst undef) w->Q (.panic c) a w:=by exact fun _ _ _ h=>h):wpAnyH P md ops Q S (fuel+1) listed a w :=
 zqc hi hs hf hr hQ hw hS (ha ▸ h)
theorem cH (i:Nat) {oi:Oper} {fuel:Nat} {listed:Array Bool} {a:Act} {w:World} (hi:nth ops.toList i=some oi)
 (h:∀ K:Act->World->Prop,Shut (∀ a w,S w->(S w->wpAnyH P md ops Q S fuel (listed.setIfInBounds i true) a w)->K a w)->Oper.wp P oi a w K Q)
 (hr:Region.ready md ops listed=[i]:=by kernel_rfl) (hw:Region.wanted oi (yielded ops a.tmps)=true:=by rfl):wpAnyH P md ops Q S (fuel+1) listed a w :=
 zqh hi hr hw h
end
def zpo (ss:List Shp) (v:ByteArray) (e:Ending):Prop :=
 (Gate.zF ss v=false->e = .returned (.int .i64 (-1)))/\(Gate.zF ss v=true->∃ k,∃ h:k < ss.length,e = .returned (.int .i64 (k:Nat))/\Gate.shapeOf ss v=ss[k])
theorem zhx (a:Option Addr) (cap:Nat) (ss:List Shp) (v:ByteArray) (w:World) (hw:yI w a ss) :
 Calls Tryz.prog 134 #[.slice a ss.length cap,.string v] w fun e w'=>zpo ss v e/\w'=w:=by
 have hl:=hw.len;unfold maxLen at hl;go_enter Tryz.func134,Tryz.ntmps134
 go_wp2
 go_loop [5] (fun i=>∃ k:Nat,k<=ss.length/\i = .int .i64 k/\Gate.zF (ss.take k) v=false) (fun i=>ss.length - (intOf i).toNat)
 case atStart=>exact ⟨0,Nat.zero_le _,rfl,rfl⟩
 case round =>
  obtain ⟨k,hk,rfl,hno⟩:=hrel
  by_cases hlt:k < ss.length
  ·obtain ⟨b,off,rfl,hb,hr⟩:=hw.rows (by rintro rfl;simp at hlt)
   obtain ⟨fa,fcap,hs⟩:=hr k hlt;have hck:=hs.kind;clear hw hr hs
   by_cases he:ss[k].kd=v
   ·have hbe:(ss[k].kd.toList == v.toList)=true:=by rw [Gate.beq_toList];simpa using he
    have HA:Hid (Gate.zF ss v=true):=Gate.ziF ss v k hlt he;have HB:Hid (Gate.shapeOf ss v=ss[k]):=Gate.zfm ss v k hlt hno he;clear he hno
    go_wp2
    go_ret;exact ⟨⟨fun h=>(by rw [HA.out] at h;cases h),fun _=>⟨k,hlt,rfl,HB.out⟩⟩,rfl⟩
   ·have hbe:(ss[k].kd.toList == v.toList)=false:=by rw [Gate.beq_toList];simpa using he
    have HS:Hid (Gate.zF (ss.take (k+1)) v=false):=by unfold Hid;rw [Gate.zf4 ss v k hlt,hno,decide_eq_false he];rfl
    clear he hno
    go_wp2
    go_round
    case rel=>exact ⟨k+1,by omega,by go_num,HS.out⟩
    case measure=>simp [intOf];omega
  ·have HA:Hid (Gate.zF ss v=false):=by rw [<- Gate.zhH ss v k (by omega)];exact hno
   clear hno hw
   go_wp2
   go_ret;exact ⟨⟨fun _=>rfl,fun h=>by rw [HA.out] at h;cases h⟩,rfl⟩
theorem zdM (a:Option Addr) (cap:Nat) (ss:List Shp) (v:ByteArray) (w:World) (hw:yI w a ss) (h:Gate.zF ss v=false) :
 Calls Tryz.prog 134 #[.slice a ss.length cap,.string v] w fun e w'=>e = .returned (.int .i64 (-1))/\w'=w:=by
 refine (zhx a cap ss v w hw).mono ?_;rintro e w' ⟨⟨h1,_⟩,rfl⟩;exact ⟨h1 h,rfl⟩
theorem jJ (a:Option Addr) (cap:Nat) (ss:List Shp) (v:ByteArray) (w:World) (hw:yI w a ss) (h:Gate.zF ss v=true) :
 Calls Tryz.prog 134 #[.slice a ss.length cap,.string v] w fun e w'=>∃ k,∃ h:k < ss.length,e = .returned (.int .i64 (k:Nat))/\Gate.shapeOf ss v=ss[k]/\w'=w:=by
 refine (zhx a cap ss v w hw).mono ?_;rintro e w' ⟨⟨_,h2⟩,rfl⟩;obtain ⟨k,hk,he,hs⟩:=h2 h;exact ⟨k,hk,he,hs,rfl⟩
end Go.Proofs.YtghnakljnhnenaaGreat
